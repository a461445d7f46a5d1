/- TraceLinear: shots changed trace by trace, as lists of traces. -/
import Derived.Test.YthnnndkfpamacaaGreatDoorQ2
import Derived.Test.YthnnndkfpamacaaGreatDoorM6
import Derived.Test.YthnnndkfpamacaaGreatDoorQ1
import Derived.Test.YthnnndkfpamacaaGreatDoorM2
set_option linter.all false
/- TraceLinear: shots changed trace by trace, as lists of traces. -/
namespace Go.Proofs.YthnnndkfpamacaaGreatDoor
open Go Go.Ab Go.Fl
set_option maxRecDepth 10000
variable {G : Base} {h : H}
def chT (F : Nat → List Int → List Int) (i : Nat) (t : Trc) : Trc := ofKey (chKey F i t)
def chTs (F : Nat → List Int → List Int) (ts : List Trc) : List Trc := ts.mapIdx (chT F)
theorem chTs_len {F : Nat → List Int → List Int} {ts : List Trc} : (chTs F ts).length = ts.length := by simp [chTs]
theorem chTs_get {F : Nat → List Int → List Int} {ts : List Trc} {i : Nat} (q : i < (chTs F ts).length) : (chTs F ts)[i] = chT F i (ts[i]'(by rw [chTs_len] at q; exact q)) := by simp [chTs]
theorem chT_key {F : Nat → List Int → List Int} {i : Nat} {t : Trc} : (chT F i t).key = chKey F i t := rfl
theorem keys_ch {F : Nat → List Int → List Int} {vs ts : List Trc} (k : KeyAll vs ts (chKey F)) : vs.map Trc.key = (chTs F ts).map Trc.key :=
 List.ext_getElem (by rw [List.length_map, List.length_map, chTs_len, k.1]) fun i h1 h2 => by
   simp only [List.length_map] at h1 h2
   rw [List.getElem_map, List.getElem_map, chTs_get, chT_key]
   exact k.2 i h1 _
theorem mem_ch {F : Nat → List Int → List Int} {ts : List Trc} {u : Trc} (hu : u ∈ chTs F ts) : ∃ i, ∃ q : i < ts.length, u = chT F i ts[i] := by
 obtain ⟨i, q, rfl⟩ := List.mem_iff_getElem.1 hu
 exact ⟨i, by rw [chTs_len] at q; exact q, chTs_get q⟩
theorem chT_live {F : Nat → List Int → List Int} {i : Nat} {t : Trc} (hh : t.hole = false) : chT F i t = ⟨t.hd, false, none, (F i (t.l.map smp)).length, 0, (F i (t.l.map smp)).map smpW⟩ := by
 unfold chT chKey
 rw [if_neg (by simp [hh])]; rfl
theorem chT_dead {F : Nat → List Int → List Int} {i : Nat} {t : Trc} (hh : t.hole = true) : chT F i t = ⟨t.hd, true, none, 0, 0, []⟩ := by
 unfold chT chKey
 rw [if_pos hh]; rfl
theorem chT_hole {F : Nat → List Int → List Int} {i : Nat} {t : Trc} : (chT F i t).hole = t.hole := by
 cases hh : t.hole with
 | true => rw [chT_dead hh]
 | false => rw [chT_live hh]
theorem chT_hd {F : Nat → List Int → List Int} {i : Nat} {t : Trc} : (chT F i t).hd = t.hd := by
 cases hh : t.hole with
 | true => rw [chT_dead hh]
 | false => rw [chT_live hh]
def Like (ts us : List Trc) : Prop := ts.length = us.length ∧ ∀ i (q : i < ts.length) (q' : i < us.length), (us[i]).hd = (ts[i]).hd ∧ (us[i]).hole = (ts[i]).hole ∧ (us[i]).n = (ts[i]).n
theorem Like.symm {ts us : List Trc} (k : Like ts us) : Like us ts := ⟨k.1.symm, fun i q q' => by
 obtain ⟨a, b, c⟩ := k.2 i q' q
 exact ⟨a.symm, b.symm, c.symm⟩⟩
theorem Like.refl (ts : List Trc) : Like ts ts := ⟨rfl, fun _ _ _ => ⟨rfl, rfl, rfl⟩⟩
theorem like_cons {t u : Trc} {ts us : List Trc} (k : Like (t :: ts) (u :: us)) : (u.hd = t.hd ∧ u.hole = t.hole ∧ u.n = t.n) ∧ Like ts us :=
 ⟨k.2 0 (by simp) (by simp), by have := k.1; simpa using this, fun i q q' => by
   have := k.2 (i + 1) (by simp; omega) (by simp; omega)
   simpa using this⟩
theorem like_wid : ∀ {ts us : List Trc}, Like ts us → wid us = wid ts
 | [], [], _ => rfl
 | t :: ts, u :: us, k => by
   obtain ⟨⟨_, b, c⟩, k⟩ := like_cons k
   unfold wid
   rw [b, c, like_wid k]
 | [], _ :: _, k => by have := k.1; simp at this
 | _ :: _, [], k => by have := k.1; simp at this
theorem like_hdM : ∀ {ts us : List Trc}, Like ts us → hdM ts us = false
 | [], [], _ => by unfold hdM; rfl
 | t :: ts, u :: us, k => by
   obtain ⟨⟨a, _, _⟩, k⟩ := like_cons k
   unfold hdM
   rw [a, hdB_refl, like_hdM k]; rfl
 | [], _ :: _, k => by have := k.1; simp at this
 | _ :: _, [], k => by have := k.1; simp at this
theorem like_alk {ts us : List Trc} (k : Like ts us) : alkE ts us = 0 := by
 unfold alkE
 rw [if_neg (by simp [k.1]), like_wid k, like_hdM k]
 simp
theorem like_msk {ts us : List Trc} (k : Like ts us) : (mskL ts us).map Trc.key = ts.map Trc.key :=
 List.ext_getElem (by rw [List.length_map, List.length_map, mskL_len k.1]) fun i h1 h2 => by
   simp only [List.length_map] at h1 h2
   have q' : i < us.length := by have := k.1; omega
   rw [List.getElem_map, List.getElem_map, mskL_get h1 h2 q']
   obtain ⟨_, b, _⟩ := k.2 i h2 q'
   show ((ts[i]).hd, (ts[i]).hole || (us[i]).hole, (ts[i]).n, (ts[i]).l) = _
   rw [b, Bool.or_self]; rfl
theorem Val.wid_le {nm : ByteArray} {ts : List Trc} (v : Val nm ts) : wid ts ≤ 1024 := by
 by_cases hl : ∃ t ∈ ts, t.hole = false
 · obtain ⟨t, ht, hh⟩ := hl
   rw [← v.wide t ht hh]
   exact (v.tr t ht).2.2.2.1
 · rw [wid_hole fun t ht => by
     cases hh : t.hole with
     | true => rfl
     | false => exact (hl ⟨t, ht, hh⟩).elim]
   omega
def Fits (F : Nat → List Int → List Int) (ts : List Trc) : Prop := ∀ i (q : i < ts.length), (ts[i]).hole = false → (F i ((ts[i]).l.map smp)).length = (ts[i]).l.length ∧ ∀ z ∈ F i ((ts[i]).l.map smp), z.natAbs ≤ 16384
theorem Val.like_ch {nm : ByteArray} {ts : List Trc} {F : Nat → List Int → List Int} (v : Val nm ts) (f : Fits F ts) : Like ts (chTs F ts) := ⟨chTs_len.symm, fun i q q' => by
 rw [chTs_get]
 have hm := v.tr _ (List.getElem_mem q)
 cases hh : (ts[i]).hole with
 | true => rw [chT_dead hh]; exact ⟨rfl, rfl, (hm.2.1 hh).symm⟩
 | false => rw [chT_live hh]; exact ⟨rfl, rfl, by rw [(f i q hh).1, hm.2.2.1]⟩⟩
theorem Val.ch {nm : ByteArray} {ts : List Trc} {F : Nat → List Int → List Int} (v : Val nm ts) (f : Fits F ts) : Val nm (chTs F ts) := by
 have lk := v.like_ch f
 refine ⟨v.name, by rw [chTs_len]; exact v.pos, by rw [chTs_len]; exact v.most, fun u hu => ?_, fun u hu hh => ?_⟩
 · obtain ⟨i, q, rfl⟩ := mem_ch hu
   have hm := v.tr _ (List.getElem_mem q)
   cases hh : (ts[i]).hole with
   | true =>
     rw [chT_dead hh]
     exact ⟨hm.1, fun _ => rfl, rfl, Nat.zero_le _, fun x hx => by cases hx⟩
   | false =>
     rw [chT_live hh]
     refine ⟨hm.1, (fun q => by cases q), List.length_map .., ?_, fun x hx => ?_⟩
     · show (F i ((ts[i]).l.map smp)).length ≤ 1024
       rw [(f i q hh).1, hm.2.2.1]; exact hm.2.2.2.1
     · obtain ⟨z, hz, rfl⟩ := List.mem_map.1 hx
       exact (smpW_ok ((f i q hh).2 z hz)).1
 · obtain ⟨i, q, rfl⟩ := List.mem_iff_getElem.1 hu
   have q' : i < ts.length := by rw [chTs_len] at q; exact q
   obtain ⟨_, b, c⟩ := lk.2 i q' q
   rw [like_wid lk, c]
   exact v.wide _ (List.getElem_mem q') (by rw [← b]; exact hh)
theorem fits_bad {F : Nat → List Int → List Int} {ts : List Trc} (f : Fits F ts) : ¬ ChBad F ts := fun ⟨i, q, hh, hb⟩ => by
 rw [notLarge (f i q hh).2] at hb
 cases hb
theorem like_val {nm nm' : ByteArray} {ts us : List Trc} (v : Val nm ts) (k : Like ts us) (hn : isNameB nm' = true) (hs : ∀ i (q : i < us.length), (us[i]).hole = false → (us[i]).l.length = (us[i]).n ∧ ∀ x ∈ (us[i]).l, smpE x = 0) (hh : ∀ i (q : i < us.length), (us[i]).hole = true → (us[i]).l = []) : Val nm' us := by
 refine ⟨hn, by rw [← k.1]; exact v.pos, by rw [← k.1]; exact v.most, fun u hu => ?_, fun u hu hz => ?_⟩
 · obtain ⟨i, q, rfl⟩ := List.mem_iff_getElem.1 hu
   have q' : i < ts.length := by have := k.1; omega
   obtain ⟨a, b, c⟩ := k.2 i q' q
   have hm := v.tr _ (List.getElem_mem q')
   refine ⟨by rw [a]; exact hm.1, fun z => by rw [c]; exact hm.2.1 (by rw [← b]; exact z), ?_, by rw [c]; exact hm.2.2.2.1, ?_⟩
   · cases hz : (us[i]).hole with
     | true => rw [hh i q hz, c, hm.2.1 (by rw [← b]; exact hz)]; rfl
     | false => exact (hs i q hz).1
   · cases hz : (us[i]).hole with
     | true => rw [hh i q hz]; intro x hx; cases hx
     | false => exact (hs i q hz).2
 · obtain ⟨i, q, rfl⟩ := List.mem_iff_getElem.1 hu
   have q' : i < ts.length := by have := k.1; omega
   obtain ⟨a, b, c⟩ := k.2 i q' q
   rw [like_wid k, c]
   exact v.wide _ (List.getElem_mem q') (by rw [← b]; exact hz)
theorem k49 {nm : ByteArray} {a : Option Addr} {n c : Nat} {ts : List Trc} {x y : Int} (s : SlK G h (.slice a n c) n ts) (v : Val nm ts) (hx : rngE x (-1024) 1024 = 0) (hy : rngE y 1 1024 = 0) (f : Fits (sclF x y) ts) (hw : Wf h) (hG : ∀ a v, laidBase a = some v → G a = some v) :
   Cf (mz G) (.func (.func 49) #[] #[]) [.agg ⟨shC nm a n c⟩, .int .i64 x, .int .i64 y] h fun r h' => (∃ aR cR, r = .tuple #[.agg ⟨shC nm aR n cR⟩, .int .i64 0] ∧ SlK G h' (.slice aR n cR) n (chTs (sclF x y) ts)) ∧ Grow h h' := by
 have hl := s.len
 obtain ⟨us, st, q⟩ := s
 refine (c49m (nm := nm) (x := x) (y := y) st q (by have := v.most; omega) v.n hw hG).mono fun r h' ⟨⟨nmR, aR, nR, cR, e, m⟩, g⟩ => ⟨?_, g⟩
 have hE : sclC nm ts x y = 0 := by unfold sclC; rw [v.err, hx, hy]; exact firstNZ_all (by intro e he; simpa using he)
 have hC : chC (sclC nm ts x y) (sclF x y) ts = 0 := by rw [hE]; exact chC_ok (fits_bad f)
 rw [hC] at e m
 rcases m with ⟨z, _⟩ | ⟨_, rfl, rfl, vs, sv, k⟩
 · exact absurd rfl z
 · exact ⟨aR, cR, e, vs, sv, keys_ch k⟩
theorem k50 {nm : ByteArray} {a : Option Addr} {n c : Nat} {ts : List Trc} {x : Int} (s : SlK G h (.slice a n c) n ts) (v : Val nm ts) (hx : rngE x (-1024) 1024 = 0) (f : Fits (dlyF x) ts) (hw : Wf h) (hG : ∀ a v, laidBase a = some v → G a = some v) :
   Cf (mz G) (.func (.func 50) #[] #[]) [.agg ⟨shC nm a n c⟩, .int .i64 x] h fun r h' => (∃ aR cR, r = .tuple #[.agg ⟨shC nm aR n cR⟩, .int .i64 0] ∧ SlK G h' (.slice aR n cR) n (chTs (dlyF x) ts)) ∧ Grow h h' := by
 have hl := s.len
 obtain ⟨us, st, q⟩ := s
 refine (c50m (nm := nm) (x := x) st q (by have := v.most; omega) v.n hw hG).mono fun r h' ⟨⟨nmR, aR, nR, cR, e, m⟩, g⟩ => ⟨?_, g⟩
 have hE : dlyC nm ts x = 0 := by unfold dlyC; rw [v.err, hx]; exact firstNZ_all (by intro e he; simpa using he)
 have hC : chC (dlyC nm ts x) (dlyF x) ts = 0 := by rw [hE]; exact chC_ok (fits_bad f)
 rw [hC] at e m
 rcases m with ⟨z, _⟩ | ⟨_, rfl, rfl, vs, sv, k⟩
 · exact absurd rfl z
 · exact ⟨aR, cR, e, vs, sv, keys_ch k⟩
theorem k48 {nm nm' : ByteArray} {a a' : Option Addr} {n c c' : Nat} {ts us : List Trc} (s : SlK G h (.slice a n c) n ts) (s' : SlK G h (.slice a' n c') n us) (v : Val nm ts) (v' : Val nm' us) (k : Like ts us) (f : Fits (mrgF addF us) ts) (hw : Wf h) (hG : ∀ a v, laidBase a = some v → G a = some v) :
   Cf (mz G) (.func (.func 48) #[] #[]) [.agg ⟨shC nm a n c⟩, .agg ⟨shC nm' a' n c'⟩] h fun r h' => (∃ aR cR, r = .tuple #[.agg ⟨shC nm aR n cR⟩, .int .i64 0] ∧ SlK G h' (.slice aR n cR) n (chTs (mrgF addF us) ts)) ∧ Grow h h' := by
 have hl := s.len
 obtain ⟨us1, st, q⟩ := s
 obtain ⟨us2, st', q'⟩ := s'
 have hn : n ≤ 65 := by have := v.most; omega
 refine (c48m (nm := nm) (nm' := nm') st st' q q' hn hn v.n v'.n hw hG).mono fun r h' ⟨⟨nmR, aR, nR, cR, e, m⟩, g⟩ => ⟨?_, g⟩
 have hE : sumC nm ts nm' us = 0 := by unfold sumC; rw [v.err, v'.err, like_alk k]; exact firstNZ_all (by intro e he; simpa using he)
 have hb : ¬ ChBad (mrgF addF us) (mskL ts us) := fun ⟨i, q, hh, hb⟩ => by
   have q1 : i < ts.length := by rw [mskL_len k.1] at q; exact q
   have q2 : i < us.length := by have := k.1; omega
   rw [mskL_get q q1 q2] at hh hb
   have h1 : (ts[i]).hole = false := by
     have : ((ts[i]).hole || (us[i]).hole) = false := hh
     simp at this; exact this.1
   have h2 : anyLarge (mrgF addF us i ((ts[i]).l.map smp)) = true := hb
   rw [notLarge (f i q1 h1).2] at h2
   cases h2
 have hC : chC (sumC nm ts nm' us) (mrgF addF us) (mskL ts us) = 0 := by rw [hE]; exact chC_ok hb
 rw [hC] at e m
 rcases m with ⟨z, _⟩ | ⟨_, rfl, rfl, vs, sv, ka⟩
 · exact absurd rfl z
 · exact ⟨aR, cR, e, vs, sv, keys_ch (keyAll_keys (us := mskL ts us) (like_msk k) (fun i t u e => chKey_key _ i t u e) ka)⟩
/- TraceLinear: sums, opposites, doubles, delays of small shots. -/
theorem num100 : Num Ieee.single 1120403456 (100 * U) := by
 have hr : Ieee.single.read 1120403456 = .number false 13107200 (-17) := by decide +kernel
 have := Num.of_read hr (by omega)
 have e : Ieee.signed false 13107200 (-17 + 1074 : Int).toNat = 100 * U := by decide +kernel
 rwa [e] at this
theorem numm100 : Num Ieee.single 3267887104 (-100 * U) := by
 have hr : Ieee.single.read 3267887104 = .number true 13107200 (-17) := by decide +kernel
 have := Num.of_read hr (by omega)
 have e : Ieee.signed true 13107200 (-17 + 1074 : Int).toNat = -100 * U := by decide +kernel
 rwa [e] at this
theorem gt100 {x : Nat} (h : smpE x = 0) : (Ieee.single.order x 1120403456 == some .gt) = decide (1600 < smp x) := by
 obtain ⟨v, nv, ev⟩ := smp_num h
 rw [nv.fgt num100]
 have hU := U_pos
 have e : (100 * U < v) ↔ (1600 < smp x) := by
   rw [← Int.mul_lt_mul_right hU (b := 1600) (c := smp x), ← ev]
   omega
 simp only [e]
theorem ltm100 {x : Nat} (h : smpE x = 0) : (Ieee.single.order x 3267887104 == some .lt) = decide (smp x < -1600) := by
 obtain ⟨v, nv, ev⟩ := smp_num h
 rw [nv.flt numm100]
 have hU := U_pos
 have e : (v < -100 * U) ↔ (smp x < -1600) := by
   rw [← Int.mul_lt_mul_right hU (b := smp x) (c := -1600), ← ev]
   omega
 simp only [e]
def SmB (ts : List Trc) : Prop := ∀ t ∈ ts, ∀ x ∈ t.l, (smp x).natAbs ≤ 1600
theorem smB_of {nm : ByteArray} {ts : List Trc} (v : Val nm ts) (hb : ts.any bigT = false) : SmB ts := fun t ht x hx => by
 have h1 := List.any_eq_false.1 hb t ht
 unfold bigT at h1
 have h2 := List.any_eq_false.1 (by simpa using h1 : t.l.any bigS = false) x hx
 unfold bigS bigU bigD at h2
 have hs := (v.tr t ht).2.2.2.2 x hx
 rw [gt100 hs, ltm100 hs] at h2
 simp at h2
 omega
theorem smB_get {ts : List Trc} (b : SmB ts) {i : Nat} (q : i < ts.length) : ∀ z ∈ (ts[i]).l.map smp, z.natAbs ≤ 1600 := fun z hz => by
 obtain ⟨x, hx, rfl⟩ := List.mem_map.1 hz
 exact b _ (List.getElem_mem q) x hx
theorem fits_scl {ts : List Trc} {x y : Int} (hx : ∀ z : Int, z.natAbs ≤ 1600 → (rnd (x * z) y).natAbs ≤ 16384) (b : SmB ts) : Fits (sclF x y) ts := fun i q hh => by
 refine ⟨by unfold sclF; simp, fun z hz => ?_⟩
 unfold sclF at hz
 obtain ⟨w, hw, rfl⟩ := List.mem_map.1 hz
 exact hx w (smB_get b q w hw)
theorem fits_neg {ts : List Trc} (b : SmB ts) : Fits (sclF (-1) 1) ts := fits_scl (fun z hz => by rw [rnd_one]; omega) b
theorem fits_two {ts : List Trc} (b : SmB ts) : Fits (sclF 2 1) ts := fits_scl (fun z hz => by rw [rnd_one]; omega) b
theorem fits_sev {ts : List Trc} (b : SmB ts) : Fits (sclF 7 7) ts := fits_scl (fun z hz => by rw [rnd_mul (by omega)]; omega) b
theorem fits_dly {nm : ByteArray} {ts : List Trc} {x : Int} (v : Val nm ts) : Fits (dlyF x) ts := fun i q hh => by
 refine ⟨by rw [dly_len]; simp, fun z hz => ?_⟩
 unfold dlyF at hz
 obtain ⟨w, hw, rfl⟩ := List.mem_map.1 hz
 exact dlyV_le fun z hz => by
   obtain ⟨u, hu, rfl⟩ := List.mem_map.1 hz
   exact smp_le ((v.tr _ (List.getElem_mem q)).2.2.2.2 u hu)
theorem fits_add {nm nm' : ByteArray} {ts us : List Trc} (v : Val nm ts) (v' : Val nm' us) (k : Like ts us) (b : SmB ts) (b' : SmB us) : Fits (mrgF addF us) ts := fun i q hh => by
 have q' : i < us.length := by have := k.1; omega
 obtain ⟨_, _, c⟩ := k.2 i q q'
 have e1 := (v.tr _ (List.getElem_mem q)).2.2.1
 have e2 := (v'.tr _ (List.getElem_mem q')).2.2.1
 unfold mrgF addF
 rw [getL_eq q']
 refine ⟨by simp; omega, fun z hz => ?_⟩
 obtain ⟨j, hj, rfl⟩ := List.mem_iff_getElem.1 hz
 rw [List.getElem_zipWith]
 have h1 := smB_get b q _ (List.getElem_mem (by simp at hj ⊢; omega : j < ((ts[i]).l.map smp).length))
 have h2 := smB_get b' q' _ (List.getElem_mem (by simp at hj ⊢; omega : j < ((us[i]).l.map smp).length))
 omega
theorem ch_smp {F : Nat → List Int → List Int} {ts : List Trc} (f : Fits F ts) {i : Nat} (q : i < ts.length) (hh : (ts[i]).hole = false) : (chT F i ts[i]).l.map smp = F i ((ts[i]).l.map smp) := by
 rw [chT_live hh]
 exact map_smp_W (f i q hh).2
theorem smB_ch {F : Nat → List Int → List Int} {ts : List Trc} (f : Fits F ts) (hb : ∀ i (q : i < ts.length), (ts[i]).hole = false → ∀ z ∈ F i ((ts[i]).l.map smp), z.natAbs ≤ 1600) : SmB (chTs F ts) := fun u hu x hx => by
 obtain ⟨i, q, rfl⟩ := mem_ch hu
 cases hh : (ts[i]).hole with
 | true => rw [chT_dead hh] at hx; cases hx
 | false =>
   have := List.mem_map_of_mem (f := smp) hx
   rw [ch_smp f q hh] at this
   exact hb i q hh _ this
theorem smB_neg {ts : List Trc} (b : SmB ts) : SmB (chTs (sclF (-1) 1) ts) := smB_ch (fits_neg b) fun i q hh z hz => by
 unfold sclF at hz
 obtain ⟨w, hw, rfl⟩ := List.mem_map.1 hz
 have := smB_get b q w hw
 rw [rnd_one]; omega
theorem ch_same {F F' : Nat → List Int → List Int} {ts us : List Trc} (k : Like ts us) (e : ∀ i (q : i < ts.length) (q' : i < us.length), (ts[i]).hole = false → F i ((ts[i]).l.map smp) = F' i ((us[i]).l.map smp)) : (chTs F ts).map Trc.key = (chTs F' us).map Trc.key :=
 List.ext_getElem (by rw [List.length_map, List.length_map, chTs_len, chTs_len, k.1]) fun i h1 h2 => by
   simp only [List.length_map] at h1 h2
   rw [List.getElem_map, List.getElem_map, chTs_get, chTs_get, chT_key, chT_key]
   rw [chTs_len] at h1 h2
   obtain ⟨a, b, _⟩ := k.2 i h1 h2
   unfold chKey
   rw [a, b]
   cases hh : (ts[i]).hole with
   | true => rfl
   | false => rw [e i h1 h2 hh]
theorem trs_eq {nm : ByteArray} {ts us : List Trc} (v : Val nm ts) (q : us.map Trc.key = ts.map Trc.key) : TrsS us ts := trs_self q fun t ht => (v.tr t ht).2.2.2.2
theorem sum_swap {nm : ByteArray} {ts us : List Trc} (k : Like ts us) (va : Val nm (chTs (mrgF addF us) ts)) : TrsS (chTs (mrgF addF us) ts) (chTs (mrgF addF ts) us) := by
 have e : (chTs (mrgF addF us) ts).map Trc.key = (chTs (mrgF addF ts) us).map Trc.key := ch_same k fun i q q' _ => by
   unfold mrgF
   rw [getL_eq q', getL_eq q, addF_comm]
 exact trs_keys (ts := chTs (mrgF addF us) ts) (ts' := chTs (mrgF addF us) ts) rfl e.symm (trs_eq va rfl)
theorem twice_double {nm : ByteArray} {ts : List Trc} (va : Val nm (chTs (mrgF addF ts) ts)) : TrsS (chTs (mrgF addF ts) ts) (chTs (sclF 2 1) ts) := by
 have e : (chTs (mrgF addF ts) ts).map Trc.key = (chTs (sclF 2 1) ts).map Trc.key := ch_same (Like.refl ts) fun i q _ _ => by
   unfold mrgF
   rw [getL_eq q, scl_two]
 exact trs_keys (ts := chTs (mrgF addF ts) ts) (ts' := chTs (mrgF addF ts) ts) rfl e.symm (trs_eq va rfl)
theorem scl_self {nm : ByteArray} {ts : List Trc} (v : Val nm ts) : TrsS (chTs (sclF 7 7) ts) ts := ⟨chTs_len, fun i q q' => by
 rw [chTs_get]
 have hm := v.tr _ (List.getElem_mem q')
 cases hh : (ts[i]).hole with
 | true =>
   rw [chT_dead hh]
   have h0 := hm.2.1 hh
   have hl : (ts[i]).l = [] := List.length_eq_zero_iff.1 (by omega)
   exact ⟨fun _ _ => rfl, hh.symm, h0.symm, by rw [hl]; exact ⟨rfl, fun i q => by cases q⟩⟩
 | false =>
   rw [chT_live hh, scl_same (by omega)]
   exact ⟨fun _ _ => rfl, hh.symm, by show ((ts[i]).l.map smp).length = _; simp; omega, by simp, fun j q1 q2 => by
     simp only [List.getElem_map]
     exact smpW_feq (hm.2.2.2.2 _ (List.getElem_mem q2))⟩⟩
theorem none_at {nm : ByteArray} {ts : List Trc} (v : Val nm ts) (b : SmB ts) {i : Nat} (q : i < ts.length) (hh : (ts[i]).hole = false) :
   chT (mrgF addF (chTs (sclF (-1) 1) ts)) i ts[i] = ⟨(ts[i]).hd, false, none, (ts[i]).n, 0, List.replicate (ts[i]).n (smpW 0)⟩ := by
 have hm := v.tr _ (List.getElem_mem q)
 rw [chT_live hh]
 have e : mrgF addF (chTs (sclF (-1) 1) ts) i ((ts[i]).l.map smp) = List.replicate (ts[i]).n 0 := by
   unfold mrgF
   rw [getL_eq (by rw [chTs_len]; exact q), chTs_get, ch_smp (fits_neg b) q hh, add_neg]
   simp [hm.2.2.1]
 rw [e]
 simp
theorem back_at {nm : ByteArray} {ts : List Trc} (v : Val nm ts) {x : Int} {i : Nat} (q : i < ts.length) (hh : (ts[i]).hole = false) :
   chT (dlyF (-x)) i (chT (dlyF x) i ts[i]) = ⟨(ts[i]).hd, false, none, (ts[i]).n, 0, (List.range (ts[i]).n).map fun j : Nat => smpW (if 0 ≤ (j : Int) + x ∧ (j : Int) + x < (ts[i]).n then ((ts[i]).l.map smp).getD j 0 else 0)⟩ := by
 have hm := v.tr _ (List.getElem_mem q)
 have h1 : (chT (dlyF x) i ts[i]).hole = false := by rw [chT_hole]; exact hh
 have e0 := ch_smp (fits_dly (x := x) v) q hh
 rw [chT_live h1, chT_hd, e0]
 have el : (dlyF (-x) i (dlyF x i ((ts[i]).l.map smp))).length = (ts[i]).n := by rw [dly_len, dly_len]; simp [hm.2.2.1]
 have e : dlyF (-x) i (dlyF x i ((ts[i]).l.map smp)) = (List.range (ts[i]).n).map fun j : Nat => if 0 ≤ (j : Int) + x ∧ (j : Int) + x < (ts[i]).n then ((ts[i]).l.map smp).getD j 0 else 0 := by
   refine getD_ext (by rw [el]; simp) fun j hj => ?_
   rw [el] at hj
   have hj2 : j < ((ts[i]).l.map smp).length := by simp; omega
   rw [dly_back x i i _ hj2, getD_rangeMap hj, show ((ts[i]).l.map smp).length = (ts[i]).n by simp [hm.2.2.1]]
 rw [e]
 simp [List.map_map, Function.comp_def]
/- TraceLinear: the other lists, and the shot that has them. -/
structure Lst where
 a : Option Addr
 n : Nat
 c : Nat
 l : List Nat
@[reducible] def Lst.val (x : Lst) : Value := .slice x.a x.n x.c
structure LsOk (G : Base) (h : H) (v : Value) (n : Nat) (ls : List Lst) : Prop where
 sl : Sl G h 1 v n (ls.map Lst.val)
 ok : ∀ x ∈ ls, Sl G h 1 x.val x.n (x.l.map (.float .f32))
theorem LsOk.grow {h' : H} {v : Value} {n : Nat} {ls : List Lst} (s : LsOk G h v n ls) (g : Grow h h') : LsOk G h' v n ls := ⟨s.sl.grow g, fun x hx => (s.ok x hx).grow g⟩
theorem LsOk.len {v : Value} {n : Nat} {ls : List Lst} (s : LsOk G h v n ls) : ls.length = n := by have := s.sl.length; simpa using this
theorem ls_at {v : Value} {n : Nat} {ls : List Lst} (s : LsOk G h v n ls) {q : Nat} (hq : q < n) :
   ∃ ad, aindexAddr Tryz.prog 124 v (.int .i64 (q : Int)) = some (.pointer (some ad)) ∧ Cells G h ad [(ls[q]'(by rw [s.len]; exact hq)).val] := by
 have hl := s.len
 obtain ⟨ad, h1, h2⟩ := s.sl.addr (M := mz G) Tryz.underlying124 (es := 1) zs45 (i := (q : Int)) (k := .i64) (by omega) (by omega)
 refine ⟨ad, h1, ?_⟩
 rw [show ((q : Nat) : Int).toNat * 1 = q by omega, List.drop_eq_getElem_cons (by simp; omega), List.getElem_map] at h2
 exact cells_left (y := (ls.map Lst.val).drop (q + 1)) h2
def lsAt (ls : List Lst) (i : Nat) : Lst := ls.getD i ⟨none, 0, 0, []⟩
theorem lsAt_get {ls : List Lst} {i : Nat} (q : i < ls.length) : lsAt ls i = ls[i] := by unfold lsAt; simp [q]
def repK (ls : List Lst) (j i : Nat) (t : Trc) : Key := if i < j ∧ t.hole = false then (t.hd, false, (lsAt ls i).n, (lsAt ls i).l) else t.key
def repTs (ls : List Lst) (ts : List Trc) : List Trc := ts.mapIdx fun i t => ofKey (repK ls ts.length i t)
theorem repTs_len {ls : List Lst} {ts : List Trc} : (repTs ls ts).length = ts.length := by simp [repTs]
theorem repTs_get {ls : List Lst} {ts : List Trc} {i : Nat} (q : i < (repTs ls ts).length) : (repTs ls ts)[i] = ofKey (repK ls ts.length i (ts[i]'(by rw [repTs_len] at q; exact q))) := by simp [repTs]
theorem keys_rep {ls : List Lst} {us ts : List Trc} (k : KeyAll us ts (repK ls ts.length)) : us.map Trc.key = (repTs ls ts).map Trc.key :=
 List.ext_getElem (by rw [List.length_map, List.length_map, repTs_len, k.1]) fun i h1 h2 => by
   simp only [List.length_map] at h1 h2
   rw [List.getElem_map, List.getElem_map, repTs_get, k.2 i h1 (by rw [repTs_len] at h2; exact h2)]
   rfl
def InL (ts : List Trc) (ls : List Lst) (j : Nat) : Prop := ∀ i (_ : i < j) (q : i < ts.length), lchk (lsAt ls i).l = 0 ∧ (lsAt ls i).l.length = (lsAt ls i).n ∧ ((ts[i]).hole = false → (lsAt ls i).n = wid ts) ∧ ∀ x ∈ (lsAt ls i).l, (smp x).natAbs ≤ 1600
theorem repTs_live {ls : List Lst} {ts : List Trc} {i : Nat} (q : i < ts.length) (hh : (ts[i]).hole = false) : (repTs ls ts)[i]'(by rw [repTs_len]; exact q) = ⟨(ts[i]).hd, false, none, (lsAt ls i).n, 0, (lsAt ls i).l⟩ := by
 rw [repTs_get]
 unfold repK
 rw [if_pos ⟨q, hh⟩]; rfl
theorem repTs_dead {ls : List Lst} {ts : List Trc} {i : Nat} (q : i < ts.length) (hh : (ts[i]).hole = true) : (repTs ls ts)[i]'(by rw [repTs_len]; exact q) = ⟨(ts[i]).hd, true, none, (ts[i]).n, 0, (ts[i]).l⟩ := by
 rw [repTs_get]
 unfold repK
 rw [if_neg (by simp [hh])]
 show (⟨(ts[i]).hd, (ts[i]).hole, none, (ts[i]).n, 0, (ts[i]).l⟩ : Trc) = _
 rw [hh]
theorem rep_like {nm : ByteArray} {ts : List Trc} {ls : List Lst} (v : Val nm ts) (k : InL ts ls ts.length) : Like ts (repTs ls ts) := ⟨repTs_len.symm, fun i q q' => by
 cases hh : (ts[i]).hole with
 | true => rw [repTs_dead q hh]; exact ⟨rfl, rfl, rfl⟩
 | false =>
   rw [repTs_live q hh]
   exact ⟨rfl, rfl, by rw [v.wide _ (List.getElem_mem q) hh]; exact (k i q q).2.2.1 hh⟩⟩
theorem rep_val {nm nm' : ByteArray} {ts : List Trc} {ls : List Lst} (v : Val nm ts) (k : InL ts ls ts.length) (hn : isNameB nm' = true) : Val nm' (repTs ls ts) :=
 like_val v (rep_like v k) hn (fun i q hh => by
   have q' : i < ts.length := by rw [repTs_len] at q; exact q
   cases h0 : (ts[i]).hole with
   | true => rw [repTs_dead q' h0] at hh; cases hh
   | false =>
     rw [repTs_live q' h0]
     have := k i q' q'
     exact ⟨this.2.1, (lchk_ok this.1).2⟩) fun i q hh => by
   have q' : i < ts.length := by rw [repTs_len] at q; exact q
   cases h0 : (ts[i]).hole with
   | true =>
     rw [repTs_dead q' h0]
     have hm := v.tr _ (List.getElem_mem q')
     have := hm.2.1 h0
     exact List.length_eq_zero_iff.1 (by show (ts[i]).l.length = 0; omega)
   | false => rw [repTs_live q' h0] at hh; cases hh
theorem rep_smB {nm : ByteArray} {ts : List Trc} {ls : List Lst} (v : Val nm ts) (k : InL ts ls ts.length) : SmB (repTs ls ts) := fun u hu x hx => by
 obtain ⟨i, q, rfl⟩ := List.mem_iff_getElem.1 hu
 have q' : i < ts.length := by rw [repTs_len] at q; exact q
 cases h0 : (ts[i]).hole with
 | true =>
   rw [repTs_dead q' h0] at hx
   have hm := v.tr _ (List.getElem_mem q')
   have h1 := hm.2.1 h0
   have : (ts[i]).l = [] := List.length_eq_zero_iff.1 (by omega)
   rw [this] at hx; cases hx
 | false => rw [repTs_live q' h0] at hx; exact (k i q' q').2.2.2 x hx
theorem TrAt.setA {lo B w : Nat} {t : Trc} {c : List Value} {e : TypeId} {s : Bool} (o : TrAt h lo t) (hB : At h B (.cells c e w s)) (hw : w ≠ 1) (ob : AObj) : TrAt (h.set B ob) lo t := by
 obtain ⟨b, sf, e1, e2, e3⟩ := o.at'
 have : b ≠ B := fun q => by
   subst q
   have := e3.get.symm.trans hB.get
   simp only [Option.some.injEq, AObj.cells.injEq] at this
   exact hw this.2.2.1.symm
 exact ⟨⟨b, sf, e1, e2, e3.set_ne this _⟩, o.len, o.cap⟩
theorem slk_of {B lo n : Nat} {us ts : List Trc} (tB : At h B (.cells (us.flatMap Trc.cells) 47 10 true)) (hus : ∀ t ∈ us, TrAt h lo t) (hky : us.map Trc.key = ts.map Trc.key) (hn : us.length = n) : SlK G h (.slice (some ⟨B, 0, some 0⟩) n n) n ts :=
 ⟨us, ⟨Sl.ofAt tB (by rw [bY_, hn]) (Nat.le_refl _), hn, fun t ht => (hus t ht).ok⟩, hky⟩
theorem slk_un {v : Value} {n : Nat} {ts : List Trc} (s : SlK G h v n ts) : ∃ us, SlT G h v n us ∧ us.map Trc.key = ts.map Trc.key := s
@[reducible] def nmO : ByteArray := ⟨#[111, 116, 104, 101, 114]⟩
theorem nmO_name : isNameB nmO = true := by decide +kernel
/- TraceLinear: the rest of a body; shots that are alike; delays. -/
def sfx : Nat → Code → Code
 | 0, c => c
 | n + 1, .seq _ b => sfx n b
 | _ + 1, c => c
theorem op_negV {M : Mc} {l : KL} {x : Operand} {t : TypeId} {k : IntKind} {p q : Int} (hx : val l x = some (.int k p)) (hw : k.wrap (0 - p) = 0 - p) (hv : 0 - p = q) : Op1 M (.unOp .neg t x) l h (.int k q) h := op_neg' hx (hw.trans hv)
theorem op_bneqS {M : Mc} {l : KL} {x y : Operand} {t ty : TypeId} {a b : Bool} (hx : val l x = some (.bool a)) (hy : val l y = some (.bool b)) (hu : M.P.underlying t = some .bool) (hab : a = b) : Op1 M (.binOp .neq t x y ty) l h (.bool false) h := by
 subst hab
 have := op_bneq (h := h) (ty := ty) hx hy hu
 simpa using this
theorem rng_ok {x lo hi : Int} (h1 : lo ≤ x) (h2 : x ≤ hi) : rngE x lo hi = 0 := by unfold rngE; rw [if_neg (by omega)]
theorem first_live : ∀ (ts : List Trc), 0 < ts.length → ∃ f, ∃ q : f < ts.length, (∀ i (p : i < ts.length), i < f → (ts[i]).hole = true) ∧ ((∃ i, ∃ p : i < ts.length, (ts[i]).hole = false) → (ts[f]).hole = false)
 | [], q => by simp at q
 | t :: ts, _ => by
   by_cases hh : t.hole = false
   · exact ⟨0, by simp, fun i p q => by omega, fun _ => hh⟩
   · have hh : t.hole = true := by simpa using hh
     by_cases h0 : 0 < ts.length
     · obtain ⟨f, q, a, b⟩ := first_live ts h0
       refine ⟨f + 1, by simp; omega, fun i p hi => ?_, fun ⟨i, p, hi⟩ => ?_⟩
       · cases i with
         | zero => exact hh
         | succ i => exact a i (by simpa using p) (by omega)
       · cases i with
         | zero => rw [List.getElem_cons_zero, hh] at hi; cases hi
         | succ i => exact b ⟨i, by simpa using p, hi⟩
     · have : ts = [] := List.length_eq_zero_iff.1 (by omega)
       subst this
       refine ⟨0, by simp, fun i p q => by omega, fun ⟨i, p, hi⟩ => ?_⟩
       have : i = 0 := by simp at p; exact p
       subst this
       exact hi
theorem k51 {nm : ByteArray} {a : Option Addr} {n c : Nat} {ts : List Trc} (s : SlK G h (.slice a n c) n ts) (v : Val nm ts) (hw : Wf h) (hG : ∀ a v, laidBase a = some v → G a = some v) :
   Cf (mz G) (.func (.func 51) #[] #[]) [.agg ⟨shC nm a n c⟩] h fun r h' => (∃ a' n' c', r = .tuple #[.slice a' n' c', .int .i64 (stkC nm ts)] ∧ HeardR G h' (stkC nm ts) ((stkL ts (wid ts)).map smpW) (.slice a' n' c')) ∧ Grow h h' := by
 have hl := s.len
 obtain ⟨us, st, q⟩ := s
 exact c51m st q (by have := v.most; omega) v.n hw hG
theorem heard_ok {l : List Nat} {v : Value} (m : HeardR G h 0 l v) : Sl G h 1 v l.length (l.map (.float .f32)) := by
 rcases m with ⟨q, _⟩ | ⟨_, s⟩
 · exact absurd rfl q
 · exact s
theorem k31p {nm : ByteArray} {a a1 : Option Addr} {n c c1 : Nat} {ts : List Trc} (s : SlK G h (.slice a n c) n ts) (k : SlK G h (.slice a1 n c1) n ts) (hn : n ≤ 65) (hl : ∀ t ∈ ts, t.n < 1000000) (hw : Wf h) : Cf (mz G) (.func (.func 31) #[] #[]) [.agg ⟨shC nm a n c⟩] h fun r h' => (∃ a' c', r = .agg ⟨shC nm a' n c'⟩ ∧ SlK G h' (.slice a1 n c1) n ts ∧ SlK G h' (.slice a' n c') n ts) ∧ Grow h h' :=
 (k31 s hn hl hw).mono fun _ _ ⟨⟨x, y, e, q⟩, g⟩ => ⟨⟨x, y, e, k.grow g, q⟩, g⟩
def oneL (ls : List Lst) (f n : Nat) : List Lst := List.replicate n (lsAt ls f)
theorem oneL_at {ls : List Lst} {f n i : Nat} (hi : i < n) : lsAt (oneL ls f n) i = lsAt ls f := by
 rw [lsAt_get (by simp [oneL]; exact hi)]
 simp [oneL]
theorem oneL_in {ts : List Trc} {ls : List Lst} {f : Nat} (q : f < ts.length) (hin : InL ts ls ts.length) (hl : (∃ i, ∃ p : i < ts.length, (ts[i]).hole = false) → (ts[f]).hole = false) : InL ts (oneL ls f ts.length) ts.length := fun i hi p => by
 rw [oneL_at hi]
 obtain ⟨a, b, c, d⟩ := hin f q q
 exact ⟨a, b, fun hh => c (hl ⟨i, p, hh⟩), d⟩
theorem one_stack {nm : ByteArray} {ts : List Trc} {ls : List Lst} {f : Nat} (v : Val nm ts) (q : f < ts.length) (hin : InL ts ls ts.length) (hf : (ts[f]).hole = false) :
   stkC nm (repTs (oneL ls f ts.length) ts) = 0 ∧ fEqL ((stkL (repTs (oneL ls f ts.length) ts) (wid (repTs (oneL ls f ts.length) ts))).map smpW) (lsAt ls f).l ∧ (lsAt ls f).l.length = (lsAt ls f).n := by
 have hin2 := oneL_in q hin fun _ => hf
 have v2 := rep_val (nm' := nm) v hin2 v.name
 have lk := rep_like v hin2
 obtain ⟨e1, e2, e3, e4⟩ := hin f q q
 have hmem : (repTs (oneL ls f ts.length) ts)[f]'(by rw [repTs_len]; exact q) ∈ repTs (oneL ls f ts.length) ts := List.getElem_mem _
 have hlv := repTs_live (ls := oneL ls f ts.length) q hf
 have hhl : ((repTs (oneL ls f ts.length) ts)[f]'(by rw [repTs_len]; exact q)).hole = false := by rw [hlv]
 have hany : anyW (repTs (oneL ls f ts.length) ts) = true := wid_live hmem hhl
 refine ⟨?_, ?_, e2⟩
 · unfold stkC
   rw [if_neg (by rw [v2.err]; simp), hany]; rfl
 · have hw : wid (repTs (oneL ls f ts.length) ts) = (lsAt ls f).l.length := by rw [like_wid lk, e2, e3 hf]
   have hall : ∀ i, ∀ t ∈ repTs (oneL ls f ts.length) ts, t.hole = false → (t.l.map smp).getD i 0 = ((lsAt ls f).l.map smp).getD i 0 := fun i t ht hh => by
     obtain ⟨k, p, rfl⟩ := List.mem_iff_getElem.1 ht
     have p' : k < ts.length := by rw [repTs_len] at p; exact p
     cases h0 : (ts[k]).hole with
     | true => rw [repTs_dead p' h0] at hh; cases hh
     | false => rw [repTs_live p' h0, oneL_at p']
   refine ⟨by simp [stkL, hw], fun i p p' => ?_⟩
   simp only [stkL, List.getElem_map, List.getElem_range]
   have e := stk_alike (i := i) hmem hhl (hall i)
   rw [e, map_getD p']
   exact smpW_feq ((lchk_ok e1).2 _ (List.getElem_mem p'))
theorem one_none {nm : ByteArray} {ts : List Trc} {ls : List Lst} (v : Val nm ts) (hin : InL ts ls ts.length) (hf : ∀ i (q : i < ts.length), (ts[i]).hole = true) : stkC nm (repTs ls ts) = 7 := by
 have v2 := rep_val (nm' := nm) v hin v.name
 unfold stkC
 have hany : anyW (repTs ls ts) = false := by
   have h0 : ∀ us : List Trc, (∀ t ∈ us, t.hole = true) → anyW us = false := fun us hu => by
     induction us with
     | nil => rfl
     | cons t us ih =>
       unfold anyW
       rw [hu t List.mem_cons_self]
       exact ih fun t ht => hu t (List.mem_cons_of_mem _ ht)
   refine h0 _ fun t ht => ?_
   obtain ⟨k, p, rfl⟩ := List.mem_iff_getElem.1 ht
   have p' : k < ts.length := by rw [repTs_len] at p; exact p
   rw [repTs_dead p' (hf k p')]
 rw [if_neg (by rw [v2.err]; simp), hany]; rfl
theorem back_like {nm : ByteArray} {ts : List Trc} (v : Val nm ts) (x : Int) : ∀ i (q : i < ts.length) (q' : i < (chTs (dlyF (-x)) (chTs (dlyF x) ts)).length), (chTs (dlyF (-x)) (chTs (dlyF x) ts))[i] = if (ts[i]).hole = true then ⟨(ts[i]).hd, true, none, 0, 0, []⟩ else ⟨(ts[i]).hd, false, none, (ts[i]).n, 0, (List.range (ts[i]).n).map fun j : Nat => smpW (if 0 ≤ (j : Int) + x ∧ (j : Int) + x < (ts[i]).n then ((ts[i]).l.map smp).getD j 0 else 0)⟩ := fun i q q' => by
 rw [chTs_get, chTs_get]
 cases hh : (ts[i]).hole with
 | true =>
   rw [if_pos rfl, chT_dead (by rw [chT_hole]; exact hh), chT_hd]
 | false => rw [if_neg (by simp)]; exact back_at v q hh
end Go.Proofs.YthnnndkfpamacaaGreatDoor
