/- Slices of slices, lists of structs; shots copied and held against one another. -/
import Derived.Test.YthnnndkfpamacaaGreatDoorK2
import Derived.Test.YthnnndkfpamacaaGreatDoorN3
set_option linter.all false
/- Lists of structs made, copied and cut. -/
namespace Go.Ab
open Go
section
variable {M : Mc} {l : KL} {h h' : H} {v u : Value} {x y z : Operand} {t ty : TypeId} {b off es : Nat} {c cs vs : List Value} {e : TypeId} {s : Bool} {dd : TypeDesc} {n : Nat}
theorem op_mkAgg {k : IntKind} {by' : Nat} {z' : Value} (hx : val l x = some (.int k n)) (hy : val l y = some (.int k n)) (hu : M.P.underlying t = some (.slice e)) (hn : tsz M.P e = some es) (hb : tby M.P e = some by') (hz : tzero M.P e = some z') (hg : (gd z' && Nat.beq z'.cells.size es) = true) (hle : n * by' ≤ 70368744177664) (hle' : n ≤ 70368744177664) (hcs : z'.cells.toList = cs) :
   Op1 M (.makeSlice t x y) l h (.slice (some ⟨h.nx, 0, some 0⟩) n n) (h.push (.cells (repeatCells n cs) e es false)) := by
 simp only [Bool.and_eq_true] at hg
 refine op_makeSlice hx hy ?_
 unfold amakeSlice
 have hd : decide ((0 : Int) ≤ (n : Int) ∧ (n : Int) ≤ n ∧ (n : Int) ≤ 70368744177664 ∧ (by' : Int) * n ≤ 140737488355328) = true := by
   refine decide_eq_true ⟨by omega, by omega, by omega, ?_⟩
   rw [Int.mul_comm]
   have h1 : ((n * by' : Nat) : Int) ≤ ((70368744177664 : Nat) : Int) := Int.ofNat_le.2 hle
   rw [Int.natCast_mul] at h1
   omega
 simp only [hu, hn, hb, hz, hg.1, hg.2, hd, Bool.and_self, Int.toNat_natCast, hcs]
theorem copy_all {w : Value} {new : List Value} (hu : M.P.underlying t = some (.slice e)) (hn : tsz M.P e = some es) (hat : At h b (.cells c e es s)) (hcl : c.length = n * es) (sl : Sl M.G h es w n new) (hone : new.all one = true) (hes : es ≠ 0) :
   acopy M.P M.G h t (.slice (some ⟨b, 0, some 0⟩) n n) w = some (.int .i64 n, if n = 0 then h else h.set b (.cells new e es s)) := by
 have hlen := sl.length
 have hf := sl.first
 obtain ⟨wa, wc, rfl⟩ := sl.form
 unfold acopy
 have h0 : alen (.slice wa n wc) = some n := rfl
 have hm : Nat.min n n = n := Nat.min_self n
 simp only [hu, hn, h0, hm, hf]
 by_cases hz : n = 0
 · subst hz
   have : new = [] := by simpa using hlen
   subst this
   rw [if_pos rfl]
 · rw [if_neg hz]
   have hne : new ≠ [] := fun q => by
     rw [q] at hlen
     have := Nat.mul_ne_zero hz hes
     simp at hlen; omega
   have hs : asto h ⟨b, 0, some 0⟩ new = some (h.set b (.cells new e es s)) := by
     unfold asto
     simp only [hat.get, Nat.zero_add, ble_dec, hone, Bool.and_true]
     rw [decide_eq_true (by omega)]
     simp only [List.take_zero, List.nil_append]
     rw [List.drop_eq_nil_of_le (by omega), List.append_nil]
   cases new with
   | nil => exact absurd rfl hne
   | cons a r => simp only [hlen, bO_, hs]
def cutA (es : Nat) (a : Option Addr) (c lo : Nat) : Option Addr :=
 match a with
 | none => none
 | some a => match a.spot with
   | none => some (match Nat.beq c lo with | true => a | false => aadd a (lo * es))
   | some 0 => match Nat.beq c lo with | true => some ⟨a.block, a.off, some 1⟩ | false => some (aadd a (lo * es))
   | _ => some a
theorem Sl.slice {a : Option Addr} {c : Nat} {L : List Value} (sl : Sl M.G h es (.slice a n c) n L) (hu : M.P.underlying t = some (.slice e)) (hn : tsz M.P e = some es) {lo hi : Nat} (h1 : lo ≤ hi) (h2 : hi ≤ n) {k k' : IntKind} {A B : Int} (hA : A = (lo : Int)) (hB : B = (hi : Int)) :
   aslice M.P h t (.slice a n c) (some (.int k A)) (some (.int k' B)) none = some (.slice (cutA es a c lo) (hi - lo) (c - lo)) := by
 subst hA hB
 cases sl with
 | nil =>
   have hl0 : lo = 0 := by omega
   have hh0 : hi = 0 := by omega
   subst hl0 hh0
   simp [aslice, hu, hn, optInt, asInt?, cutA]
 | end' b o =>
   have hl0 : lo = 0 := by omega
   have hh0 : hi = 0 := by omega
   subst hl0 hh0
   simp [aslice, hu, hn, optInt, asInt?, cutA]
 | mem a _ cc _ hl hc hnc ho =>
   have hd : (decide ((0 : Int) ≤ (c : Int) ∧ (c : Int) ≤ c) && decide ((0 : Int) ≤ (hi : Int) ∧ (hi : Int) ≤ (c : Int)) && decide ((0 : Int) ≤ (lo : Int) ∧ (lo : Int) ≤ (hi : Int))) = true := by
     rw [decide_eq_true (by omega), decide_eq_true (by omega), decide_eq_true (by omega)]; rfl
   by_cases hml : c = lo
   · subst hml
     have hhi : hi = c := by omega
     subst hhi
     rcases hc.spot with hs | hs
     · simp [aslice, hu, hn, optInt, asInt?, hs, bO_, cutA]
     · obtain ⟨c1, e1, s1, hg⟩ := ho hs
       simp [aslice, hu, hn, optInt, asInt?, hs, hg, bO_, cutA]
   · have hb0 : Nat.beq c lo = false := by rw [beq_dec]; simpa using hml
     rcases hc.spot with hs | hs
     · simp only [aslice, hu, hn, optInt, asInt?, Option.isNone_none, Option.isSome_some, Bool.or_self, hd, Int.toNat_natCast, hs, hb0, cutA]
     · obtain ⟨c1, e1, s1, hg⟩ := ho hs
       simp only [aslice, hu, hn, optInt, asInt?, Option.isNone_none, Option.isSome_some, Bool.or_self, hd, Int.toNat_natCast, hs, hb0, hg, bO_, cutA]
theorem Sl.part {a : Option Addr} {c : Nat} {L : List Value} {G : Base} (sl : Sl G h es (.slice a n c) n L) {lo hi : Nat} (h1 : lo ≤ hi) (h2 : hi ≤ n) : Sl G h es (.slice (cutA es a c lo) (hi - lo) (c - lo)) (hi - lo) ((L.drop (lo * es)).take ((hi - lo) * es)) := by
 cases sl with
 | nil =>
   have hl0 : lo = 0 := by omega
   have hh0 : hi = 0 := by omega
   subst hl0 hh0
   simpa [cutA] using Sl.nil
 | end' b o =>
   have hl0 : lo = 0 := by omega
   have hh0 : hi = 0 := by omega
   subst hl0 hh0
   simpa [cutA] using Sl.end' b o
 | mem a _ cc _ hl hc hnc ho =>
   have hln : ((L.drop (lo * es)).take ((hi - lo) * es)).length = (hi - lo) * es := by
     rw [List.length_take, List.length_drop, hl]
     have : (hi - lo) * es ≤ n * es - lo * es := by rw [← Nat.sub_mul]; exact Nat.mul_le_mul_right _ (by omega)
     omega
   have hcl : Cells G h (aadd a (lo * es)) ((L.drop (lo * es)).take ((hi - lo) * es)) := (hc.drop _).take _
   by_cases hml : c = lo
   · subst hml
     have hhi : hi = c := by omega
     subst hhi
     simp only [Nat.sub_self, Nat.zero_mul, List.take_zero]
     rcases hc.spot with hs | hs
     · have e : cutA es (some a) hi hi = some a := by simp [cutA, hs, bO_]
       rw [e]
       refine .mem a 0 0 [] (by simp) (hc.take 0) (Nat.le_refl _) ?_
       intro q; rw [hs] at q; cases q
     · have e : cutA es (some a) hi hi = some ⟨a.block, a.off, some 1⟩ := by simp [cutA, hs, bO_]
       rw [e]
       exact .end' _ _
   · have hb0 : Nat.beq c lo = false := by rw [beq_dec]; simpa using hml
     have e : cutA es (some a) c lo = some (aadd a (lo * es)) := by rcases hc.spot with hs | hs <;> simp [cutA, hs, hb0]
     rw [e]
     exact .mem _ _ _ _ hln hcl (by omega) (fun q => ho q)
theorem op_slcL {a : Option Addr} {c : Nat} {L : List Value} {lo hi : Nat} {k k' : IntKind} {A B : Int} {xa xb : Operand} (hx : val l x = some (.slice a n c)) (hxa : val l xa = some (.int k A)) (hxb : val l xb = some (.int k' B)) (sl : Sl M.G h es (.slice a n c) n L) (hu : M.P.underlying t = some (.slice e)) (hn : tsz M.P e = some es) (h1 : lo ≤ hi) (h2 : hi ≤ n) (hA : A = (lo : Int)) (hB : B = (hi : Int)) :
   Op1 M (.slice t x (some xa) (some xb) none) l h (.slice (cutA es a c lo) (hi - lo) (c - lo)) h :=
 op_slice (a := some (.int k A)) (b := some (.int k' B)) hx (by simp only [optV, hxa]) (by simp only [optV, hxb]) rfl (sl.slice hu hn h1 h2 hA hB)
theorem rqcc {tt u : Nat} {ty ty' : TypeId} {Q : Value → H → Prop} {v w : Value} {a b : Addr} (ha : lk l tt = some (.pointer (some a))) (hv : aloadVar M.P M.G h ty a = some v) (hb : lk l u = some (.pointer (some b))) (hw : aloadVar M.P M.G h ty' b = some w) (q : Q (.tuple #[v, w]) h) : RetQ M [.cell tt ty, .cell u ty'] Q .ret l h := ⟨trivial, [v, w], by simp only [resK, ha, hv, hb, hw], q⟩
def OpX (M : Mc) (op : Op) (l : KL) (h : H) (Q : Value → H → Prop) : Prop := ∃ v h', Op1 M op l h v h' ∧ Q v h'
theorem opx_app {w : Value} {xt : TypeId} {Q : Value → H → Prop} (hx : val l x = some v) (hy : val l y = some w) (hv : ∃ r h', aappend M.P M.G h t xt v w = some (r, h') ∧ Q r h') : OpX M (.call ⟨.builtin .append, #[x, y], #[t, xt]⟩) l h Q := by
 obtain ⟨r, h', e, q⟩ := hv
 exact ⟨r, h', cJ_ hx hy e, q⟩
theorem wo_opx {ops : Array Oper} {rest : List Oper} {sz : Nat} {R : KL → H → Prop} {d : Nat} {Q : Value → H → Prop} {o : Oper} (ho : o.guard = none) (hop : OpX M o.op l h Q) (hdo : o.dst = some d) (hd : Nat.blt d sz = true) (next : ∀ v h', Q v h' → Wo M ops rest sz ((d, v) :: l) h' R) : Wo M ops (o :: rest) sz l h R := by
 obtain ⟨v, h', c, q⟩ := hop
 exact wo_op ho c hdo hd (next v h' q)
theorem repeatCells_len (cs : List Value) : ∀ n, (repeatCells n cs).length = n * cs.length
 | 0 => by simp [repeatCells]
 | n + 1 => by rw [repeatCells, List.length_append, repeatCells_len cs n, Nat.succ_mul]; omega
theorem Sl.set_ne {G : Base} {es' : Nat} {w : Value} {L : List Value} (sl : Sl G h es w n L) (hat : At h b (.cells c e es' s)) (hne : es ≠ es') (o : AObj) : Sl G (h.set b o) es w n L := by
 cases sl with
 | nil => exact .nil
 | end' b o => exact .end' b o
 | mem a _ cc _ hl hc hnc ho =>
   have hb : a.spot = some 0 → a.block ≠ b := fun q e => by
     obtain ⟨c1, e1, s1, hg⟩ := ho q
     rw [e, hat.get] at hg
     cases hg
     exact hne rfl
   refine .mem a n cc L hl ⟨fun q => hc.lt q, fun i v q => ?_, hc.spot, fun q => ?_⟩ hnc fun q => ?_
   · have := hc.get i v q
     unfold acell at this ⊢
     rcases hc.spot with hs | hs
     · simp only [aadd, hs] at this ⊢; exact this
     · simp only [aadd, hs] at this ⊢
       rw [H.get_set, if_neg (hb hs)]; exact this
   · rw [H.get_set, if_neg (hb q)]; exact hc.own q
   · rw [H.get_set, if_neg (hb q)]; exact ho q
theorem Sl.kill_ne {G : Base} {es' : Nat} {w : Value} {L : List Value} (sl : Sl G h es w n L) (hat : At h b (.cells c e es' s)) (hne : es ≠ es') : Sl G (h.kill b) es w n L := by
 cases sl with
 | nil => exact .nil
 | end' b o => exact .end' b o
 | mem a _ cc _ hl hc hnc ho =>
   have hb : a.spot = some 0 → a.block ≠ b := fun q e => by
     obtain ⟨c1, e1, s1, hg⟩ := ho q
     rw [e, hat.get] at hg
     cases hg
     exact hne rfl
   refine .mem a n cc L hl ⟨fun q => hc.lt q, fun i v q => ?_, hc.spot, fun q => ?_⟩ hnc fun q => ?_
   · have := hc.get i v q
     unfold acell at this ⊢
     rcases hc.spot with hs | hs
     · simp only [aadd, hs] at this ⊢; exact this
     · simp only [aadd, hs] at this ⊢
       rw [H.get_kill, if_neg (hb hs)]; exact this
   · rw [H.get_kill, if_neg (hb q)]; exact hc.own q
   · rw [H.get_kill, if_neg (hb q)]; exact ho q
end
end Go.Ab
/- Traces and shots held against one another; shots told and owned. -/
namespace Go.Proofs.YthnnndkfpamacaaGreatDoor
open Go Go.Ab Go.Fl
attribute [local irreducible] SeqQ BlkQ LpQ RetQ Wc Wo WD WX Op1 Op1q Op1a Cf Cl From
attribute [local irreducible] Ieee.Format.order Ieee.Format.read Ieee.Format.nearest Ieee.Format.write Ieee.Format.mul Ieee.Format.div Ieee.Datum.order Ieee.Datum.integral smpE smp smpW K J U trE hdrE lchk firstNZ isNameB wid mism shE offs shortB
set_option maxRecDepth 10000
variable {G : Base} {h : H}
set_option maxHeartbeats 4000000 in
theorem c170o {v : Value} {n : Nat} {l : List Nat} (s : Sl G h 1 v n (l.map (.float .f32))) (hn : n < 1000000) (hl0 : ∀ x ∈ l, smpE x = 0) (hw : Wf h) : Cf (mz G) (.func (.func 170) #[] #[]) [v, .func (.func 126) #[] #[]] h fun r h' => (r = .slice (some ⟨h.nx, 0, some 0⟩) n n ∧ At h' h.nx (.cells ((l.map smp).map (.int .i64)) 3 1 false)) ∧ Grow h h' := by
 obtain ⟨a, c, rfl⟩ := s.form
 have hl := s.length
 simp at hl
 refine ar_ 26 [.tmp 4] Tryz.func170 rfl rfl rfl rfl ?_
 repeat' (first | with_reducible refine am_ ?_ | ((with_reducible refine al_ ?_); first | ((with_reducible refine ak_ ?_); refine ac_ (ag_ rfl) ?_) | ((with_reducible refine ae_ ?_); refine ac_ (ad_ rfl) ?_) | ((with_reducible refine cE_ ?_); refine ac_ (op_mkSl rfl rfl Tryz.underlying25 zs3 zb3 zz3 rfl (by omega) (by omega)) ?_) | ((with_reducible refine aC_ ?_); refine ac_ (ax_ rfl Tryz.underlying45) ?_)) | (with_reducible first | refine ah_ ?_ | refine ao_ ?_ | refine ab_ ?_ | refine at_ ?_))
 refine bq_ (fun k => n - k) (fun k : Nat => [(1, .func (.func 126) #[] #[]), (5, .slice (some ⟨h.nx, 0, some 0⟩) n n), (11, .slice a n c), (12, .int .i64 n), (13, .int .i64 k)]) (fun k h' => Grow h h' ∧ At h' h.nx (.cells ((l.take k).map (fun x => .int .i64 (smp x)) ++ List.replicate (n - k) (.int .i64 0)) 3 1 false) ∧ k ≤ n) 0 (ai_ ⟨rfl, rfl, rfl, rfl, rfl, trivial⟩) ⟨aD_, by simpa using At.new h _, Nat.zero_le _⟩ ?_
 rintro k h' ⟨hgr, hat, hk⟩
 by_cases hlt : k < n
 · obtain ⟨ad, h1, h2⟩ := (s.grow hgr).addr (M := mz G) Tryz.underlying45 (es := 1) zs23 (i := k) (k := .i64) (by omega) (by omega)
   have h3 : acell G h' ad = some (.float .f32 (l[k]'(by omega))) := h2.get 0 _ (by simp)
   repeat' (first | with_reducible refine am_ ?_ | ((with_reducible refine al_ ?_); first | ((with_reducible refine ak_ ?_); refine ac_ (ag_ rfl) ?_) | ((with_reducible refine ae_ ?_); refine ac_ (ad_ rfl) ?_) | ((with_reducible refine aw_ ?_); first | refine ac_ (as_ rfl rfl h1) ?_ | refine ac_ (bF_ (o := k) rfl rfl Tryz.underlying25 zs3 (by omega) (by omega) (by omega)) ?_) | ((with_reducible refine au_ ?_); refine ac_ (aI_ rfl Tryz.underlying23 rfl h3) ?_) | ((with_reducible refine aG_ ?_); refine ci_ (cC_ rfl rfl hat rfl zs3 (by simp; omega) rfl (fill_step hl hlt rfl)) ?_) | ((with_reducible refine av_ ?_); first | refine ac_ (aF_ rfl rfl) ?_ | refine ac_ (aR_ rfl rfl (w64 (by omega) (by omega))) ?_) | ((with_reducible refine aN_ ?_); refine ac_ (aJ_ rfl rfl ((c126 (hl0 _ (List.getElem_mem _))))) ?_)) | (with_reducible first | refine ah_ ?_ | refine ao_ ?_ | refine ab_ ?_ | refine az_ ?_ | refine at_ ?_ | refine aP_ ?_) | (refine aK_ rfl (fun hb => ?_) (fun hb => ?_) <;> (try simp only [bj_, reduceCtorEq] at hb) <;> (try (exfalso; omega))))
   refine aX_ (k + 1) (by omega) (ai_ ⟨rfl, rfl, rfl, rfl, rfl, trivial⟩) ⟨aD_, an_, by omega⟩
 · have hkn : k = n := by omega
   subst hkn
   repeat' (first | with_reducible refine am_ ?_ | ((with_reducible refine al_ ?_); first | ((with_reducible refine ak_ ?_); refine ac_ (ag_ rfl) ?_) | ((with_reducible refine ae_ ?_); refine ac_ (ad_ rfl) ?_) | ((with_reducible refine av_ ?_); refine ac_ (aF_ rfl rfl) ?_)) | (with_reducible first | refine ah_ ?_ | refine ao_ ?_ | refine ab_ ?_ | refine aA_ ?_ | refine be_ ?_ | refine bf_ ?_ | refine bi_ ?_) | refine bS_ rfl ?_ | (refine aK_ rfl (fun hb => ?_) (fun hb => ?_) <;> (try simp only [bj_, reduceCtorEq] at hb) <;> (try (exfalso; omega))))
   rw [fill_end hl] at hat
   exact rq1 rfl ⟨⟨rfl, by rw [List.map_map]; exact hat⟩, hgr⟩
set_option maxHeartbeats 4000000 in
theorem c135o {v : Value} {n : Nat} {l : List Nat} (s : Sl G h 1 v n (l.map (.float .f32))) (hn : n < 1000000) (hl0 : ∀ x ∈ l, smpE x = 0) (hw : Wf h) : Cf (mz G) (.func (.func 135) #[] #[]) [v] h fun r h' => (r = .slice (some ⟨h.nx, 0, some 0⟩) n n ∧ At h' h.nx (.cells ((l.map smp).map (.int .i64)) 3 1 false)) ∧ Grow h h' := by
 refine ar_ 5 [.tmp 2] Tryz.func135 rfl rfl rfl rfl ?_
 repeat' (first | with_reducible refine am_ ?_ | ((with_reducible refine al_ ?_); first | ((with_reducible refine ak_ ?_); refine ac_ (ag_ rfl) ?_) | ((with_reducible refine ae_ ?_); refine ac_ (ad_ rfl) ?_) | ((with_reducible refine ba_ (f := 170) ?_); (refine aW_ rfl rfl rfl rfl (c170o s hn hl0 hw) rfl rfl ?_; rintro _ _ ⟨⟨rfl, sl⟩, hq⟩; all_goals ((try (have hqn := hq.nx)); (try simp only [bG_] at hqn))))) | (with_reducible first | refine ah_ ?_ | refine ao_ ?_ | refine ab_ ?_ | refine aA_ ?_))
 exact rq1 rfl ⟨⟨rfl, sl⟩, hq⟩
set_option maxHeartbeats 4000000 in
theorem c166o {v : Value} {n : Nat} {l : List Int} (s : Sl G h 1 v n (l.map (.int .i64))) (hn : n < 1000000) (hl0 : ∀ x ∈ l, x.natAbs ≤ 16384) (hw : Wf h) : Cf (mz G) (.func (.func 166) #[] #[]) [v, .func (.func 152) #[] #[]] h fun r h' => (r = .slice (some ⟨h.nx, 0, some 0⟩) n n ∧ At h' h.nx (.cells ((l.map smpW).map (.float .f32)) 23 1 false)) ∧ Grow h h' := by
 obtain ⟨a, c, rfl⟩ := s.form
 have hl := s.length
 simp at hl
 refine ar_ 26 [.tmp 4] Tryz.func166 rfl rfl rfl rfl ?_
 repeat' (first | with_reducible refine am_ ?_ | ((with_reducible refine al_ ?_); first | ((with_reducible refine ak_ ?_); refine ac_ (ag_ rfl) ?_) | ((with_reducible refine ae_ ?_); refine ac_ (ad_ rfl) ?_) | ((with_reducible refine cE_ ?_); refine ac_ (op_mkSl rfl rfl Tryz.underlying45 zs23 zb23 zz23 rfl (by omega) (by omega)) ?_) | ((with_reducible refine aC_ ?_); refine ac_ (ax_ rfl Tryz.underlying25) ?_)) | (with_reducible first | refine ah_ ?_ | refine ao_ ?_ | refine ab_ ?_ | refine at_ ?_))
 refine bq_ (fun k => n - k) (fun k : Nat => [(1, .func (.func 152) #[] #[]), (5, .slice (some ⟨h.nx, 0, some 0⟩) n n), (11, .slice a n c), (12, .int .i64 n), (13, .int .i64 k)]) (fun k h' => Grow h h' ∧ At h' h.nx (.cells ((l.take k).map (fun x => .float .f32 (smpW x)) ++ List.replicate (n - k) (.float .f32 0)) 23 1 false) ∧ k ≤ n) 0 (ai_ ⟨rfl, rfl, rfl, rfl, rfl, trivial⟩) ⟨aD_, by simpa using At.new h _, Nat.zero_le _⟩ ?_
 rintro k h' ⟨hgr, hat, hk⟩
 by_cases hlt : k < n
 · obtain ⟨ad, h1, h2⟩ := (s.grow hgr).addr (M := mz G) Tryz.underlying25 (es := 1) zs3 (i := k) (k := .i64) (by omega) (by omega)
   have h3 : acell G h' ad = some (.int .i64 (l[k]'(by omega))) := h2.get 0 _ (by simp)
   repeat' (first | with_reducible refine am_ ?_ | ((with_reducible refine al_ ?_); first | ((with_reducible refine ak_ ?_); refine ac_ (ag_ rfl) ?_) | ((with_reducible refine ae_ ?_); refine ac_ (ad_ rfl) ?_) | ((with_reducible refine aw_ ?_); first | refine ac_ (as_ rfl rfl h1) ?_ | refine ac_ (bF_ (o := k) rfl rfl Tryz.underlying45 zs23 (by omega) (by omega) (by omega)) ?_) | ((with_reducible refine au_ ?_); refine ac_ (aI_ rfl Tryz.underlying3 rfl h3) ?_) | ((with_reducible refine aG_ ?_); refine ci_ (cC_ rfl rfl hat rfl zs23 (by simp; omega) rfl (fill_step hl hlt rfl)) ?_) | ((with_reducible refine av_ ?_); first | refine ac_ (aF_ rfl rfl) ?_ | refine ac_ (aR_ rfl rfl (w64 (by omega) (by omega))) ?_) | ((with_reducible refine aN_ ?_); refine ac_ (aJ_ rfl rfl ((c152 (hl0 _ (List.getElem_mem _))))) ?_)) | (with_reducible first | refine ah_ ?_ | refine ao_ ?_ | refine ab_ ?_ | refine az_ ?_ | refine at_ ?_ | refine aP_ ?_) | (refine aK_ rfl (fun hb => ?_) (fun hb => ?_) <;> (try simp only [bj_, reduceCtorEq] at hb) <;> (try (exfalso; omega))))
   refine aX_ (k + 1) (by omega) (ai_ ⟨rfl, rfl, rfl, rfl, rfl, trivial⟩) ⟨aD_, an_, by omega⟩
 · have hkn : k = n := by omega
   subst hkn
   repeat' (first | with_reducible refine am_ ?_ | ((with_reducible refine al_ ?_); first | ((with_reducible refine ak_ ?_); refine ac_ (ag_ rfl) ?_) | ((with_reducible refine ae_ ?_); refine ac_ (ad_ rfl) ?_) | ((with_reducible refine av_ ?_); refine ac_ (aF_ rfl rfl) ?_)) | (with_reducible first | refine ah_ ?_ | refine ao_ ?_ | refine ab_ ?_ | refine aA_ ?_ | refine be_ ?_ | refine bf_ ?_ | refine bi_ ?_) | refine bS_ rfl ?_ | (refine aK_ rfl (fun hb => ?_) (fun hb => ?_) <;> (try simp only [bj_, reduceCtorEq] at hb) <;> (try (exfalso; omega))))
   rw [fill_end hl] at hat
   exact rq1 rfl ⟨⟨rfl, by rw [List.map_map]; exact hat⟩, hgr⟩
set_option maxHeartbeats 4000000 in
theorem c127o {v : Value} {n : Nat} {l : List Int} (s : Sl G h 1 v n (l.map (.int .i64))) (hn : n < 1000000) (hw : Wf h) (hb0 : ∀ x ∈ l, x.natAbs ≤ 1000000000000) : Cf (mz G) (.func (.func 127) #[] #[]) [v] h fun r h' =>
   ((anyLarge l = true ∧ r = .tuple #[.slice none 0 0, .int .i64 4]) ∨ (anyLarge l = false ∧ r = .tuple #[.slice (some ⟨h.nx, 0, some 0⟩) n n, .int .i64 0] ∧ At h' h.nx (.cells ((l.map smpW).map (.float .f32)) 23 1 false))) ∧ Grow h h' := by
 obtain ⟨a, c, rfl⟩ := s.form
 have hl := s.length
 simp at hl
 refine ar_ 21 [.tmp 2, .tmp 3] Tryz.func127 rfl rfl rfl rfl ?_
 repeat' (first | with_reducible refine am_ ?_ | ((with_reducible refine al_ ?_); first | ((with_reducible refine ak_ ?_); refine ac_ (ag_ rfl) ?_) | ((with_reducible refine ae_ ?_); refine ac_ (ad_ rfl) ?_) | ((with_reducible refine aC_ ?_); refine ac_ (ax_ rfl Tryz.underlying25) ?_)) | (with_reducible first | refine ah_ ?_ | refine ao_ ?_ | refine ab_ ?_ | refine at_ ?_))
 refine bq_ (fun k => n - k) (fun k : Nat => [(0, .slice a n c), (6, .slice a n c), (7, .int .i64 n), (8, .int .i64 k)]) (fun k h' => h' = h ∧ k ≤ n ∧ (anyLarge (l.take k)) = false) 0 (ai_ ⟨rfl, rfl, rfl, rfl, trivial⟩) ⟨rfl, Nat.zero_le _, by simp [anyLarge]⟩ ?_
 rintro k h' ⟨rfl, hk, hi⟩
 by_cases hlt : k < n
 · obtain ⟨ad, h1, h2⟩ := s.addr (M := mz G) Tryz.underlying25 (es := 1) zs3 (i := k) (k := .i64) (by omega) (by omega)
   have h3 : acell G h' ad = some (.int .i64 (l[k]'(by omega))) := h2.get 0 _ (by simp)
   have hm : l[k]'(by omega) ∈ l := List.getElem_mem _
   have hbb := hb0 _ hm
   obtain ⟨x, hx⟩ : ∃ x, l[k]'(by omega) = x := ⟨_, rfl⟩
   rw [hx] at h3 hm hbb
   by_cases hlg : isLargeB x = true
   · have hlg' := of_decide_eq_true hlg
     repeat' (first | with_reducible refine am_ ?_ | ((with_reducible refine al_ ?_); first | ((with_reducible refine ak_ ?_); refine ac_ (ag_ rfl) ?_) | ((with_reducible refine ae_ ?_); refine ac_ (ad_ rfl) ?_) | ((with_reducible refine aw_ ?_); refine ac_ (as_ rfl rfl h1) ?_) | ((with_reducible refine au_ ?_); refine ac_ (aI_ rfl Tryz.underlying3 rfl h3) ?_) | ((with_reducible refine av_ ?_); refine ac_ (aF_ rfl rfl) ?_) | ((with_reducible refine aS_ ?_); first | refine ac_ (aT_ rfl rfl) ?_ | refine ac_ (aO_ rfl rfl) ?_) | ((with_reducible refine cG_ ?_); first | refine bC_ rfl rfl rfl rfl rfl rfl ?_ | ((with_reducible refine bB_ ?_); refine aj_ rfl rfl rfl (ag_ rfl) rfl rfl ?_) | ((with_reducible refine bE_ ?_); refine aj_ rfl rfl rfl (bZ_ rfl rfl) rfl rfl ?_) | (refine bb_ rfl rfl rfl (fun hb => ?_) (fun hb => ?_) <;> (try simp only [bj_, reduceCtorEq] at hb) <;> (try (exfalso; omega))))) | (with_reducible first | refine ah_ ?_ | refine ao_ ?_ | refine ab_ ?_ | refine az_ ?_ | refine aA_ ?_ | refine at_ ?_ | refine bV_ ?_ | refine bd_ ?_ | refine cx_ ?_) | refine bP_ rfl ?_ | (refine aK_ rfl (fun hb => ?_) (fun hb => ?_) <;> (try simp only [bj_, reduceCtorEq] at hb) <;> (try (exfalso; omega))))
     all_goals
       exact rq2 rfl rfl ⟨.inl ⟨by unfold anyLarge; rw [List.any_eq_true]; exact ⟨_, hm, hlg⟩, rfl⟩, .refl _⟩
   · have hlg' := of_decide_eq_false (Bool.eq_false_iff.2 hlg)
     repeat' (first | with_reducible refine am_ ?_ | ((with_reducible refine al_ ?_); first | ((with_reducible refine ak_ ?_); refine ac_ (ag_ rfl) ?_) | ((with_reducible refine ae_ ?_); refine ac_ (ad_ rfl) ?_) | ((with_reducible refine aw_ ?_); refine ac_ (as_ rfl rfl h1) ?_) | ((with_reducible refine au_ ?_); refine ac_ (aI_ rfl Tryz.underlying3 rfl h3) ?_) | ((with_reducible refine av_ ?_); first | refine ac_ (aF_ rfl rfl) ?_ | refine ac_ (aR_ rfl rfl (w64 (by omega) (by omega))) ?_) | ((with_reducible refine aS_ ?_); refine ac_ (aO_ rfl rfl) ?_) | ((with_reducible refine cG_ ?_); first | ((with_reducible refine bB_ ?_); refine aj_ rfl rfl rfl (ag_ rfl) rfl rfl ?_) | ((with_reducible refine bE_ ?_); refine aj_ rfl rfl rfl (bZ_ rfl rfl) rfl rfl ?_) | (refine bb_ rfl rfl rfl (fun hb => ?_) (fun hb => ?_) <;> (try simp only [bj_, reduceCtorEq] at hb) <;> (try (exfalso; omega))))) | (with_reducible first | refine ah_ ?_ | refine ao_ ?_ | refine ab_ ?_ | refine az_ ?_ | refine at_ ?_ | refine aP_ ?_) | (refine aK_ rfl (fun hb => ?_) (fun hb => ?_) <;> (try simp only [bj_, reduceCtorEq] at hb) <;> (try (exfalso; omega))))
     all_goals
       refine aX_ (k + 1) (by omega) (ai_ ⟨rfl, rfl, rfl, rfl, trivial⟩) ⟨rfl, by omega, ?_⟩
       rw [List.take_succ_eq_append_getElem (by omega), hx]
       unfold anyLarge at hi ⊢
       rw [List.any_append, hi]
       simpa using hlg
 · have hkn : k = n := by omega
   subst hkn
   rw [List.take_of_length_le (by omega)] at hi
   have hall : ∀ x ∈ l, x.natAbs ≤ 16384 := fun x hx => by
     have : isLargeB x = false := by
       unfold anyLarge at hi
       rw [List.any_eq_false] at hi
       simpa using hi x hx
     have := of_decide_eq_false this
     omega
   repeat' (first | with_reducible refine am_ ?_ | ((with_reducible refine al_ ?_); first | ((with_reducible refine ak_ ?_); refine ac_ (ag_ rfl) ?_) | ((with_reducible refine ae_ ?_); refine ac_ (ad_ rfl) ?_) | ((with_reducible refine av_ ?_); refine ac_ (aF_ rfl rfl) ?_) | ((with_reducible refine ba_ (f := 166) ?_); (refine aW_ rfl rfl rfl rfl (c166o s hn hall hw) rfl rfl ?_; rintro _ _ ⟨⟨rfl, sl⟩, hq⟩; all_goals ((try (have hqn := hq.nx)); (try simp only [bG_] at hqn))))) | (with_reducible first | refine ah_ ?_ | refine ao_ ?_ | refine ab_ ?_ | refine aA_ ?_ | refine be_ ?_ | refine bf_ ?_ | refine bi_ ?_) | refine bS_ rfl ?_ | (refine aK_ rfl (fun hb => ?_) (fun hb => ?_) <;> (try simp only [bj_, reduceCtorEq] at hb) <;> (try (exfalso; omega))))
   exact rq2 rfl rfl ⟨.inr ⟨hi, rfl, sl⟩, hq⟩
def fEqL (l l' : List Nat) : Prop := l.length = l'.length ∧ ∀ i (q : i < l.length) (q' : i < l'.length), (Ieee.single.order l[i] l'[i] == some .eq) = true
theorem smpW_feq {x : Nat} (h : smpE x = 0) : (Ieee.single.order (smpW (smp x)) x == some .eq) = true := by
 obtain ⟨s, m, e, hr, hv, hlo, hhi⟩ := smp_read h
 obtain ⟨_, v, hn, hv2⟩ := div16 (n := smp x) (by omega)
 have hx : Num Ieee.single x (Ieee.signed s m (e + 1074).toNat) := ⟨s, m, e, hr, by have := (cs_ hr).2.1; omega, rfl⟩
 rw [hn.feq hx]
 have : v = Ieee.signed s m (e + 1074).toNat := by omega
 simp [this]
set_option maxHeartbeats 4000000 in
theorem c84g {v w : Value} {n : Nat} {l l' : List Nat} (s : Sl G h 1 v n (l.map (.float .f32))) (u : Sl G h 1 w n (l'.map (.float .f32))) (hn : n < 1000000) (hs : fEqL l l') : Cf (mz G) (.func (.func 84) #[] #[]) [v, w] h fun r h' => r = .bool true ∧ Grow h h' := by
 obtain ⟨a, c, rfl⟩ := s.form
 obtain ⟨b, d, rfl⟩ := u.form
 have hl := s.length
 have hl' := u.length
 simp at hl hl'
 refine ar_ 26 [.tmp 4] Tryz.func84 rfl rfl rfl rfl ?_
 repeat' (first | with_reducible refine am_ ?_ | ((with_reducible refine al_ ?_); first | ((with_reducible refine ak_ ?_); refine ac_ (ag_ rfl) ?_) | ((with_reducible refine ae_ ?_); refine ac_ (ad_ rfl) ?_) | ((with_reducible refine aC_ ?_); refine ac_ (ax_ rfl Tryz.underlying45) ?_) | ((with_reducible refine av_ ?_); refine ac_ (bm_ rfl rfl) ?_)) | (with_reducible first | refine ah_ ?_ | refine ao_ ?_ | refine ab_ ?_ | refine az_ ?_ | refine at_ ?_) | (refine aK_ rfl (fun hb => ?_) (fun hb => ?_) <;> (try simp only [bj_, reduceCtorEq] at hb) <;> (try (exfalso; omega))))
 refine bq_ (fun k => n - k) (fun k : Nat => [(0, .slice a n c), (1, .slice b n d), (5, .int .i64 k)]) (fun k h' => Grow h h' ∧ k ≤ n) 0 (ai_ ⟨rfl, rfl, rfl, trivial⟩) ⟨.refl _, Nat.zero_le _⟩ ?_
 rintro k h' ⟨hgr, hk⟩
 by_cases hlt : k < n
 · obtain ⟨ad, h1, h3⟩ := sl_at (s.grow hgr) (i := (k : Int)) hlt rfl
   obtain ⟨bd, g1, g3⟩ := sl_at (u.grow hgr) (i := (k : Int)) hlt rfl
   have he := hs.2 k (by omega) (by omega)
   repeat' (first | with_reducible refine am_ ?_ | ((with_reducible refine al_ ?_); first | ((with_reducible refine ak_ ?_); refine ac_ (ag_ rfl) ?_) | ((with_reducible refine ae_ ?_); refine ac_ (ad_ rfl) ?_) | ((with_reducible refine av_ ?_); first | refine ac_ (aF_ rfl rfl) ?_ | refine ac_ (aR_ rfl rfl (w64 (by omega) (by omega))) ?_) | ((with_reducible refine aC_ ?_); refine ac_ (ax_ rfl Tryz.underlying45) ?_)) | ((with_reducible refine bL_ ?_); ((with_reducible refine bK_ ?_); first | ((with_reducible refine bI_ ?_); refine bn_ (af_ rfl) rfl rfl (aE_ rfl (ag_ rfl)) rfl rfl rfl ?_) | ((with_reducible refine bo_ ?_); first | refine bn_ (af_ rfl) rfl rfl (aE_ rfl (as_ rfl rfl h1)) rfl rfl rfl ?_ | refine bn_ (af_ rfl) rfl rfl (aE_ rfl (as_ rfl rfl g1)) rfl rfl rfl ?_) | ((with_reducible refine by_ ?_); first | refine bp_ (af_ rfl) rfl (aE_ rfl (aI_ rfl Tryz.underlying23 rfl h3)) rfl rfl rfl ?_ | refine bp_ (af_ rfl) rfl (aE_ rfl (aI_ rfl Tryz.underlying23 rfl g3)) rfl rfl rfl ?_) | ((with_reducible refine xk_bin ?_); refine bn_ (af_ rfl) rfl rfl (aE_ rfl (op_fneq rfl rfl he)) rfl rfl rfl ?_) | with_reducible refine bN_ ?_ ?_)) | with_reducible exact bA_ | with_reducible refine bk_ ?_ ?_ | ((with_reducible refine bM_ ?_); first | exact bz_ | refine aB_ rfl rfl (aE_ rfl (aI_ rfl Tryz.underlying23 rfl h3)) ?_ | refine aB_ rfl rfl (aE_ rfl (aI_ rfl Tryz.underlying23 rfl g3)) ?_) | (with_reducible first | refine ah_ ?_ | refine ao_ ?_ | refine ab_ ?_ | refine az_ ?_ | refine at_ ?_ | refine aP_ ?_) | refine bs_ rfl ?_ | (refine aK_ rfl (fun hb => ?_) (fun hb => ?_) <;> (try simp only [bj_, reduceCtorEq] at hb) <;> (try (exfalso; omega))) | refine br_ (id := 6) 9 [0, 0, 3, 7, 0, 0, 48, 112, 255] [0, 1, 2, 3, 4, 5, 6, 7, 8] (by kernel_rfl) (by kernel_rfl) rfl rfl ?_)
   exact aX_ (k + 1) (by omega) (ai_ ⟨rfl, rfl, rfl, trivial⟩) ⟨aD_, by omega⟩
 · repeat' (first | with_reducible refine am_ ?_ | ((with_reducible refine al_ ?_); first | ((with_reducible refine ak_ ?_); refine ac_ (ag_ rfl) ?_) | ((with_reducible refine ae_ ?_); refine ac_ (ad_ rfl) ?_) | ((with_reducible refine aC_ ?_); refine ac_ (ax_ rfl Tryz.underlying45) ?_) | ((with_reducible refine av_ ?_); refine ac_ (aF_ rfl rfl) ?_)) | (with_reducible first | refine ah_ ?_ | refine ao_ ?_ | refine ab_ ?_ | refine aA_ ?_ | refine be_ ?_ | refine bf_ ?_ | refine bi_ ?_) | refine bS_ rfl ?_ | (refine aK_ rfl (fun hb => ?_) (fun hb => ?_) <;> (try simp only [bj_, reduceCtorEq] at hb) <;> (try (exfalso; omega))))
   exact rq1 rfl ⟨rfl, hgr⟩
structure TrS (t u : Trc) : Prop where
 hd : ∀ i, i < 8 → t.hd i = u.hd i
 hole : t.hole = u.hole
 n : t.n = u.n
 l : fEqL t.l u.l
set_option maxHeartbeats 4000000 in
theorem c89 {t u : Trc} (o : TrOk G h t) (p : TrOk G h u) (q : TrS t u) (hn : t.n < 1000000) (hw : Wf h) : Cf (mz G) (.func (.func 89) #[] #[]) [.agg ⟨t.cells⟩, .agg ⟨u.cells⟩] h fun r h' => r = .bool true ∧ Grow h h' := by
 obtain ⟨hd, hole, sa, n, c, l⟩ := t
 obtain ⟨hd', hole', sa', n', c', l'⟩ := u
 obtain ⟨q1, q2, q3, q4⟩ := q
 have s := o.sl
 have s' := p.sl
 simp only at s s' hn q1 q2 q3 q4
 subst q2 q3
 have e0 := q1 0 (by omega)
 have e1 := q1 1 (by omega)
 have e2 := q1 2 (by omega)
 have e3 := q1 3 (by omega)
 have e4 := q1 4 (by omega)
 have e5 := q1 5 (by omega)
 have e6 := q1 6 (by omega)
 have e7 := q1 7 (by omega)
 clear q1
 dsimp only [Trc.cells]
 rw [e0, e1, e2, e3, e4, e5, e6, e7]
 have hk : ∀ (x0 x1 x2 x3 x4 x5 x6 x7 : Int), (decide (x0 = x0) && (decide (x1 = x1) && (decide (x2 = x2) && (decide (x3 = x3) && (decide (x4 = x4) && (decide (x5 = x5) && (decide (x6 = x6) && (decide (x7 = x7) && true)))))))) = true := by intros; simp
 have hk2 : ∀ (x0 x1 x2 x3 x4 x5 x6 x7 : Int), eqV Tryz.prog 3 44 [.int .i64 x0, .int .i64 x1, .int .i64 x2, .int .i64 x3, .int .i64 x4, .int .i64 x5, .int .i64 x6, .int .i64 x7] [.int .i64 x0, .int .i64 x1, .int .i64 x2, .int .i64 x3, .int .i64 x4, .int .i64 x5, .int .i64 x6, .int .i64 x7] = some true := by
   intro x0 x1 x2 x3 x4 x5 x6 x7
   rw [eqv44, hk]
 cases hole with
 | true =>
   refine ar_ 24 [.tmp 4] Tryz.func89 rfl rfl rfl rfl ?_
   repeat' (first | with_reducible refine am_ ?_ | ((with_reducible refine al_ ?_); first | ((with_reducible refine ak_ ?_); refine ac_ (ag_ rfl) ?_) | ((with_reducible refine ae_ ?_); refine ac_ (ad_ rfl) ?_) | ((with_reducible refine av_ ?_); refine ac_ (op_eqT 3 rfl rfl rfl Tryz.underlying44 rfl eg44 (hk2 _ _ _ _ _ _ _ _)) ?_) | ((with_reducible refine bw_ ?_); refine ac_ (aL_ rfl cw_ rfl) ?_) | ((with_reducible refine ap_ ?_); refine ac_ (aa_ (o := 0) rfl Tryz.underlying47 rfl zs44 rfl) ?_) | ((with_reducible refine au_ ?_); refine ac_ (ay_ rfl an_ Tryz.underlying44 rfl zs44 rfl rfl) ?_) | ((with_reducible refine aS_ ?_); refine ac_ (aT_ rfl rfl) ?_) | ((with_reducible refine cG_ ?_); first | ((with_reducible refine bE_ ?_); refine aj_ rfl rfl rfl (op_beql rfl rfl Tryz.underlying4) rfl rfl ?_) | ((with_reducible refine bt_ ?_); first | refine aj_ rfl rfl rfl (aa_ (o := 8) rfl Tryz.underlying47 rfl zs4 rfl) rfl rfl ?_ | refine aj_ rfl rfl rfl (aa_ (o := 9) rfl Tryz.underlying47 rfl zs45 rfl) rfl rfl ?_) | ((with_reducible refine bX_ ?_); first | refine aj_ rfl rfl rfl (aq_ rfl an_ Tryz.underlying4 rfl rfl) rfl rfl ?_ | refine aj_ rfl rfl rfl (aq_ rfl an_ Tryz.underlying45 rfl rfl) rfl rfl ?_) | ((with_reducible refine cr_ (f := 84) ?_); (refine cq_ rfl rfl rfl rfl rfl rfl (c84g (s.grow aD_) (s'.grow aD_) hn q4) rfl rfl ?_; rintro _ _ ⟨rfl, hq⟩; all_goals ((try (have hqn := hq.nx)); (try simp only [bG_] at hqn)))))) | (with_reducible first | refine ah_ ?_ | refine ao_ ?_ | refine ab_ ?_ | refine aA_ ?_))
   all_goals exact rq1 rfl ⟨rfl, aD_⟩
 | false =>
   refine ar_ 24 [.tmp 4] Tryz.func89 rfl rfl rfl rfl ?_
   repeat' (first | with_reducible refine am_ ?_ | ((with_reducible refine al_ ?_); first | ((with_reducible refine ak_ ?_); refine ac_ (ag_ rfl) ?_) | ((with_reducible refine ae_ ?_); refine ac_ (ad_ rfl) ?_) | ((with_reducible refine av_ ?_); refine ac_ (op_eqT 3 rfl rfl rfl Tryz.underlying44 rfl eg44 (hk2 _ _ _ _ _ _ _ _)) ?_) | ((with_reducible refine bw_ ?_); refine ac_ (aL_ rfl cw_ rfl) ?_) | ((with_reducible refine ap_ ?_); refine ac_ (aa_ (o := 0) rfl Tryz.underlying47 rfl zs44 rfl) ?_) | ((with_reducible refine au_ ?_); refine ac_ (ay_ rfl an_ Tryz.underlying44 rfl zs44 rfl rfl) ?_) | ((with_reducible refine aS_ ?_); refine ac_ (aT_ rfl rfl) ?_) | ((with_reducible refine cG_ ?_); first | ((with_reducible refine bE_ ?_); refine aj_ rfl rfl rfl (op_beql rfl rfl Tryz.underlying4) rfl rfl ?_) | ((with_reducible refine bt_ ?_); first | refine aj_ rfl rfl rfl (aa_ (o := 8) rfl Tryz.underlying47 rfl zs4 rfl) rfl rfl ?_ | refine aj_ rfl rfl rfl (aa_ (o := 9) rfl Tryz.underlying47 rfl zs45 rfl) rfl rfl ?_) | ((with_reducible refine bX_ ?_); first | refine aj_ rfl rfl rfl (aq_ rfl an_ Tryz.underlying4 rfl rfl) rfl rfl ?_ | refine aj_ rfl rfl rfl (aq_ rfl an_ Tryz.underlying45 rfl rfl) rfl rfl ?_) | ((with_reducible refine cr_ (f := 84) ?_); (refine cq_ rfl rfl rfl rfl rfl rfl (c84g (s.grow aD_) (s'.grow aD_) hn q4) rfl rfl ?_; rintro _ _ ⟨rfl, hq⟩; all_goals ((try (have hqn := hq.nx)); (try simp only [bG_] at hqn)))))) | (with_reducible first | refine ah_ ?_ | refine ao_ ?_ | refine ab_ ?_ | refine aA_ ?_))
   all_goals exact rq1 rfl ⟨rfl, aD_⟩
def TrsS (ts us : List Trc) : Prop := ts.length = us.length ∧ ∀ i (q : i < ts.length) (q' : i < us.length), TrS ts[i] us[i]
set_option maxHeartbeats 4000000 in
theorem c82 {nm : ByteArray} {a a' : Option Addr} {n c c' : Nat} {ts us : List Trc} (s : SlT G h (.slice a n c) n ts) (s' : SlT G h (.slice a' n c') n us) (hn : n < 1000000) (hl : ∀ t ∈ ts, t.n < 1000000) (q : TrsS ts us) (hw : Wf h) : Cf (mz G) (.func (.func 82) #[] #[]) [.agg ⟨shC nm a n c⟩, .agg ⟨shC nm a' n c'⟩] h fun r h' => r = .bool true ∧ Grow h h' := by
 have hlen := s.len
 have hlen' := s'.len
 refine ar_ 39 [.tmp 4] Tryz.func82 rfl rfl rfl rfl ?_
 repeat' (first | with_reducible refine am_ ?_ | ((with_reducible refine al_ ?_); first | ((with_reducible refine ak_ ?_); refine ac_ (ag_ rfl) ?_) | ((with_reducible refine ae_ ?_); refine ac_ (ad_ rfl) ?_) | ((with_reducible refine av_ ?_); refine ac_ (op_sne rfl rfl) ?_) | ((with_reducible refine bw_ ?_); refine ac_ (aL_ rfl ce_ rfl) ?_) | ((with_reducible refine ap_ ?_); refine ac_ (aa_ (o := 0) rfl Tryz.underlying43 rfl zs9 rfl) ?_) | ((with_reducible refine au_ ?_); refine ac_ (aq_ rfl an_ Tryz.underlying9 rfl rfl) ?_) | ((with_reducible refine aS_ ?_); refine ac_ (aO_ rfl rfl) ?_) | ((with_reducible refine cG_ ?_); first | ((with_reducible refine bE_ ?_); refine aj_ rfl rfl rfl (bm_ rfl rfl) rfl rfl ?_) | ((with_reducible refine bt_ ?_); refine aj_ rfl rfl rfl (aa_ (o := 1) rfl Tryz.underlying43 rfl cL_ rfl) rfl rfl ?_) | ((with_reducible refine bX_ ?_); refine aj_ rfl rfl rfl (aq_ rfl an_ Tryz.underlying41 rfl rfl) rfl rfl ?_) | ((with_reducible refine bW_ ?_); refine aj_ rfl rfl rfl (ax_ rfl Tryz.underlying41) rfl rfl ?_) | (refine bb_ rfl rfl rfl (fun hb => ?_) (fun hb => ?_) <;> (try simp only [bj_, reduceCtorEq] at hb) <;> (try (exfalso; omega))))) | (with_reducible first | refine ah_ ?_ | refine ao_ ?_ | refine ab_ ?_ | refine az_ ?_ | refine at_ ?_) | (refine aK_ rfl (fun hb => ?_) (fun hb => ?_) <;> (try simp only [bj_, reduceCtorEq] at hb) <;> (try (exfalso; omega))))
 all_goals first
   | (exfalso; simp at hb; done)
   | skip
 refine bq_ (fun k => n - k) (fun k : Nat => [(2, .pointer (some ⟨h.nx, 0, some 0⟩)), (3, .pointer (some ⟨h.nx + 1, 0, some 0⟩)), (5, .int .i64 k)]) (fun k h' => (Wf h' ∧ Grow h h' ∧ At h' h.nx (.cells (shC nm a n c) 43 2 false) ∧ At h' (h.nx + 1) (.cells (shC nm a' n c') 43 2 false)) ∧ k ≤ n) 0 (ai_ ⟨rfl, rfl, rfl, trivial⟩) ⟨⟨aZ_, aD_, an_, an_⟩, Nat.zero_le _⟩ ?_
 rintro k h' ⟨⟨hw', hgr, hat, hat'⟩, hk⟩
 have hgn := hgr.nx
 by_cases hlt : k < n
 · obtain ⟨ad, h1, h3⟩ := cA_ (s.grow hgr) Tryz.underlying41 cw_ (i := (k : Int)) hlt rfl
   obtain ⟨ad', h1', h3'⟩ := cA_ (s'.grow hgr) Tryz.underlying41 cw_ (i := (k : Int)) hlt rfl
   have q89 := fun (h2 : H) (g : Grow h h2) (w : Wf h2) => c89 ((s.ok _ (List.getElem_mem (by omega : k < ts.length))).grow g) ((s'.ok _ (List.getElem_mem (by omega : k < us.length))).grow g) (q.2 k (by omega) (by omega)) (hl _ (List.getElem_mem _)) w
   obtain ⟨t, ht⟩ : ∃ t, ts[k]'(by omega) = t := ⟨_, rfl⟩
   obtain ⟨u, hu⟩ : ∃ t, us[k]'(by omega) = t := ⟨_, rfl⟩
   rw [ht] at h3 q89
   rw [hu] at h3' q89
   clear ht hu
   obtain ⟨hd, hole, sa, tn, tc, tl⟩ := t
   obtain ⟨hd', hole', sa', tn', tc', tl'⟩ := u
   dsimp only [Trc.cells] at h3 h3' q89
   repeat' (first | with_reducible refine am_ ?_ | ((with_reducible refine al_ ?_); first | ((with_reducible refine ak_ ?_); refine ac_ (ag_ rfl) ?_) | ((with_reducible refine ae_ ?_); refine ac_ (ad_ rfl) ?_) | ((with_reducible refine au_ ?_); refine ac_ (aq_ rfl an_ Tryz.underlying41 rfl rfl) ?_) | ((with_reducible refine ap_ ?_); refine ac_ (aa_ (o := 1) rfl Tryz.underlying43 rfl cL_ rfl) ?_) | ((with_reducible refine av_ ?_); first | refine ac_ (aF_ rfl rfl) ?_ | refine ac_ (aR_ rfl rfl (w64 (by omega) (by omega))) ?_) | ((with_reducible refine aC_ ?_); refine ac_ (ax_ rfl Tryz.underlying41) ?_)) | ((with_reducible refine bL_ ?_); ((with_reducible refine bK_ ?_); first | ((with_reducible refine bI_ ?_); refine bn_ (af_ rfl) rfl rfl (aE_ rfl (ag_ rfl)) rfl rfl rfl ?_) | ((with_reducible refine bo_ ?_); first | refine bn_ (af_ rfl) rfl rfl (aE_ rfl (as_ rfl rfl h1)) rfl rfl rfl ?_ | refine bn_ (af_ rfl) rfl rfl (aE_ rfl (as_ rfl rfl h1')) rfl rfl rfl ?_) | ((with_reducible refine by_ ?_); first | refine bp_ (af_ rfl) rfl (aE_ rfl (bJ_ rfl Tryz.underlying47 rfl cw_ h3.all)) rfl rfl rfl ?_ | refine bp_ (af_ rfl) rfl (aE_ rfl (bJ_ rfl Tryz.underlying47 rfl cw_ h3'.all)) rfl rfl rfl ?_ | refine bp_ (af_ rfl) rfl (aE_ rfl (aq_ rfl an_ Tryz.underlying41 rfl rfl)) rfl rfl rfl ?_) | ((with_reducible refine bh_ ?_); refine bn_ (af_ rfl) rfl rfl (aE_ rfl (aa_ (o := 1) rfl Tryz.underlying43 rfl cL_ rfl)) rfl rfl rfl ?_) | ((with_reducible refine xk_un ?_); refine bn_ (af_ rfl) rfl rfl (aE_ rfl (bv_ rfl)) rfl rfl rfl ?_) | ((with_reducible refine bH_ ?_); (refine aV_ (af_ rfl) rfl rfl rfl rfl (q89 _ aD_ aZ_) rfl rfl ?_; rintro _ _ ⟨rfl, hq⟩; all_goals ((try (have hqn := hq.nx)); (try simp only [bG_] at hqn)))) | with_reducible refine bN_ ?_ ?_)) | with_reducible exact bA_ | with_reducible refine bk_ ?_ ?_ | ((with_reducible refine bM_ ?_); first | exact bz_ | refine bx_ rfl ?_ | refine aB_ rfl rfl (aE_ rfl (bJ_ rfl Tryz.underlying47 rfl cw_ h3.all)) ?_ | refine aB_ rfl rfl (aE_ rfl (bJ_ rfl Tryz.underlying47 rfl cw_ h3'.all)) ?_ | refine aB_ rfl rfl (aE_ rfl (aq_ rfl an_ Tryz.underlying41 rfl (by rfl))) ?_) | (with_reducible first | refine ah_ ?_ | refine ao_ ?_ | refine ab_ ?_ | refine az_ ?_ | refine at_ ?_ | refine aP_ ?_) | refine bs_ rfl ?_ | (refine aK_ rfl (fun hb => ?_) (fun hb => aH_ hb); (try simp only [bj_, reduceCtorEq] at hb)) | refine br_ (id := 6) 12 [0, 1, 0, 7, 15, 0, 32, 0, 224, 480, 1023, 2047] [0, 1, 2, 3, 4, 5, 6, 7, 8, 9, 10, 11] (by kernel_rfl) (by kernel_rfl) rfl rfl ?_)
   all_goals exact aX_ (k + 1) (by omega) (ai_ ⟨rfl, rfl, rfl, trivial⟩) ⟨⟨aZ_, aD_, an_, an_⟩, by omega⟩
 · repeat' (first | with_reducible refine am_ ?_ | ((with_reducible refine al_ ?_); first | ((with_reducible refine ak_ ?_); refine ac_ (ag_ rfl) ?_) | ((with_reducible refine ae_ ?_); refine ac_ (ad_ rfl) ?_) | ((with_reducible refine ap_ ?_); refine ac_ (aa_ (o := 1) rfl Tryz.underlying43 rfl cL_ rfl) ?_) | ((with_reducible refine au_ ?_); refine ac_ (aq_ rfl an_ Tryz.underlying41 rfl rfl) ?_) | ((with_reducible refine av_ ?_); refine ac_ (aF_ rfl rfl) ?_) | ((with_reducible refine aC_ ?_); refine ac_ (ax_ rfl Tryz.underlying41) ?_)) | (with_reducible first | refine ah_ ?_ | refine ao_ ?_ | refine ab_ ?_ | refine aA_ ?_ | refine be_ ?_ | refine bf_ ?_ | refine bi_ ?_) | refine bS_ rfl ?_ | (refine aK_ rfl (fun hb => aH_ hb) (fun hb => ?_); (try simp only [bj_, reduceCtorEq] at hb)))
   all_goals exact rq1 rfl ⟨rfl, hgr⟩
/- Shots told and owned. -/
set_option maxHeartbeats 4000000 in
theorem c81 {nm : ByteArray} {a : Option Addr} {n c : Nat} {ts : List Trc} (s : SlT G h (.slice a n c) n ts) (hn : n ≤ 65) (hw : Wf h) : Cf (mz G) (.func (.func 81) #[] #[]) [.agg ⟨shC nm a n c⟩] h fun r h' => (∃ a' c', r = .agg ⟨shC nm a' n c'⟩ ∧ SlT G h' (.slice a' n c') n ts) ∧ Grow h h' := by
 have hlen := s.len
 refine ar_ 24 [.cell 2 43] Tryz.func81 rfl rfl rfl rfl ?_
 repeat' (first | with_reducible refine am_ ?_ | ((with_reducible refine al_ ?_); first | ((with_reducible refine ak_ ?_); refine ac_ (ag_ rfl) ?_) | ((with_reducible refine bw_ ?_); refine ac_ (aL_ rfl cc_ rfl) ?_) | ((with_reducible refine aU_ ?_); refine ac_ (aQ_ zz43 ce_ rfl rfl rfl) ?_) | ((with_reducible refine ap_ ?_); first | refine ac_ (aa_ (o := 0) rfl Tryz.underlying54 rfl zs9 rfl) ?_ | refine ac_ (aa_ (o := 1) rfl Tryz.underlying54 rfl zs52 rfl) ?_) | ((with_reducible refine au_ ?_); first | refine ac_ (aq_ rfl an_ Tryz.underlying9 rfl rfl) ?_ | refine ac_ (aq_ rfl an_ Tryz.underlying52 rfl rfl) ?_) | ((with_reducible refine ik_build ?_); refine ac_ (cz_ rfl zz43 zp43 rfl rfl) ?_) | ((with_reducible refine aG_ ?_); refine ci_ (aM_ rfl rfl an_ ce_ rfl rfl rfl rfl) ?_) | ((with_reducible refine aC_ ?_); refine ac_ (ax_ rfl Tryz.underlying52) ?_)) | (with_reducible first | refine ah_ ?_ | refine ao_ ?_ | refine ab_ ?_ | refine at_ ?_))
 refine bq_ (fun p : Nat × Value => n - p.1) (fun p => [(2, .pointer (some ⟨h.nx + 1, 0, some 0⟩)), (3, .pointer (some ⟨h.nx + 2, 0, some 0⟩)), (10, .slice a n c), (11, .int .i64 n), (12, .int .i64 (p.1 : Nat))])
   (fun p h' => (Wf h' ∧ Grow h h' ∧ h.nx + 3 ≤ h'.nx ∧ At h' (h.nx + 1) (.cells [.string .empty, .slice none 0 0] 43 2 false) ∧ At h' (h.nx + 2) (.cells [.string nm, p.2] 43 2 false)) ∧ p.1 ≤ n ∧
     ((p.2 = .slice none 0 0 ∧ p.1 = 0) ∨ ∃ b, h.nx + 3 ≤ b ∧ p.2 = .slice (some ⟨b, 0, some 0⟩) p.1 p.1 ∧ At h' b (.cells ((ts.take p.1).flatMap Trc.cells) 47 10 true))) (0, .slice none 0 0) (ai_ ⟨rfl, rfl, rfl, rfl, rfl, trivial⟩) ?_ ?_
 · dsimp only
   exact ⟨⟨aZ_, aD_, z5_A, an_, At.lay z4_A⟩, Nat.zero_le _, .inl ⟨rfl, rfl⟩⟩
 rintro ⟨k, v⟩ h' ⟨⟨hw', hgr, hnx, hat2, hat3⟩, hk, hv⟩
 simp only at hk hv hat3 ⊢
 have hgn := hgr.nx
 by_cases hlt : k < n
 · obtain ⟨ad, h1, h3⟩ := cA_ (s.grow hgr) Tryz.underlying52 ch_ (i := (k : Int)) hlt rfl
   obtain ⟨t, ht⟩ : ∃ t, ts[k]'(by omega) = t := ⟨_, rfl⟩
   have htk : ts.take (k + 1) = ts.take k ++ [t] := by rw [List.take_succ_eq_append_getElem (by omega), ht]
   rw [ht] at h3
   obtain ⟨hd, hole, sa, tn, tc, tl⟩ := t
   dsimp only [Trc.cells] at h3
   rcases hv with ⟨rfl, rfl⟩ | ⟨b, hb, rfl, hatb⟩
   · repeat' (first | with_reducible refine am_ ?_ | ((with_reducible refine al_ ?_); first | ((with_reducible refine ak_ ?_); refine ac_ (ag_ rfl) ?_) | ((with_reducible refine aw_ ?_); refine ac_ (as_ rfl rfl h1) ?_) | ((with_reducible refine au_ ?_); first | refine ac_ (bJ_ rfl Tryz.underlying58 rfl ch_ h3.all) ?_ | refine ac_ (ay_ rfl an_ Tryz.underlying58 rfl ch_ rfl rfl) ?_ | refine ac_ (aq_ rfl an_ Tryz.underlying41 rfl rfl) ?_) | ((with_reducible refine aC_ ?_); refine ac_ (cJ_ rfl rfl (append_nil_eq (M := mz G) (st := 41) (xt := 41) (m := 1) Tryz.underlying41 Tryz.underlying41 rfl cw_ zb47 zz47 rfl (Sl.ofAt an_ rfl (Nat.le_refl _)) rfl (by omega) (by omega))) ?_) | ((with_reducible refine aU_ ?_); refine ac_ (aQ_ zz58 ch_ rfl rfl rfl) ?_) | ((with_reducible refine ap_ ?_); refine ac_ (aa_ (o := 1) rfl Tryz.underlying43 rfl cL_ rfl) ?_) | ((with_reducible refine aG_ ?_); first | refine ci_ (aM_ rfl rfl an_ ch_ rfl rfl rfl rfl) ?_ | refine ci_ (cn_ rfl rfl an_ rfl cL_ rfl rfl rfl) ?_) | ((with_reducible refine av_ ?_); first | refine ac_ (aF_ rfl rfl) ?_ | refine ac_ (aR_ rfl rfl (w64 (by omega) (by omega))) ?_) | ((with_reducible refine ca_ ?_); refine ac_ (cl_ rfl Tryz.underlying41 cw_ zz47 rfl rfl) ?_)) | (with_reducible first | refine ah_ ?_ | refine ao_ ?_ | refine ab_ ?_ | refine az_ ?_ | refine at_ ?_ | refine aP_ ?_) | (refine aK_ rfl (fun hb => ?_) (fun hb => aH_ hb); (try simp only [bj_, reduceCtorEq] at hb)))
     all_goals
       refine aX_ (0 + 1, .slice (some ⟨_, 0, some 0⟩) (0 + 1) (0 + 1)) (by simp only; omega) (ai_ ⟨rfl, rfl, rfl, rfl, rfl, trivial⟩) ⟨⟨aZ_, aD_, by simp only [H.nx_push, H.nx_set, H.nx_bump]; omega, an_, an_⟩, by simp only; omega, .inr ⟨_, ?_, rfl, by rw [htk]; exact an_⟩⟩
       simp only [H.nx_push, H.nx_set, H.nx_bump]; omega
   · have hclen : ((ts.take k).flatMap Trc.cells).length = k * 10 := by rw [bY_, List.length_take]; omega
     have hlb := hatb.lt
     repeat' (first | with_reducible refine am_ ?_ | ((with_reducible refine al_ ?_); first | ((with_reducible refine ak_ ?_); refine ac_ (ag_ rfl) ?_) | ((with_reducible refine aw_ ?_); refine ac_ (as_ rfl rfl h1) ?_) | ((with_reducible refine au_ ?_); first | refine ac_ (bJ_ rfl Tryz.underlying58 rfl ch_ h3.all) ?_ | refine ac_ (ay_ rfl an_ Tryz.underlying58 rfl ch_ rfl rfl) ?_ | refine ac_ (aq_ rfl an_ Tryz.underlying41 rfl rfl) ?_) | ((with_reducible refine aC_ ?_); refine ac_ (cJ_ rfl rfl (append_own_eq (M := mz G) (st := 41) (xt := 41) (m := 1) Tryz.underlying41 Tryz.underlying41 rfl cw_ zb47 zz47 rfl (Sl.ofAt an_ rfl (Nat.le_refl _)) rfl (b := b) (c := (ts.take k).flatMap Trc.cells) an_ hclen (by omega) (by omega))) ?_) | ((with_reducible refine aU_ ?_); refine ac_ (aQ_ zz58 ch_ rfl rfl rfl) ?_) | ((with_reducible refine ap_ ?_); refine ac_ (aa_ (o := 1) rfl Tryz.underlying43 rfl cL_ rfl) ?_) | ((with_reducible refine aG_ ?_); first | refine ci_ (aM_ rfl rfl an_ ch_ rfl rfl rfl rfl) ?_ | refine ci_ (cn_ rfl rfl an_ rfl cL_ rfl rfl rfl) ?_) | ((with_reducible refine av_ ?_); first | refine ac_ (aF_ rfl rfl) ?_ | refine ac_ (aR_ rfl rfl (w64 (by omega) (by omega))) ?_) | ((with_reducible refine ca_ ?_); refine ac_ (cl_ rfl Tryz.underlying41 cw_ zz47 rfl rfl) ?_)) | (with_reducible first | refine ah_ ?_ | refine ao_ ?_ | refine ab_ ?_ | refine az_ ?_ | refine at_ ?_ | refine aP_ ?_) | (refine aK_ rfl (fun hb => ?_) (fun hb => aH_ hb); (try simp only [bj_, reduceCtorEq] at hb)))
     all_goals
       refine aX_ (k + 1, .slice (some ⟨_, 0, some 0⟩) (k + 1) (k + 1)) (by simp only; omega) (ai_ ⟨rfl, rfl, rfl, rfl, rfl, trivial⟩) ⟨⟨aZ_, aD_, by simp only [H.nx_push, H.nx_set, H.nx_kill, H.nx_bump]; omega, an_, an_⟩, by simp only; omega, .inr ⟨_, ?_, rfl, by rw [htk, List.flatMap_append, List.flatMap_singleton]; exact an_⟩⟩
       simp only [H.nx_push, H.nx_set, H.nx_kill, H.nx_bump]; omega
 · have hkn : k = n := by omega
   subst hkn
   rw [List.take_of_length_le (by omega)] at hv
   rcases hv with ⟨rfl, hk0⟩ | ⟨b, hb, rfl, hatb⟩
   · repeat' (first | with_reducible refine am_ ?_ | ((with_reducible refine al_ ?_); first | ((with_reducible refine au_ ?_); refine ac_ (ay_ rfl an_ Tryz.underlying43 rfl ce_ rfl rfl) ?_) | ((with_reducible refine aG_ ?_); refine ci_ (aM_ rfl rfl an_ ce_ rfl rfl rfl rfl) ?_) | ((with_reducible refine av_ ?_); refine ac_ (aF_ rfl rfl) ?_)) | (with_reducible first | refine ah_ ?_ | refine ao_ ?_ | refine ab_ ?_ | refine aA_ ?_ | refine be_ ?_ | refine bf_ ?_ | refine bi_ ?_) | refine bS_ rfl ?_ | (refine aK_ rfl (fun hb => ?_) (fun hb => ?_) <;> (try simp only [bj_, reduceCtorEq] at hb) <;> (try (exfalso; omega))))
     refine rqc1 rfl (ldAgg an_ Tryz.underlying43 rfl ce_ rfl rfl) ⟨⟨none, 0, ?_, ⟨?_, hlen, fun t ht => (s.ok t ht).grow aD_⟩⟩, aD_⟩
     · rw [hk0]
     · have : ts = [] := List.length_eq_zero_iff.1 (by omega)
       subst this
       rw [hk0]; exact .nil
   · repeat' (first | with_reducible refine am_ ?_ | ((with_reducible refine al_ ?_); first | ((with_reducible refine au_ ?_); refine ac_ (ay_ rfl an_ Tryz.underlying43 rfl ce_ rfl rfl) ?_) | ((with_reducible refine aG_ ?_); refine ci_ (aM_ rfl rfl an_ ce_ rfl rfl rfl rfl) ?_) | ((with_reducible refine av_ ?_); refine ac_ (aF_ rfl rfl) ?_)) | (with_reducible first | refine ah_ ?_ | refine ao_ ?_ | refine ab_ ?_ | refine aA_ ?_ | refine be_ ?_ | refine bf_ ?_ | refine bi_ ?_) | refine bS_ rfl ?_ | (refine aK_ rfl (fun hb => ?_) (fun hb => ?_) <;> (try simp only [bj_, reduceCtorEq] at hb) <;> (try (exfalso; omega))))
     exact rqc1 rfl (ldAgg an_ Tryz.underlying43 rfl ce_ rfl rfl) ⟨⟨_, _, rfl, ⟨Sl.ofAt an_ (by rw [bY_, hlen]) (Nat.le_refl _), hlen, fun t ht => (s.ok t ht).grow aD_⟩⟩, aD_⟩
theorem copy45 {h0 : H} {v : Value} {n : Nat} {l : List Nat} (s : Sl G h0 1 v n (l.map (.float .f32))) (hn : n < 1000000) (g : H) (B : Nat) (hat : At g B (.cells [] 23 1 false)) (hg : Grow h0 g) :
   ∃ r h2, aappend (mz G).P (mz G).G g 45 45 (.slice (some ⟨B, 0, some 0⟩) 0 0) v = some (r, h2) ∧ ((∃ b sf, r = .slice (some ⟨b, 0, some 0⟩) n n ∧ B ≤ b ∧ At h2 b (.cells (l.map (.float .f32)) 23 1 sf)) ∧ Grow g h2) := by
 obtain ⟨r, h2, e, q, g2, _⟩ := append_copy2 (M := mz G) (st := 45) (xt := 45) (h := g) Tryz.underlying45 Tryz.underlying45 rfl zs23 zb23 zz23 rfl hat (s.grow hg) (all_one_map (fun _ => rfl) l) (by omega)
 exact ⟨r, h2, e, q, g2⟩
theorem TrAt.at10 {h : H} {lo B : Nat} {t : Trc} {c : List Value} {e : TypeId} {s : Bool} (o : TrAt h lo t) (hB : At h B (.cells c e 10 s)) (ob : AObj) : TrAt (h.set B ob) lo t := by
 obtain ⟨b, sf, e1, e2, e3⟩ := o.at'
 have : b ≠ B := fun q => by
   subst q
   have := e3.get.symm.trans hB.get
   simp at this
 exact ⟨⟨b, sf, e1, e2, e3.set_ne this _⟩, o.len, o.cap⟩
set_option maxHeartbeats 4000000 in
theorem c83p {nm : ByteArray} {a : Option Addr} {n c : Nat} {ts : List Trc} (s : SlT G h (.slice a n c) n ts) (hn : n ≤ 65) (hn0 : 0 < n) (hl : ∀ t ∈ ts, t.n < 1000000) (hw : Wf h) : Cf (mz G) (.func (.func 83) #[] #[]) [.agg ⟨shC nm a n c⟩] h fun r h' => (∃ (B : Nat) (us : List Trc), r = .agg ⟨shC nm (some ⟨B, 0, some 0⟩) n n⟩ ∧ h.nx + 3 ≤ B ∧ At h' B (.cells (us.flatMap Trc.cells) 47 10 true) ∧ (∀ t ∈ us, TrAt h' (h.nx + 3) t) ∧ us.map Trc.key = ts.map Trc.key ∧ us.Pairwise (fun t u => t.sa ≠ u.sa)) ∧ Grow h h' := by
 have hlen := s.len
 refine ar_ 33 [.cell 2 43] Tryz.func83 rfl rfl rfl rfl ?_
 repeat' (first | with_reducible refine am_ ?_ | ((with_reducible refine al_ ?_); first | ((with_reducible refine ae_ ?_); refine ac_ (ad_ rfl) ?_) | ((with_reducible refine bw_ ?_); refine ac_ (aL_ rfl ce_ rfl) ?_) | ((with_reducible refine aU_ ?_); refine ac_ (aQ_ zz43 ce_ rfl rfl rfl) ?_) | ((with_reducible refine ap_ ?_); refine ac_ (aa_ (o := 0) rfl Tryz.underlying43 rfl zs9 rfl) ?_) | ((with_reducible refine au_ ?_); refine ac_ (aq_ rfl an_ Tryz.underlying9 rfl rfl) ?_) | ((with_reducible refine ik_build ?_); refine ac_ (cz_ rfl zz43 zp43 rfl rfl) ?_) | ((with_reducible refine aG_ ?_); refine ci_ (aM_ rfl rfl an_ ce_ rfl rfl rfl rfl) ?_)) | (with_reducible first | refine ah_ ?_ | refine ao_ ?_ | refine ab_ ?_ | refine at_ ?_))
 refine bq_ (fun p : Nat × Value × List Trc => n - p.1) (fun p => [(1, .pointer (some ⟨h.nx, 0, some 0⟩)), (2, .pointer (some ⟨h.nx + 1, 0, some 0⟩)), (3, .pointer (some ⟨h.nx + 2, 0, some 0⟩)), (4, .int .i64 (p.1 : Nat))])
   (fun p h' => (Wf h' ∧ Grow h h' ∧ h.nx + 3 ≤ h'.nx ∧ At h' h.nx (.cells (shC nm a n c) 43 2 false) ∧ At h' (h.nx + 1) (.cells [.string .empty, .slice none 0 0] 43 2 false) ∧ At h' (h.nx + 2) (.cells [.string nm, p.2.1] 43 2 false)) ∧ p.1 ≤ n ∧ p.2.2.length = p.1 ∧ (∀ t ∈ p.2.2, TrAt h' (h.nx + 3) t) ∧
     ((p.2.1 = .slice none 0 0 ∧ p.1 = 0) ∨ ∃ b, h.nx + 3 ≤ b ∧ p.2.1 = .slice (some ⟨b, 0, some 0⟩) p.1 p.1 ∧ At h' b (.cells (p.2.2.flatMap Trc.cells) 47 10 true)) ∧ p.2.2.map Trc.key = (ts.take p.1).map Trc.key ∧ p.2.2.Pairwise (fun t u => t.sa ≠ u.sa)) (0, .slice none 0 0, []) (ai_ ⟨rfl, rfl, rfl, rfl, trivial⟩) ?_ ?_
 · dsimp only
   exact ⟨⟨aZ_, aD_, z5_A, an_, an_, At.lay z4_A⟩, Nat.zero_le _, rfl, (fun t ht => by cases ht), .inl ⟨rfl, rfl⟩, rfl, .nil⟩
 rintro ⟨k, v, us⟩ h' ⟨⟨hw', hgr, hnx, hat1, hat2, hat3⟩, hk, hul, hut, hv, hky, hpw⟩
 simp only at hk hul hut hv hky hat3 hpw ⊢
 have hgn := hgr.nx
 by_cases hlt : k < n
 · obtain ⟨ad, h1, h3⟩ := cA_ (s.grow hgr) Tryz.underlying41 cw_ (i := (k : Int)) hlt rfl
   have hm : ts[k]'(by omega) ∈ ts := List.getElem_mem _
   obtain ⟨t, ht⟩ : ∃ t, ts[k]'(by omega) = t := ⟨_, rfl⟩
   rw [ht] at h3 hm
   have qap := copy45 (G := G) ((s.ok t hm).sl) (hl t hm)
   have hsl := ((s.ok t hm).sl).length
   obtain ⟨hd, hole, sa, tn, tc, tl⟩ := t
   dsimp only [Trc.cells] at h3 qap hsl
   simp at hsl
   rcases hv with ⟨rfl, rfl⟩ | ⟨b, hb, rfl, hatb⟩
   · repeat' (first | with_reducible refine am_ ?_ | ((with_reducible refine al_ ?_); first | ((with_reducible refine ak_ ?_); refine ac_ (ag_ rfl) ?_) | ((with_reducible refine ae_ ?_); refine ac_ (ad_ rfl) ?_) | ((with_reducible refine aw_ ?_); refine ac_ (as_ rfl rfl h1) ?_) | ((with_reducible refine au_ ?_); first | refine ac_ (bJ_ rfl Tryz.underlying47 rfl cw_ h3.all) ?_ | refine ac_ (aq_ rfl an_ Tryz.underlying41 rfl rfl) ?_ | refine ac_ (ay_ rfl an_ Tryz.underlying47 rfl cw_ rfl rfl) ?_ | refine ac_ (aq_ rfl an_ Tryz.underlying45 rfl rfl) ?_) | ((with_reducible refine aC_ ?_); first | refine ac_ (cJ_ rfl rfl (append_nil_eq (M := mz G) (st := 41) (xt := 41) (m := 1) Tryz.underlying41 Tryz.underlying41 rfl cw_ zb47 zz47 rfl (Sl.ofAt an_ rfl (Nat.le_refl _)) rfl (by omega) (by omega))) ?_ | refine ac_ (ax_ rfl Tryz.underlying41) ?_) | ((with_reducible refine aU_ ?_); refine ac_ (aQ_ zz47 cw_ rfl rfl rfl) ?_) | ((with_reducible refine ap_ ?_); first | refine ac_ (aa_ (o := 1) rfl Tryz.underlying43 rfl cL_ rfl) ?_ | refine ac_ (aa_ (o := 9) rfl Tryz.underlying47 rfl zs45 rfl) ?_) | ((with_reducible refine aG_ ?_); first | refine ci_ (aM_ rfl rfl an_ cw_ rfl rfl rfl rfl) ?_ | refine ci_ (cn_ rfl rfl an_ rfl zs45 rfl rfl rfl) ?_) | ((with_reducible refine av_ ?_); first | refine ac_ (aF_ rfl rfl) ?_ | refine ac_ (aR_ rfl rfl (w64 (by omega) (by omega))) ?_) | ((with_reducible refine ca_ ?_); first | refine ac_ (cl_ rfl Tryz.underlying45 zs23 zz23 rfl rfl) ?_ | refine ac_ (cl_ rfl Tryz.underlying41 cw_ zz47 rfl rfl) ?_)) | (with_reducible first | refine ah_ ?_ | refine ao_ ?_ | refine ab_ ?_ | refine az_ ?_ | refine at_ ?_ | refine aP_ ?_) | (refine aK_ rfl (fun hb => ?_) (fun hb => aH_ hb); (try simp only [bj_, reduceCtorEq] at hb)) | (with_reducible refine al_ ?_; with_reducible refine aC_ ?_; refine wo_opx rfl (opx_app rfl rfl (qap _ _ an_ aD_)) rfl rfl ?_; rintro _ _ ⟨⟨b1, sf1, rfl, hb1, hatS⟩, hq⟩; have hqn := hq.nx; (try simp only [bG_] at hqn hb1)))
     all_goals
       refine aX_ (0 + 1, .slice (some ⟨_, 0, some 0⟩) (0 + 1) (0 + 1), [⟨hd, hole, some ⟨b1, 0, some 0⟩, tn, tn, tl⟩]) (by simp only; omega) (ai_ ⟨rfl, rfl, rfl, rfl, trivial⟩) ⟨⟨aZ_, aD_, by simp only [bG_] at hqn ⊢; omega, an_, an_, an_⟩, by simp only; omega, rfl, fun t ht => ?_, .inr ⟨_, ?_, rfl, an_⟩, ?_, List.pairwise_singleton _ _⟩
       · simp only [List.mem_singleton] at ht
         subst ht
         have e4 := hatS.lt
         exact ⟨⟨b1, sf1, rfl, by omega, an_⟩, hsl, rfl⟩
       · simp only [H.nx_push, H.nx_set, H.nx_bump]; omega
       · rw [List.take_succ_eq_append_getElem (by omega), ht]; simp [Trc.key]
   · have hclen : (us.flatMap Trc.cells).length = k * 10 := by rw [bY_, hul]
     have hlb := hatb.lt
     repeat' (first | with_reducible refine am_ ?_ | ((with_reducible refine al_ ?_); first | ((with_reducible refine ak_ ?_); refine ac_ (ag_ rfl) ?_) | ((with_reducible refine ae_ ?_); refine ac_ (ad_ rfl) ?_) | ((with_reducible refine aw_ ?_); refine ac_ (as_ rfl rfl h1) ?_) | ((with_reducible refine au_ ?_); first | refine ac_ (bJ_ rfl Tryz.underlying47 rfl cw_ h3.all) ?_ | refine ac_ (aq_ rfl an_ Tryz.underlying41 rfl rfl) ?_ | refine ac_ (ay_ rfl an_ Tryz.underlying47 rfl cw_ rfl rfl) ?_ | refine ac_ (aq_ rfl an_ Tryz.underlying45 rfl rfl) ?_) | ((with_reducible refine aC_ ?_); first | refine ac_ (cJ_ rfl rfl (append_own_eq (M := mz G) (st := 41) (xt := 41) (m := 1) Tryz.underlying41 Tryz.underlying41 rfl cw_ zb47 zz47 rfl (Sl.ofAt an_ rfl (Nat.le_refl _)) rfl (b := b) (c := us.flatMap Trc.cells) an_ hclen (by omega) (by omega))) ?_ | refine ac_ (ax_ rfl Tryz.underlying41) ?_) | ((with_reducible refine aU_ ?_); refine ac_ (aQ_ zz47 cw_ rfl rfl rfl) ?_) | ((with_reducible refine ap_ ?_); first | refine ac_ (aa_ (o := 1) rfl Tryz.underlying43 rfl cL_ rfl) ?_ | refine ac_ (aa_ (o := 9) rfl Tryz.underlying47 rfl zs45 rfl) ?_) | ((with_reducible refine aG_ ?_); first | refine ci_ (aM_ rfl rfl an_ cw_ rfl rfl rfl rfl) ?_ | refine ci_ (cn_ rfl rfl an_ rfl zs45 rfl rfl rfl) ?_) | ((with_reducible refine av_ ?_); first | refine ac_ (aF_ rfl rfl) ?_ | refine ac_ (aR_ rfl rfl (w64 (by omega) (by omega))) ?_) | ((with_reducible refine ca_ ?_); first | refine ac_ (cl_ rfl Tryz.underlying45 zs23 zz23 rfl rfl) ?_ | refine ac_ (cl_ rfl Tryz.underlying41 cw_ zz47 rfl rfl) ?_)) | (with_reducible first | refine ah_ ?_ | refine ao_ ?_ | refine ab_ ?_ | refine az_ ?_ | refine at_ ?_ | refine aP_ ?_) | (refine aK_ rfl (fun hb => ?_) (fun hb => aH_ hb); (try simp only [bj_, reduceCtorEq] at hb)) | (with_reducible refine al_ ?_; with_reducible refine aC_ ?_; refine wo_opx rfl (opx_app rfl rfl (qap _ _ an_ aD_)) rfl rfl ?_; rintro _ _ ⟨⟨b1, sf1, rfl, hb1, hatS⟩, hq⟩; have hqn := hq.nx; (try simp only [bG_] at hqn hb1)))
     all_goals
       refine aX_ (k + 1, .slice (some ⟨_, 0, some 0⟩) (k + 1) (k + 1), us ++ [⟨hd, hole, some ⟨b1, 0, some 0⟩, tn, tn, tl⟩]) (by simp only; omega) (ai_ ⟨rfl, rfl, rfl, rfl, trivial⟩) ⟨⟨aZ_, aD_, by simp only [H.nx_push, H.nx_set, H.nx_kill, H.nx_bump] at hqn ⊢; omega, an_, an_, an_⟩, by simp only; omega, by simp [hul], fun t ht => ?_, .inr ⟨_, ?_, rfl, by rw [List.flatMap_append, List.flatMap_singleton]; exact an_⟩, ?_, List.pairwise_append.2 ⟨hpw, List.pairwise_singleton _ _, fun t ht u hu => ?_⟩⟩
       · rcases List.mem_append.1 ht with ht | ht
         · have o := hut t ht
           obtain ⟨bt, sf, e1, e2, e3⟩ := o.at'
           have e4 := e3.lt
           have e5 : bt ≠ b := fun q => by
             subst q
             have := e3.get.symm.trans hatb.get
             simp at this
           exact ⟨⟨bt, sf, e1, e2, an_⟩, o.len, o.cap⟩
         · simp only [List.mem_singleton] at ht
           subst ht
           have e4 := hatS.lt
           exact ⟨⟨b1, sf1, rfl, by omega, an_⟩, hsl, rfl⟩
       · simp only [H.nx_push, H.nx_set, H.nx_kill, H.nx_bump]; omega
       · rw [List.take_succ_eq_append_getElem (by omega), ht, List.map_append, List.map_append, hky]; simp [Trc.key]
       · obtain ⟨bt, sf, e1, _, e3⟩ := (hut t ht).at'
         have e4 := e3.lt
         simp only [List.mem_singleton] at hu
         subst hu
         rw [e1]
         intro q
         simp only [Option.some.injEq, Addr.mk.injEq, and_true] at q
         omega
 · have hkn : k = n := by omega
   subst hkn
   rw [List.take_of_length_le (by omega)] at hky
   rcases hv with ⟨rfl, hk0⟩ | ⟨b, hb, rfl, hatb⟩
   · omega
   · repeat' (first | with_reducible refine am_ ?_ | ((with_reducible refine al_ ?_); first | ((with_reducible refine ak_ ?_); refine ac_ (ag_ rfl) ?_) | ((with_reducible refine ap_ ?_); refine ac_ (aa_ (o := 1) rfl Tryz.underlying43 rfl cL_ rfl) ?_) | ((with_reducible refine au_ ?_); first | refine ac_ (aq_ rfl an_ Tryz.underlying41 rfl rfl) ?_ | refine ac_ (ay_ rfl an_ Tryz.underlying43 rfl ce_ rfl rfl) ?_) | ((with_reducible refine aG_ ?_); refine ci_ (aM_ rfl rfl an_ ce_ rfl rfl rfl rfl) ?_) | ((with_reducible refine aC_ ?_); refine ac_ (ax_ rfl Tryz.underlying41) ?_) | ((with_reducible refine av_ ?_); refine ac_ (aF_ rfl rfl) ?_)) | (with_reducible first | refine ah_ ?_ | refine ao_ ?_ | refine ab_ ?_ | refine aA_ ?_ | refine be_ ?_ | refine bf_ ?_ | refine bi_ ?_) | refine bS_ rfl ?_ | (refine aK_ rfl (fun hb => aH_ hb) (fun hb => ?_); (try simp only [bj_, reduceCtorEq] at hb)))
     all_goals exact rqc1 rfl (ldAgg an_ Tryz.underlying43 rfl ce_ rfl rfl) ⟨⟨_, us, rfl, by omega, an_, fun t ht => (hut t ht).set (by omega) _, hky, hpw⟩, aD_⟩
theorem c83 {nm : ByteArray} {a : Option Addr} {n c : Nat} {ts : List Trc} (s : SlT G h (.slice a n c) n ts) (hn : n ≤ 65) (hn0 : 0 < n) (hl : ∀ t ∈ ts, t.n < 1000000) (hw : Wf h) : Cf (mz G) (.func (.func 83) #[] #[]) [.agg ⟨shC nm a n c⟩] h fun r h' => (∃ (B : Nat) (us : List Trc), r = .agg ⟨shC nm (some ⟨B, 0, some 0⟩) n n⟩ ∧ h.nx + 3 ≤ B ∧ At h' B (.cells (us.flatMap Trc.cells) 47 10 true) ∧ (∀ t ∈ us, TrAt h' (h.nx + 3) t) ∧ us.map Trc.key = ts.map Trc.key) ∧ Grow h h' :=
 (c83p (nm := nm) s hn hn0 hl hw).mono fun r h' ⟨⟨B, us, a, b, c, d, e, _⟩, g⟩ => ⟨⟨B, us, a, b, c, d, e⟩, g⟩
end Go.Proofs.YthnnndkfpamacaaGreatDoor
/- A shot, changed by the program: each trace that is no hole by a function of her integers. -/
namespace Go.Proofs.YthnnndkfpamacaaGreatDoor
open Go Go.Ab Go.Fl
attribute [local irreducible] SeqQ BlkQ LpQ RetQ Wc Wo WD WX Op1 Op1q Op1a Cf Cl From
attribute [local irreducible] Ieee.Format.order Ieee.Format.read Ieee.Format.nearest Ieee.Format.write Ieee.Format.mul Ieee.Format.div Ieee.Datum.order Ieee.Datum.integral smpE smp smpW K J U trE hdrE lchk firstNZ isNameB wid mism shE offs shortB anyLarge
set_option maxRecDepth 10000
variable {G : Base} {h : H}
abbrev Key := (Nat → Int) × Bool × Nat × List Nat
def TrN (h : H) (lo : Nat) (t : Trc) : Prop := (t.sa = none ∧ t.n = 0 ∧ t.c = 0 ∧ t.l = []) ∨ TrAt h lo t
theorem TrN.grow {h h' : H} {lo : Nat} {t : Trc} (o : TrN h lo t) (g : Grow h h') : TrN h' lo t := o.imp id fun o => o.grow g
theorem TrN.set {h : H} {lo B : Nat} {t : Trc} (o : TrN h lo t) (hB : B < lo) (ob : AObj) : TrN (h.set B ob) lo t := o.imp id fun o => o.set hB ob
theorem TrAt.kill {h : H} {lo B : Nat} {t : Trc} (o : TrAt h lo t) (hB : B < lo) : TrAt (h.kill B) lo t := by
 obtain ⟨b, sf, e1, e2, e3⟩ := o.at'
 exact ⟨⟨b, sf, e1, e2, e3.kill_ne (by omega)⟩, o.len, o.cap⟩
theorem TrN.kill {h : H} {lo B : Nat} {t : Trc} (o : TrN h lo t) (hB : B < lo) : TrN (h.kill B) lo t := o.imp id fun o => o.kill hB
theorem TrN.at10 {h : H} {lo B : Nat} {t : Trc} {c : List Value} {e : TypeId} {s : Bool} (o : TrN h lo t) (hB : At h B (.cells c e 10 s)) (ob : AObj) : TrN (h.set B ob) lo t := o.imp id fun o => o.at10 hB ob
theorem TrN.le {h : H} {lo lo' : Nat} {t : Trc} (o : TrN h lo t) (hl : lo' ≤ lo) : TrN h lo' t := o.imp id fun o => o.le hl
theorem TrN.push {h : H} {lo : Nat} {t : Trc} (o : TrN h lo t) (ob : AObj) : TrN (h.push ob) lo t := o.grow ((Grow.refl _).push _)
theorem TrN.bumpB {h : H} {lo k : Nat} {t : Trc} (o : TrN h lo t) : TrN (h.bump k) lo t := o.grow ((Grow.refl _).bumpB _)
theorem TrN.ok {h : H} {lo : Nat} {t : Trc} (o : TrN h lo t) : TrOk G h t := by
 rcases o with ⟨e1, e2, e3, e4⟩ | o
 · refine ⟨?_⟩
   rw [e1, e2, e3, e4]
   exact .nil
 · exact o.ok
theorem flat_one : ∀ ts : List Trc, (ts.flatMap Trc.cells).all one = true
 | [] => rfl
 | t :: ts => by rw [List.flatMap_cons, List.all_append, flat_one ts]; rfl
theorem flat_set {v : Value} {j : Nat} (hj : j < 10) : ∀ (us : List Trc) (k : Nat) (hk : k < us.length) (u' : Trc), u'.cells = (us[k]).cells.set j v → (us.flatMap Trc.cells).set (k * 10 + j) v = (us.set k u').flatMap Trc.cells
 | u :: us, 0, _, u', e => by
   simp only [List.set_cons_zero, List.flatMap_cons, List.getElem_cons_zero] at e ⊢
   rw [Nat.zero_mul, Nat.zero_add, List.set_append_left _ _ (by simpa using hj), e]
 | u :: us, k + 1, hk, u', e => by
   simp only [List.set_cons_succ, List.flatMap_cons, List.getElem_cons_succ] at e ⊢
   rw [← flat_set hj us k (by simpa using hk) u' e, List.set_append_right _ _ (by simp; omega)]
   congr 1
   have : (k + 1) * 10 + j - u.cells.length = k * 10 + j := by simp; omega
   rw [this]
def nilT (t : Trc) : Trc := ⟨t.hd, t.hole, none, 0, 0, []⟩
theorem nilT_cells (t : Trc) : (nilT t).cells = t.cells.set 9 (.slice none 0 0) := rfl
theorem nil_step {ts : List Trc} {k : Nat} (hk : k < ts.length) : (((ts.take k).map nilT ++ ts.drop k).flatMap Trc.cells).set (k * 10 + 9) (.slice none 0 0) = ((ts.take (k + 1)).map nilT ++ ts.drop (k + 1)).flatMap Trc.cells := by
 have hl : ((ts.take k).map nilT).length = k := by simp; omega
 have hg : ((ts.take k).map nilT ++ ts.drop k)[k]'(by simp; omega) = ts[k] := by
   rw [List.getElem_append_right (by omega)]
   simp [Nat.min_eq_left (Nat.le_of_lt hk)]
 rw [flat_set (by omega) _ k (by simp; omega) (nilT ts[k]) (by rw [hg]; exact nilT_cells _)]
 congr 1
 have hd : ts.drop k = ts[k] :: ts.drop (k + 1) := List.drop_eq_getElem_cons hk
 rw [List.take_succ_eq_append_getElem hk, List.map_append, List.set_append_right _ _ (by omega), hl, Nat.sub_self, hd, List.set_cons_zero]
 simp
theorem copy_all0 {M : Mc} {h : H} {t e : TypeId} {b n es : Nat} {c : List Value} {s : Bool} {w : Value} {new : List Value} (h0 : 0 < n) (hu : M.P.underlying t = some (.slice e)) (hn : tsz M.P e = some es) (hat : At h b (.cells c e es s)) (hcl : c.length = n * es) (sl : Sl M.G h es w n new) (hone : new.all one = true) (hes : es ≠ 0) :
   acopy M.P M.G h t (.slice (some ⟨b, 0, some 0⟩) n n) w = some (.int .i64 n, h.set b (.cells new e es s)) := by
 rw [copy_all hu hn hat hcl sl hone hes, if_neg (by omega)]
def chKey (F : Nat → List Int → List Int) (i : Nat) (t : Trc) : Key := if t.hole = true then (t.hd, true, 0, []) else (t.hd, false, (F i (t.l.map smp)).length, (F i (t.l.map smp)).map smpW)
def nilK (t : Trc) : Key := (t.hd, t.hole, 0, [])
def KeyAll (us ts : List Trc) (K : Nat → Trc → Key) : Prop := us.length = ts.length ∧ ∀ i (q : i < us.length) (q' : i < ts.length), (us[i]).key = K i ts[i]
def ChBad (F : Nat → List Int → List Int) (ts : List Trc) : Prop := ∃ i, ∃ q : i < ts.length, (ts[i]).hole = false ∧ anyLarge (F i ((ts[i]).l.map smp)) = true
def ClosOk (G : Base) (h : H) (fv : Value) (ts : List Trc) (F : Nat → List Int → List Int) : Prop :=
 ∀ k (q : k < ts.length), (ts[k]).hole = false → ((F k ((ts[k]).l.map smp)).length < 1000000 ∧ ∀ x ∈ F k ((ts[k]).l.map smp), x.natAbs ≤ 1000000000000) ∧
   ∀ (g0 g : H), Grow h g0 → Wf g0 → Grow g0 g → At g g0.nx (.cells (((ts[k]).l.map smp).map (.int .i64)) 3 1 false) →
   Cf (mz G) fv [.int .i64 k, .slice (some ⟨g0.nx, 0, some 0⟩) (ts[k]).n (ts[k]).n] g fun r g' => (∃ a c, r = .slice a (F k ((ts[k]).l.map smp)).length c ∧ Sl G g' 1 (.slice a (F k ((ts[k]).l.map smp)).length c) (F k ((ts[k]).l.map smp)).length ((F k ((ts[k]).l.map smp)).map (.int .i64))) ∧ Grow g0 g'
theorem keys_set {us ts : List Trc} {K K' : Nat → Trc → Key} {k : Nat} {u : Trc} (ka : KeyAll us ts K) (hk : k < ts.length) (hu : u.key = K' k ts[k]) (ho : ∀ i (q : i < ts.length), i ≠ k → K i ts[i] = K' i ts[i]) : KeyAll (us.set k u) ts K' := by
 refine ⟨by rw [List.length_set]; exact ka.1, fun i q q' => ?_⟩
 rw [List.getElem_set]
 split
 · rename_i e; subst e; exact hu
 · rename_i e
   rw [ka.2 i (by rw [List.length_set] at q; exact q) q']
   exact ho i q' (fun z => e z.symm)
theorem keys_same {us ts : List Trc} {K K' : Nat → Trc → Key} (ka : KeyAll us ts K) (ho : ∀ i (q : i < ts.length), K i ts[i] = K' i ts[i]) : KeyAll us ts K' :=
 ⟨ka.1, fun i q q' => by rw [ka.2 i q q']; exact ho i q'⟩
theorem set_mem {us : List Trc} {k : Nat} {u : Trc} {p : Trc → Prop} (h : ∀ t ∈ us, p t) (hu : p u) : ∀ t ∈ us.set k u, p t := fun t ht => by
 rcases List.mem_or_eq_of_mem_set ht with h1 | rfl
 · exact h t h1
 · exact hu
@[reducible] def zShot : List Value := [.string .empty, .slice none 0 0]
def chgE (F : Nat → List Int → List Int) (K : Nat) (i : Nat) (t : Trc) : Key := if i < K then chKey F i t else nilK t
theorem chg_hole {F : Nat → List Int → List Int} {k i : Nat} {t : Trc} (h : i = k → t.hole = true) : chgE F k i t = chgE F (k + 1) i t := by
 unfold chgE
 by_cases h1 : i < k
 · rw [if_pos h1, if_pos (by omega)]
 · rw [if_neg h1]
   by_cases h2 : i = k
   · rw [if_pos (by omega), chKey, if_pos (h h2), nilK, h h2]
   · rw [if_neg (by omega)]
end Go.Proofs.YthnnndkfpamacaaGreatDoor
