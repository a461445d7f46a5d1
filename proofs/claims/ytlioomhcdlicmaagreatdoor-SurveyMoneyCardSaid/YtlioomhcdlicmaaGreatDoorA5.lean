/- Regions that draw their order: what the evaluator answers is what the machine does in each order. -/
import Derived.Test.YtlioomhcdlicmaaGreatDoorA4
import Derived.Orders
set_option linter.all false
namespace Go.Ab
open Go
variable {P : Program} {B : Nat} {G : Base}
theorem Rep.forget {ρ : Ctx} {h h2 : H} {w : World} (R : Rep B G ρ h w) (hnx : h2.nx = h.nx) (hg : ∀ x o, h2.get x = some o → h.get x = some o) : Rep B G ρ h2 w := by
 have hs : ∀ x, (h2.get x).isSome = true → (h.get x).isSome = true := fun x hx => by
   obtain ⟨o, ho⟩ := Option.isSome_iff_exists.1 hx
   rw [hg x o ho]; rfl
 exact ⟨R.base, fun n o e => R.own n o (hg n o e), fun n m i j e1 e2 g1 g2 e => R.inj n m i j e1 e2 (hs n g1) (hs m g2) e, fun n i e => by rw [hnx]; exact R.fresh n i e, fun n g => by rw [hnx]; exact R.names n (hs n g)⟩
theorem Live.grow {ρ : Ctx} {h h2 : H} {r : Nat} (hg : ∀ x o, h2.get x = some o → h.get x = some o) (l : Live ρ h2 r) : Live ρ h r := by
 obtain ⟨n, i, g1, g2, g3⟩ := l
 obtain ⟨o, ho⟩ := Option.isSome_iff_exists.1 g1
 exact ⟨n, i, by rw [hg n o ho]; rfl, g2, g3⟩
theorem Rep.remember {ρ ρ' : Ctx} {h hs h' hf : H} {w w' : World} (R : Rep B G ρ h w) (hn0 : hs.nx = h.nx) (hsub : ∀ x o, hs.get x = some o → h.get x = some o) (S : Step ρ hs w ρ' h' w') (R' : Rep B G ρ' h' w')
   (hnx : hf.nx = h'.nx) (hf1 : ∀ x o, hf.get x = some o → h'.get x = some o ∨ (h.get x = some o ∧ hs.get x = none)) :
   Rep B G ρ' hf w' ∧ (∀ r, r < w.heap.size → Live ρ' hf r → Live ρ h r) := by
 have hsub' : Sub ρ ρ' := fun n k e => by rw [S.sub n (by rw [hn0]; exact R.fresh n k e)]; exact e
 have keep : ∀ x o, h.get x = some o → hs.get x = none → ∃ i o', ρ x = some i ∧ ρ' x = some i ∧ B ≤ i.blk ∧ i.blk < w.heap.size ∧ w'.heap[i.blk]? = some o' ∧ ORel ρ' i o o' ∧ ¬ Live ρ hs i.blk := by
   intro x o hx hn
   obtain ⟨i, o', g1, g2, g3, g4⟩ := R.own x o hx
   have hb := (Array.getElem?_eq_some_iff.1 g3).1
   have hnl : ¬ Live ρ hs i.blk := by
     rintro ⟨m, j, q1, q2, q3⟩
     obtain ⟨o2, ho2⟩ := Option.isSome_iff_exists.1 q1
     have := R.inj m x j i q2 g1 (by rw [hsub m o2 ho2]; rfl) (by rw [hx]; rfl) q3
     subst this
     rw [hn] at ho2; cases ho2
   exact ⟨i, o', g1, hsub' _ _ g1, g2, hb, by rw [S.frame _ hb hnl]; exact g3, g4.mono hsub', hnl⟩
 refine ⟨⟨R'.base, fun x o e => ?_, fun n m i j e1 e2 g1 g2 e => ?_, fun n i e => by rw [hnx]; exact R'.fresh n i e, fun n g => ?_⟩, ?_⟩
 · rcases hf1 x o e with e | ⟨e, en⟩
   · exact R'.own x o e
   · obtain ⟨i, o', q1, q2, q3, q4, q5, q6, _⟩ := keep x o e en
     exact ⟨i, o', q2, q3, q5, q6⟩
 · obtain ⟨o1, ho1⟩ := Option.isSome_iff_exists.1 g1
   obtain ⟨o2, ho2⟩ := Option.isSome_iff_exists.1 g2
   have cross : ∀ (x y : Nat) (ix iy : Info) (o o2 : AObj), ρ' x = some ix → ρ' y = some iy → h.get x = some o → hs.get x = none → h'.get y = some o2 → ix.blk ≠ iy.blk := by
     intro x y ix iy o o2 hx hy e en ey heq
     obtain ⟨k, o', q1, q2, q3, q4, q5, q6, q7⟩ := keep x o e en
     rw [q2] at hx; cases hx
     exact q7 (S.live _ q4 ⟨y, iy, by rw [ey]; rfl, hy, heq.symm⟩)
   rcases hf1 n o1 ho1 with a1 | ⟨a1, b1⟩ <;> rcases hf1 m o2 ho2 with a2 | ⟨a2, b2⟩
   · exact R'.inj n m i j e1 e2 (by rw [a1]; rfl) (by rw [a2]; rfl) e
   · exact absurd e.symm (cross m n j i o2 o1 e2 e1 a2 b2 a1)
   · exact absurd e (cross n m i j o1 o2 e1 e2 a1 b1 a2)
   · obtain ⟨k1, _, q1, q2, _⟩ := keep n o1 a1 b1
     obtain ⟨k2, _, p1, p2, _⟩ := keep m o2 a2 b2
     rw [q2] at e1; cases e1
     rw [p2] at e2; cases e2
     exact R.inj n m _ _ q1 p1 (by rw [a1]; rfl) (by rw [a2]; rfl) e
 · rw [hnx]
   obtain ⟨o, ho⟩ := Option.isSome_iff_exists.1 g
   rcases hf1 n o ho with a | ⟨a, b⟩
   · exact R'.names n (by rw [a]; rfl)
   · have := R.names n (by rw [a]; rfl)
     have := S.nx
     omega
 · rintro r hr ⟨n, i, g1, g2, g3⟩
   obtain ⟨o, ho⟩ := Option.isSome_iff_exists.1 g1
   rcases hf1 n o ho with a | ⟨a, b⟩
   · exact (S.live r hr ⟨n, i, by rw [a]; rfl, g2, g3⟩).grow hsub
   · obtain ⟨k, _, q1, q2, _⟩ := keep n o a b
     rw [q2] at g2; cases g2
     exact ⟨n, _, by rw [a]; rfl, q1, g3⟩
theorem Rep.allocAt {ρ : Ctx} {h : H} {w : World} (R : Rep B G ρ h w) {N : Nat} (hN : ρ N = none) (hlt : N < h.nx) (i : Info) (o : AObj) (o' : Obj) (hi : i.blk = w.heap.size)
   (ho : ORel ρ i o o') {w1 : World} (hw : w1.heap = w.heap.push o') :
   Sub ρ (fun n => if n = N then some i else ρ n) ∧ Rep B G (fun n => if n = N then some i else ρ n) (h.set N o) w1 ∧ (∀ r, r < w.heap.size → Live (fun n => if n = N then some i else ρ n) (h.set N o) r → Live ρ h r) := by
 have hsub : Sub ρ (fun n => if n = N then some i else ρ n) := fun n j e => by
   simp only
   by_cases hn : n = N
   · subst hn; rw [hN] at e; cases e
   · rw [if_neg hn]; exact e
 have hold : ∀ r, r < w.heap.size → w1.heap[r]? = w.heap[r]? := fun r hr => by
   rw [hw, Array.getElem?_push, if_neg (by omega)]
 have hblk : ∀ n j, ρ n = some j → (h.get n).isSome = true → j.blk < w.heap.size := fun n j e g => by
   obtain ⟨o, ho⟩ := Option.isSome_iff_exists.1 g
   obtain ⟨k, o', h1, _, h3, _⟩ := R.own n o ho
   rw [e] at h1; cases h1
   exact (Array.getElem?_eq_some_iff.1 h3).1
 refine ⟨hsub, ⟨⟨fun a v e => ?_, by rw [hw]; simp; have := R.base.size; omega⟩, fun n x e => ?_, fun n m j k e1 e2 g1 g2 e => ?_, fun n j e => ?_, fun n g => ?_⟩, ?_⟩
 · obtain ⟨g1, g2, u, g3, g4⟩ := R.base.cell a v e
   refine ⟨g1, g2, u, ?_, g4⟩
   have hs := R.base.size
   simp only [World.cell?] at g3 ⊢
   rw [hold _ (by omega)]; exact g3
 · rw [H.get_set] at e
   by_cases hn : n = N
   · subst hn
     rw [if_pos rfl] at e; cases e
     refine ⟨i, o', by simp, by rw [hi]; exact R.base.size, ?_, ho.mono hsub⟩
     rw [hw, hi]; simp
   · rw [if_neg hn] at e
     obtain ⟨j, o2, g1, g2, g3, g4⟩ := R.own n x e
     exact ⟨j, o2, by simp [hn, g1], g2, by rw [hold _ (Array.getElem?_eq_some_iff.1 g3).1]; exact g3, g4.mono hsub⟩
 · rw [H.get_set] at g1 g2
   by_cases hn : n = N <;> by_cases hm : m = N
   · omega
   · simp only [if_pos hn] at e1; simp only [if_neg hm] at e2 g2; cases e1
     have := hblk m k e2 g2; omega
   · simp only [if_neg hn] at e1 g1; simp only [if_pos hm] at e2; cases e2
     have := hblk n j e1 g1; omega
   · simp only [if_neg hn] at e1 g1; simp only [if_neg hm] at e2 g2
     exact R.inj n m j k e1 e2 g1 g2 e
 · show n < h.nx
   by_cases hn : n = N
   · omega
   · simp only [if_neg hn] at e; exact R.fresh n j e
 · show n < h.nx
   rw [H.get_set] at g
   by_cases hn : n = N
   · omega
   · simp only [if_neg hn] at g; exact R.names n g
 · rintro r hr ⟨n, j, g1, g2, g3⟩
   rw [H.get_set] at g1
   by_cases hn : n = N
   · simp only [if_pos hn] at g2; cases g2; omega
   · simp only [if_neg hn] at g1 g2
     exact ⟨n, j, g1, g2, g3⟩
structure Lays (P : Program) (B : Nat) (G : Base) (ρ : Ctx) (h : H) (w : World) (N : Nat) (s : Sem Next) (v : Value) (ob : AObj) : Prop where
 out : ∃ v' w' i, s.run P w = .ok (.value v') w' ∧ VRel (fun n => if n = N then some i else ρ n) v v' ∧ Sub ρ (fun n => if n = N then some i else ρ n) ∧
   Rep B G (fun n => if n = N then some i else ρ n) (h.set N ob) w' ∧ (∀ r, r < w.heap.size → Live (fun n => if n = N then some i else ρ n) (h.set N ob) r → Live ρ h r) ∧
   w.heap.size ≤ w'.heap.size ∧ (∀ r, r < w.heap.size → w'.heap[r]? = w.heap[r]?) ∧ w'.os = w.os ∧ w'.tape = w.tape ∧ w'.output = w.output
theorem lay_cells {ρ : Ctx} {h : H} {w : World} (R : Rep B G ρ h w) {N : Nat} (hN : ρ N = none) (hlt : N < h.nx) (t : TypeId) (es : Nat) {c : List Value} {cr : Array Value} (hl : LRel ρ c cr.toList)
   {s : Sem Next} {v v' : Value} (hs : s.run P w = .ok (.value v') (w.alloc (.cells cr t)))
   (hv : ∀ ρ' : Ctx, ρ' N = some { blk := w.heap.size, size := c.length, es := es, rsz := cr.size, soft := false } → VRel ρ' v v') :
   Lays P B G ρ h w N s v (.cells c t es false) := by
 have hlen : c.length = cr.size := by have := hl.1; simpa using this
 obtain ⟨q1, q2, q3⟩ := R.allocAt hN hlt { blk := w.heap.size, size := c.length, es := es, rsz := cr.size, soft := false } (.cells c t es false) (.cells cr t (0, 0)) rfl (by
   obtain ⟨crl⟩ := cr
   exact .cells c crl t es false (0, 0) rfl rfl rfl rfl (by simp at hlen ⊢; omega) (fun _ => by simp at hlen ⊢; omega) (.inl rfl) hl.2) (w1 := w.alloc (.cells cr t)) rfl
 refine ⟨v', _, _, hs, hv _ (by simp), q1, q2, q3, ?_, fun r hr => ?_, rfl, rfl, rfl⟩
 · show _ ≤ (w.heap.push _).size; simp
 · show (w.heap.push _)[r]? = _
   rw [Array.getElem?_push, if_neg (by omega)]
theorem lay_makeSlice {ρ : Ctx} {h h' : H} {w : World} (R : Rep B G ρ h w) {N : Nat} (hN : ρ N = none) (hlt : N < h.nx) {t : TypeId} {l c v : Value} {ob : AObj}
   (hb : amakeSlice P { tr := .leaf, nx := N } t l c = some (v, h')) (hob : h'.get N = some ob) {s : Sem Next} (hs : s.run P w = (Instr.makeSlice t l c >>= fun v => pure (.value v) : Sem Next).run P w) : Lays P B G ρ h w N s v ob := by
 unfold amakeSlice at hb
 split at hb
 · rename_i el k1 l k2 c hu
   split at hb
   · rename_i n by' z hn hby hz
     split at hb
     · rename_i hg
       cases hb
       simp only [Bool.and_eq_true, decide_eq_true_eq] at hg
       obtain ⟨⟨g1, g3⟩, g4, g5, g6, g7⟩ := hg
       have g3 := Nat.eq_of_beq_eq_true g3
       obtain ⟨i, hi, rfl⟩ := tby_run hby
       have hrep : LRel ρ (repeatCells c.toNat z.cells.toList) ((Array.range (c.toNat * n)).map fun i => z.cells[i % z.cells.size]!).toList := by
         rw [← g3, range_rep]
         exact LRel.rep (gd_cells g1) _
       simp only [H.get_push, if_true] at hob
       cases hob
       refine lay_cells R hN hlt el n (cr := (Array.range (c.toNat * n)).map fun i => z.cells[i % z.cells.size]!) hrep (v' := .slice (some ⟨w.heap.size, 0, none⟩) l.toNat c.toNat) ?_ fun ρ' hr => .osl N 0 _ _ _ _ hr (.inl rfl)
       rw [hs]
       have w1 : IntKind.i64.wrap l = l := IntWalk.i64_in _ (by omega)
       have w2 : IntKind.i64.wrap c = c := IntWalk.i64_in _ (by omega)
       simp only [Instr.makeSlice, asInt, asIntOf, Sem.run_bind, run_underlying hu, Result.andThen_ok, Sem.run_pure, run_tinfo hi, w1, w2]
       rw [if_neg (by simp; omega)]
       by_cases e0 : c.toNat * n = 0
       · have e1 : ((Array.range (c.toNat * n)).map fun i => (#[] : Array Value)[i % (#[] : Array Value).size]!) = ((Array.range (c.toNat * n)).map fun i => z.cells[i % z.cells.size]!) := by simp [e0]
         simp only [Sem.run_bind, run_askRoom, Result.andThen_ok, bS_ hn, if_pos e0, Sem.run_pure, e1]
         simp [newRow]
       · simp only [Sem.run_bind, run_askRoom, Result.andThen_ok, bS_ hn, if_neg e0, Sem.run_pure, cr_ hz]
         simp [newRow]
     · cases hb
   · cases hb
 · cases hb
theorem aop_lays {ρ : Ctx} {h h' : H} {w : World} {e : Env} {a : Act} (R : Rep B G ρ h w) (E : ERel ρ e a.tmps) {N : Nat} (hN : ρ N = none) (hlt : N < h.nx) (o : Oper) (hcl : cls P o.op = .a) {v : Value} {ob : AObj}
   (hb : aop P G o.op e { tr := .leaf, nx := N } = some (v, h')) (hob : h'.get N = some ob) : Lays P B G ρ h w N (execOp a.eval o) v ob := by
 obtain ⟨dst, op, ty, pos, after, guard⟩ := o
 simp only at hb hcl
 cases op with
 | alloc t =>
   simp only [aop] at hb
   split at hb
   · rename_i z n hz hn
     split at hb
     · rename_i hg
       cases hb
       simp only [Bool.and_eq_true] at hg
       have g2 := Nat.eq_of_beq_eq_true hg.2
       simp only [H.get_push, if_true] at hob
       cases hob
       refine lay_cells R hN hlt t n (cr := z.cells) (gd_cells hg.1) (v' := .pointer (some ⟨w.heap.size, 0, none⟩)) ?_ fun ρ' hr => .optr N 0 _ hr
       have hr : (Instr.alloc t true (.tuple #[])).run P w = (do pure (.pointer (some (← newVar t z))) : Sem Value).run P w := by
         simp [Instr.alloc, cr_ hz]
       simp only [execOp, Sem.run_bind, hr]
       simp [newVar, newRow]
     · cases hb
   · cases hb
 | box t x =>
   simp only [aop] at hb
   split at hb
   · cases hb
   · rename_i n0 n hsz hnt
     split at hb
     · rename_i hq
       cases hb
       have hv := (E.eval x).cells (fun vs hvs => hnt vs hvs)
       simp only [H.get_push, if_true] at hob
       cases hob
       refine lay_cells R hN hlt t n (cr := (a.eval x).cells) hv (v' := .pointer (some ⟨w.heap.size, 0, none⟩)) ?_ fun ρ' hr => .optr N 0 _ hr
       simp [execOp, Instr.box, newVar, newRow]
     · cases hb
   · cases hb
 | buildSlice t len ps =>
   simp only [aop] at hb
   unfold abuildSlice at hb
   split at hb
   · rename_i el hu
     split at hb
     · rename_i n z hn hz
       split at hb
       · rename_i hg
         simp only [Bool.and_eq_true] at hg
         obtain ⟨⟨g1, g2⟩, g3⟩ := hg
         have g2 := Nat.le_of_ble_eq_true g2
         have g3 := Nat.eq_of_beq_eq_true g3
         split at hb
         · rename_i cs hcs
           cases hb
           have hrep : LRel ρ (repeatCells len z.cells.toList) ((Array.range (len * n)).map fun i => z.cells[i % z.cells.size]!).toList := by
             rw [← g3, range_rep]
             exact LRel.rep (gd_cells g1) len
           obtain ⟨out', h1, h2⟩ := fill_rel (ρ := ρ) (ps.toList.map fun p => (p.1, aeval e p.2)) (ps.toList.map fun p => (p.1, a.eval p.2)) _ _ cs hrep (by simp) (parts_rel E ps.toList) hcs
           simp only [H.get_push, if_true] at hob
           cases hob
           refine lay_cells R hN hlt el n (cr := out') h2 (v' := .slice (some ⟨w.heap.size, 0, none⟩) len len) ?_ fun ρ' hr => .osl N 0 len len len _ hr (.inl rfl)
           have hps : (ps.map fun (p : Nat × Operand) => (p.1, a.eval p.2)) = (ps.toList.map fun p => (p.1, a.eval p.2)).toArray := by
             obtain ⟨ps⟩ := ps; simp
           have hr : (Instr.buildSlice t len (ps.toList.map fun p => (p.1, a.eval p.2)).toArray).run P w = .ok (.slice (some ⟨w.heap.size, 0, none⟩) len len) (w.alloc (.cells out' el)) := by
             simp only [Instr.buildSlice, Sem.run_bind, run_underlying hu, Result.andThen_ok, bS_ hn]
             rw [if_neg (by omega)]
             by_cases e0 : len * n = 0
             · have e1 : ((Array.range (len * n)).map fun i => (#[] : Array Value)[i % (#[] : Array Value).size]!) = ((Array.range (len * n)).map fun i => z.cells[i % z.cells.size]!) := by simp [e0]
               simp only [if_pos e0, Sem.run_pure, Result.andThen_ok, Sem.run_bind, e1, h1]
               simp [newRow]
             · simp only [if_neg e0, Sem.run_pure, Result.andThen_ok, Sem.run_bind, cr_ hz, h1]
               simp [newRow]
           simp only [execOp, Sem.run_bind]
           rw [← hps] at hr
           rw [hr]
           rfl
         · cases hb
       · cases hb
     · cases hb
   · cases hb
 | makeSlice t l c =>
   simp only [aop] at hb
   have hx : ∃ k1 l0 k2 c0, aeval e l = .int k1 l0 ∧ aeval e c = .int k2 c0 := by
     unfold amakeSlice at hb
     split at hb
     · rename_i h1 h2 _; exact ⟨_, _, _, _, by assumption, by assumption⟩
     · cases hb
   obtain ⟨k1, l0, k2, c0, e1, e2⟩ := hx
   have f1 : a.eval l = aeval e l := (E.eval l).gd_eq (by rw [e1]; rfl)
   have f2 : a.eval c = aeval e c := (E.eval c).gd_eq (by rw [e2]; rfl)
   exact lay_makeSlice R hN hlt hb hob (by simp [execOp, f1, f2])
 | call c =>
   obtain ⟨callee, args, ats⟩ := c
   cases callee with
   | builtin b => cases b <;> simp [cls] at hcl
   | _ => simp [cls] at hcl
 | convert s d x =>
   simp only [cls] at hcl
   split at hcl <;> cases hcl
 | _ => simp [cls] at hcl
theorem aconv_quiet {h h' : H} {s d : TypeId} {x v : Value} (hb : aconv P G h s d x = some (v, h')) : h' = h := by
 unfold aconv at hb
 repeat' (first | (cases hb; rfl) | (cases hb; done) | split at hb)
theorem pur_quiet {h h' : H} {s : Sem Value} {v : Value} (hb : (match prun P s with | some v => (match gd v with | true => some (v, h) | false => none) | none => none) = some (v, h')) : h' = h := by
 repeat' (first | (cases hb; rfl) | (cases hb; done) | split at hb)
theorem still_quiet {h h' : H} {x : Option Value} {v : Value} (hb : (match x with | some v => some (v, h) | none => none) = some (v, h')) : h' = h := by
 repeat' (first | (cases hb; rfl) | (cases hb; done) | split at hb)
theorem aop_quiet {o : Op} {e : Env} {h h' : H} {v : Value} (hc : cls P o = .q) (hb : aop P G o e h = some (v, h')) : h' = h := by
 cases o with
 | convert s d x =>
   simp only [cls] at hc
   split at hc
   · cases hc
   rename_i hns
   simp only [aop] at hb
   split at hb
   · have : aconvStr P h s d (aeval e x) = none := by
       unfold aconvStr
       split
       · rename_i q _ _ q1 _ _
         exact absurd q1 (hns _)
       · rfl
     rw [this] at hb
     exact pur_quiet hb
   · exact aconv_quiet hb
 | call c =>
   obtain ⟨callee, args, ats⟩ := c
   cases callee with
   | builtin b =>
     cases b <;> simp [cls] at hc <;> simp only [aop] at hb <;>
       (repeat' (first | contradiction | (cases hb; rfl) | (cases hb; done) | exact pur_quiet hb | split at hb))
   | _ => simp [cls] at hc
 | next it str => simp [cls] at hc
 | binOp op t x y z =>
   simp only [aop] at hb
   repeat' (first | (cases hb; rfl) | (cases hb; done) | exact pur_quiet hb | split at hb)
 | _ => first
   | (simp [cls] at hc; done)
   | (simp [aop] at hb; done)
   | (simp only [aop] at hb; (repeat' (first | (cases hb; rfl) | (cases hb; done) | exact pur_quiet hb | exact still_quiet hb | split at hb)))
theorem veq_list {n : Nat} (ih : ∀ a b, veq n a b = true → a = b) : ∀ (l m : List Value), l.length = m.length → ((l.zip m).all fun p => veq n p.1 p.2) = true → l = m
 | [], [], _, _ => rfl
 | a :: l, b :: m, hl, h => by
   simp only [List.zip_cons_cons, List.all_cons, Bool.and_eq_true] at h
   rw [ih a b h.1, veq_list ih l m (by simpa using hl) h.2]
 | [], _ :: _, hl, _ => by simp at hl
 | _ :: _, [], hl, _ => by simp at hl
theorem veq_sound : ∀ (n : Nat) (a b : Value), veq n a b = true → a = b := by
 intro n
 induction n with
 | zero => intro a b h; simp [veq] at h
 | succ n ih =>
   intro a b h
   unfold veq at h
   split at h <;> try (first | (simp at h; done) | rfl)
   all_goals first
     | (simp only [Bool.and_eq_true, decide_eq_true_eq] at h; simp_all; done)
     | skip
   · rename_i m t v u w' hm
     cases hm
     simp only [Bool.and_eq_true] at h
     rw [Nat.eq_of_beq_eq_true h.1, ih _ _ h.2]
   · rename_i m l1 l2 hm
     cases hm
     simp only [Bool.and_eq_true] at h
     rw [veq_list ih l1 l2 (Nat.eq_of_beq_eq_true h.1) h.2]
   · rename_i m x l1 y l2 hm
     cases hm
     simp only [Bool.and_eq_true] at h
     rw [ih _ _ h.1.2, veq_list ih l1 l2 (Nat.eq_of_beq_eq_true h.1.1) h.2]
   · rename_i m f1 l1 c1 f2 l2 c2 hm
     cases hm
     simp only [Bool.and_eq_true, decide_eq_true_eq] at h
     obtain ⟨⟨⟨⟨q1, q2⟩, q3⟩, q4⟩, q5⟩ := h
     rw [q1, veq_list ih l1 l2 (Nat.eq_of_beq_eq_true q2) q4, veq_list ih c1 c2 (Nat.eq_of_beq_eq_true q3) q5]
theorem testBit_pow (i j : Nat) : (2 ^ i).testBit j = decide (i = j) := Nat.testBit_two_pow
theorem edgeMask_spec {ms : List Nat} {i : Nat} : ∀ (es : List Edge) (m m' : Nat), edgeMask ms i es m = some m' →
   (∀ e ∈ es, Region.binds .any e = true → e.on < i ∧ e.on < ms.length) ∧
   (∀ j, m'.testBit j = true → m.testBit j = true ∨ ∃ e ∈ es, Region.binds .any e = true ∧ (j = e.on ∨ (ms.getD e.on 0).testBit j = true))
 | [], m, m', h => by simp only [edgeMask] at h; cases h; exact ⟨by simp, fun j hj => .inl hj⟩
 | e :: es, m, m', h => by
   simp only [edgeMask] at h
   split at h
   · rename_i hb
     obtain ⟨h1, h2⟩ := edgeMask_spec es m m' h
     refine ⟨fun x hx hbx => ?_, fun j hj => ?_⟩
     · rcases List.mem_cons.1 hx with rfl | hx
       · rw [hb] at hbx; cases hbx
       · exact h1 x hx hbx
     · rcases h2 j hj with q | ⟨x, q1, q2⟩
       · exact .inl q
       · exact .inr ⟨x, List.mem_cons_of_mem _ q1, q2⟩
   · rename_i hb
     split at h
     · rename_i k hlt hk
       obtain ⟨h1, h2⟩ := edgeMask_spec es _ m' h
       have hlt' : e.on < i := by simpa [Nat.blt_eq] using hlt
       have hk' := (List.getElem?_eq_some_iff.1 hk).1
       refine ⟨fun x hx hbx => ?_, fun j hj => ?_⟩
       · rcases List.mem_cons.1 hx with rfl | hx
         · exact ⟨hlt', hk'⟩
         · exact h1 x hx hbx
       · rcases h2 j hj with q | ⟨x, q1, q2⟩
         · simp only [Nat.testBit_or, testBit_pow, Bool.or_eq_true, decide_eq_true_eq] at q
           rcases q with (q | q) | q
           · exact .inl q
           · exact .inr ⟨e, by simp, hb, .inl q.symm⟩
           · exact .inr ⟨e, by simp, hb, .inr (by rw [List.getD_eq_getElem?_getD, hk]; exact q)⟩
         · exact .inr ⟨x, List.mem_cons_of_mem _ q1, q2⟩
     · cases h
def MasksOk (l : List Oper) (M : Nat → Nat) : Prop :=
 ∀ i o, l[i]? = some o → (∀ e ∈ o.after, Region.binds .any e = true → e.on < i) ∧
   (∀ j, (M i).testBit j = true → ∃ e ∈ o.after, Region.binds .any e = true ∧ (j = e.on ∨ (M e.on).testBit j = true))
theorem masksFrom_spec : ∀ (l pre : List Oper) (ms ms' : List Nat), ms.length = pre.length → masksFrom l ms = some ms' → MasksOk pre (fun i => ms.getD i 0) →
   ms'.length = (pre ++ l).length ∧ MasksOk (pre ++ l) (fun i => ms'.getD i 0)
 | [], pre, ms, ms', hl, h, ok => by simp only [masksFrom] at h; cases h; exact ⟨by simp [hl], by rw [List.append_nil]; exact ok⟩
 | o :: l, pre, ms, ms', hl, h, ok => by
   simp only [masksFrom] at h
   split at h
   · rename_i m hm
     obtain ⟨s1, s2⟩ := edgeMask_spec _ _ _ hm
     have := masksFrom_spec l (pre ++ [o]) (ms ++ [m]) ms' (by simp [hl]) h (by
       intro i x hx
       have hget : ∀ j, j < ms.length → (ms ++ [m]).getD j 0 = ms.getD j 0 := fun j hj => by
         rw [List.getD_eq_getElem?_getD, List.getD_eq_getElem?_getD, List.getElem?_append_left hj]
       rcases Nat.lt_or_ge i pre.length with hi | hi
       · rw [List.getElem?_append_left hi] at hx
         obtain ⟨q1, q2⟩ := ok i x hx
         refine ⟨q1, fun j hj => ?_⟩
         simp only [hget i (by omega)] at hj
         obtain ⟨e, p1, p2, p3⟩ := q2 j hj
         refine ⟨e, p1, p2, ?_⟩
         have := q1 e p1 p2
         simp only [hget e.on (by omega)]
         exact p3
       · have hi' : i = pre.length := by
           have := (List.getElem?_eq_some_iff.1 hx).1
           simp at this; omega
         subst hi'
         rw [List.getElem?_append_right (Nat.le_refl _)] at hx
         simp at hx
         subst hx
         refine ⟨fun e he hb => by rw [← hl]; exact (s1 e (Array.mem_toList_iff.2 he) hb).1, fun j hj => ?_⟩
         have hm' : (ms ++ [m]).getD pre.length 0 = m := by
           rw [List.getD_eq_getElem?_getD, ← hl, List.getElem?_append_right (Nat.le_refl _)]; simp
         simp only [hm'] at hj
         rcases s2 j hj with q | ⟨e, q1, q2, q3⟩
         · simp at q
         · refine ⟨e, Array.mem_toList_iff.1 q1, q2, ?_⟩
           have := (s1 e q1 q2).2
           simp only [hget e.on this]
           exact q3)
     simpa using this
   · cases h
def vals (D : Nat → Bool) : List DRes → Nat → Tmp → Value → Value
 | [], _, _, x => x
 | r :: rs, i, t, x => vals D rs (i + 1) t (if D i = true ∧ r.d = some t then r.v else x)
theorem vals_congr {D D' : Nat → Bool} {t : Tmp} : ∀ (rs : List DRes) (i : Nat) (x : Value), (∀ (k : Nat) r, rs[k]? = some r → r.d = some t → D (i + k) = D' (i + k)) → vals D rs i t x = vals D' rs i t x
 | [], _, _, _ => rfl
 | r :: rs, i, x, h => by
   simp only [vals]
   have e : (if D i = true ∧ r.d = some t then r.v else x) = (if D' i = true ∧ r.d = some t then r.v else x) := by
     by_cases hd : r.d = some t
     · have := h 0 r rfl hd
       simp only [Nat.add_zero] at this
       rw [this]
     · simp [hd]
   rw [e]
   exact vals_congr rs (i + 1) _ fun k r' hk hd => by
     have := h (k + 1) r' (by simpa using hk) hd
     rwa [show i + (k + 1) = i + 1 + k by omega] at this
theorem vals_none {D : Nat → Bool} {t : Tmp} : ∀ (rs : List DRes) (i : Nat) (x : Value), (∀ (k : Nat) r, rs[k]? = some r → r.d = some t → D (i + k) = false) → vals D rs i t x = x
 | [], _, _, _ => rfl
 | r :: rs, i, x, h => by
   simp only [vals]
   have e : (if D i = true ∧ r.d = some t then r.v else x) = x := by
     by_cases hd : r.d = some t
     · have := h 0 r rfl hd
       simp only [Nat.add_zero] at this
       simp [this]
     · simp [hd]
   rw [e]
   exact vals_none rs (i + 1) _ fun k r' hk hd => by
     have := h (k + 1) r' (by simpa using hk) hd
     rwa [show i + (k + 1) = i + 1 + k by omega] at this
theorem vals_last {D : Nat → Bool} {t : Tmp} {r0 : DRes} (hd0 : r0.d = some t) : ∀ (rs : List DRes) (i k0 : Nat) (x : Value), rs[k0]? = some r0 → D (i + k0) = true →
   (∀ (k : Nat) r, k0 < k → rs[k]? = some r → r.d = some t → D (i + k) = false) → vals D rs i t x = r0.v
 | [], _, _, _, h, _, _ => by simp at h
 | r :: rs, i, k0, x, h, hD, hn => by
   simp only [vals]
   cases k0 with
   | zero =>
     simp at h; subst h
     simp only [Nat.add_zero] at hD
     rw [if_pos ⟨hD, hd0⟩]
     exact vals_none rs (i + 1) _ fun k r' hk hd => by
       have := hn (k + 1) r' (by omega) (by simpa using hk) hd
       rwa [show i + (k + 1) = i + 1 + k by omega] at this
   | succ k0 =>
     refine vals_last hd0 rs (i + 1) k0 _ (by simpa using h) (by rwa [show i + (k0 + 1) = i + 1 + k0 by omega] at hD) fun k r' hlt hk hd => ?_
     have := hn (k + 1) r' (by omega) (by simpa using hk) hd
     rwa [show i + (k + 1) = i + 1 + k by omega] at this
def Kd.eff : Kd → Bool
 | .e _ => true
 | _ => false
def nextG (k : Kd) (g : H) : H := match k with | .e g' => g' | _ => g
def nextAbs (k : Kd) (m abs : Nat) : Nat := match k with | .e _ => m | _ => abs
def nextAs (k : Kd) (i : Nat) (as : List (Nat × AObj)) : List (Nat × AObj) := match k with | .a ob => as ++ [(i, ob)] | _ => as
def nextEs (k : Kd) (i : Nat) (es : List Nat) : List Nat := match k with | .e _ => i :: es | _ => es
theorem stg_true {D : Nat → Bool} {o : Oper} {m i : Nat} {oms : List (Oper × Nat)} {r : DRes} {rs : List DRes} {g : H} {abs : Nat} (h : D i = true) :
   stg D ((o, m) :: oms) (r :: rs) i g abs = stg D oms rs (i + 1) (nextG r.k g) (nextAbs r.k m abs) := by
 simp only [stg, h]
 cases r.k <;> rfl
theorem stg_false {D : Nat → Bool} {o : Oper} {m i : Nat} {oms : List (Oper × Nat)} {r : DRes} {rs : List DRes} {g : H} {abs : Nat} (h : D i = false) :
   stg D ((o, m) :: oms) (r :: rs) i g abs = stg D oms rs (i + 1) g abs := by
 simp only [stg, h]
theorem stg_quiet {D : Nat → Bool} {o : Oper} {m i : Nat} {oms : List (Oper × Nat)} {r : DRes} {rs : List DRes} {g : H} {abs : Nat} (h : r.k.eff = false) :
   stg D ((o, m) :: oms) (r :: rs) i g abs = stg D oms rs (i + 1) g abs := by
 simp only [stg]
 cases hk : r.k <;> rw [hk] at h <;> simp [Kd.eff] at h <;> cases D i <;> rfl
theorem stg_congr {D D' : Nat → Bool} : ∀ (oms : List (Oper × Nat)) (rs : List DRes) (i : Nat) (g : H) (abs : Nat), (∀ (k : Nat) r, rs[k]? = some r → r.k.eff = true → D (i + k) = D' (i + k)) →
   stg D oms rs i g abs = stg D' oms rs i g abs
 | [], rs, _, _, _, _ => by cases rs <;> rfl
 | _ :: _, [], _, _, _, _ => rfl
 | (o, m) :: oms, r :: rs, i, g, abs, h => by
   have tl : ∀ g abs, stg D oms rs (i + 1) g abs = stg D' oms rs (i + 1) g abs := fun g abs => stg_congr oms rs (i + 1) g abs fun k r' hk he => by
     have := h (k + 1) r' (by simpa using hk) he
     rwa [show i + (k + 1) = i + 1 + k by omega] at this
   cases he : r.k.eff
   · rw [stg_quiet he, stg_quiet he, tl]
   · have h0 := h 0 r rfl he
     simp only [Nat.add_zero] at h0
     cases hd : D i
     · rw [stg_false hd, stg_false (h0 ▸ hd), tl]
     · rw [stg_true hd, stg_true (h0 ▸ hd), tl]
theorem stg_none {D : Nat → Bool} : ∀ (oms : List (Oper × Nat)) (rs : List DRes) (i : Nat) (g : H) (abs : Nat), (∀ (k : Nat) r, rs[k]? = some r → r.k.eff = true → D (i + k) = false) →
   stg D oms rs i g abs = (g, abs)
 | [], rs, _, _, _, _ => by cases rs <;> rfl
 | _ :: _, [], _, _, _, _ => rfl
 | (o, m) :: oms, r :: rs, i, g, abs, h => by
   have tl : stg D oms rs (i + 1) g abs = (g, abs) := stg_none oms rs (i + 1) g abs fun k r' hk he => by
     have := h (k + 1) r' (by simpa using hk) he
     rwa [show i + (k + 1) = i + 1 + k by omega] at this
   cases he : r.k.eff
   · rw [stg_quiet he, tl]
   · have h0 := h 0 r rfl he
     simp only [Nat.add_zero] at h0
     rw [stg_false h0, tl]
theorem stg_last {D : Nat → Bool} {o0 : Oper} {m0 : Nat} {r0 : DRes} {g0' : H} (hr0 : r0.k = .e g0') : ∀ (oms : List (Oper × Nat)) (rs : List DRes) (i k0 : Nat) (g : H) (abs : Nat), oms[k0]? = some (o0, m0) → rs[k0]? = some r0 → D (i + k0) = true →
   (∀ (k : Nat) r, k0 < k → rs[k]? = some r → r.k.eff = true → D (i + k) = false) → stg D oms rs i g abs = (g0', m0)
 | [], _, _, _, _, _, h, _, _, _ => by simp at h
 | _ :: _, [], _, _, _, _, _, h, _, _ => by simp at h
 | (o, m) :: oms, r :: rs, i, k0, g, abs, ho, hr, hD, hn => by
   have shift : ∀ k0', (∀ (k : Nat) r', k0' + 1 < k → (r :: rs)[k]? = some r' → r'.k.eff = true → D (i + k) = false) → ∀ (k : Nat) r', k0' < k → rs[k]? = some r' → r'.k.eff = true → D (i + 1 + k) = false := fun k0' h k r' hlt hk he => by
     have := h (k + 1) r' (by omega) (by simpa using hk) he
     rwa [show i + (k + 1) = i + 1 + k by omega] at this
   cases k0 with
   | zero =>
     simp at ho hr
     obtain ⟨rfl, rfl⟩ := ho
     subst hr
     simp only [Nat.add_zero] at hD
     rw [stg_true hD, stg_none _ _ _ _ _ fun k r' hk he => by
       have := hn (k + 1) r' (by omega) (by simpa using hk) he
       rwa [show i + (k + 1) = i + 1 + k by omega] at this]
     simp [nextG, nextAbs, hr0]
   | succ k0 =>
     have ih := fun g abs => stg_last hr0 oms rs (i + 1) k0 g abs (by simpa using ho) (by simpa using hr) (by rwa [show i + (k0 + 1) = i + 1 + k0 by omega] at hD) (shift k0 hn)
     cases hd : D i
     · rw [stg_false hd, ih]
     · rw [stg_true hd, ih]
theorem stg_abs {D : Nat → Bool} (M : Nat → Nat) : ∀ (oms : List (Oper × Nat)) (rs : List DRes) (i : Nat) (g : H) (abs : Nat), (∀ (k : Nat) p, oms[k]? = some p → p.2 = M (i + k)) →
   (∀ k j, i ≤ k → D k = true → (M k).testBit j = true → D j = true) → (∀ j, abs.testBit j = true → D j = true) → ∀ j, (stg D oms rs i g abs).2.testBit j = true → D j = true
 | [], rs, _, _, _, _, _, h, j, hj => by cases rs <;> exact h j hj
 | _ :: _, [], _, _, _, _, _, h, j, hj => h j hj
 | (o, m) :: oms, r :: rs, i, g, abs, hm, hc, h, j, hj => by
   have hm' : ∀ (k : Nat) p, oms[k]? = some p → p.2 = M (i + 1 + k) := fun k p hk => by
     have := hm (k + 1) p (by simpa using hk)
     rwa [show i + (k + 1) = i + 1 + k by omega] at this
   have hc' : ∀ k j, i + 1 ≤ k → D k = true → (M k).testBit j = true → D j = true := fun k j hk => hc k j (by omega)
   cases hd : D i
   · rw [stg_false hd] at hj
     exact stg_abs M oms rs (i + 1) g abs hm' hc' h j hj
   · rw [stg_true hd] at hj
     refine stg_abs M oms rs (i + 1) _ _ hm' hc' (fun j hj => ?_) j hj
     cases hk : r.k <;> rw [hk] at hj <;> simp only [nextAbs] at hj
     case e g' =>
       have := hm 0 (o, m) rfl
       simp only [Nat.add_zero] at this
       exact hc i j (Nat.le_refl _) hd (by rw [← this]; exact hj)
     all_goals exact h j hj
theorem stages_mem {D : Nat → Bool} : ∀ (oms : List (Oper × Nat)) (rs : List DRes) (i : Nat) (g : H) (abs : Nat),
   (∀ (x y : Nat) rx ry, rs[x]? = some rx → rs[y]? = some ry → rx.k.eff = true → ry.k.eff = true → x < y → D (i + y) = true → D (i + x) = true) →
   ∃ s ∈ stagesOf oms rs i g abs, (s.g, s.abs) = stg D oms rs i g abs ∧ ∀ x, s.nxt = some x → D x = false
 | [], rs, _, g, abs, _ => by
   cases rs <;> exact ⟨⟨g, abs, none⟩, by simp [stagesOf], rfl, by simp⟩
 | _ :: _, [], _, g, abs, _ => ⟨⟨g, abs, none⟩, by simp [stagesOf], rfl, by simp⟩
 | (o, m) :: oms, r :: rs, i, g, abs, h => by
   have h' : ∀ (x y : Nat) rx ry, rs[x]? = some rx → rs[y]? = some ry → rx.k.eff = true → ry.k.eff = true → x < y → D (i + 1 + y) = true → D (i + 1 + x) = true := fun x y rx ry hx hy ex ey hlt hD => by
     have := h (x + 1) (y + 1) rx ry (by simpa using hx) (by simpa using hy) ex ey (by omega) (by rwa [show i + (y + 1) = i + 1 + y by omega])
     rwa [show i + (x + 1) = i + 1 + x by omega] at this
   cases he : r.k.eff
   · have : stagesOf ((o, m) :: oms) (r :: rs) i g abs = stagesOf oms rs (i + 1) g abs := by
       simp only [stagesOf]
       cases hk : r.k <;> rw [hk] at he <;> simp [Kd.eff] at he <;> rfl
     rw [this, stg_quiet he]
     exact stages_mem oms rs (i + 1) g abs h'
   · have : stagesOf ((o, m) :: oms) (r :: rs) i g abs = ⟨g, abs, some i⟩ :: stagesOf oms rs (i + 1) (nextG r.k g) (nextAbs r.k m abs) := by
       simp only [stagesOf]
       cases hk : r.k <;> rw [hk] at he <;> simp [Kd.eff] at he <;> rfl
     rw [this]
     cases hd : D i
     · refine ⟨⟨g, abs, some i⟩, by simp, ?_, by simpa using hd⟩
       rw [stg_none]
       intro k r' hk hek
       cases k with
       | zero => simpa using hd
       | succ k =>
         cases hq : D (i + (k + 1))
         · rfl
         · have := h 0 (k + 1) r r' rfl hk he hek (by omega) hq
           simp only [Nat.add_zero] at this
           rw [hd] at this; cases this
     · rw [stg_true hd]
       obtain ⟨s, q1, q2, q3⟩ := stages_mem oms rs (i + 1) (nextG r.k g) (nextAbs r.k m abs) h'
       exact ⟨s, List.mem_cons_of_mem _ q1, q2, q3⟩
theorem asOf_mem : ∀ (rs : List DRes) (i : Nat) (p : Nat × AObj), p ∈ asOf rs i ↔ ∃ (k : Nat) (r : DRes), rs[k]? = some r ∧ r.k = .a p.2 ∧ p.1 = i + k
 | [], i, p => by simp [asOf]
 | r :: rs, i, p => by
   have ih := asOf_mem rs (i + 1) p
   have step : (∃ (k : Nat) (r' : DRes), (r :: rs)[k]? = some r' ∧ r'.k = .a p.2 ∧ p.1 = i + k) ↔ ((r.k = .a p.2 ∧ p.1 = i) ∨ ∃ (k : Nat) (r' : DRes), rs[k]? = some r' ∧ r'.k = .a p.2 ∧ p.1 = i + 1 + k) := by
     constructor
     · rintro ⟨k, r', h1, h2, h3⟩
       cases k with
       | zero => simp at h1; subst h1; exact .inl ⟨h2, by simpa using h3⟩
       | succ k => exact .inr ⟨k, r', by simpa using h1, h2, by omega⟩
     · rintro (⟨h1, h2⟩ | ⟨k, r', h1, h2, h3⟩)
       · exact ⟨0, r, rfl, h1, by simpa using h2⟩
       · exact ⟨k + 1, r', by simpa using h1, h2, by omega⟩
   rw [step, ← ih]
   simp only [asOf]
   cases hk : r.k with
   | a ob =>
     simp only [List.mem_cons]
     constructor
     · rintro (h | h)
       · subst h; exact .inl ⟨rfl, rfl⟩
       · exact .inr h
     · rintro (⟨h1, h2⟩ | h)
       · obtain ⟨p1, p2⟩ := p
         simp only at h2 h1
         cases h1; subst h2
         exact .inl rfl
       · exact .inr h
   | _ => simp
theorem addAs_nx (nx0 : Nat) (f : Nat → Bool) : ∀ (l : List (Nat × AObj)) (h : H), (addAs nx0 f l h).nx = h.nx
 | [], h => rfl
 | (j, o) :: l, h => by
   simp only [addAs]
   rw [addAs_nx nx0 f l]
   cases f j <;> rfl
theorem addAs_get {nx0 : Nat} {f : Nat → Bool} : ∀ (l : List (Nat × AObj)) (h : H) (x : Nat) (o : AObj), (addAs nx0 f l h).get x = some o → h.get x = some o ∨ ∃ p ∈ l, f p.1 = true ∧ x = nx0 + p.1 ∧ o = p.2
 | [], h, x, o, e => .inl e
 | (j, ob) :: l, h, x, o, e => by
   simp only [addAs] at e
   rcases addAs_get l _ x o e with q | ⟨p, q1, q2⟩
   · cases hf : f j
     · rw [hf] at q; exact .inl q
     · rw [hf] at q
       simp only [H.get_set] at q
       by_cases hx : x = nx0 + j
       · rw [if_pos hx] at q; cases q
         exact .inr ⟨(j, ob), List.mem_cons_self, hf, hx, rfl⟩
       · rw [if_neg hx] at q; exact .inl q
   · exact .inr ⟨p, List.mem_cons_of_mem _ q1, q2⟩
theorem addAs_sel {nx0 : Nat} {f : Nat → Bool} {p : Nat × AObj} (hf : f p.1 = true) : ∀ (l : List (Nat × AObj)) (h : H), (p ∈ l ∨ h.get (nx0 + p.1) = some p.2) → (∀ q ∈ l, q.1 = p.1 → q.2 = p.2) → (addAs nx0 f l h).get (nx0 + p.1) = some p.2
 | [], h, hm, _ => by rcases hm with hm | hm
                      · simp at hm
                      · exact hm
 | (j, ob) :: l, h, hm, hu => by
   simp only [addAs]
   refine addAs_sel hf l _ ?_ fun q hq => hu q (List.mem_cons_of_mem _ hq)
   by_cases hj : j = p.1
   · have := hu (j, ob) (by simp) hj
     simp only at this
     right
     rw [hj, hf, H.get_set, if_pos rfl, this]
   · rcases hm with hm | hm
     · rcases List.mem_cons.1 hm with e | hm
       · rw [e] at hj; exact absurd rfl hj
       · exact .inl hm
     · right
       cases f j
       · exact hm
       · simp only [H.get_set]
         rw [if_neg (by omega)]; exact hm
theorem addAs_old {nx0 : Nat} {f : Nat → Bool} : ∀ (l : List (Nat × AObj)) (h : H) (x : Nat), (∀ p ∈ l, f p.1 = true → x ≠ nx0 + p.1) → (addAs nx0 f l h).get x = h.get x
 | [], h, x, _ => rfl
 | (j, ob) :: l, h, x, hn => by
   simp only [addAs]
   rw [addAs_old l _ x fun p hp => hn p (List.mem_cons_of_mem _ hp)]
   cases hf : f j
   · rfl
   · simp only [H.get_set]
     rw [if_neg (hn (j, ob) (by simp) hf)]
theorem addAs_skip {nx0 : Nat} {f : Nat → Bool} : ∀ (l tl : List (Nat × AObj)) (h : H), (∀ p ∈ tl, f p.1 = false) → addAs nx0 f (l ++ tl) h = addAs nx0 f l h
 | [], [], h, _ => rfl
 | [], (j, ob) :: tl, h, hn => by
   show addAs nx0 f tl _ = h
   have := hn (j, ob) (by simp)
   simp only at this
   rw [this]
   exact addAs_skip [] tl h fun p hp => hn p (List.mem_cons_of_mem _ hp)
 | (j, ob) :: l, tl, h, hn => by
   simp only [List.cons_append, addAs]
   exact addAs_skip l tl _ hn
def StepOk (P : Program) (G : Base) (rec : Ev) (ops : Array Oper) (nx0 : Nat) (o : Oper) (m i : Nat) (er : Env) (g : H) (abs : Nat) (es : List Nat) (as : List (Nat × AObj)) (r : DRes) : Prop :=
 r.d = o.dst ∧ match r.k with
  | .s => wantedA ops o er = some false ∧ r.v = skipV
  | .q => wantedA ops o er = some true ∧ cls P o.op = .q
  | .a ob => wantedA ops o er = some true ∧ cls P o.op = .a ∧ ∃ h', aop P G o.op er { tr := .leaf, nx := nx0 + i } = some (r.v, h') ∧ h'.get (nx0 + i) = some ob
  | .e g' => wantedA ops o er = some true ∧ (∀ x ∈ es, m.testBit x = true) ∧ (∀ j, abs.testBit j = true → m.testBit j = true) ∧ evOp P G rec o er (addAs nx0 (unseen m abs) as g) = some (r.v, g')
theorem dPass_cons {rec : Ev} {ops : Array Oper} {nx0 : Nat} {o : Oper} {m : Nat} {rest : List (Oper × Nat)} {i : Nat} {e : Env} {g : H} {abs : Nat} {es : List Nat} {as : List (Nat × AObj)} {l : List DRes}
   (h : dPass P G rec ops nx0 ((o, m) :: rest) i e g abs es as = some l) :
   ∃ r l' e', l = r :: l' ∧ StepOk P G rec ops nx0 o m i (restrict e (o.looksAt ops)) g abs es as r ∧ e.putO r.d r.v = some e' ∧
     dPass P G rec ops nx0 rest (i + 1) e' (nextG r.k g) (nextAbs r.k m abs) (nextEs r.k i es) (nextAs r.k i as) = some l' := by
 simp only [dPass] at h
 split at h
 · cases h
 · rename_i hw
   split at h
   · rename_i e' he
     split at h
     · rename_i l' hl
       cases h
       exact ⟨_, l', e', rfl, ⟨rfl, hw, rfl⟩, he, hl⟩
     · cases h
   · cases h
 · rename_i hw
   split at h
   · rename_i hc
     split at h
     · rename_i v h1 hv
       split at h
       · rename_i e' he
         split at h
         · rename_i l' hl
           cases h
           exact ⟨_, l', e', rfl, ⟨rfl, hw, hc⟩, he, hl⟩
         · cases h
       · cases h
     · cases h
   · rename_i hc
     split at h
     · rename_i v h1 hv
       split at h
       · rename_i ob e' hob he
         split at h
         · rename_i l' hl
           cases h
           exact ⟨_, l', e', rfl, ⟨rfl, hw, hc, h1, hv, hob⟩, he, hl⟩
         · cases h
       · cases h
     · cases h
   · rename_i hc
     split at h
     · cases h
     · rename_i hq
       simp only [Bool.and_eq_true, List.all_eq_true] at hq
       split at h
       · rename_i v g' hv
         split at h
         · rename_i e' he
           split at h
           · rename_i l' hl
             cases h
             refine ⟨_, l', e', rfl, ⟨rfl, hw, fun x hx => hq.1 x hx, fun j hj => ?_, hv⟩, he, hl⟩
             rw [← Nat.eq_of_beq_eq_true hq.2, Nat.testBit_or, hj, Bool.or_true]
           · cases h
         · cases h
       · cases h
theorem putO_get {e e' : Env} {d : Option Tmp} {v : Value} (h : e.putO d v = some e') (t : Tmp) : e'.get t = if d = some t then v else e.get t := by
 cases d with
 | none => simp only [Env.putO] at h; cases h; simp
 | some d =>
   rw [(Env.put_some h).2.2]
   by_cases ht : t = d
   · subst ht; simp
   · rw [if_neg ht, if_neg (by simpa using fun e => ht e.symm)]
theorem asOf_ge (rs : List DRes) (i : Nat) : ∀ p ∈ asOf rs i, i ≤ p.1 := fun p hp => by
 obtain ⟨k, r, _, _, h3⟩ := (asOf_mem rs i p).1 hp
 omega
theorem dPass_spec {rec : Ev} {ops : Array Oper} {nx0 : Nat} : ∀ (oms : List (Oper × Nat)) (i : Nat) (e : Env) (g : H) (abs : Nat) (es : List Nat) (as : List (Nat × AObj)) (l : List DRes),
   dPass P G rec ops nx0 oms i e g abs es as = some l →
   oms.length = l.length ∧ ∀ (k : Nat) o m r, oms[k]? = some (o, m) → l[k]? = some r →
     ∃ ek gk ak esk ask, StepOk P G rec ops nx0 o m (i + k) (restrict ek (o.looksAt ops)) gk ak esk ask r ∧ ek.sz = e.sz ∧
       (∀ t, ek.get t = vals (fun j => decide (j < i + k)) l i t (e.get t)) ∧ (gk, ak) = stg (fun j => decide (j < i + k)) oms l i g abs ∧
       (∃ tl, ask ++ tl = as ++ asOf l i ∧ ∀ p ∈ tl, i + k ≤ p.1) ∧ (∀ x ∈ es, x ∈ esk) ∧ (∀ (j : Nat) r', j < k → l[j]? = some r' → r'.k.eff = true → i + j ∈ esk) ∧ (∀ d, r.d = some d → d < e.sz)
 | [], i, e, g, abs, es, as, l, h => by
   simp only [dPass] at h; cases h
   exact ⟨rfl, fun k o m r h => by simp at h⟩
 | (o0, m0) :: oms, i, e, g, abs, es, as, l, h => by
   obtain ⟨r0, l', e', rfl, hok, hput, hrest⟩ := dPass_cons h
   obtain ⟨ih1, ih2⟩ := dPass_spec oms (i + 1) e' _ _ _ _ l' hrest
   have hsz : e'.sz = e.sz := Env.putO_some hput
   refine ⟨by simp [ih1], fun k o m r ho hr => ?_⟩
   cases k with
   | zero =>
     simp at ho hr
     obtain ⟨rfl, rfl⟩ := ho
     subst hr
     refine ⟨e, g, abs, es, as, hok, rfl, fun t => ?_, ?_, ⟨asOf (r0 :: l') i, rfl, fun p hp => asOf_ge _ _ p hp⟩, fun x hx => hx, fun j r' hj => absurd hj (Nat.not_lt_zero _), fun d hd => ?_⟩
     · exact (vals_none _ _ _ fun k r' _ _ => by simp).symm
     · exact (stg_none _ _ _ _ _ fun k r' _ _ => by simp).symm
     · rw [hd] at hput
       exact (Env.put_some hput).1
   | succ k =>
     obtain ⟨ek, gk, ak, esk, ask, q1, q2, q3, q4, ⟨tl, q5, q5'⟩, q6, q7, q8⟩ := ih2 k o m r (by simpa using ho) (by simpa using hr)
     have hi : i + (k + 1) = i + 1 + k := by omega
     rw [hi]
     refine ⟨ek, gk, ak, esk, ask, q1, q2.trans hsz, fun t => ?_, ?_, ⟨tl, ?_, q5'⟩, fun x hx => q6 x ?_, fun j r' hj hr' he => ?_, fun d hd => hsz ▸ q8 d hd⟩
     · rw [q3 t]
       simp only [vals]
       rw [putO_get hput t]
       have : (decide (i < i + 1 + k)) = true := by simp; omega
       simp only [this, true_and]
     · rw [q4, stg_true (by simp; omega)]
     · rw [q5]
       cases hk : r0.k <;> simp [nextAs, asOf, hk]
     · cases hk : r0.k <;> simp [nextEs, hx]
     · cases j with
       | zero =>
         simp at hr'
         subst hr'
         refine q6 i ?_
         cases hk : r0.k <;> rw [hk] at he <;> simp [Kd.eff] at he <;> simp [nextEs]
       | succ j =>
         have := q7 j r' (by omega) (by simpa using hr') he
         rwa [show i + (j + 1) = i + 1 + j by omega]
theorem dCheckAt_spec {nx0 : Nat} {as : List (Nat × AObj)} {o : Op} {m i : Nat} {er : Env} {v : Value} : ∀ {st : List Stage}, dCheckAt P G nx0 as o m i er v st = true →
   ∀ s ∈ st, s.abs.testBit i = false → (∀ x, s.nxt = some x → m.testBit x = false) → ∃ h', aop P G o er (addAs nx0 (unseen m s.abs) as s.g) = some (v, h')
 | [], _, s, hs, _, _ => by simp at hs
 | s0 :: st, h, s, hs, h1, h2 => by
   simp only [dCheckAt, Bool.and_eq_true] at h
   rcases List.mem_cons.1 hs with rfl | hs
   · have hh := h.1
     split at hh
     · rename_i hx
       rw [h1, Bool.false_or] at hx
       split at hx
       · cases hx
       · rename_i x hnx
         rw [h2 x hnx] at hx; cases hx
     · split at hh
       · rename_i u hu hv
         rw [← veq_sound _ _ _ hh]
         exact ⟨_, hv⟩
       · cases hh
   · exact dCheckAt_spec h.2 s hs h1 h2
theorem dCheck_spec {ops : Array Oper} {nx0 : Nat} {as : List (Nat × AObj)} {st : List Stage} : ∀ (oms : List (Oper × Nat)) (rs : List DRes) (i : Nat) (e : Env), dCheck P G ops nx0 as st oms rs i e = true →
   ∀ (k : Nat) o m r, oms[k]? = some (o, m) → rs[k]? = some r → r.k = .q → ∃ ek : Env, ek.sz = e.sz ∧ (∀ t, ek.get t = vals (fun j => decide (j < i + k)) rs i t (e.get t)) ∧
     ∀ s ∈ st, s.abs.testBit (i + k) = false → (∀ x, s.nxt = some x → m.testBit x = false) → ∃ h', aop P G o.op (restrict ek (o.looksAt ops)) (addAs nx0 (unseen m s.abs) as s.g) = some (r.v, h')
 | [], rs, i, e, h, k, o, m, r, ho, _, _ => by simp at ho
 | _ :: _, [], i, e, h, k, o, m, r, _, hr, _ => by simp at hr
 | (o0, m0) :: oms, r0 :: rs, i, e, h, k, o, m, r, ho, hr, hq => by
   simp only [dCheck, Bool.and_eq_true] at h
   obtain ⟨h1, h2⟩ := h
   cases k with
   | zero =>
     simp at ho hr
     obtain ⟨rfl, rfl⟩ := ho
     subst hr
     rw [hq] at h1
     simp only at h1
     exact ⟨e, rfl, fun t => (vals_none _ _ _ fun k r' _ _ => by simp).symm, dCheckAt_spec h1⟩
   | succ k =>
     split at h2
     · rename_i e' he
       obtain ⟨ek, q1, q2, q3⟩ := dCheck_spec oms rs (i + 1) e' h2 k o m r (by simpa using ho) (by simpa using hr) hq
       rw [show i + (k + 1) = i + 1 + k by omega]
       refine ⟨ek, q1.trans (Env.putO_some he), fun t => ?_, q3⟩
       rw [q2 t]
       simp only [vals]
       rw [putO_get he t]
       have : (decide (i < i + 1 + k)) = true := by simp; omega
       simp only [this, true_and]
     · cases h2
theorem putsOf_spec : ∀ (rs : List DRes) (i : Nat) (e e' : Env), putsOf rs e = some e' → e'.sz = e.sz ∧ ∀ t, e'.get t = vals (fun _ => true) rs i t (e.get t)
 | [], i, e, e', h => by simp only [putsOf] at h; cases h; exact ⟨rfl, fun t => rfl⟩
 | r :: rs, i, e, e', h => by
   simp only [putsOf] at h
   split at h
   · rename_i e1 he
     obtain ⟨q1, q2⟩ := putsOf_spec rs (i + 1) e1 e' h
     refine ⟨q1.trans (Env.putO_some he), fun t => ?_⟩
     rw [q2 t, putO_get he t]
     simp [vals]
   · cases h
theorem restrict_get (e : Env) : ∀ (ts : List Tmp) (t : Tmp), (restrict e ts).get t = if t ∈ ts then e.get t else undef := by
 intro ts t
 simp only [restrict, Env.get]
 induction ts with
 | nil => simp [lget]
 | cons x ts ih =>
   simp only [List.map_cons, lget, ih]
   cases hb : Nat.beq x t
   · have := Nat.ne_of_beq_eq_false hb
     simp [Ne.symm this]
   · have := Nat.eq_of_beq_eq_true hb
     subst this
     simp
abbrev upto (i : Nat) : Nat → Bool := fun j => decide (j < i)
structure Drawn (P : Program) (G : Base) (rec : Ev) (ops : Array Oper) (M : Nat → Nat) (oms : List (Oper × Nat)) (rs : List DRes) (nx0 : Nat) (e0 : Env) (g0 : H) : Prop where
 len : rs.length = ops.size
 omsM : ∀ (k : Nat) p, oms[k]? = some p → p.2 = M k
 omsOf : ∀ (k : Nat) o, ops[k]? = some o → oms[k]? = some (o, M k)
 masks : MasksOk ops.toList M
 apart : ∀ (i j : Nat) oi oj, ops[i]? = some oi → ops[j]? = some oj → i ≠ j → (M i).testBit j = false → (M j).testBit i = false → ∀ d, oi.dst = some d → d ∉ opTmps ops oj
 fact : ∀ (i : Nat) o r, ops[i]? = some o → rs[i]? = some r → ∃ ek gk ak esk, StepOk P G rec ops nx0 o (M i) i (restrict ek (o.looksAt ops)) gk ak esk (asOf rs 0) r ∧ ek.sz = e0.sz ∧
   (∀ t, ek.get t = vals (upto i) rs 0 t (e0.get t)) ∧ (gk, ak) = stg (upto i) oms rs 0 g0 0 ∧ (∀ (j : Nat) r', j < i → rs[j]? = some r' → r'.k.eff = true → j ∈ esk) ∧ (∀ d, r.d = some d → d < e0.sz)
 quiet : ∀ (i : Nat) o r, ops[i]? = some o → rs[i]? = some r → r.k = .q → ∃ ek : Env, ek.sz = e0.sz ∧ (∀ t, ek.get t = vals (upto i) rs 0 t (e0.get t)) ∧
   ∀ s ∈ stagesOf oms rs 0 g0 0, s.abs.testBit i = false → (∀ x, s.nxt = some x → (M i).testBit x = false) → ∃ h', aop P G o.op (restrict ek (o.looksAt ops)) (addAs nx0 (unseen (M i) s.abs) (asOf rs 0) s.g) = some (r.v, h')
 stok : ∀ s ∈ stagesOf oms rs 0 g0 0, ∀ p ∈ asOf rs 0, s.abs.testBit p.1 = true ∨ s.g.get (nx0 + p.1) = none
section
variable {rec : Ev} {ops : Array Oper} {M : Nat → Nat} {oms : List (Oper × Nat)} {rs : List DRes} {nx0 : Nat} {e0 : Env} {g0 : H}
theorem MasksOk.lt {l : List Oper} (h : MasksOk l M) : ∀ (i : Nat), i < l.length → ∀ j, (M i).testBit j = true → j < i := by
 intro i
 induction i using Nat.strongRecOn with
 | _ i ih =>
   intro hi j hj
   obtain ⟨q1, q2⟩ := h i l[i] (List.getElem?_eq_getElem hi)
   obtain ⟨e, p1, p2, p3⟩ := q2 j hj
   have := q1 e p1 p2
   rcases p3 with rfl | p3
   · exact this
   · have := ih e.on this (by omega) j p3
     omega
theorem Drawn.lt (X : Drawn P G rec ops M oms rs nx0 e0 g0) {i j : Nat} (hi : i < ops.size) (h : (M i).testBit j = true) : j < i := X.masks.lt i (by simpa using hi) j h
structure Done (ops : Array Oper) (M : Nat → Nat) (D : Nat → Bool) : Prop where
 dom : ∀ i, D i = true → i < ops.size
 closed : ∀ i j, D i = true → (M i).testBit j = true → D j = true
def D1 (D : Nat → Bool) (i : Nat) : Nat → Bool := fun j => decide (j = i) || D j
theorem Done.add {D : Nat → Bool} (h : Done ops M D) {i : Nat} (hi : i < ops.size) (hp : ∀ j, (M i).testBit j = true → D j = true) : Done ops M (D1 D i) := by
 refine ⟨fun j hj => ?_, fun j k hj hk => ?_⟩
 · simp only [D1, Bool.or_eq_true, decide_eq_true_eq] at hj
   rcases hj with rfl | hj
   · exact hi
   · exact h.dom j hj
 · simp only [D1, Bool.or_eq_true, decide_eq_true_eq] at hj ⊢
   rcases hj with rfl | hj
   · exact .inr (hp k hk)
   · exact .inr (h.closed j k hj hk)
theorem Drawn.meets (X : Drawn P G rec ops M oms rs nx0 e0 g0) {D : Nat → Bool} (hD : Done ops M D) {i : Nat} {o : Oper} (ho : ops[i]? = some o) (hi : D i = false) (hp : ∀ j, (M i).testBit j = true → D j = true)
   {t : Tmp} (ht : t ∈ opTmps ops o) {k : Nat} {r : DRes} (hk : rs[k]? = some r) (hd : r.d = some t) : k ≠ i → D k = decide (k < i) := by
 intro hne
 have hks : k < ops.size := by rw [← X.len]; exact (List.getElem?_eq_some_iff.1 hk).1
 have his : i < ops.size := (Array.getElem?_eq_some_iff.1 ho).1
 have hok : ops[k]? = some ops[k] := Array.getElem?_eq_getElem hks
 obtain ⟨_, _, _, _, hst, _⟩ := X.fact k _ r hok hk
 have hdk : ops[k].dst = some t := by rw [← hst.1]; exact hd
 have un : (M k).testBit i = false → (M i).testBit k = false → False := fun h1 h2 => X.apart k i _ o hok ho hne h1 h2 t hdk ht
 rcases Nat.lt_or_gt_of_ne hne with hlt | hgt
 · have : decide (k < i) = true := by simpa using hlt
   rw [this]
   cases hDk : D k
   · exfalso
     refine un ?_ ?_
     · cases hq : (M k).testBit i
       · rfl
       · have := X.lt hks hq; omega
     · cases hq : (M i).testBit k
       · rfl
       · rw [hp k hq] at hDk; cases hDk
   · rfl
 · have : decide (k < i) = false := by simp; omega
   rw [this]
   cases hDk : D k
   · rfl
   · exfalso
     refine un ?_ ?_
     · cases hq : (M k).testBit i
       · rfl
       · rw [hD.closed k i hDk hq] at hi; cases hi
     · cases hq : (M i).testBit k
       · rfl
       · have := X.lt his hq; omega
theorem Drawn.vals_eq (X : Drawn P G rec ops M oms rs nx0 e0 g0) {D : Nat → Bool} (hD : Done ops M D) {i : Nat} {o : Oper} (ho : ops[i]? = some o) (hi : D i = false) (hp : ∀ j, (M i).testBit j = true → D j = true)
   {t : Tmp} (ht : t ∈ opTmps ops o) (x : Value) : vals D rs 0 t x = vals (upto i) rs 0 t x := by
 refine vals_congr rs 0 x fun k r hk hd => ?_
 simp only [Nat.zero_add]
 by_cases hki : k = i
 · subst hki; simp [upto, hi]
 · exact X.meets hD ho hi hp ht hk hd hki
theorem Drawn.vals_add (X : Drawn P G rec ops M oms rs nx0 e0 g0) {D : Nat → Bool} (hD : Done ops M D) {i : Nat} {o : Oper} {r : DRes} (ho : ops[i]? = some o) (hr : rs[i]? = some r) (hi : D i = false) (hp : ∀ j, (M i).testBit j = true → D j = true)
   (t : Tmp) (x : Value) : vals (D1 D i) rs 0 t x = if r.d = some t then r.v else vals D rs 0 t x := by
 obtain ⟨_, _, _, _, hst, _⟩ := X.fact i o r ho hr
 by_cases hd : r.d = some t
 · rw [if_pos hd]
   have ht : t ∈ opTmps ops o := by
     have : o.dst = some t := by rw [← hst.1]; exact hd
     simp [opTmps, this]
   refine vals_last hd rs 0 i x hr (by simp [D1]) fun k r' hlt hk hdk => ?_
   simp only [Nat.zero_add, D1]
   have := X.meets hD ho hi hp ht hk hdk (by omega)
   rw [this]
   simp; omega
 · rw [if_neg hd]
   refine vals_congr rs 0 x fun k r' hk hdk => ?_
   simp only [Nat.zero_add, D1]
   by_cases hki : k = i
   · subst hki
     rw [hr] at hk; cases hk
     exact absurd hdk hd
   · simp [hki]
theorem Drawn.chain (X : Drawn P G rec ops M oms rs nx0 e0 g0) {x y : Nat} {rx ry : DRes} (hx : rs[x]? = some rx) (hy : rs[y]? = some ry) (ex : rx.k.eff = true) (ey : ry.k.eff = true) (hlt : x < y) : (M y).testBit x = true := by
 have hys : y < ops.size := by rw [← X.len]; exact (List.getElem?_eq_some_iff.1 hy).1
 obtain ⟨ek, gk, ak, esk, hst, _, _, _, hes, _⟩ := X.fact y _ ry (Array.getElem?_eq_getElem hys) hy
 have := hes x rx hlt hx ex
 have h2 := hst.2
 cases hk : ry.k with
 | e g' => rw [hk] at h2; exact h2.2.1 x this
 | _ => rw [hk] at ey; simp [Kd.eff] at ey
theorem Drawn.stg_eq (X : Drawn P G rec ops M oms rs nx0 e0 g0) {D : Nat → Bool} (hD : Done ops M D) {i : Nat} {r : DRes} (hr : rs[i]? = some r) (he : r.k.eff = true) (hi : D i = false) (hp : ∀ j, (M i).testBit j = true → D j = true) :
   stg D oms rs 0 g0 0 = stg (upto i) oms rs 0 g0 0 := by
 refine stg_congr _ _ _ _ _ fun k r' hk hek => ?_
 simp only [Nat.zero_add, upto]
 rcases Nat.lt_trichotomy k i with h | h | h
 · rw [hp k (X.chain hk hr hek he h)]; simp [h]
 · subst h; simp [hi]
 · have : decide (k < i) = false := by simp; omega
   rw [this]
   cases hq : D k
   · rfl
   · rw [hD.closed k i hq (X.chain hr hk he hek h)] at hi; cases hi
def hD (D : Nat → Bool) (oms : List (Oper × Nat)) (rs : List DRes) (nx0 : Nat) (g0 : H) : H :=
 addAs nx0 (fun j => D j && !(stg D oms rs 0 g0 0).2.testBit j) (asOf rs 0) (stg D oms rs 0 g0 0).1
theorem as_uniq (rs : List DRes) : ∀ p ∈ asOf rs 0, ∀ q ∈ asOf rs 0, q.1 = p.1 → q.2 = p.2 := by
 intro p hp q hq e
 obtain ⟨k, r, h1, h2, h3⟩ := (asOf_mem rs 0 p).1 hp
 obtain ⟨k', r', h1', h2', h3'⟩ := (asOf_mem rs 0 q).1 hq
 have : k' = k := by omega
 subst this
 rw [h1] at h1'; cases h1'
 rw [h2] at h2'
 exact (Kd.a.inj h2').symm
theorem Drawn.stage (X : Drawn P G rec ops M oms rs nx0 e0 g0) {D : Nat → Bool} (hD : Done ops M D) :
   ∃ s ∈ stagesOf oms rs 0 g0 0, (s.g, s.abs) = stg D oms rs 0 g0 0 ∧ ∀ x, s.nxt = some x → D x = false :=
 stages_mem oms rs 0 g0 0 fun x y rx ry hx hy ex ey hlt hq => by
   simp only [Nat.zero_add] at hq ⊢
   exact hD.closed y x hq (X.chain hx hy ex ey hlt)
theorem Drawn.absD (X : Drawn P G rec ops M oms rs nx0 e0 g0) {D : Nat → Bool} (hD : Done ops M D) : ∀ j, (stg D oms rs 0 g0 0).2.testBit j = true → D j = true :=
 stg_abs M oms rs 0 g0 0 (fun k p hk => by rw [X.omsM k p hk, Nat.zero_add]) (fun k j _ hk hj => hD.closed k j hk hj) (by simp)
theorem Drawn.unk (X : Drawn P G rec ops M oms rs nx0 e0 g0) {D : Nat → Bool} (hD : Done ops M D) {p : Nat × AObj} (hp : p ∈ asOf rs 0) (h : (stg D oms rs 0 g0 0).2.testBit p.1 = false) : (stg D oms rs 0 g0 0).1.get (nx0 + p.1) = none := by
 obtain ⟨s, q1, q2, _⟩ := X.stage hD
 rw [← q2] at h ⊢
 rcases X.stok s q1 p hp with q | q
 · simp only at h; rw [h] at q; cases q
 · exact q
def hS (m : Nat) (D : Nat → Bool) (oms : List (Oper × Nat)) (rs : List DRes) (nx0 : Nat) (g0 : H) : H :=
 addAs nx0 (unseen m (stg D oms rs 0 g0 0).2) (asOf rs 0) (stg D oms rs 0 g0 0).1
theorem Drawn.hS_sub (X : Drawn P G rec ops M oms rs nx0 e0 g0) {D : Nat → Bool} (hd : Done ops M D) {m : Nat} (hp : ∀ j, m.testBit j = true → D j = true) :
   ∀ x o, (hS m D oms rs nx0 g0).get x = some o → (hD D oms rs nx0 g0).get x = some o := by
 intro x o hx
 rcases addAs_get _ _ _ _ hx with q | ⟨p, q1, q2, q3, q4⟩
 · rw [hD, addAs_old]
   · exact q
   · rintro p h1 h2 rfl
     simp only [Bool.and_eq_true, Bool.not_eq_true'] at h2
     rw [X.unk hd h1 h2.2] at q; cases q
 · subst q3 q4
   simp only [unseen, Bool.and_eq_true, Bool.not_eq_true'] at q2
   exact addAs_sel (by simp [hp _ q2.1, q2.2]) _ _ (.inl q1) (as_uniq rs p q1)
structure Inv (B : Nat) (G : Base) (oms : List (Oper × Nat)) (rs : List DRes) (nx0 : Nat) (e0 : Env) (g0 : H) (ρ0 : Ctx) (h0 : H) (w0 : World) (ds : List Deferred) (D : Nat → Bool) (ρ : Ctx) (a : Act) (w : World) : Prop where
 size : a.tmps.size = e0.sz
 val : ∀ t, VRel ρ (vals D rs 0 t (e0.get t)) (a.tmps.getD t undef)
 rep : Rep B G ρ (hD D oms rs nx0 g0) w
 step : Step ρ0 h0 w0 ρ (hD D oms rs nx0 g0) w
 defs : a.defers = ds
 free : ∀ p ∈ asOf rs 0, D p.1 = false → ρ (nx0 + p.1) = none
 room : nx0 + rs.length ≤ (hD D oms rs nx0 g0).nx
theorem Inv.erel (X : Drawn P G rec ops M oms rs nx0 e0 g0) {ρ0 : Ctx} {h0 : H} {w0 : World} {ds : List Deferred} {D : Nat → Bool} {ρ : Ctx} {a : Act} {w : World} (I : Inv B G oms rs nx0 e0 g0 ρ0 h0 w0 ds D ρ a w) (hd : Done ops M D) {i : Nat} {o : Oper}
   (ho : ops[i]? = some o) (hi : D i = false) (hp : ∀ j, (M i).testBit j = true → D j = true) {ek : Env} (h1 : ek.sz = e0.sz) (h2 : ∀ t, ek.get t = vals (upto i) rs 0 t (e0.get t)) : ERel ρ (restrict ek (o.looksAt ops)) a.tmps := by
 refine ⟨by rw [I.size, ← h1]; rfl, fun t => ?_⟩
 rw [restrict_get]
 by_cases ht : t ∈ o.looksAt ops
 · rw [if_pos ht, h2, ← X.vals_eq hd ho hi hp (by simp [opTmps, ht])]
   exact I.val t
 · rw [if_neg ht]; exact .top _
theorem put_val {a : Act} {d : Option Tmp} {v : Value} (hsz : ∀ t, d = some t → t < a.tmps.size) (t : Tmp) : (a.put d v).tmps.getD t undef = if d = some t then v else a.tmps.getD t undef := by
 cases d with
 | none => simp [Act.put]
 | some d =>
   simp only [Act.put, Option.some.injEq]
   by_cases ht : d = t
   · subst ht
     have := hsz d rfl
     simp [Array.getD_eq_getD_getElem?, this]
   · rw [if_neg ht]
     simp [Array.getD_eq_getD_getElem?, Array.getElem?_setIfInBounds_ne ht]
theorem put_size (a : Act) (d : Option Tmp) (v : Value) : (a.put d v).tmps.size = a.tmps.size := by cases d <;> simp [Act.put]
theorem put_defers (a : Act) (d : Option Tmp) (v : Value) : (a.put d v).defers = a.defers := by cases d <;> rfl
end
theorem addAs_congr {nx0 : Nat} {f f' : Nat → Bool} : ∀ (l : List (Nat × AObj)) (h : H), (∀ p ∈ l, f p.1 = f' p.1) → addAs nx0 f l h = addAs nx0 f' l h
 | [], h, _ => rfl
 | (j, ob) :: l, h, hh => by
   simp only [addAs]
   have := hh (j, ob) (by simp)
   simp only at this
   rw [this]
   exact addAs_congr l _ fun p hp => hh p (List.mem_cons_of_mem _ hp)
theorem Step.base {ρ0 ρ ρ' : Ctx} {h0 h hs h' hf : H} {w0 w w' : World} (S0 : Step ρ0 h0 w0 ρ h w) (hn : hs.nx = h.nx) (hsub : ∀ x o, hs.get x = some o → h.get x = some o) (S : Step ρ hs w ρ' h' w')
   (hlive : ∀ r, r < w.heap.size → Live ρ' hf r → Live ρ h r) (hfn : hf.nx = h'.nx) (hg : ∀ n o, hf.get n = some o → h'.get n = some o ∨ h.get n = some o) : Step ρ0 h0 w0 ρ' hf w' := by
 refine ⟨fun n hlt => ?_, ?_, Nat.le_trans S0.size S.size, S.os.trans S0.os, S.tape.trans S0.tape, S.output.trans S0.output, fun r hr hl => ?_, fun r hr hl => ?_, fun n hlt hnone => ?_⟩
 · rw [S.sub n (by rw [hn]; exact Nat.lt_of_lt_of_le hlt S0.nx), S0.sub n hlt]
 · rw [hfn]
   have := S.nx
   have := S0.nx
   omega
 · rw [S.frame r (Nat.lt_of_lt_of_le hr S0.size) (fun l => hl (S0.live r hr (l.grow hsub))), S0.frame r hr hl]
 · exact S0.live r hr (hlive r (Nat.lt_of_lt_of_le hr S0.size) hl)
 · have h1 := S0.gone n hlt hnone
   have h2 : hs.get n = none := by
     cases hq : hs.get n with
     | none => rfl
     | some o => rw [hsub n o hq] at h1; cases h1
   have h3 := S.gone n (by rw [hn]; exact Nat.lt_of_lt_of_le hlt S0.nx) h2
   cases hq : hf.get n with
   | none => rfl
   | some o =>
     rcases hg n o hq with q | q
     · rw [h3] at q; cases q
     · rw [h1] at q; cases q
section
variable {rec : Ev} {ops : Array Oper} {M : Nat → Nat} {oms : List (Oper × Nat)} {rs : List DRes} {nx0 : Nat} {e0 : Env} {g0 : H} {ρ0 : Ctx} {h0 : H} {w0 : World} {ds : List Deferred}
theorem Drawn.hD_base (X : Drawn P G rec ops M oms rs nx0 e0 g0) {D : Nat → Bool} (hd : Done ops M D) {x : Nat} {o : AObj} (h : (stg D oms rs 0 g0 0).1.get x = some o) : (hD D oms rs nx0 g0).get x = some o := by
 rw [hD, addAs_old]
 · exact h
 · rintro p h1 h2 rfl
   simp only [Bool.and_eq_true, Bool.not_eq_true'] at h2
   rw [X.unk hd h1 h2.2] at h; cases h
theorem stg_still {D : Nat → Bool} {i : Nat} {r : DRes} (hr : rs[i]? = some r) (he : r.k.eff = false) : stg (D1 D i) oms rs 0 g0 0 = stg D oms rs 0 g0 0 := by
 refine stg_congr _ _ _ _ _ fun k r' hk hek => ?_
 simp only [Nat.zero_add, D1]
 by_cases hki : k = i
 · subst hki; rw [hr] at hk; cases hk; rw [he] at hek; cases hek
 · simp [hki]
theorem hD_still {D : Nat → Bool} {i : Nat} {r : DRes} (hr : rs[i]? = some r) (he : r.k.eff = false) (ha : ∀ ob, r.k ≠ .a ob) : hD (D1 D i) oms rs nx0 g0 = hD D oms rs nx0 g0 := by
 rw [hD, hD, stg_still hr he]
 refine addAs_congr _ _ fun p hp => ?_
 obtain ⟨k, r', h1, h2, h3⟩ := (asOf_mem rs 0 p).1 hp
 have : p.1 ≠ i := by
   intro e
   have : k = i := by omega
   subst this
   rw [hr] at h1; cases h1
   exact ha _ h2
 simp [D1, this]
theorem Inv.next (X : Drawn P G rec ops M oms rs nx0 e0 g0) {D : Nat → Bool} {ρ ρ' : Ctx} {a : Act} {w w' : World} (I : Inv B G oms rs nx0 e0 g0 ρ0 h0 w0 ds D ρ a w) (hd : Done ops M D) {i : Nat} {o : Oper} {r : DRes}
   (ho : ops[i]? = some o) (hr : rs[i]? = some r) (hi : D i = false) (hp : ∀ j, (M i).testBit j = true → D j = true) {v' : Value} (hsub : Sub ρ ρ') (hv : VRel ρ' r.v v') (hrep : Rep B G ρ' (hD (D1 D i) oms rs nx0 g0) w')
   (hstep : Step ρ0 h0 w0 ρ' (hD (D1 D i) oms rs nx0 g0) w') (hfree : ∀ p ∈ asOf rs 0, D1 D i p.1 = false → ρ' (nx0 + p.1) = none) (hroom : nx0 + rs.length ≤ (hD (D1 D i) oms rs nx0 g0).nx) :
   Inv B G oms rs nx0 e0 g0 ρ0 h0 w0 ds (D1 D i) ρ' (a.put o.dst v') w' := by
 obtain ⟨_, _, _, _, hst, _, _, _, _, hlt⟩ := X.fact i o r ho hr
 refine ⟨(put_size _ _ _).trans I.size, fun t => ?_, hrep, hstep, (put_defers _ _ _).trans I.defs, hfree, hroom⟩
 rw [X.vals_add hd ho hr hi hp, put_val (fun t ht => by rw [I.size]; exact hlt t (hst.1.trans ht)), ← hst.1]
 by_cases hdt : r.d = some t
 · rw [if_pos hdt, if_pos hdt]; exact hv
 · rw [if_neg hdt, if_neg hdt]; exact (I.val t).mono hsub
theorem Inv.go (X : Drawn P G rec ops M oms rs nx0 e0 g0) (hc : CallSound P B G rec) (hnx : h0.nx ≤ nx0) {D : Nat → Bool} {ρ : Ctx} {a : Act} {w : World} (I : Inv B G oms rs nx0 e0 g0 ρ0 h0 w0 ds D ρ a w) (hd : Done ops M D) {i : Nat} {o : Oper} {r : DRes}
   (ho : ops[i]? = some o) (hr : rs[i]? = some r) (hi : D i = false) (hp : ∀ j, (M i).testBit j = true → D j = true) (b : Frame) (k : List Item) (cs : List Frame) (rest : List Nat) :
   ∃ ρ' a' w', Inv B G oms rs nx0 e0 g0 ρ0 h0 w0 ds (D1 D i) ρ' a' w' ∧ Steps P (lone (b.atR a (.inRegion ops (i :: rest) :: k)) cs w) (lone (b.atR a' (.inRegion ops rest :: k)) cs w') := by
 obtain ⟨ek, gk, ak, esk, hst, hsz, hget, hstg, hes, hlt⟩ := X.fact i o r ho hr
 have E : ERel ρ (restrict ek (o.looksAt ops)) a.tmps := I.erel X hd ho hi hp hsz hget
 have hSsub := X.hS_sub hd hp
 have hSnx : (hS (M i) D oms rs nx0 g0).nx = (hD D oms rs nx0 g0).nx := by rw [hS, hD, addAs_nx, addAs_nx]
 have RS : Rep B G ρ (hS (M i) D oms rs nx0 g0) w := I.rep.forget hSnx hSsub
 have freeS : ∀ ρ' h' w', Step ρ (hS (M i) D oms rs nx0 g0) w ρ' h' w' → ∀ p ∈ asOf rs 0, D1 D i p.1 = false → ρ' (nx0 + p.1) = none := by
   intro ρ' h' w' S p hpm hD1
   have hDp : D p.1 = false := by
     simp only [D1, Bool.or_eq_false_iff] at hD1; exact hD1.2
   obtain ⟨k', r', q1, q2, q3⟩ := (asOf_mem rs 0 p).1 hpm
   have := (List.getElem?_eq_some_iff.1 q1).1
   have hroom := I.room
   rw [S.sub _ (by rw [hSnx]; omega)]
   exact I.free p hpm hDp
 have hst2 := hst.2
 cases hk : r.k with
 | s =>
   rw [hk] at hst2
   obtain ⟨hw, hv⟩ := hst2
   have hw' := cy_ E hw
   have hh := hD_still (oms := oms) (nx0 := nx0) (g0 := g0) (D := D) hr (by rw [hk]; rfl) (by rw [hk]; simp)
   refine ⟨ρ, a.put o.dst undef, w, I.next X hd ho hr hi hp (fun _ _ h => h) (by rw [hv]; exact .skip) (hh ▸ I.rep) (hh ▸ I.step) (freeS ρ _ w (.refl _ _ _)) (hh ▸ I.room), .one ?_⟩
   have := stepR_op_skip (P := P) (b := b) (a := a) (k := k) (cs := cs) (w := w) (ops := ops) (i := i) (rest := rest) (by simp [ho, hw'])
   rw [ho] at this
   exact this
 | q =>
   rw [hk] at hst2
   obtain ⟨hw, hcl⟩ := hst2
   have hw' := cy_ E hw
   have hh := hD_still (oms := oms) (nx0 := nx0) (g0 := g0) (D := D) hr (by rw [hk]; rfl) (by rw [hk]; simp)
   obtain ⟨ek2, hsz2, hget2, hq⟩ := X.quiet i o r ho hr hk
   obtain ⟨s, s1, s2, s3⟩ := X.stage hd
   have E2 : ERel ρ (restrict ek2 (o.looksAt ops)) a.tmps := I.erel X hd ho hi hp hsz2 hget2
   obtain ⟨h', hv⟩ := hq s s1 (by
     cases hb : s.abs.testBit i
     · rfl
     · rw [X.absD hd i (by rw [← s2]; exact hb)] at hi; cases hi) (fun x hx => by
     cases hb : (M i).testBit x
     · rfl
     · have := hp x hb; rw [s3 x hx] at this; cases this)
   have hq' := aop_quiet hcl hv
   have hheap : addAs nx0 (unseen (M i) s.abs) (asOf rs 0) s.g = hS (M i) D oms rs nx0 g0 := by
     rw [hS, ← s2]
   rw [hq', hheap] at hv
   obtain ⟨v', w', ρ', g1, g2, g3, g4⟩ := (aop_sound RS E2 o hv).ends (b.atR a (.inRegion ops (i :: rest) :: k)) cs
   obtain ⟨R', L'⟩ := I.rep.remember hSnx hSsub g3 g2 (hf := hD D oms rs nx0 g0) hSnx.symm (fun x ob hx => by
     cases hq : (hS (M i) D oms rs nx0 g0).get x with
     | none => exact .inr ⟨hx, rfl⟩
     | some o2 =>
       have := hSsub x o2 hq
       rw [hx] at this; cases this
       exact .inl rfl)
   have S' := I.step.base hSnx hSsub g3 L' hSnx.symm (fun n ob hn => .inr hn)
   exact ⟨ρ', a.put o.dst v', w', I.next X hd ho hr hi hp (RS.sub_of g3) g1 (hh ▸ R') (hh ▸ S') (freeS ρ' _ w' g3) (hh ▸ I.room),
     step_does ho hw' (fun c hcd => by rw [hcd] at hv; simp [aop] at hv) g4⟩
 | a ob =>
   rw [hk] at hst2
   obtain ⟨hw, hcl, h', hv, hob⟩ := hst2
   have hw' := cy_ E hw
   have his : i < rs.length := (List.getElem?_eq_some_iff.1 hr).1
   have hmem : (i, ob) ∈ asOf rs 0 := (asOf_mem rs 0 (i, ob)).2 ⟨i, r, hr, hk, by simp⟩
   have hN : ρ (nx0 + i) = none := I.free (i, ob) hmem hi
   have hltN : nx0 + i < (hD D oms rs nx0 g0).nx := by have := I.room; omega
   obtain ⟨v', w', j, g1, g2, g3, g4, g5, g6, g7, g8, g9, g10⟩ := (aop_lays I.rep E hN hltN o hcl hv hob).out
   have hstl := stg_still (oms := oms) (g0 := g0) (D := D) hr (show r.k.eff = false by rw [hk]; rfl)
   have habs : (stg D oms rs 0 g0 0).2.testBit i = false := by
     cases hb : (stg D oms rs 0 g0 0).2.testBit i
     · rfl
     · rw [X.absD hd i hb] at hi; cases hi
   have hnx' : (hD (D1 D i) oms rs nx0 g0).nx = ((hD D oms rs nx0 g0).set (nx0 + i) ob).nx := by
     show _ = (hD D oms rs nx0 g0).nx
     rw [hD, hD, addAs_nx, addAs_nx, hstl]
   have hsubD : ∀ x o', (hD (D1 D i) oms rs nx0 g0).get x = some o' → ((hD D oms rs nx0 g0).set (nx0 + i) ob).get x = some o' := by
     intro x o' hx
     rw [hD, hstl] at hx
     rw [H.get_set]
     rcases addAs_get _ _ _ _ hx with q | ⟨p, q1, q2, q3, q4⟩
     · have hne : x ≠ nx0 + i := by
         rintro rfl
         rw [X.unk hd hmem habs] at q; cases q
       rw [if_neg hne]
       exact X.hD_base hd q
     · subst q3 q4
       by_cases hpi : p.1 = i
       · rw [if_pos (by omega)]
         have := as_uniq rs p q1 (i, ob) hmem hpi.symm
         simp only at this
         rw [this]
       · rw [if_neg (by omega)]
         simp only [D1, hpi, decide_false, Bool.false_or, Bool.and_eq_true, Bool.not_eq_true'] at q2
         exact addAs_sel (by simp [q2.1, q2.2]) _ _ (.inl q1) (as_uniq rs p q1)
   have R' := g4.forget hnx' hsubD
   have S' : Step ρ0 h0 w0 (fun n => if n = nx0 + i then some j else ρ n) (hD (D1 D i) oms rs nx0 g0) w' := by
     refine ⟨fun n hn => ?_, ?_, Nat.le_trans I.step.size g6, g8.trans I.step.os, g9.trans I.step.tape, g10.trans I.step.output, fun r' hr' hl => ?_, fun r' hr' hl => ?_, fun n hn hnone => ?_⟩
     · rw [if_neg (by omega)]; exact I.step.sub n hn
     · rw [hnx']; exact I.step.nx
     · rw [g7 r' (Nat.lt_of_lt_of_le hr' I.step.size)]; exact I.step.frame r' hr' hl
     · exact I.step.live r' hr' (g5 r' (Nat.lt_of_lt_of_le hr' I.step.size) (hl.grow hsubD))
     · have h1 := I.step.gone n hn hnone
       cases hq : (hD (D1 D i) oms rs nx0 g0).get n with
       | none => rfl
       | some o' =>
         have := hsubD n o' hq
         rw [H.get_set, if_neg (by omega), h1] at this
         cases this
   refine ⟨_, a.put o.dst v', w', I.next X hd ho hr hi hp g3 g2 R' S' (fun p hpm hD1 => ?_) (by rw [hnx']; exact I.room), step_does ho hw' (fun c hcd => by rw [hcd] at hv; simp [aop] at hv) ⟨_, _, g1, rfl, rfl⟩⟩
   simp only [D1, Bool.or_eq_false_iff, decide_eq_false_iff_not] at hD1
   rw [if_neg (by omega)]
   exact I.free p hpm hD1.2
 | e g' =>
   rw [hk] at hst2
   obtain ⟨hw, _, habs, hv⟩ := hst2
   have hw' := cy_ E hw
   have hse : r.k.eff = true := by rw [hk]; rfl
   have hsq := X.stg_eq hd hr hse hi hp
   rw [← hsq] at hstg
   have hheap : addAs nx0 (unseen (M i) ak) (asOf rs 0) gk = hS (M i) D oms rs nx0 g0 := by
     rw [hS, ← hstg]
   rw [hheap] at hv
   obtain ⟨v', w', ρ', g1, g2, g3, g4⟩ := evOp_sound hc RS E o hv (b.atR a (.inRegion ops (i :: rest) :: k)) cs
   have hlast : stg (D1 D i) oms rs 0 g0 0 = (g', M i) := stg_last hk oms rs 0 i g0 0 (X.omsOf i o ho) hr (by simp [D1]) (fun k' r' hlt' hk' hek => by
     simp only [Nat.zero_add, D1]
     have hne : k' ≠ i := by omega
     simp only [hne, decide_false, Bool.false_or]
     cases hq : D k'
     · rfl
     · rw [hd.closed k' i hq (X.chain hr hk' hse hek hlt')] at hi; cases hi)
   have hnx' : (hD (D1 D i) oms rs nx0 g0).nx = g'.nx := by rw [hD, addAs_nx, hlast]
   have hfull : ∀ x o', (hD (D1 D i) oms rs nx0 g0).get x = some o' → g'.get x = some o' ∨ ((hD D oms rs nx0 g0).get x = some o' ∧ (hS (M i) D oms rs nx0 g0).get x = none) := by
     intro x o' hx
     rw [hD, hlast] at hx
     rcases addAs_get _ _ _ _ hx with q | ⟨p, q1, q2, q3, q4⟩
     · exact .inl q
     · subst q3 q4
       simp only [Bool.and_eq_true, Bool.not_eq_true', D1, Bool.or_eq_true, decide_eq_true_eq] at q2
       have hpi : p.1 ≠ i := by
         intro e
         obtain ⟨k', r', p1, p2, p3⟩ := (asOf_mem rs 0 p).1 q1
         have : k' = i := by omega
         subst this
         rw [hr] at p1; cases p1
         rw [hk] at p2; cases p2
       have hDp : D p.1 = true := q2.1.resolve_left hpi
       have habp : (stg D oms rs 0 g0 0).2.testBit p.1 = false := by
         cases hb : (stg D oms rs 0 g0 0).2.testBit p.1
         · rfl
         · have := habs p.1 (by rw [← hstg] at hb; exact hb)
           rw [q2.2] at this; cases this
       refine .inr ⟨addAs_sel (by simp [hDp, habp]) _ _ (.inl q1) (as_uniq rs p q1), ?_⟩
       rw [hS, addAs_old]
       · exact X.unk hd q1 habp
       · intro q hq hu he
         have : q.1 = p.1 := by omega
         simp only [unseen, Bool.and_eq_true] at hu
         rw [this, q2.2] at hu
         cases hu.1
   obtain ⟨R', L'⟩ := I.rep.remember hSnx hSsub g3 g2 hnx' hfull
   have S' := I.step.base hSnx hSsub g3 L' hnx' (fun n o' hn => (hfull n o' hn).imp_right fun x => x.1)
   refine ⟨ρ', a.put o.dst v', w', I.next X hd ho hr hi hp (RS.sub_of g3) g1 R' S' (freeS ρ' _ w' g3) ?_, step_does ho hw' (evOp_nodefer hv) g4⟩
   rw [hnx']
   have := g3.nx
   have := I.room
   omega
end
def cnt (D : Nat → Bool) : Nat → Nat
 | 0 => 0
 | k + 1 => cnt D k + (match D k with | true => 0 | false => 1)
theorem cnt_same {D D' : Nat → Bool} : ∀ n, (∀ k, k < n → D k = D' k) → cnt D n = cnt D' n
 | 0, _ => rfl
 | n + 1, h => by
   simp only [cnt]
   rw [cnt_same n fun k hk => h k (by omega), h n (by omega)]
theorem cnt_add {D : Nat → Bool} {i : Nat} (hi : D i = false) : ∀ n, i < n → cnt D n = cnt (D1 D i) n + 1
 | 0, h => by omega
 | n + 1, h => by
   simp only [cnt]
   by_cases e : i = n
   · subst e
     rw [cnt_same i (D := D1 D i) (D' := D) fun k hk => by simp [D1]; omega]
     simp [D1, hi]
   · rw [cnt_add hi n (by omega)]
     have : D1 D i n = D n := by simp [D1]; omega
     rw [this]; omega
theorem cnt_zero {D : Nat → Bool} : ∀ n, cnt D n = 0 → ∀ k, k < n → D k = true
 | 0, _, k, hk => by omega
 | n + 1, h, k, hk => by
   simp only [cnt] at h
   by_cases e : k = n
   · subst e
     cases hd : D k
     · rw [hd] at h; simp at h
     · rfl
   · exact cnt_zero n (by omega) k (by omega)
theorem cnt_pos {D : Nat → Bool} : ∀ n, cnt D n ≠ 0 → ∃ k, k < n ∧ D k = false
 | 0, h => absurd rfl h
 | n + 1, h => by
   simp only [cnt] at h
   cases hd : D n
   · exact ⟨n, by omega, hd⟩
   · rw [hd] at h
     obtain ⟨k, q1, q2⟩ := cnt_pos (D := D) n (by simpa using h)
     exact ⟨k, by omega, q2⟩
def Dl (listed : Array Bool) : Nat → Bool := fun j => listed.getD j false
theorem Dl_set {listed : Array Bool} {i : Nat} (h : i < listed.size) : Dl (listed.setIfInBounds i true) = D1 (Dl listed) i := by
 funext j
 simp only [Dl, D1, Array.getD_eq_getD_getElem?]
 by_cases e : j = i
 · subst e; simp [h]
 · rw [Array.getElem?_setIfInBounds_ne (Ne.symm e)]; simp [e]
section
variable {rec : Ev} {ops : Array Oper} {M : Nat → Nat} {oms : List (Oper × Nat)} {rs : List DRes} {nx0 : Nat} {e0 : Env} {g0 : H} {ρ0 : Ctx} {h0 : H} {w0 : World} {ds : List Deferred}
theorem Drawn.some_ready (X : Drawn P G rec ops M oms rs nx0 e0 g0) {listed : Array Bool} (hsz : listed.size = ops.size) : ∀ k, k < ops.size → Dl listed k = false → ∃ j, j ∈ Region.ready .any ops listed := by
 intro k
 induction k using Nat.strongRecOn with
 | _ k ih =>
   intro hk hD
   have ho : ops[k]? = some ops[k] := Array.getElem?_eq_getElem hk
   by_cases hall : ∀ e ∈ (ops[k]).after, Region.binds .any e = true → listed.getD e.on false = true
   · refine ⟨k, mem_ready.2 ⟨?_, ops[k], ho, hall⟩⟩
     simp only [Dl, Array.getD_eq_getD_getElem?] at hD ⊢
     rw [Array.getElem?_eq_getElem (by omega)] at hD ⊢
     simpa using hD
   · have : ∃ e ∈ (ops[k]).after, Region.binds .any e = true ∧ listed.getD e.on false = false := by
       apply Classical.byContradiction
       intro hn
       apply hall
       intro e he hb
       cases hq : listed.getD e.on false
       · exact absurd ⟨e, he, hb, hq⟩ hn
       · rfl
     obtain ⟨e, he, hb, hq⟩ := this
     have hlt := (X.masks k ops[k] (by rw [Array.getElem?_toList]; exact ho)).1 e he hb
     exact ih e.on hlt (by omega) hq
theorem Inv.run (X : Drawn P G rec ops M oms rs nx0 e0 g0) (hc : CallSound P B G rec) (hnx : h0.nx ≤ nx0) (b : Frame) (k : List Item) (cs : List Frame) : ∀ (fuel t : Nat) (listed : Array Bool) (ρ : Ctx) (a : Act) (w : World),
   listed.size = ops.size → Inv B G oms rs nx0 e0 g0 ρ0 h0 w0 ds (Dl listed) ρ a w → Done ops M (Dl listed) → cnt (Dl listed) ops.size = fuel →
   ∃ ρ' a' w', Inv B G oms rs nx0 e0 g0 ρ0 h0 w0 ds (upto ops.size) ρ' a' w' ∧ Steps P (lone (b.atR a (.inRegion ops (Region.linearise.go .any ops fuel t listed []) :: k)) cs w) (lone (b.atR a' k) cs w') := by
 intro fuel
 induction fuel with
 | zero =>
   intro t listed ρ a w hsz I hd hcnt
   have : Dl listed = upto ops.size := by
     funext j
     cases hj : Dl listed j
     · have : ¬ j < ops.size := fun h => by rw [cnt_zero _ hcnt j h] at hj; cases hj
       simp [upto, this]
     · simp [upto, hd.dom j hj]
   rw [this] at I
   exact ⟨ρ, a, w, I, .one (by simpa [Region.linearise.go] using stepR_region_end)⟩
 | succ fuel ih =>
   intro t listed ρ a w hsz I hd hcnt
   obtain ⟨u, hu, hDu⟩ := cnt_pos (D := Dl listed) ops.size (by omega)
   obtain ⟨j, hj⟩ := X.some_ready hsz u hu hDu
   simp only [Region.linearise.go]
   change ∃ ρ' a' w', _ ∧ Steps P (lone (b.atR a (.inRegion ops (match (Region.ready .any ops listed)[t % (Region.ready .any ops listed).length]? with
     | some i => Region.linearise.go .any ops fuel (t / (Region.ready .any ops listed).length) (listed.setIfInBounds i true) [i]
     | none => [].reverse) :: k)) cs w) _
   cases hi : (Region.ready .any ops listed)[t % (Region.ready .any ops listed).length]? with
   | none =>
     exfalso
     have hpos : 0 < (Region.ready .any ops listed).length := List.length_pos_of_mem hj
     have := Nat.mod_lt t hpos
     rw [List.getElem?_eq_none_iff] at hi
     omega
   | some i =>
     simp only []
     rw [linearise_go_acc, List.reverse_singleton, List.singleton_append]
     have hmem := List.mem_of_getElem? hi
     obtain ⟨h1, o, ho, hall⟩ := mem_ready.1 hmem
     have his : i < ops.size := (Array.getElem?_eq_some_iff.1 ho).1
     have hDi : Dl listed i = false := by
       simp only [Dl, Array.getD_eq_getD_getElem?] at h1 ⊢
       rw [Array.getElem?_eq_getElem (by omega)] at h1 ⊢
       simpa using h1
     have hp : ∀ j, (M i).testBit j = true → Dl listed j = true := fun j hj => by
       obtain ⟨e, q1, q2, q3⟩ := (X.masks i o (by rw [Array.getElem?_toList]; exact ho)).2 j hj
       have hon : Dl listed e.on = true := hall e q1 q2
       rcases q3 with rfl | q3
       · exact hon
       · exact hd.closed _ _ hon q3
     have hr : rs[i]? = some (rs[i]'(by rw [X.len]; exact his)) := List.getElem?_eq_getElem _
     obtain ⟨ρ1, a1, w1, I1, s1⟩ := I.go X hc hnx hd ho hr hDi hp b k cs (Region.linearise.go .any ops fuel (t / (Region.ready .any ops listed).length) (listed.setIfInBounds i true) [])
     have hset := Dl_set (listed := listed) (i := i) (by omega)
     obtain ⟨ρ2, a2, w2, I2, s2⟩ := ih (t / (Region.ready .any ops listed).length) (listed.setIfInBounds i true) ρ1 a1 w1 (by simp [hsz]) (by rw [hset]; exact I1) (by rw [hset]; exact hd.add his hp) (by
       rw [hset]
       have := cnt_add hDi ops.size his
       omega)
     exact ⟨ρ2, a2, w2, I2, s1.trans s2⟩
end
theorem draw_sound (hmix : P.follows .mixedOrders = true) {rec : Ev} (hc : CallSound P B G rec) : DrawSound P B G rec := by
 intro ops e h e' h' hb t ρ w a R E b k cs
 unfold evDraw at hb
 split at hb
 case h_2 => cases hb
 rename_i ms hms
 simp only at hb
 split at hb
 · cases hb
 rename_i htm
 split at hb
 · cases hb
 rename_i rs hrs
 split at hb
 · cases hb
 rename_i hchk
 split at hb
 · cases hb
 rename_i e1 he1
 simp only [Option.some.injEq, Prod.mk.injEq] at hb
 obtain ⟨rfl, rfl⟩ := hb
 simp only [Bool.and_eq_true] at hchk
 obtain ⟨hchk, hst⟩ := hchk
 obtain ⟨hlen, hmask⟩ := masksFrom_spec ops.toList [] [] ms rfl hms (by intro i o ho; simp at ho)
 simp only [List.nil_append] at hlen hmask
 let M : Nat → Nat := fun i => ms.getD i 0
 let oms := ops.toList.zip ms
 let g0 : H := { tr := h.tr, nx := h.nx + ops.toList.length }
 have homs : ∀ (i : Nat) o, ops[i]? = some o → oms[i]? = some (o, M i) := fun i o ho => by
   have his := (Array.getElem?_eq_some_iff.1 ho).1
   have hm : ms[i]? = some (ms[i]'(by rw [hlen]; simpa using his)) := List.getElem?_eq_getElem _
   have ho' : ops.toList[i]? = some o := by rw [Array.getElem?_toList]; exact ho
   show (ops.toList.zip ms)[i]? = _
   have hM : M i = ms[i]'(by rw [hlen]; simpa using his) := by simp only [M, List.getD_eq_getElem?_getD, hm, Option.getD_some]
   exact List.getElem?_zip_eq_some.2 ⟨ho', by rw [hm, hM]⟩
 obtain ⟨hl2, hspec⟩ := dPass_spec oms 0 e g0 0 [] [] rs hrs
 have homl : oms.length = ops.size := by
   show (ops.toList.zip ms).length = _
   rw [List.length_zip, hlen]; simp
 have hrl : rs.length = ops.size := by omega
 have X : Drawn P G rec ops M oms rs h.nx e g0 := by
   refine ⟨hrl, fun i p hp => ?_, homs, hmask, fun i j oi oj hoi hoj hne h1 h2 d hd => ?_, fun i o r ho hr => ?_, fun i o r ho hr hq => ?_, fun s hs p hp => ?_⟩
   · have := List.getElem?_zip_eq_some.1 (show (ops.toList.zip ms)[i]? = some (p.1, p.2) from hp)
     simp only [M, List.getD_eq_getElem?_getD, this.2, Option.getD_some]
   · simp only [tmpsOk, List.all_eq_true] at htm
     have := htm ((oi, M i), i) (List.mk_mem_zipIdx_iff_getElem?.2 (homs i oi hoi)) ((oj, M j), j) (List.mk_mem_zipIdx_iff_getElem?.2 (homs j oj hoj))
     simp only [Bool.or_eq_true, h1, h2, hd, Bool.false_eq_true, or_false, Bool.not_eq_true', List.contains_eq_mem, decide_eq_false_iff_not] at this
     rcases this with this | this
     · exact absurd (Nat.eq_of_beq_eq_true this) hne
     · exact this
   · obtain ⟨ek, gk, ak, esk, ask, q1, q2, q3, q4, ⟨tl, q5, q5'⟩, q6, q7, q8⟩ := hspec i o (M i) r (homs i o ho) hr
     simp only [Nat.zero_add] at q1 q3 q4 q5' q7
     refine ⟨ek, gk, ak, esk, ⟨q1.1, ?_⟩, q2, q3, q4, q7, q8⟩
     have h2 := q1.2
     have his := (Array.getElem?_eq_some_iff.1 ho).1
     cases hk : r.k with
     | e g' =>
       rw [hk] at h2
       refine ⟨h2.1, h2.2.1, h2.2.2.1, ?_⟩
       rw [← h2.2.2.2]
       have : asOf rs 0 = ask ++ tl := by rw [q5]; rfl
       rw [this, addAs_skip]
       intro p hp
       have hge := q5' p hp
       cases hb : (M i).testBit p.1
       · simp [unseen, hb]
       · have := hmask.lt i (by simpa using his) p.1 hb
         omega
     | _ => rw [hk] at h2; exact h2
   · obtain ⟨ek, q1, q2, q3⟩ := dCheck_spec oms rs 0 e hchk i o (M i) r (homs i o ho) hr hq
     simp only [Nat.zero_add] at q2 q3
     exact ⟨ek, q1, q2, q3⟩
   · simp only [stOk, List.all_eq_true] at hst
     have := hst s hs p hp
     simpa using this
 have D0 : Dl (Array.replicate ops.size false) = fun _ => false := by
   funext j
   simp [Dl, Array.getElem?_replicate]
   split <;> rfl
 have hstg0 : stg (fun _ => false) oms rs 0 g0 0 = (g0, 0) := stg_none _ _ _ _ _ fun _ _ _ _ => rfl
 have hD0 : hD (fun _ => false) oms rs h.nx g0 = g0 := by
   rw [hD, hstg0]
   have : ∀ (l : List (Nat × AObj)) (x : H), addAs h.nx (fun _ => false && !Nat.testBit (g0, 0).2 0) l x = x := by
     intro l
     induction l with
     | nil => intro x; rfl
     | cons p l ih => intro x; exact ih x
   rw [addAs_congr (f' := fun _ => false && !Nat.testBit (g0, 0).2 0) _ _ fun _ _ => rfl]
   exact this _ _
 have hg0 : ∀ x, g0.get x = h.get x := fun x => rfl
 have R0 : Rep B G ρ g0 w := ⟨R.base, R.own, R.inj, fun n i hn => by have := R.fresh n i hn; show n < h.nx + _; omega, fun n hn => by have := R.names n hn; show n < h.nx + _; omega⟩
 have S0 : Step ρ h w ρ g0 w := ⟨fun _ _ => rfl, by show h.nx ≤ h.nx + _; omega, Nat.le_refl _, rfl, rfl, rfl, fun _ _ _ => rfl, fun _ _ hl => hl, fun _ _ hg => hg⟩
 have I0 : Inv B G oms rs h.nx e g0 ρ h w a.defers (Dl (Array.replicate ops.size false)) ρ a w := by
   rw [D0]
   refine ⟨E.size, fun t => ?_, by rw [hD0]; exact R0, by rw [hD0]; exact S0, rfl, fun p _ _ => ?_, ?_⟩
   · rw [vals_none _ _ _ fun _ _ _ _ => rfl]; exact E.get t
   · cases hq : ρ (h.nx + p.1) with
     | none => rfl
     | some i => have := R.fresh _ i hq; omega
   · rw [hD0, hrl]; show _ ≤ h.nx + ops.toList.length; simp
 obtain ⟨ρ', a', w', I, s⟩ := Inv.run X hc (Nat.le_refl _) b k cs ops.size t (Array.replicate ops.size false) ρ a w (by simp) I0 (by rw [D0]; exact ⟨fun _ h => by simp at h, fun _ _ h => by simp at h⟩) (by
   rw [D0]
   have : ∀ n, cnt (fun _ => false) n = n := by
     intro n
     induction n with
     | zero => rfl
     | succ n ih => simp [cnt, ih]
   exact this _)
 have hvt : ∀ t x, vals (upto ops.size) rs 0 t x = vals (fun _ => true) rs 0 t x := fun t x => vals_congr _ _ _ fun k r hk _ => by
   have := (List.getElem?_eq_some_iff.1 hk).1
   simp [upto]; omega
 have hstgt : stg (upto ops.size) oms rs 0 g0 0 = stg (fun _ => true) oms rs 0 g0 0 := stg_congr _ _ _ _ _ fun k r hk _ => by
   have := (List.getElem?_eq_some_iff.1 hk).1
   simp [upto]; omega
 have hDt : hD (upto ops.size) oms rs h.nx g0 = addAs h.nx (fun j => !(stg (fun _ => true) oms rs 0 g0 0).2.testBit j) (asOf rs 0) (stg (fun _ => true) oms rs 0 g0 0).1 := by
   rw [hD, hstgt]
   refine addAs_congr _ _ fun p hp => ?_
   obtain ⟨k, r, h1, _, h3⟩ := (asOf_mem rs 0 p).1 hp
   have := (List.getElem?_eq_some_iff.1 h1).1
   have : decide (p.1 < ops.size) = true := by simp; omega
   simp [upto, this]
 obtain ⟨hes, hev⟩ := putsOf_spec rs 0 e e1 he1
 have hR := I.rep
 have hS := I.step
 rw [hDt] at hR hS
 refine ⟨ρ', w', a', hR, hS, ⟨by rw [I.size, hes], fun t => ?_⟩, I.defs, ?_⟩
 · rw [hev t, ← hvt]; exact I.val t
 · simp only [Region.schedule, hmix, Bool.true_or, if_true]
   exact s
end Go.Ab
