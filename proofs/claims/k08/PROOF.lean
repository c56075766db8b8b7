import PyProof.Rows.All
import Wide.All
import OpenK.AllK
import Wide.FinOn
import HandS.Base
import HandS.Call
import HandS.List
import HandS.Comp
import HandS.Ends
import HandS.Words
import HandS.GenList
import HandS.AnyAll
import HandS.WordsList
import HandS.TupAny
import HandS.Zip
import HandS.Wide
import HandS.IsInst
import HandS.Dict
import HandS.TupMul
import HandS.Style
import HandS.EndOwn
import KE.KNestM
import HandS.SetFor
import HandS.Strs
import HandS.Text
import HandS.Iter
import HandS.SortInts
import HandS.More
import PySem.Challenge.RW_warmove_k08_whole_runs_put_together
set_option Elab.async false
set_option linter.all false
set_option maxRecDepth 100000
/-! a generator expression whose element calls defs: all(..), any(..) -/
namespace Gx
open PySem PySem.Spec PyProof.Rows L2 GenW GxR
/-- the context of a generator expression's frame -/
abbrev gcx (X : Cx) (A' : Around) (s : Shared) (H : Hp) (cenv : Env) (fp : List Addr) (pn : List (Addr × Obj)) : Cx :=
  { X with A := A', s_0 := s, H_0 := H, env := cenv, outer := X.stack, stack := cenv :: X.stack, ex := fp, fn := fun _ => false, pn := pn, xe := fun _ _ => False }
section
variable {X : Cx} {pins : List (Addr × Obj)} {σ : L2.St} {H : Hp} {s : Shared}
theorem inv_woke {s' : Shared} (I : Inv X pins σ H s) (hh : s'.heap = s.heap) (ho : s'.os = s.os) (hb : AllBare s'.gens) : Inv X pins σ H s' :=
  ⟨I.ok, ho.trans I.os, hb, by rw [hh]; exact I.base, by rw [hh]; exact I.loc, by rw [hh]; exact I.cell, I.free, I.freeC, by rw [hh]; exact I.pin, by rw [hh]; exact I.hok, I.len⟩
theorem gen_start {scope : Scope} {own : List (Str × Nat)} {fp : List Addr} {A' : Around} {code : Value} {s5 : Shared} {m : Str → Option Value} {pn : List (Addr × Obj)} {cenv : Env}
    (I : Inv X pins σ H s) (ok : BlkOk X.N X.env.scope scope own) (hN : X.N.Nodup) (hcell : ∀ y ∈ scope.names, y.2 ≠ .cell) (hfp : ∀ b ∈ fp, FpOk X pins H b ∧ b < s.heap.objs.size) (hA : A'.handled = none)
    (hcenv : cenv = genEnv scope (cloFrom X.env.cells scope.names []) s.heap.objs.size code builtinsNs X.env) (hfr : A'.frames = some (cenv :: X.stack)) (hos : s5.os = s.os) (hb : AllBare s5.gens)
    (kp : ∀ b o, s.heap.get? b = some o → s5.heap.get? b = some o) (ns : s5.heap.Ns s.heap.objs.size m) (hpn : ∀ p ∈ pn, s5.heap.get? p.1 = some p.2 ∧ s.heap.objs.size < p.1 ∧ ∀ v, p.2.data ≠ .cell v) :
    Inv (gcx X A' s H cenv fp pn) [] (wipe σ (own.map (·.2))) H s5 := by
  have hfree : ∀ y ∈ scope.names, y.2 = .free → ∃ c, X.env.cells.lookup y.1 = some c := fun y hy e => by
    rcases ok.free y hy e with k | k
    · exact I.ok.has _ (.inl k)
    · exact I.ok.has _ (.inr k)
  have hL : cenv.locals = s.heap.objs.size := by rw [hcenv]; rfl
  have hcl : cenv.cells = cloFrom X.env.cells scope.names [] := by rw [hcenv]; rfl
  have hsc : cenv.scope = scope := by rw [hcenv]; rfl
  have cm : ∀ {y c}, (y, c) ∈ cloFrom X.env.cells scope.names [] → X.env.cells.lookup y = some c ∧ c < s.heap.objs.size := fun {y c} hm => by
    rcases cloFrom_mem hm with hm | ⟨h1, rfl⟩
    · cases hm
    · obtain ⟨c, hc⟩ := hfree _ h1 rfl
      rw [hc]
      obtain ⟨w, z⟩ := I.cell _ _ hc
      exact ⟨rfl, z.lt⟩
  have mem : ∀ {y c}, cenv.cells.lookup y = some c → X.env.cells.lookup y = some c ∧ c < s.heap.objs.size := fun {y c} e => by
    rw [hcl] at e
    exact cm (PySem.mem_of_lookup e)
  have look : ∀ {y}, scope.names.lookup y = some .free → ∃ c, cenv.cells.lookup y = some c ∧ X.env.cells.lookup y = some c := fun {y} hl => by
    have hy : (y, NameKind.free) ∈ scope.names := PySem.mem_of_lookup hl
    obtain ⟨c', e'⟩ := mem_lookup (cloFrom_has (cells := X.env.cells) (acc := []) hy)
    rw [← hcl] at e'
    exact ⟨c', e', (mem e').1⟩
  have okB : (gcx X A' s H cenv fp pn).Ok := by
    refine ⟨I.ok.mod, by show cenv.scope.kind = _; rw [hsc]; exact ok.kind, by show cenv.globals = _; rw [hcenv]; exact I.ok.glob, by show cenv.builtins = _; rw [hcenv]; rfl, by show s.heap.objs.size ≤ cenv.locals; rw [hL]; exact Nat.le_refl _,
      fun y z c e1 e2 => I.ok.inj y z c (mem e1).1 (mem e2).1, fun y hy => ?_, fun y c z e => (by cases z), fun _ => hA, hfr, .inr ⟨rfl, by show cenv.frame = some cenv.locals; rw [hcenv]; rfl⟩, fun b hb => ⟨?_, fun y c e z => ?_⟩, I.bs, Nat.le_trans I.ok.bsz I.sz, fun b o e hb => ?_, fun b hb z => ?_, I.stack, I.stkFree⟩
    · show ∃ c, cenv.cells.lookup y = some c
      have key : ∀ k, cenv.kindOf y = some k → (k = .cell ∨ k = .free) → ∃ c, cenv.cells.lookup y = some c := fun k hk hk' => by
        unfold Env.kindOf at hk
        rw [hsc] at hk
        rcases hk' with rfl | rfl
        · exact absurd rfl (hcell _ (PySem.mem_of_lookup hk))
        · obtain ⟨c, h1, _⟩ := look hk
          exact ⟨c, h1⟩
      rcases hy with hy | hy
      · exact key _ hy (.inl rfl)
      · exact key _ hy (.inr rfl)
    · show b ≠ cenv.locals
      rw [hL]; exact Nat.ne_of_lt (hfp b hb).2
    · exact (hfp b hb).1.2.2.2.2.1 y c (mem e).1 z
    · rcases (hfp b hb).1.2.2.2.1 with z | z
      · exact I.ok.noex b o e z
      · exact absurd (Nat.lt_of_lt_of_le (Heap.lt_size e) (Nat.le_trans I.ok.bsz z)) (Nat.lt_irrefl _)
    · rcases List.mem_cons.mp (I.stkSub b z) with z | z
      · exact (hfp b hb).1.2.1 z
      · exact (hfp b hb).1.2.2.1 z
  refine ⟨okB, hos, hb, Un.kept kp, ⟨m, by show s5.heap.Ns cenv.locals m; rw [hL]; exact ns, fun i y av e1 e2 e3 => ?_⟩, fun y c e => ?_, ?_, fun y c e => I.freeC y c (mem e).1, fun p hp => ?_, I.hok.kept kp, by rw [wipe_length]; exact I.len⟩
  · obtain ⟨e2, hne⟩ := wipe_some e2
    have hfr : scope.names.lookup y = some .free := by
      have key : ∀ k, scope.names.lookup y = some k → k = .local ∨ k = .cell ∨ k = .free → scope.names.lookup y = some .free := fun k hk hk' => by
        have no : ¬ (k = .local ∨ k = .cell) := fun hh => by
          rcases ok.own _ (PySem.mem_of_lookup hk) hh with e' | e'
          · obtain ⟨p, hp, hpy⟩ := List.mem_map.mp e'
            have e3 := ok.ix p hp
            have : p.1 = y := hpy
            rw [this] at e3
            exact hne (List.mem_map.mpr ⟨p, hp, nodup_ix hN e3 e1⟩)
          · exact e' (List.mem_of_getElem? e1)
        rcases hk' with rfl | rfl | rfl
        · exact absurd (.inl rfl) no
        · exact absurd (.inr rfl) no
        · exact hk
      have e3 : Vis cenv.scope y := e3
      rw [hsc] at e3
      rcases e3 with e3 | e3 | e3
      · exact key _ e3 (.inl rfl)
      · exact key _ e3 (.inr (.inl rfl))
      · exact key _ e3 (.inr (.inr rfl))
    obtain ⟨m', hn, hl⟩ := I.loc
    have hvis : Vis X.env.scope y := (ok.free _ (PySem.mem_of_lookup hfr) rfl).elim (fun k => .inr (.inl k)) (fun k => .inr (.inr k))
    obtain ⟨w, r, q⟩ := hl i y av e1 e2 hvis
    refine ⟨w, r, .inr ⟨.inr (by show cenv.kindOf y = some .free; unfold Env.kindOf; rw [hsc]; exact hfr), ?_⟩⟩
    obtain ⟨c, h1, h2⟩ := look hfr
    rcases q with ⟨k, _⟩ | ⟨_, c', e', z⟩
    · have k : X.env.scope.names.lookup y = some .local := k
      rcases ok.free _ (PySem.mem_of_lookup hfr) rfl with k' | k' <;> rw [show X.env.scope.names.lookup y = _ from k'] at k <;> cases k
    · rw [h2] at e'; cases e'
      exact ⟨c, h1, z.keeps kp⟩
  · obtain ⟨w, z⟩ := I.cell y c (mem e).1
    exact ⟨w, z.keeps kp⟩
  · show H cenv.locals = none
    rw [hL]; exact I.hok.fresh (Nat.le_refl _)
  · have hp : p ∈ pn := by simpa using hp
    obtain ⟨h1, h2, h3⟩ := hpn p hp
    refine ⟨h1, I.hok.fresh (Nat.le_of_lt h2), ?_, fun z => ?_, h3⟩
    · show p.1 ≠ cenv.locals
      rw [hL]; exact Nat.ne_of_gt h2
    · have z : p.1 ∈ frs X.stack := z
      obtain ⟨_, o, ho, _⟩ := I.stack.mem z
      exact absurd (Nat.lt_trans h2 (Heap.lt_size ho)) (Nat.lt_irrefl _)
end
end Gx
set_option Elab.async false
set_option linter.all false
set_option maxRecDepth 100000
set_option maxHeartbeats 1000000
namespace Gx
open PySem PySem.Spec PyProof.Rows L2 GenW GxR
/-- slept: nothing but the table of generators has changed -/
structure Woke (s s' : Shared) : Prop where
  heap : s'.heap = s.heap
  os : s'.os = s.os
  bare : AllBare s'.gens
/-- what a turn asks: W a word of the turn, a measure and the heap; Qt behind the last turn, D at each value handed out -/
def Turns (J : It) (g : TG) (tt : TT) (te : TE) (vs : List Nat) (σ0 : L2.St) (W : Nat → Nat → Hp → Prop) (Qt : Hp → Prop) (Yd : V → Hp → (Hp → Prop) → Prop) : Prop :=
  ∀ i m H, W i m H → (J.stop i H ∧ Qt H) ∨ (J.go i H ∧ ∃ Nx : Hp → Prop, (∀ H', Nx H' → ∃ m', m' < m ∧ W (i + 1) m' H') ∧ ∀ x H', J.yld i H x H' → g x σ0 H' fun σ2 H2 => wipe σ2 vs = σ0 ∧ tt σ2 H2 fun b H3 => if b = true then te σ2 H3 fun y H4 => Yd y H4 Nx else Nx H3)
/-- a truth is handed out: one way goes on, the other ends -/
def YdB (go : Bool) (Qf : Hp → Prop) : V → Hp → (Hp → Prop) → Prop := fun y H Nx => ∃ b, y = .bl b ∧ (if b = go then Nx H else Qf H)
abbrev RG (Y : Cx) (σ0 : L2.St) (Qt : Hp → Prop) : GenEnd := fun n s₀ r s₁ => ((r = .ok (.ret .none) ∨ r = .ok .next) ∧ (∃ H, Inv Y [] σ0 H s₁ ∧ Qt H)) ∨ ∃ e, r = .error e ∧ False
abbrev YG (Y : Cx) (go : Bool) (Qf : Hp → Prop) : Protocol := fun n s₀ v s kap => ∃ b H σ2, v = .bool b ∧ Inv Y [] σ2 H s ∧ (b ≠ go → Qf H) ∧ (b = go → ∀ s', Woke s s' → kap (.send .none) s')
section
variable {X : Cx} {A' B : Around} {s4 : Shared} {H4 : Hp} {cenv : Env} {fp : List Addr} {pn : List (Addr × Obj)} {it : Addr} {tn : Nat → Heap → Prop} {J : It} {elt tg iter : Expr} {ifs : List Expr} {scope : Scope} {pos : Pos} {g : TG} {tt : TT} {te : TE} {vs : List Nat} {σ0 : L2.St} {W : Nat → Nat → Hp → Prop} {Qt Qf : Hp → Prop} {go : Bool}
theorem seg_gx (hA : B.over (.compLoop (.GeneratorExp elt [⟨tg, iter, ifs, 0⟩] scope pos) 0 (.ref it) .none cenv) [] = A') (hc : X.calm = true) (hco : cenv.scope.isCoroutine = false) (T : Turn X.prog X.w X.K tg J fp it tn)
    (hst : ∀ H : Hp, (∀ b ∈ fp, H b = none) → ∀ b ∈ fp, FpOk (gcx X A' s4 H4 cenv fp pn) [] H b) (hσ : wipe σ0 vs = σ0)
    (hg : PG (gcx X A' s4 H4 cenv fp pn) tg g) (ht : PTs (gcx X A' s4 H4 cenv fp pn) ifs tt) (he : PE (gcx X A' s4 H4 cenv fp pn) elt te) (hturn : Turns J g tt te vs σ0 W Qt (YdB go Qf)) :
    ∀ (m n i : Nat) (H : Hp) (s₀ s : Shared), m + 1 ≤ n → Inv (gcx X A' s4 H4 cenv fp pn) [] σ0 H s → tn i s.heap → (∀ b ∈ fp, H b = none) → W i m H →
      Seg (model X.prog X.w) B (RG (gcx X A' s4 H4 cenv fp pn) σ0 Qt) (YG (gcx X A' s4 H4 cenv fp pn) go Qf) n s₀ (.compLoop (.GeneratorExp elt [⟨tg, iter, ifs, 0⟩] scope pos) 0 (.ref it) .none cenv)
        ((model X.prog X.w).den (.compLoop (.GeneratorExp elt [⟨tg, iter, ifs, 0⟩] scope pos) 0 (.ref it) .none cenv)) [] s := by
  intro m
  induction m using Nat.strongRecOn with
  | _ m ih =>
  intro n i H s₀ s hmn I st fr w
  show Seg _ B _ _ _ s₀ _ ((compTurn (.GeneratorExp elt [⟨tg, iter, ifs, 0⟩] scope pos) 0 (.ref it) .none cenv).onRaise (leaving cenv)) [] s
  rw [compTurn_gen, Sem.onRaise_eq_wrap]
  refine seg_bind_wrap (wpAny_standAt ?_)
  rcases hturn i m H w with ⟨stop, qn⟩ | ⟨goes, Nx, hN, step⟩
  · refine seg_bind_wrap ?_
    rw [hA]
    refine wpAny_mono (T.done (gcx X A' s4 H4 cenv fp pn) rfl rfl rfl hc i [] s σ0 H _ I (hst H fr) st stop) (fun r s1 hr => ?_) fun _ _ e => e
    obtain ⟨rfl, I1⟩ := hr
    exact seg_end (.ok .next) (.inl ⟨.inr rfl, H, I1, qn⟩)
  · refine seg_bind_wrap ?_
    rw [hA]
    refine wpAny_mono (T.item (gcx X A' s4 H4 cenv fp pn) rfl rfl rfl hc i [] s σ0 H _ I (hst H fr) st goes) (fun r s1 hr => ?_) fun _ _ e => e
    obtain ⟨u, rfl, h1⟩ := hr
    refine seg_bind_wrap ?_
    rw [hA]
    refine wpAny_mono h1 (fun _ s2 h2 => ?_) fun _ _ e => e
    obtain ⟨x, H2, I2, rx, yl, st2, fr2⟩ := h2
    have I2' := I2.pinned (hst H2 fr2) (T.obj _ _ st2)
    refine seg_bind_wrap ?_
    rw [hA]
    refine wpAny_mono (hg.run _ s2 σ0 H2 x u _ I2' rx (step x H2 yl)) (fun _ s3 h3 => ?_) fun _ _ e => e.elim
    obtain ⟨σ3, H3, I3, hw3, q3⟩ := h3
    -- the records of the iterator stand
    have keeps : ∀ {σ' : L2.St} {H' : Hp} {s' : Shared}, Inv (gcx X A' s4 H4 cenv fp pn) ([] ++ pinsAt fp s2.heap) σ' H' s' → tn (i + 1) s'.heap ∧ ∀ b ∈ fp, H' b = none := fun {σ' H' s'} I' =>
      ⟨T.keep _ _ _ st2 fun b hb o e => (I'.pin (b, o) (List.mem_append_right _ (List.mem_append_right _ (mem_pinsAt hb e)))).1, fun b hb => by
        obtain ⟨o, e, _⟩ := T.obj _ _ st2 b hb
        exact (I'.pin (b, o) (List.mem_append_right _ (List.mem_append_right _ (mem_pinsAt hb e)))).2.1⟩
    have back : ∀ {H' : Hp} {s' : Shared}, Inv (gcx X A' s4 H4 cenv fp pn) ([] ++ pinsAt fp s2.heap) σ3 H' s' → Inv (gcx X A' s4 H4 cenv fp pn) [] σ0 H' s' := fun {H' s'} I' => by
      refine I'.unpinned.weak ?_ fun j v e => ?_
      · rw [← hw3, wipe_length]
      · rw [← hw3] at e
        exact (wipe_some e).1
    refine seg_bind_wrap ?_
    rw [hA]
    refine wpAny_mono (ht.run _ s3 σ3 H3 _ I3 q3) (fun b s5 h5 => ?_) fun _ _ e => e.elim
    obtain ⟨H5, I5, q5⟩ := h5
    cases b with
    | false =>
      simp only [Bool.false_eq_true, if_false]
      obtain ⟨m', hm, w'⟩ := hN H5 q5
      obtain ⟨k1, k2⟩ := keeps I5
      exact seg_again rfl (ih m' hm n (i + 1) H5 s₀ s5 (by omega) (back I5) k1 k2 w')
    | true =>
      simp only [if_true]
      have hy : ∀ v, yieldOut cenv v = yieldValue v := fun v => by simp only [yieldOut, hco, Bool.false_eq_true, if_false]
      simp only [hy]
      rw [Sem.bind_eq_wrap', Sem.bind_eq_wrap', Sem.wrap_wrap, Sem.wrap_wrap]
      refine seg_wrap ?_
      rw [hA]
      refine wpAny_mono (he.run _ s5 σ3 H5 _ I5 q5) (fun v s6 h6 => ?_) fun _ _ e => e.elim
      obtain ⟨y, H6, I6, ry, b, rfl, q6⟩ := h6
      have ev : v = .bool b := ry
      subst ev
      obtain ⟨n', rfl⟩ : ∃ n', n = n' + 1 := ⟨n - 1, by omega⟩
      refine seg_at (seg_yield rfl rfl rfl ⟨b, H6, σ3, rfl, I6.unpinned, fun hb => ?_, fun hb s' wk => ?_⟩)
      · rw [if_neg hb] at q6; exact q6
      · rw [if_pos hb] at q6
        obtain ⟨m', hm, w'⟩ := hN H6 q6
        obtain ⟨k1, k2⟩ := keeps I6
        exact seg_again rfl (ih m' hm n' (i + 1) H6 s' s' (by omega) (inv_woke (back I6) wk.heap wk.os wk.bare) (by rw [wk.heap]; exact k1) k2 w')
/-- from its start -/
theorem seg_gx0 (hA : B.over (.compLoop (.GeneratorExp elt [⟨tg, iter, ifs, 0⟩] scope pos) 0 (.ref it) .none cenv) [] = A') (hc : X.calm = true) (hco : cenv.scope.isCoroutine = false) (T : Turn X.prog X.w X.K tg J fp it tn)
    (hst : ∀ H : Hp, (∀ b ∈ fp, H b = none) → ∀ b ∈ fp, FpOk (gcx X A' s4 H4 cenv fp pn) [] H b) (hσ : wipe σ0 vs = σ0)
    (hg : PG (gcx X A' s4 H4 cenv fp pn) tg g) (ht : PTs (gcx X A' s4 H4 cenv fp pn) ifs tt) (he : PE (gcx X A' s4 H4 cenv fp pn) elt te) (hturn : Turns J g tt te vs σ0 W Qt (YdB go Qf))
    (m : Nat) (H : Hp) (s₀ s : Shared) (I : Inv (gcx X A' s4 H4 cenv fp pn) [] σ0 H s) (st : tn 0 s.heap) (fr : ∀ b ∈ fp, H b = none) (w : W 0 m H) :
      Seg (model X.prog X.w) B (RG (gcx X A' s4 H4 cenv fp pn) σ0 Qt) (YG (gcx X A' s4 H4 cenv fp pn) go Qf) (m + 1) s₀ (.compStart (.GeneratorExp elt [⟨tg, iter, ifs, 0⟩] scope pos) 0 (.ref it) .none cenv)
        ((model X.prog X.w).den (.compStart (.GeneratorExp elt [⟨tg, iter, ifs, 0⟩] scope pos) 0 (.ref it) .none cenv)) [] s := by
  have loop := seg_gx hA hc hco T hst hσ hg ht he hturn m (m + 1) 0 H s₀ s (Nat.le_refl _) I st fr w
  show Seg _ B _ _ _ s₀ _ ((compStart (.GeneratorExp elt [⟨tg, iter, ifs, 0⟩] scope pos) 0 (.ref it) .none cenv).onRaise (leaving cenv)) [] s
  unfold compStart
  rw [Sem.onRaise_eq_wrap]
  show Seg _ B _ _ _ s₀ _ ((ask >>= _).wrap _ _ _ _) [] s
  refine seg_bind_wrap (wpAny_askSetting ?_)
  split
  · exact seg_again rfl loop
  · first
      | exact seg_bind_wrap (wpAny_rule (seg_bind_wrap (wpAny_standAt (seg_bind_wrap (T.self _ 0 s _ _ st (seg_again rfl loop))))))
      | (refine seg_bind_wrap (wpAny_rule ?_); show Seg _ B _ _ _ s₀ _ ((standAt iter.pos >>= _).wrap _ _ _ _) [] s; exact seg_bind_wrap (wpAny_standAt (seg_bind_wrap (T.self _ 0 s _ _ st (seg_again rfl loop)))))
end
/-! ### the consumer -/
section
variable {P : Program} {w : World} {Y : Cx} {σ0 : L2.St} {Qt Qf : Hp → Prop} {A : Around} {R : Result → Shared → Prop} {a : Addr} {g : Nat} {gobj : Obj}
theorem all_loop (hY : Y.prog = P ∧ Y.w = w) (hh : A.handled = none) (hd : A.depth < recursionLimit) (hp : (a, gobj) ∈ Y.pn) (hgo : ∀ s : Shared, s.heap.get? a = some gobj → s.heap.IsGen a g)
    (hT : ∀ s₁ H s', Inv Y [] σ0 H s₁ → Qt H → (∀ b o, s₁.heap.get? b = some o → s'.heap.get? b = some o) → s'.os = s₁.os → AllBare s'.gens → R (.ok (.ret (.bool true))) s')
    (hF : ∀ s₁ H σ2 s', Inv Y [] σ2 H s₁ → Qf H → (∀ b o, s₁.heap.get? b = some o → s'.heap.get? b = some o) → s'.os = s₁.os → AllBare s'.gens → R (.ok (.ret (.bool false))) s') :
    ∀ (n : Nat) (s : Shared), s.heap.IsGen a g → s.heap.NoLimit → (∃ gs, s.gens[g]? = some gs ∧ gs.Goes (model P w) A.in1.in1 (RG Y σ0 Qt) (YG Y true Qf) n (.send .none) (s.setGen g .running)) →
      codeAny (model P w) A (.builtin "all.loop" ⟨[.ref a], []⟩) R s := by
  intro n
  induction n with
  | zero =>
    intro s hg hl ⟨gs, hgs, hgoes⟩
    refine codeAny_builtin F.entry_all_loop ?_
    rw [Around.under_plainId F.plain_all_loop _]
    show wpAny _ A.in1 (pyNext (.ref a) >>= _) _ _ s
    refine wpAny_bind (next_genG (A := A.in1) hh hl hd hg hgs hgoes (fun v s₁ gs' hbare hv => ?_) (fun s₁ hq h' hk => ?_) fun e s₁ he => he.elim)
    · obtain ⟨b, H, σ2, rfl, I, h1, h2⟩ := hv
      cases b with
      | true => exact (h2 rfl _ ⟨rfl, rfl, I.bare⟩).elim
      | false =>
        refine wpAny_bind (wpAny_holding (wpAny_truthy_bool ?_))
        refine wpAny_bind (wpAny_letGo ?_)
        simp only [Bool.false_eq_true, if_false]
        refine wpAny_bind (wpAny_rule (wpAny_pure ?_))
        exact hF s₁ H σ2 _ I (h1 (by decide)) (fun _ _ e => e) rfl (allBare_setGen I.bare hbare)
    · obtain ⟨H, I, q⟩ := hq
      refine wpAny_bind (wpAny_rule (wpAny_pure ?_))
      exact hT s₁ H _ I q hk rfl (allBare_setGen I.bare rfl)
  | succ n ih =>
    intro s hg hl ⟨gs, hgs, hgoes⟩
    have hgl : g < s.gens.size := (Array.getElem?_eq_some_iff.mp hgs).1
    refine codeAny_builtin F.entry_all_loop ?_
    rw [Around.under_plainId F.plain_all_loop _]
    show wpAny _ A.in1 (pyNext (.ref a) >>= _) _ _ s
    refine wpAny_bind (wpAny_gsz (n := g + 1) hgl (next_genG (A := A.in1) hh hl hd hg hgs hgoes (fun v s₁ gs' hbare hv => ?_) (fun s₁ hq h' hk => ?_) fun e s₁ he => he.elim))
    · intro hsz
      obtain ⟨b, H, σ2, rfl, I, h1, h2⟩ := hv
      have hsz1 : g < s₁.gens.size := by
        have q : (s₁.setGen g gs').gens.size = s₁.gens.size := setGen_size _ _ _
        have hsz' : g + 1 ≤ (s₁.setGen g gs').gens.size := hsz
        omega
      refine wpAny_bind (wpAny_holding (wpAny_truthy_bool ?_))
      refine wpAny_bind (wpAny_letGo ?_)
      cases b with
      | true =>
        simp only [if_true]
        refine wpAny_pure ⟨plainId_quiet F.plain_all_loop _, ih (s₁.setGen g gs') (hgo _ (I.pin (a, gobj) (List.mem_append_left _ hp)).1) I.nolimit ⟨gs', setGen_at hsz1, ?_⟩⟩
        exact h2 rfl _ ⟨rfl, rfl, allBare_setGen (s := s₁.setGen g gs') (allBare_setGen I.bare hbare) rfl⟩
      | false =>
        simp only [Bool.false_eq_true, if_false]
        refine wpAny_bind (wpAny_rule (wpAny_pure ?_))
        exact hF s₁ H σ2 _ I (h1 (by decide)) (fun _ _ e => e) rfl (allBare_setGen I.bare hbare)
    · intro hsz
      obtain ⟨H, I, q⟩ := hq
      refine wpAny_bind (wpAny_rule (wpAny_pure ?_))
      exact hT s₁ H _ I q hk rfl (allBare_setGen I.bare rfl)
theorem any_loop (hY : Y.prog = P ∧ Y.w = w) (hh : A.handled = none) (hd : A.depth < recursionLimit) (hp : (a, gobj) ∈ Y.pn) (hgo : ∀ s : Shared, s.heap.get? a = some gobj → s.heap.IsGen a g)
    (hT : ∀ s₁ H s', Inv Y [] σ0 H s₁ → Qt H → (∀ b o, s₁.heap.get? b = some o → s'.heap.get? b = some o) → s'.os = s₁.os → AllBare s'.gens → R (.ok (.ret (.bool false))) s')
    (hF : ∀ s₁ H σ2 s', Inv Y [] σ2 H s₁ → Qf H → (∀ b o, s₁.heap.get? b = some o → s'.heap.get? b = some o) → s'.os = s₁.os → AllBare s'.gens → R (.ok (.ret (.bool true))) s') :
    ∀ (n : Nat) (s : Shared), s.heap.IsGen a g → s.heap.NoLimit → (∃ gs, s.gens[g]? = some gs ∧ gs.Goes (model P w) A.in1.in1 (RG Y σ0 Qt) (YG Y false Qf) n (.send .none) (s.setGen g .running)) →
      codeAny (model P w) A (.builtin "any.loop" ⟨[.ref a], []⟩) R s := by
  intro n
  induction n with
  | zero =>
    intro s hg hl ⟨gs, hgs, hgoes⟩
    refine codeAny_builtin F.entry_any_loop ?_
    rw [Around.under_plainId F.plain_any_loop _]
    show wpAny _ A.in1 (pyNext (.ref a) >>= _) _ _ s
    refine wpAny_bind (next_genG (A := A.in1) hh hl hd hg hgs hgoes (fun v s₁ gs' hbare hv => ?_) (fun s₁ hq h' hk => ?_) fun e s₁ he => he.elim)
    · obtain ⟨b, H, σ2, rfl, I, h1, h2⟩ := hv
      cases b with
      | false => exact (h2 rfl _ ⟨rfl, rfl, I.bare⟩).elim
      | true =>
        refine wpAny_bind (wpAny_holding (wpAny_truthy_bool ?_))
        refine wpAny_bind (wpAny_letGo ?_)
        simp only [if_true]
        refine wpAny_bind (wpAny_rule (wpAny_pure ?_))
        exact hF s₁ H σ2 _ I (h1 (by decide)) (fun _ _ e => e) rfl (allBare_setGen I.bare hbare)
    · obtain ⟨H, I, q⟩ := hq
      refine wpAny_bind (wpAny_rule (wpAny_pure ?_))
      exact hT s₁ H _ I q hk rfl (allBare_setGen I.bare rfl)
  | succ n ih =>
    intro s hg hl ⟨gs, hgs, hgoes⟩
    have hgl : g < s.gens.size := (Array.getElem?_eq_some_iff.mp hgs).1
    refine codeAny_builtin F.entry_any_loop ?_
    rw [Around.under_plainId F.plain_any_loop _]
    show wpAny _ A.in1 (pyNext (.ref a) >>= _) _ _ s
    refine wpAny_bind (wpAny_gsz (n := g + 1) hgl (next_genG (A := A.in1) hh hl hd hg hgs hgoes (fun v s₁ gs' hbare hv => ?_) (fun s₁ hq h' hk => ?_) fun e s₁ he => he.elim))
    · intro hsz
      obtain ⟨b, H, σ2, rfl, I, h1, h2⟩ := hv
      have hsz1 : g < s₁.gens.size := by
        have q : (s₁.setGen g gs').gens.size = s₁.gens.size := setGen_size _ _ _
        have hsz' : g + 1 ≤ (s₁.setGen g gs').gens.size := hsz
        omega
      refine wpAny_bind (wpAny_holding (wpAny_truthy_bool ?_))
      refine wpAny_bind (wpAny_letGo ?_)
      cases b with
      | false =>
        simp only [Bool.false_eq_true, if_false]
        refine wpAny_pure ⟨plainId_quiet F.plain_any_loop _, ih (s₁.setGen g gs') (hgo _ (I.pin (a, gobj) (List.mem_append_left _ hp)).1) I.nolimit ⟨gs', setGen_at hsz1, ?_⟩⟩
        exact h2 rfl _ ⟨rfl, rfl, allBare_setGen (s := s₁.setGen g gs') (allBare_setGen I.bare hbare) rfl⟩
      | true =>
        simp only [if_true]
        refine wpAny_bind (wpAny_rule (wpAny_pure ?_))
        exact hF s₁ H σ2 _ I (h1 (by decide)) (fun _ _ e => e) rfl (allBare_setGen I.bare hbare)
    · intro hsz
      obtain ⟨H, I, q⟩ := hq
      refine wpAny_bind (wpAny_rule (wpAny_pure ?_))
      exact hT s₁ H _ I q hk rfl (allBare_setGen I.bare rfl)
end
end Gx
set_option Elab.async false
set_option linter.all false
set_option maxRecDepth 100000
set_option maxHeartbeats 2000000
namespace Gx
open PySem PySem.Spec PyProof.Rows L2 GenW GxR
/-- a generator expression's own scope -/
structure GenOk (env : Env) (N : List Str) (scope : Scope) (own : List (Str × Nat)) : Prop where
  blk : BlkOk N env.scope scope own
  co : scope.isCoroutine = false
  cell : ∀ y ∈ scope.names, y.2 ≠ .cell
  dot : scope.names.lookup (".0" : Str) = some NameKind.local
section
variable {X : Cx} {pins : List (Addr × Obj)} {σ : L2.St} {H : Hp} {s : Shared}
theorem wipe_wipe (σ : L2.St) : ∀ vs : List Nat, wipe (wipe σ vs) vs = wipe σ vs := fun vs => by
  apply List.ext_getElem?
  intro i
  by_cases h : i ∈ vs
  · have z : ∀ σ' : L2.St, ∀ ws : List Nat, i ∈ ws → (wipe σ' ws)[i]? = if i < σ'.length then some none else none := fun σ' ws => by
      induction ws with
      | nil => intro h; cases h
      | cons w ws ih =>
        intro h
        show ((wipe σ' ws).set w none)[i]? = _
        rw [List.getElem?_set]
        by_cases e : w = i
        · rw [if_pos e, wipe_length, e]
        · rw [if_neg e]
          rcases List.mem_cons.mp h with h | h
          · exact absurd h.symm e
          · exact ih h
    rw [z _ _ h, z _ _ h, wipe_length]
  · rw [wipe_out h]
theorem room_gen {k : Nat} {A : Around} {elt tg iter : Expr} {ifs : List Expr} {scope : Scope} {pos : Pos} {it : Value} {cenv : Env} (hr : Room (k + 1) A) : Room k (A.in1.in1.over (.compLoop (.GeneratorExp elt [⟨tg, iter, ifs, 0⟩] scope pos) 0 it .none cenv) []) :=
  ⟨hr.hd, by have := hr.dp; show A.depth + 1 + 3 * k + 5 < _; omega, by have := hr.un; show A.units + 1 + 1 + 3 + 16 * k + 200 < _; omega⟩
theorem gen_ready {c P : Addr} {elt tg iter : Expr} {ifs : List Expr} {scope : Scope} {own : List (Str × Nat)} {gpos : Pos} {wi : TI} {g : TG} {tt : TT} {te : TE} {k : Nat} {Q' : Value → Shared → Prop} {Qt Qf : Hp → Prop} {go : Bool}
    (hc : X.calm = true) (hr : Room (k + 1) X.A) (hN : X.N.Nodup) (TB : TabB X.base X.mg c P) (hcode : X.env.code = .ref c) (S : GenOk X.env X.N scope own) (hi : PI X tg iter wi)
    (hg : ∀ (A' : Around) (s : Shared) (H : Hp) (cl : List (Str × Addr)) (C : Addr) (code : Value) (fp : List Addr) (pn : List (Addr × Obj)), Room k A' → PG (gcx X A' s H (genEnv scope cl C code builtinsNs X.env) fp pn) tg g)
    (ht : ∀ (A' : Around) (s : Shared) (H : Hp) (cl : List (Str × Addr)) (C : Addr) (code : Value) (fp : List Addr) (pn : List (Addr × Obj)), Room k A' → PTs (gcx X A' s H (genEnv scope cl C code builtinsNs X.env) fp pn) ifs tt)
    (he : ∀ (A' : Around) (s : Shared) (H : Hp) (cl : List (Str × Addr)) (C : Addr) (code : Value) (fp : List Addr) (pn : List (Addr × Obj)), Room k A' → PE (gcx X A' s H (genEnv scope cl C code builtinsNs X.env) fp pn) elt te)
    (hs : ∀ v, genFold iter X.env v = pure v) (I : Inv X pins σ H s)
    (h : wi σ H fun J H1 => TabG H1 P ∧ ∀ H2, Tabbed P H1 H2 → ∃ W : Nat → Nat → Hp → Prop, (∃ m, W 0 m H2) ∧ Turns J g tt te (own.map (·.2)) (wipe σ (own.map (·.2))) W Qt (YdB go Qf))
    (hQ : ∀ (a : Addr) (gi n : Nat) (s5 : Shared) (Y : Cx) (gobj : Obj), Y.prog = X.prog ∧ Y.w = X.w → (a, gobj) ∈ Y.pn → (∀ s : Shared, s.heap.get? a = some gobj → s.heap.IsGen a gi) → s5.heap.IsGen a gi → s5.heap.NoLimit →
      (∃ gs, s5.gens[gi]? = some gs ∧ gs.Goes (model X.prog X.w) X.A.in1.in1 (RG Y (wipe σ (own.map (·.2))) Qt) (YG Y go Qf) n (.send .none) (s5.setGen gi .running)) →
      (∀ s₁ H σ2 s', Inv Y [] σ2 H s₁ → (∀ b o, s₁.heap.get? b = some o → s'.heap.get? b = some o) → s'.os = s₁.os → AllBare s'.gens → Inv X pins σ H s') → Q' (.ref a) s5) :
    wpAny (model X.prog X.w) X.A (eval (.GeneratorExp elt [⟨tg, iter, ifs, 0⟩] scope gpos) X.env) Q' X.xe s := by
  have hfree : ∀ y ∈ scope.names, y.2 = .free → ∃ c, X.env.cells.lookup y.1 = some c := fun y hy e => by
    rcases S.blk.free y hy e with k | k
    · exact I.ok.has _ (.inl k)
    · exact I.ok.has _ (.inr k)
  refine wpAny_GeneratorExp_make S.co (closure_ok hfree) S.cell S.dot S.blk.kind (by have := hr.dp; omega) ?_ hs
  refine thn (hi.run pins s σ H _ I h) fun v s1 h1 => thn h1 fun itv s2 h2 => ?_
  obtain ⟨it, fp, tn, J, H1, rfl, I1, T, st1, f1, ⟨ps, hP, htr⟩, q1⟩ := h2
  have hPs : s2.heap.get? P = some { cls := .none, data := .fields ps } := I1.hok P _ hP
  have cd : PySem.W.CodeHd s2.heap c P := TB.code.keeps fun b u e => I1.bk b u e
  refine ⟨I1.nolimit, ?_⟩
  have nfP : ∀ b ∈ fp, b ≠ P := fun b hb z => by
    have := (f1 b hb).1
    rw [z, hP] at this
    cases this
  have cont : ∀ (code : Value) (h3 : Heap) (tk : Nat) (more : Array Value), Heap.ExtBut P s2.heap h3 → s2.heap.objs.size ≤ h3.objs.size → h3.get? P = some { cls := .none, data := .fields (ps ++ more) } → TriplesOk (ps ++ more).toList →
      wpAny (model X.prog X.w) X.A (builtinsFor X.env.globals X.env.builtins) (fun bi s₄ =>
        ∀ h', h'.Ns s₄.heap.objs.size (fun y => if y = ".0" then some (.ref it) else none) → Heap.SameBut s₄.heap.objs.size (s₄.heap.push { cls := .type "frame", data := .dict #[] }) h' →
          Q' (.ref h'.objs.size) { s₄ with
            gens := s₄.gens.push (.fresh (.compStart (.GeneratorExp elt [⟨tg, iter, ifs, 0⟩] scope gpos) 0 (.ref it) .none (genEnv scope (cloFrom X.env.cells scope.names []) s₄.heap.objs.size code bi X.env))),
            toks := s₄.toks + 1 + 1 + 1,
            heap := h'.push { cls := .type "generator", data := .fields #[.int s₄.gens.size 0, .str "<genexpr>" (s₄.toks + 1), .str (X.env.qual ++ "<genexpr>") (s₄.toks + 1 + 1)] } }) X.xe { s2 with heap := h3, toks := tk } := by
    intro code h3 tk more hx hsz hP3 ht3
    obtain ⟨bm, ob, e1, e2, e3, e4, e5, e6, e7, e8⟩ := TB.bm
    refine wpAny_builtinsFor (m := X.mg) (by rw [I1.ok.glob]; exact (I1.mod.glob.keeps I1.bk).extBut hx TB.gP) e1 e2 (hx _ _ e4 (I1.bk _ _ e5)) e6 e7 e8 ?_
    intro h' hns hsb
    have J2 : Inv X pins σ (upd H1 P (.tbl (ps ++ more))) { s2 with heap := h3, toks := tk } := inv_tab (more := more) (g' := s2.gens) (d' := s2.drawn) I1 hP (fun b u hb e => hx b u hb e) hP3 I1.bare
    obtain ⟨W, ⟨m, w0⟩, hturn⟩ := q1 _ ⟨⟨ps ++ more, upd_same, ht3⟩, fun b hb => upd_ne hb⟩
    -- the new objects
    have szp : (h3.push { cls := .type "frame", data := .dict #[] }).objs.size = h3.objs.size + 1 := Heap.size_push ..
    have sz' : h'.objs.size = h3.objs.size + 1 := by rw [← szp]; exact hsb.1
    have kp : ∀ b o, h3.get? b = some o → (h'.push { cls := .type "generator", data := .fields #[.int s2.gens.size 0, .str "<genexpr>" (tk + 1), .str (X.env.qual ++ "<genexpr>") (tk + 1 + 1)] }).get? b = some o := fun b o e =>
      Heap.get?_push_of_some _ ((hsb.2 b (Nat.ne_of_lt (Heap.lt_size e))).trans (Heap.get?_push_of_some _ e))
    have f2 : ∀ b ∈ fp, FpOk X pins (upd H1 P (.tbl (ps ++ more))) b ∧ b < h3.objs.size := fun b hb => by
      obtain ⟨o, e, _⟩ := T.obj _ _ st1 b hb
      refine ⟨⟨by rw [upd_ne (nfP b hb)]; exact (f1 b hb).1, (f1 b hb).2⟩, Nat.lt_of_lt_of_le (Heap.lt_size e) hsz⟩
    have st3 : tn 0 h3 := T.keep _ _ _ st1 fun b hb o e => hx b o (nfP b hb) e
    obtain ⟨A', hA'⟩ : ∃ A', X.A.in1.in1.over (.compLoop (.GeneratorExp elt [⟨tg, iter, ifs, 0⟩] scope gpos) 0 (.ref it) .none (genEnv scope (cloFrom X.env.cells scope.names []) h3.objs.size code builtinsNs X.env)) [] = A' := ⟨_, rfl⟩
    have hroom : Room k A' := by rw [← hA']; exact room_gen hr
    have hfrm : A'.frames = some (genEnv scope (cloFrom X.env.cells scope.names []) h3.objs.size code builtinsNs X.env :: X.stack) := by
      have e : X.A.frames = some X.stack := I1.ok.frames
      rw [← hA']
      unfold Around.over
      dsimp only
      rw [e]
      rfl
    have start : ∀ gens' : Array GenState, AllBare gens' → ∀ tk', Inv (gcx X A' { s2 with heap := h3, toks := tk } (upd H1 P (.tbl (ps ++ more))) (genEnv scope (cloFrom X.env.cells scope.names []) h3.objs.size code builtinsNs X.env) fp [(h'.objs.size, _)]) [] (wipe σ (own.map (·.2))) (upd H1 P (.tbl (ps ++ more)))
        { s2 with gens := gens', toks := tk', heap := h'.push { cls := .type "generator", data := .fields #[.int s2.gens.size 0, .str "<genexpr>" (tk + 1), .str (X.env.qual ++ "<genexpr>") (tk + 1 + 1)] } } := fun gens' hb tk' =>
      gen_start (code := code) J2 S.blk hN S.cell f2 hroom.hd rfl hfrm rfl hb kp (Heap.Ns.keeps hns fun b o e => Heap.get?_push_of_some _ e) (fun p hp => by
        rw [List.mem_singleton.mp hp]
        exact ⟨Heap.get?_push_size _ rfl, by show h3.objs.size < h'.objs.size; rw [sz']; exact Nat.lt_succ_self _, fun v z => by cases z⟩)
    have hgen : ∀ s : Shared, s.heap.get? h'.objs.size = some { cls := .type "generator", data := .fields #[.int s2.gens.size 0, .str "<genexpr>" (tk + 1), .str (X.env.qual ++ "<genexpr>") (tk + 1 + 1)] } → s.heap.IsGen h'.objs.size s2.gens.size := fun s e => ⟨_, _, _, e, rfl, rfl, rfl⟩
    refine hQ h'.objs.size s2.gens.size (m + 1) _ (gcx X A' { s2 with heap := h3, toks := tk } (upd H1 P (.tbl (ps ++ more))) (genEnv scope (cloFrom X.env.cells scope.names []) h3.objs.size code builtinsNs X.env) fp [(h'.objs.size, _)]) _ ⟨rfl, rfl⟩ (List.mem_singleton.mpr rfl) hgen (hgen _ (Heap.get?_push_size _ rfl)) (start #[] (fun _ z => by simp at z) 0).nolimit ⟨_, Array.getElem?_push_size, rfl, ?_⟩ fun s₁ Hz σ2 s' Iz ext hos hbz => ?_
    · have bare5 : AllBare (s2.gens.push (.fresh (.compStart (.GeneratorExp elt [⟨tg, iter, ifs, 0⟩] scope gpos) 0 (.ref it) .none (genEnv scope (cloFrom X.env.cells scope.names []) h3.objs.size code builtinsNs X.env)))) := I1.bare.push rfl
      have hst : ∀ H : Hp, (∀ b ∈ fp, H b = none) → ∀ b ∈ fp, FpOk (gcx X A' { s2 with heap := h3, toks := tk } (upd H1 P (.tbl (ps ++ more))) (genEnv scope (cloFrom X.env.cells scope.names []) h3.objs.size code builtinsNs X.env) fp [(h'.objs.size, _)]) [] H b := fun Hq hq b hb => by
        have ok := (start s2.gens I1.bare 0).ok
        refine ⟨hq b hb, (ok.exf b hb).1, ok.exfs b hb, .inl hb, (ok.exf b hb).2, fun p hp => ?_⟩
        rw [List.append_nil] at hp
        rw [List.mem_singleton.mp hp]
        show h'.objs.size ≠ b
        have := (f2 b hb).2
        rw [sz']
        exact Nat.ne_of_gt (Nat.lt_succ_of_lt this)
      have wf : wipe (wipe σ (own.map (·.2))) (own.map (·.2)) = wipe σ (own.map (·.2)) := wipe_wipe _ _
      exact seg_gx0 hA' hc S.co T hst wf (hg _ _ _ _ _ _ _ _ hroom) (ht _ _ _ _ _ _ _ _ hroom) (he _ _ _ _ _ _ _ _ hroom) hturn m _ _ _ (start _ (allBare_setGen (s := { s2 with gens := _ }) bare5 rfl) _) (T.keep _ _ _ st3 fun b hb o e => kp b o e) (fun b hb => (f2 b hb).1.1) w0
    · have u : Un (frs X.stack) fp (upd H1 P (.tbl (ps ++ more))) Hz h3 s'.heap := Iz.base.trans (Un.kept ext)
      refine J2.call' (s' := s') (hos.trans Iz.os) u (Iz.hok.kept ext) hbz fun b hb => ?_
      obtain ⟨⟨_, a1, _, a3, a4, a5⟩, _⟩ := f2 b hb
      exact ⟨a3, a1, a4, a5⟩
  cases hf : codeAmong gpos ps.toList with
  | none =>
    refine wpAny_genexprCodeX hcode (cd.code hPs htr) (cd.tab hPs) hf fun c' h' tk hx hge hlt hco' _ htab' _ => ?_
    obtain ⟨o1, vs, f1, tf, fl, tg, inF, tx, tt, op, _, _, _, _, _, _, _, _, _, htr', _⟩ := hco'
    exact cont _ h' tk _ hx (Nat.le_trans hge (Nat.le_of_lt hlt)) htab'.2 htr'
  | some cv =>
    refine wpAny_genexprCode_hit hcode (cd.code hPs htr) hf ?_
    exact cont cv s2.heap s2.toks #[] (Heap.ExtBut.refl _ _) (Nat.le_refl _) (by rw [Array.append_empty]; exact hPs) (by rw [Array.append_empty]; exact htr)
end
end Gx
set_option Elab.async false
set_option linter.all false
set_option maxRecDepth 100000
set_option maxHeartbeats 2000000
namespace Gx
open PySem PySem.Spec PyProof.Rows L2 GenW GxR
/-- all(e for x in ..) (go true), any(..) (go false) -/
def tGen (P : Addr) (go : Bool) (wi : TI) (g : TG) (tt : TT) (te : TE) (vs : List Nat) : TE := fun σ H Q => wi σ H fun J H1 => TabG H1 P ∧ ∀ H2, Tabbed P H1 H2 →
  ∃ W : Nat → Nat → Hp → Prop, (∃ m, W 0 m H2) ∧ Turns J g tt te vs (wipe σ vs) W (fun H => Q (.bl go) H) (YdB go fun H => Q (.bl (!go)) H)
section
variable {X : Cx} {c P : Addr} {elt tg iter : Expr} {ifs : List Expr} {scope : Scope} {own : List (Str × Nat)} {p pos gpos : Pos} {wi : TI} {g : TG} {tt : TT} {te : TE} {k : Nat}
theorem pe_allG (hc : X.calm = true) (hr : Room (k + 1) X.A) (hN : X.N.Nodup) (hgl : Gl X "all") (hm : X.mg "all" = none) (hb : bootBuiltins "all" = some (.builtin "all")) (TB : TabB X.base X.mg c P) (hcode : X.env.code = .ref c) (S : GenOk X.env X.N scope own) (hi : PI X tg iter wi)
    (hg : ∀ (A' : Around) (s : Shared) (H : Hp) (cl : List (Str × Addr)) (C : Addr) (code : Value) (fp : List Addr) (pn : List (Addr × Obj)), Room k A' → PG (gcx X A' s H (genEnv scope cl C code builtinsNs X.env) fp pn) tg g)
    (ht : ∀ (A' : Around) (s : Shared) (H : Hp) (cl : List (Str × Addr)) (C : Addr) (code : Value) (fp : List Addr) (pn : List (Addr × Obj)), Room k A' → PTs (gcx X A' s H (genEnv scope cl C code builtinsNs X.env) fp pn) ifs tt)
    (he : ∀ (A' : Around) (s : Shared) (H : Hp) (cl : List (Str × Addr)) (C : Addr) (code : Value) (fp : List Addr) (pn : List (Addr × Obj)), Room k A' → PE (gcx X A' s H (genEnv scope cl C code builtinsNs X.env) fp pn) elt te)
    (hs : ∀ v, genFold iter X.env v = pure v := by intro _; rfl)
    (hst : starEach [.GeneratorExp elt [⟨tg, iter, ifs, 0⟩] scope gpos] X.env = (false, eval (.GeneratorExp elt [⟨tg, iter, ifs, 0⟩] scope gpos) X.env) :: starEach [] X.env := by rfl) :
    PE X (.Call (.Name "all" p) [.GeneratorExp elt [⟨tg, iter, ifs, 0⟩] scope gpos] [] pos) (tGen P true wi g tt te (own.map (·.2))) := by
  refine ⟨fun pins s σ H Q I h => ?_⟩
  refine wpAny_Call_Name_kw (ld_blt I hgl hm hb ?_)
  refine PyProof.Rows.callWith_builtin1 ?_ hst (by rfl)
  rw [hst]
  show wpAny _ _ (spliced ((false, eval (.GeneratorExp elt [⟨tg, iter, ifs, 0⟩] scope gpos) X.env) :: backTo pos (starEach [] X.env))) _ _ s
  refine Calls.spliced_cons (gen_ready hc hr hN TB hcode S hi hg ht he hs I h fun a gi n s5 Y gobj hY hpn hgo hg5 hl5 hgoes back => ?_)
  refine Calls.spliced_nil ?_
  refine call_function_tree F.kind_all F.plain_all F.entry_all (F.args_all1 _) ?_
  unfold Builtin.«all»
  refine wpAny_bind (m := oneArg "all" _) (wpAny_pure ?_)
  refine wpAny_bind (wpAny_pyIter_gen hg5 ?_)
  exact wpAny_pure ⟨plainId_quiet F.plain_all_loop _, all_loop hY hr.hd hr.depth hpn hgo (fun s₁ Hz s' Iz q ext hos hb => ⟨.bl true, Hz, back s₁ Hz _ s' Iz ext hos hb, rfl, q⟩) (fun s₁ Hz σ2 s' Iz q ext hos hb => ⟨.bl false, Hz, back s₁ Hz σ2 s' Iz ext hos hb, rfl, q⟩) n s5 hg5 hl5 hgoes⟩
theorem pe_anyG (hc : X.calm = true) (hr : Room (k + 1) X.A) (hN : X.N.Nodup) (hgl : Gl X "any") (hm : X.mg "any" = none) (hb : bootBuiltins "any" = some (.builtin "any")) (TB : TabB X.base X.mg c P) (hcode : X.env.code = .ref c) (S : GenOk X.env X.N scope own) (hi : PI X tg iter wi)
    (hg : ∀ (A' : Around) (s : Shared) (H : Hp) (cl : List (Str × Addr)) (C : Addr) (code : Value) (fp : List Addr) (pn : List (Addr × Obj)), Room k A' → PG (gcx X A' s H (genEnv scope cl C code builtinsNs X.env) fp pn) tg g)
    (ht : ∀ (A' : Around) (s : Shared) (H : Hp) (cl : List (Str × Addr)) (C : Addr) (code : Value) (fp : List Addr) (pn : List (Addr × Obj)), Room k A' → PTs (gcx X A' s H (genEnv scope cl C code builtinsNs X.env) fp pn) ifs tt)
    (he : ∀ (A' : Around) (s : Shared) (H : Hp) (cl : List (Str × Addr)) (C : Addr) (code : Value) (fp : List Addr) (pn : List (Addr × Obj)), Room k A' → PE (gcx X A' s H (genEnv scope cl C code builtinsNs X.env) fp pn) elt te)
    (hs : ∀ v, genFold iter X.env v = pure v := by intro _; rfl)
    (hst : starEach [.GeneratorExp elt [⟨tg, iter, ifs, 0⟩] scope gpos] X.env = (false, eval (.GeneratorExp elt [⟨tg, iter, ifs, 0⟩] scope gpos) X.env) :: starEach [] X.env := by rfl) :
    PE X (.Call (.Name "any" p) [.GeneratorExp elt [⟨tg, iter, ifs, 0⟩] scope gpos] [] pos) (tGen P false wi g tt te (own.map (·.2))) := by
  refine ⟨fun pins s σ H Q I h => ?_⟩
  refine wpAny_Call_Name_kw (ld_blt I hgl hm hb ?_)
  refine PyProof.Rows.callWith_builtin1 ?_ hst (by rfl)
  rw [hst]
  show wpAny _ _ (spliced ((false, eval (.GeneratorExp elt [⟨tg, iter, ifs, 0⟩] scope gpos) X.env) :: backTo pos (starEach [] X.env))) _ _ s
  refine Calls.spliced_cons (gen_ready hc hr hN TB hcode S hi hg ht he hs I h fun a gi n s5 Y gobj hY hpn hgo hg5 hl5 hgoes back => ?_)
  refine Calls.spliced_nil ?_
  refine call_function_tree F.kind_any F.plain_any F.entry_any (F.args_any1 _) ?_
  unfold Builtin.«any»
  refine wpAny_bind (m := oneArg "any" _) (wpAny_pure ?_)
  refine wpAny_bind (wpAny_pyIter_gen hg5 ?_)
  exact wpAny_pure ⟨plainId_quiet F.plain_any_loop _, any_loop hY hr.hd hr.depth hpn hgo (fun s₁ Hz s' Iz q ext hos hb => ⟨.bl false, Hz, back s₁ Hz _ s' Iz ext hos hb, rfl, q⟩) (fun s₁ Hz σ2 s' Iz q ext hos hb => ⟨.bl true, Hz, back s₁ Hz σ2 s' Iz ext hos hb, rfl, q⟩) n s5 hg5 hl5 hgoes⟩
end
end Gx
set_option Elab.async false
set_option linter.all false
set_option maxRecDepth 100000
/-! Data layer: what readings ask, said of data (PyData) and of a list of slots. -/
namespace Dl
open PySem PySem.Spec PyProof.Rows L2

/-! ### data stand where the heap only grows -/
theorem rd_mono {G G' : Hp} (e : Same G G') {a : Addr} {u : HO} (h : Rd G a u) : Rd G' a u := by
  rcases h with h | ⟨o, h⟩
  · exact .inl (e _ _ h)
  · exact .inr ⟨o, e _ _ h⟩
theorem sqT_mono {K : PySem.W.Frag} {G G' : Hp} (e : Same G G') {a : Addr} {xs : List V} (h : SqT K G a xs) : SqT K G' a xs := by
  rcases h with h | h
  · exact .inl (rd_mono e h)
  · exact .inr h
theorem sqL_mono {K : PySem.W.Frag} {G G' : Hp} (e : Same G G') {a : Addr} {xs : List V} (h : SqL K G a xs) : SqL K G' a xs := e.seq h
mutual
theorem dp_mono {K : PySem.W.Frag} {G G' : Hp} (e : Same G G') : ∀ (d : PyData) (v : V), Dp K G v d → Dp K G' v d
  | .none, _, h => by cases h; exact .non
  | .bool b, _, h => by cases h; exact .bl b
  | .int i, _, h => by cases h; exact .int i
  | .str x, _, h => by cases h; exact .str x
  | .list ds, _, h => by
    cases h with
    | lst hs ha => exact .lst (sqL_mono e hs) (dpa_mono e ds _ ha)
  | .tuple ds, _, h => by
    cases h with
    | tup hs ha => exact .tup (sqT_mono e hs) (dpa_mono e ds _ ha)
  | .dict _, _, h => by cases h
theorem dpa_mono {K : PySem.W.Frag} {G G' : Hp} (e : Same G G') : ∀ (ds : List PyData) (vs : List V), DpAll K G vs ds → DpAll K G' vs ds
  | [], _, h => by cases h; exact .nil
  | d :: ds, _, h => by
    cases h with
    | cons h1 h2 => exact .cons (dp_mono e d _ h1) (dpa_mono e ds _ h2)
end
theorem dpa_len {K : PySem.W.Frag} {G : Hp} : ∀ {vs : List V} {ds : List PyData}, DpAll K G vs ds → vs.length = ds.length
  | _, _, .nil => rfl
  | _, _, .cons _ h => by rw [List.length_cons, List.length_cons, dpa_len h]
theorem dpa_get {K : PySem.W.Frag} {G : Hp} : ∀ {vs : List V} {ds : List PyData} {i : Nat} {d : PyData}, DpAll K G vs ds → ds[i]? = some d → ∃ v, vs[i]? = some v ∧ Dp K G v d
  | _, _, _, _, .nil, e => by simp at e
  | _, _, 0, _, .cons (v := v) h _, e => by
    have e' := Option.some.inj e
    subst e'
    exact ⟨v, rfl, h⟩
  | _, _, i + 1, d, .cons _ t, e => dpa_get (i := i) (d := d) t e
theorem dpa_getV {K : PySem.W.Frag} {G : Hp} : ∀ {vs : List V} {ds : List PyData} {i : Nat} {v : V}, DpAll K G vs ds → vs[i]? = some v → ∃ d, ds[i]? = some d ∧ Dp K G v d
  | _, _, _, _, .nil, e => by simp at e
  | _, _, 0, _, .cons (d := d) h _, e => by
    have e' := Option.some.inj e
    subst e'
    exact ⟨d, rfl, h⟩
  | _, _, i + 1, v, .cons _ t, e => dpa_getV (i := i) (v := v) t e
theorem dpa_app {K : PySem.W.Frag} {G : Hp} : ∀ {vs ws : List V} {ds es : List PyData}, DpAll K G vs ds → DpAll K G ws es → DpAll K G (vs ++ ws) (ds ++ es)
  | _, _, _, _, .nil, h => h
  | _, _, _, _, .cons h t, h' => .cons h (dpa_app t h')
theorem dpa_take {K : PySem.W.Frag} {G : Hp} : ∀ (n : Nat) {vs : List V} {ds : List PyData}, DpAll K G vs ds → DpAll K G (vs.take n) (ds.take n)
  | 0, _, _, _ => .nil
  | _ + 1, _, _, .nil => .nil
  | n + 1, _, _, .cons h t => .cons h (dpa_take n t)
theorem dpa_drop {K : PySem.W.Frag} {G : Hp} : ∀ (n : Nat) {vs : List V} {ds : List PyData}, DpAll K G vs ds → DpAll K G (vs.drop n) (ds.drop n)
  | 0, _, _, h => h
  | _ + 1, _, _, .nil => .nil
  | n + 1, _, _, .cons _ t => dpa_drop n t
theorem dpa_set {K : PySem.W.Frag} {G : Hp} {v : V} {d : PyData} (hd : Dp K G v d) : ∀ (n : Nat) {vs : List V} {ds : List PyData}, DpAll K G vs ds → DpAll K G (vs.set n v) (ds.set n d)
  | _, _, _, .nil => .nil
  | 0, _, _, .cons _ t => .cons hd t
  | n + 1, _, _, .cons h t => .cons h (dpa_set hd n t)

/-! ### the pen, the spring -/
inductive PK where
  | pen (c : Addr) (n : Nat)
  | spr
structure Pn where
  a : Addr
  k : PK
def Pn.on (p : Pn) (a : Addr) : Prop := a = p.a ∨ ∃ c n, p.k = .pen c n ∧ a = c
def PkOk (H : Hp) (a : Addr) : PK → Prop
  | .pen c n => ∃ (cells : List Int) (at_ rest : Int), H a = some (.lst [.ref c, .int at_, .int rest]) ∧ H c = some (.lst (cells.map V.int)) ∧ 0 ≤ at_ ∧ 0 ≤ rest ∧ cells.length = n
  | .spr => ∃ z : Int, H a = some (.lst [.int z])
def PenOk (p : Pn) (H : Hp) : Prop := PkOk H p.a p.k
/-- what may change: the pen, the tables of code objects -/
structure Pc where
  pen : Option Pn
  ts : List Addr
def POk (c : Pc) (H : Hp) : Prop := (∀ p, c.pen = some p → PenOk p H) ∧ ∀ P ∈ c.ts, GxR.TabG H P
/-- a is the pen's own list or a table -/
def IsPn (c : Pc) (a : Addr) : Prop := (∃ p, c.pen = some p ∧ a = p.a) ∨ a ∈ c.ts
theorem PenOk.mono {p : Pn} {H H' : Hp} (h : PenOk p H) (k : ∀ a o, p.on a → H a = some o → H' a = some o) : PenOk p H' := by
  obtain ⟨a, kk⟩ := p
  cases kk with
  | pen c n =>
    obtain ⟨cells, at_, rest, h1, h2, h3⟩ := h
    exact ⟨cells, at_, rest, k _ _ (.inl rfl) h1, k _ _ (.inr ⟨c, n, rfl, rfl⟩) h2, h3⟩
  | spr =>
    obtain ⟨z, h1⟩ := h
    exact ⟨z, k _ _ (.inl rfl) h1⟩
theorem PenOk.lst {p : Pn} {H : Hp} (h : PenOk p H) {a : Addr} (o : p.on a) : ∃ xs, H a = some (.lst xs) := by
  obtain ⟨b, kk⟩ := p
  cases kk with
  | pen c n =>
    obtain ⟨cells, at_, rest, h1, h2, h3⟩ := h
    rcases o with rfl | ⟨c', n', e, rfl⟩
    · exact ⟨_, h1⟩
    · cases e; exact ⟨_, h2⟩
  | spr =>
    obtain ⟨z, h1⟩ := h
    rcases o with rfl | ⟨c', n', e, rfl⟩
    · exact ⟨_, h1⟩
    · cases e
theorem POk.keep {pen : Pc} {H H' : Hp} (h : POk pen H) (k : ∀ a o, H a = some o → H' a = some o) : POk pen H' := by
  refine ⟨fun p hp => (h.1 p hp).mono fun a o _ e => k a o e, fun P hP => ?_⟩
  obtain ⟨ps, e, t⟩ := h.2 P hP
  exact ⟨ps, k _ _ e, t⟩
/-- tables and the pen stand apart -/
theorem POk.apart {pen : Pc} {H : Hp} (h : POk pen H) {p : Pn} (hp : pen.pen = some p) {P : Addr} (hP : P ∈ pen.ts) : ¬ p.on P := fun z => by
  obtain ⟨xs, h1⟩ := (h.1 p hp).lst z
  obtain ⟨ps, e, t⟩ := h.2 P hP
  rw [h1] at e; cases e

structure Vw (pen : Pc) (G H : Hp) : Prop where
  vw : Same G H
  no : ∀ a, IsPn pen a → G a = none
  ok : POk pen H
structure Go (pen : Pc) (G H G' H' : Hp) : Prop where
  gg : Same G G'
  nw : ∀ a, H a ≠ none → G' a = G a
  od : ∀ a o, ¬ IsPn pen a → H a = some o → H' a = some o
  vw : Vw pen G' H'
theorem POk.there {pen : Pc} {H : Hp} {a : Addr} (h : POk pen H) (p : IsPn pen a) : H a ≠ none := by
  rcases p with ⟨q, hq, rfl⟩ | hP
  · obtain ⟨xs, h1⟩ := (h.1 q hq).lst (.inl rfl)
    rw [h1]
    exact fun z => by cases z
  · obtain ⟨ps, e, t⟩ := h.2 a hP
    rw [e]
    exact fun z => by cases z
theorem Go.dom {pen : Pc} {G H G' H' : Hp} (g : Go pen G H G' H') {a : Addr} (h : H a ≠ none) : H' a ≠ none := by
  by_cases p : IsPn pen a
  · exact g.vw.ok.there p
  · cases e : H a with
    | none => exact absurd e h
    | some o =>
      rw [g.od a o p e]
      exact fun z => by cases z
theorem Go.refl {pen : Pc} {G H : Hp} (v : Vw pen G H) : Go pen G H G H := ⟨Same.refl _, fun _ _ => rfl, fun _ _ _ e => e, v⟩
theorem Go.trans {pen : Pc} {G H G1 H1 G2 H2 : Hp} (a : Go pen G H G1 H1) (b : Go pen G1 H1 G2 H2) : Go pen G H G2 H2 :=
  ⟨a.gg.trans b.gg, fun x h => (b.nw x (a.dom h)).trans (a.nw x h), fun x o p e => b.od x o p (a.od x o p e), b.vw⟩
/-- a new object that never changes -/
theorem Go.new {pen : Pc} {G H : Hp} (v : Vw pen G H) {p : Addr} {o : HO} (h : H p = none) : Go pen G H (upd G p o) (upd H p o) := by
  have np : ∀ a, IsPn pen a → a ≠ p := fun a q e => v.ok.there q (e ▸ h)
  have kH : ∀ a u, H a = some u → upd H p o a = some u := fun a u e => by rw [upd_ne (ne_of_none e h)]; exact e
  refine ⟨fun a u e => ?_, fun a e => ?_, fun a u _ e => kH a u e, ⟨fun a u e => ?_, fun a q => ?_, v.ok.keep kH⟩⟩
  · have h' : G p = none := by
      cases q : G p with
      | none => rfl
      | some u => rw [v.vw _ _ q] at h; cases h
    rw [upd_ne (ne_of_none e h')]; exact e
  · rw [upd_ne (fun (z : a = p) => e (by rw [z]; exact h))]
  · by_cases q : a = p
    · subst q; rw [upd_same] at e ⊢; exact e
    · rw [upd_ne q] at e ⊢; exact v.vw _ _ e
  · rw [upd_ne (np a q)]; exact v.no a q
/-- a new object that is not looked at as data -/
theorem Go.hid {pen : Pc} {G H : Hp} (v : Vw pen G H) {p : Addr} {o : HO} (h : H p = none) : Go pen G H G (upd H p o) := by
  have kH : ∀ a u, H a = some u → upd H p o a = some u := fun a u e => by rw [upd_ne (ne_of_none e h)]; exact e
  exact ⟨Same.refl _, fun _ _ => rfl, fun a u _ e => kH a u e, ⟨fun a u e => kH a u (v.vw a u e), v.no, v.ok.keep kH⟩⟩
/-- what a def without the pen does, seen by one who has it -/
theorem Go.lift {pn : Option Pn} {ts : List Addr} {G H G' H' : Hp} (v : Vw ⟨pn, ts⟩ G H) (g : Go ⟨none, ts⟩ G H G' H') : Go ⟨pn, ts⟩ G H G' H' := by
  have k : ∀ a o, a ∉ ts → H a = some o → H' a = some o := fun a o n e => g.od a o (fun z => by
    rcases z with ⟨p, z, _⟩ | z
    · cases z
    · exact n z) e
  refine ⟨g.gg, g.nw, fun a o n e => k a o (fun z => n (.inr z)) e, ⟨g.vw.vw, fun a q => (g.nw a (v.ok.there q)).trans (v.no a q), fun p hp => ?_, g.vw.ok.2⟩⟩
  exact (v.ok.1 p hp).mono fun a o ho e => k a o (fun z => v.ok.apart hp z ho) e
theorem Vw.plain {pn : Option Pn} {ts : List Addr} {G H : Hp} (v : Vw ⟨pn, ts⟩ G H) : Vw ⟨none, ts⟩ G H := by
  refine ⟨v.vw, fun a q => ?_, fun p z => (nomatch z), v.ok.2⟩
  rcases q with ⟨p, z, _⟩ | z
  · cases z
  · exact v.no a (.inr z)

/-! ### objects of one's own -/
def isLO : HO → Bool
  | .lst _ => true
  | .frz _ (.tup _) => false
  | .frz _ _ => true
  | _ => false
def newL (H0 H : Hp) (a : Addr) : Option HO := match H0 a with
  | some _ => none
  | none => match H a with
    | some (.lst xs) => some (.lst xs)
    | _ => none
/-- all that may be looked at: data, and the new lists -/
def vmax (H0 G H : Hp) : Hp := fun a => match G a with
  | some o => some o
  | none => newL H0 H a
/-- the new lists alone -/
def vnew (H0 G H : Hp) : Hp := fun a => match G a with
  | some o => if isLO o then none else some o
  | none => newL H0 H a
theorem newL_some {H0 H : Hp} {a : Addr} {o : HO} (h : newL H0 H a = some o) : H0 a = none ∧ H a = some o ∧ ∃ xs, o = .lst xs := by
  unfold newL at h
  cases h0 : H0 a with
  | some u => rw [h0] at h; cases h
  | none =>
    rw [h0] at h
    cases h1 : H a with
    | none => rw [h1] at h; cases h
    | some u =>
      rw [h1] at h
      cases u with
      | lst xs => cases h; exact ⟨rfl, rfl, xs, rfl⟩
      | _ => cases h
theorem newL_of {H0 H : Hp} {a : Addr} {xs : List V} (h0 : H0 a = none) (h : H a = some (.lst xs)) : newL H0 H a = some (.lst xs) := by
  unfold newL
  rw [h0, h]
theorem vmax_G {H0 G H : Hp} {a : Addr} {o : HO} (h : G a = some o) : vmax H0 G H a = some o := by
  unfold vmax; rw [h]
theorem vmax_new {H0 G H : Hp} {a : Addr} (h : G a = none) : vmax H0 G H a = newL H0 H a := by
  unfold vmax; rw [h]
theorem vmax_cases {H0 G H : Hp} {a : Addr} {o : HO} (h : vmax H0 G H a = some o) : G a = some o ∨ (G a = none ∧ H0 a = none ∧ H a = some o ∧ ∃ xs, o = .lst xs) := by
  cases g : G a with
  | some u => rw [vmax_G g] at h; exact .inl h
  | none => rw [vmax_new g] at h; exact .inr ⟨rfl, newL_some h⟩
theorem vnew_cases {H0 G H : Hp} {a : Addr} {o : HO} (h : vnew H0 G H a = some o) : (G a = some o ∧ isLO o = false) ∨ (G a = none ∧ H0 a = none ∧ H a = some o ∧ ∃ xs, o = .lst xs) := by
  unfold vnew at h
  cases g : G a with
  | some u =>
    rw [g] at h
    have h : (if isLO u = true then none else some u) = some o := h
    by_cases z : isLO u = true
    · rw [show (if isLO u = true then none else some u) = none from if_pos z] at h; cases h
    · rw [show (if isLO u = true then none else some u) = some u from if_neg z] at h
      cases h
      exact .inl ⟨rfl, by simpa using z⟩
  | none => rw [g] at h; exact .inr ⟨rfl, newL_some h⟩
theorem vnew_max {H0 G H : Hp} : Same (vnew H0 G H) (vmax H0 G H) := fun a o h => by
  rcases vnew_cases h with ⟨g, _⟩ | ⟨g, h0, h1, xs, rfl⟩
  · exact vmax_G g
  · rw [vmax_new g, newL_of h0 h1]
theorem vnew_of {H0 G H : Hp} {a : Addr} {xs : List V} (g : G a = none) (h0 : H0 a = none) (h : H a = some (.lst xs)) : vnew H0 G H a = some (.lst xs) := by
  unfold vnew; rw [g]; exact newL_of h0 h
theorem vnew_G {H0 G H : Hp} {a : Addr} {o : HO} (g : G a = some o) (h : isLO o = false) : vnew H0 G H a = some o := by
  unfold vnew; rw [g]; simp [h]
theorem vw_max {pen : Pc} {H0 G H : Hp} (v : Vw pen G H) (h0 : POk pen H0) : Vw pen (vmax H0 G H) H := by
  refine ⟨fun a o h => ?_, fun a p => ?_, v.ok⟩
  · rcases vmax_cases h with g | ⟨_, _, h1, _⟩
    · exact v.vw _ _ g
    · exact h1
  · rw [vmax_new (v.no a p)]
    cases e : newL H0 H a with
    | none => rfl
    | some o => exact absurd (newL_some e).1 (h0.there p)
mutual
/-- without a list -/
def noL : PyData → Bool
  | .list _ => false
  | .dict _ => false
  | .tuple ds => noLs ds
  | _ => true
def noLs : List PyData → Bool
  | [] => true
  | d :: ds => noL d && noLs ds
end
mutual
/-- new data: each list of it stands in W by itself -/
inductive Nd (K : PySem.W.Frag) (W : Hp) : V → PyData → Prop
  | non : Nd K W .non .none
  | bl (b : Bool) : Nd K W (.bl b) (.bool b)
  | int (i : Int) : Nd K W (.int i) (.int i)
  | str (x : Str) : Nd K W (.str x) (.str x)
  | lst {a : Addr} {xs : List V} {ds : List PyData} : W a = some (.lst xs) → NdAll K W xs ds → Nd K W (.ref a) (.list ds)
  | tup {a : Addr} {xs : List V} {ds : List PyData} : SqT K W a xs → NdAll K W xs ds → Nd K W (.ref a) (.tuple ds)
inductive NdAll (K : PySem.W.Frag) (W : Hp) : List V → List PyData → Prop
  | nil : NdAll K W [] []
  | cons {v : V} {vs : List V} {d : PyData} {ds : List PyData} : Nd K W v d → NdAll K W vs ds → NdAll K W (v :: vs) (d :: ds)
end
mutual
theorem nd_dp {K : PySem.W.Frag} {W : Hp} : ∀ (d : PyData) (v : V), Nd K W v d → Dp K W v d
  | .none, _, h => by cases h; exact .non
  | .bool b, _, h => by cases h; exact .bl b
  | .int i, _, h => by cases h; exact .int i
  | .str x, _, h => by cases h; exact .str x
  | .list ds, _, h => by
    cases h with
    | lst hs ha => exact .lst (.inl (.inl hs)) (nda_dpa ds _ ha)
  | .tuple ds, _, h => by
    cases h with
    | tup hs ha => exact .tup hs (nda_dpa ds _ ha)
  | .dict _, _, h => by cases h
theorem nda_dpa {K : PySem.W.Frag} {W : Hp} : ∀ (ds : List PyData) (vs : List V), NdAll K W vs ds → DpAll K W vs ds
  | [], _, h => by cases h; exact .nil
  | d :: ds, _, h => by
    cases h with
    | cons h1 h2 => exact .cons (nd_dp d _ h1) (nda_dpa ds _ h2)
end
mutual
theorem nd_mono {K : PySem.W.Frag} {G G' : Hp} (e : Same G G') : ∀ (d : PyData) (v : V), Nd K G v d → Nd K G' v d
  | .none, _, h => by cases h; exact .non
  | .bool b, _, h => by cases h; exact .bl b
  | .int i, _, h => by cases h; exact .int i
  | .str x, _, h => by cases h; exact .str x
  | .list ds, _, h => by
    cases h with
    | lst hs ha => exact .lst (e _ _ hs) (nda_mono e ds _ ha)
  | .tuple ds, _, h => by
    cases h with
    | tup hs ha => exact .tup (sqT_mono e hs) (nda_mono e ds _ ha)
  | .dict _, _, h => by cases h
theorem nda_mono {K : PySem.W.Frag} {G G' : Hp} (e : Same G G') : ∀ (ds : List PyData) (vs : List V), NdAll K G vs ds → NdAll K G' vs ds
  | [], _, h => by cases h; exact .nil
  | d :: ds, _, h => by
    cases h with
    | cons h1 h2 => exact .cons (nd_mono e d _ h1) (nda_mono e ds _ h2)
end
mutual
/-- data without a list, in a view that has the same tuples -/
theorem dp_nol {K : PySem.W.Frag} {G G' : Hp} (k : ∀ a xs, Rd G a (.tup xs) → Rd G' a (.tup xs)) : ∀ (d : PyData) (v : V), noL d = true → Dp K G v d → Dp K G' v d
  | .none, _, _, h => by cases h; exact .non
  | .bool b, _, _, h => by cases h; exact .bl b
  | .int i, _, _, h => by cases h; exact .int i
  | .str x, _, _, h => by cases h; exact .str x
  | .list ds, _, n, h => by rw [noL] at n; cases n
  | .tuple ds, _, n, h => by
    rw [noL] at n
    cases h with
    | tup hs ha =>
      refine .tup ?_ (dpa_nol k ds _ n ha)
      rcases hs with hs | hs
      · exact .inl (k _ _ hs)
      · exact .inr hs
  | .dict _, _, _, h => by cases h
theorem dpa_nol {K : PySem.W.Frag} {G G' : Hp} (k : ∀ a xs, Rd G a (.tup xs) → Rd G' a (.tup xs)) : ∀ (ds : List PyData) (vs : List V), noLs ds = true → DpAll K G vs ds → DpAll K G' vs ds
  | [], _, _, h => by cases h; exact .nil
  | d :: ds, _, n, h => by
    rw [noLs, Bool.and_eq_true] at n
    cases h with
    | cons h1 h2 => exact .cons (dp_nol k d _ n.1 h1) (dpa_nol k ds _ n.2 h2)
end
mutual
theorem dp_nd {K : PySem.W.Frag} {G : Hp} : ∀ (d : PyData) (v : V), noL d = true → Dp K G v d → Nd K G v d
  | .none, _, _, h => by cases h; exact .non
  | .bool b, _, _, h => by cases h; exact .bl b
  | .int i, _, _, h => by cases h; exact .int i
  | .str x, _, _, h => by cases h; exact .str x
  | .list ds, _, n, h => by rw [noL] at n; cases n
  | .tuple ds, _, n, h => by
    rw [noL] at n
    cases h with
    | tup hs ha => exact .tup hs (dpa_nda ds _ n ha)
  | .dict _, _, _, h => by cases h
theorem dpa_nda {K : PySem.W.Frag} {G : Hp} : ∀ (ds : List PyData) (vs : List V), noLs ds = true → DpAll K G vs ds → NdAll K G vs ds
  | [], _, _, h => by cases h; exact .nil
  | d :: ds, _, n, h => by
    rw [noLs, Bool.and_eq_true] at n
    cases h with
    | cons h1 h2 => exact .cons (dp_nd d _ n.1 h1) (dpa_nda ds _ n.2 h2)
end
theorem noLs_app : ∀ (a b : List PyData), noLs (a ++ b) = (noLs a && noLs b)
  | [], b => by rw [noLs]; rfl
  | x :: a, b => by rw [List.cons_append, noLs, noLs, noLs_app a b, Bool.and_assoc]
theorem noLs_iff : ∀ (a : List PyData), noLs a = true ↔ ∀ d ∈ a, noL d = true
  | [] => by rw [noLs]; exact ⟨fun _ d h => (nomatch h), fun _ => rfl⟩
  | x :: a => by
    rw [noLs, Bool.and_eq_true, noLs_iff a]
    exact ⟨fun h d hd => by rcases List.mem_cons.mp hd with rfl | hd; exact h.1; exact h.2 d hd, fun h => ⟨h x (List.mem_cons_self ..), fun d hd => h d (List.mem_cons_of_mem _ hd)⟩⟩
inductive OO where
  | lst (ds : List PyData)
  | dK (m : List (Key × PyData))
  | dT (m : List (List Key × PyData))
def KvOk {κ : Type} (K : PySem.W.Frag) (G : Hp) (kvs : List (κ × V)) (m : List (κ × PyData)) : Prop := Paired (fun (kv : κ × V) (xd : κ × PyData) => kv.1 = xd.1 ∧ Dp K G kv.2 xd.2) kvs m
def OwnOk (K : PySem.W.Frag) (G : Hp) : HO → OO → Prop
  | .lst vs, .lst ds => DpAll K G vs ds
  | .dK kvs, .dK m => KvOk K G kvs m
  | .dT kvs, .dT m => KvOk K G kvs m
  | _, _ => False
theorem KvOk.mono {κ : Type} {K : PySem.W.Frag} {G G' : Hp} (e : Same G G') {kvs : List (κ × V)} {m : List (κ × PyData)} (h : KvOk K G kvs m) : KvOk K G' kvs m := Paired.mapP h fun _ _ z => ⟨z.1, dp_mono e _ _ z.2⟩
theorem OwnOk.mono {K : PySem.W.Frag} {G G' : Hp} (e : Same G G') {ho : HO} {o : OO} (h : OwnOk K G ho o) : OwnOk K G' ho o := by
  cases ho <;> cases o <;> first | exact h.elim | exact dpa_mono e _ _ h | exact KvOk.mono e h
theorem OwnOk.lst {K : PySem.W.Frag} {G : Hp} {ho : HO} {ds : List PyData} (h : OwnOk K G ho (.lst ds)) : ∃ vs, ho = .lst vs ∧ DpAll K G vs ds := by
  cases ho <;> first | exact h.elim | exact ⟨_, rfl, h⟩
theorem OwnOk.dK {K : PySem.W.Frag} {G : Hp} {ho : HO} {m : List (Key × PyData)} (h : OwnOk K G ho (.dK m)) : ∃ vs, ho = .dK vs ∧ KvOk K G vs m := by
  cases ho <;> first | exact h.elim | exact ⟨_, rfl, h⟩
theorem OwnOk.dT {K : PySem.W.Frag} {G : Hp} {ho : HO} {m : List (List Key × PyData)} (h : OwnOk K G ho (.dT m)) : ∃ vs, ho = .dT vs ∧ KvOk K G vs m := by
  cases ho <;> first | exact h.elim | exact ⟨_, rfl, h⟩

/-! ### slots -/
inductive AV where
  | d (x : PyData)
  | pen
  | own (o : OO)
  | bor (o : OO)
  | fr (x : PyData)
abbrev Lv := List (Option AV)
def AvOk (K : PySem.W.Frag) (pen : Pc) (H0 G H : Hp) (v : V) : AV → Prop
  | .d x => Dp K G v x
  | .pen => ∃ p, pen.pen = some p ∧ v = .ref p.a
  | .own o => ∃ l ho, v = .ref l ∧ H l = some ho ∧ H0 l = none ∧ G l = none ∧ OwnOk K G ho o
  | .bor o => ∃ l ho, v = .ref l ∧ H l = some ho ∧ H0 l = some ho ∧ ¬ IsPn pen l ∧ OwnOk K G ho o
  | .fr x => Nd K (vnew H0 G H) v x
theorem vnew_go {pen : Pc} {H0 G H G' H' : Hp} (h0 : POk pen H0) (g : Go pen G H G' H') (vw : Same G H) : Same (vnew H0 G H) (vnew H0 G' H') := fun a o h => by
  rcases vnew_cases h with ⟨k, z⟩ | ⟨k, k0, k1, xs, rfl⟩
  · exact vnew_G (g.gg _ _ k) z
  · exact vnew_of ((g.nw a (by rw [k1]; exact fun z => by cases z)).trans k) k0 (g.od _ _ (fun q => h0.there q k0) k1)
structure Ev (K : PySem.W.Frag) (pen : Pc) (H0 G H : Hp) (σ : L2.St) (L : Lv) : Prop where
  vw : Vw pen G H
  h0 : POk pen H0
  dom : ∀ a, H0 a ≠ none → H a ≠ none
  len : σ.length = L.length
  sl : ∀ (i : Nat) av, L[i]? = some (some av) → ∃ v, σ[i]? = some (some v) ∧ AvOk K pen H0 G H v av
  ow : ∀ (i j : Nat) (ds es : OO) l, L[i]? = some (some (.own ds)) → L[j]? = some (some (.own es)) → σ[i]? = some (some (.ref l)) → σ[j]? = some (some (.ref l)) → i = j
section
variable {K : PySem.W.Frag} {pen : Pc} {H0 G H G' H' : Hp} {σ : L2.St} {L : Lv}
theorem POk.dom0 {a : Addr} (h : POk pen H0) (p : IsPn pen a) : H0 a ≠ none := h.there p
theorem AvOk.go {v : V} {av : AV} (h : AvOk K pen H0 G H v av) (h0 : POk pen H0) (vw : Same G H) (g : Go pen G H G' H') : AvOk K pen H0 G' H' v av := by
  cases av with
  | d x => exact dp_mono g.gg _ _ h
  | pen => exact h
  | own ds =>
    obtain ⟨l, vs, e, h1, h2, h3, h4⟩ := h
    have np : ¬ IsPn pen l := fun q => h0.there q h2
    refine ⟨l, vs, e, g.od _ _ np h1, h2, ?_, h4.mono g.gg⟩
    rw [g.nw l (by rw [h1]; exact fun z => by cases z)]
    exact h3
  | bor ds =>
    obtain ⟨l, vs, e, h1, h2, h3, h4⟩ := h
    exact ⟨l, vs, e, g.od _ _ h3 h1, h2, h3, h4.mono g.gg⟩
  | fr x => exact nd_mono (vnew_go h0 g vw) _ _ h
theorem Ev.go (e : Ev K pen H0 G H σ L) (g : Go pen G H G' H') : Ev K pen H0 G' H' σ L :=
  ⟨g.vw, e.h0, fun a h => g.dom (e.dom a h), e.len, fun i av h => by
    obtain ⟨v, h1, h2⟩ := e.sl i av h
    exact ⟨v, h1, h2.go e.h0 e.vw.vw g⟩, e.ow⟩
/-- a slot stored with data -/
theorem Ev.set (e : Ev K pen H0 G H σ L) {i : Nat} {v : V} {x : PyData} (h : Dp K G v x) : Ev K pen H0 G H (σ.set i (some v)) (L.set i (some (.d x))) := by
  refine ⟨e.vw, e.h0, e.dom, by rw [List.length_set, List.length_set]; exact e.len, fun j av hj => ?_, fun j k ds es l h1 h2 h3 h4 => ?_⟩
  · by_cases q : i = j
    · subst q
      have hl : i < L.length := by
        have := (List.getElem?_eq_some_iff.mp hj).1
        rw [List.length_set] at this; exact this
      rw [List.getElem?_set_self hl] at hj
      have := Option.some.inj (Option.some.inj hj)
      subst this
      exact ⟨v, List.getElem?_set_self (by rw [e.len]; exact hl), h⟩
    · rw [List.getElem?_set_ne q] at hj
      obtain ⟨w, h1, h2⟩ := e.sl j av hj
      exact ⟨w, by rw [List.getElem?_set_ne q]; exact h1, h2⟩
  · have nj : ∀ (j : Nat) (ds : OO), (L.set i (some (.d x)))[j]? = some (some (.own ds)) → i ≠ j := fun j ds hj q => by
      subst q
      have hl : i < L.length := by
        have := (List.getElem?_eq_some_iff.mp hj).1
        rw [List.length_set] at this; exact this
      rw [List.getElem?_set_self hl] at hj
      cases hj
    have q1 := nj j ds h1
    have q2 := nj k es h2
    rw [List.getElem?_set_ne q1] at h1 h3
    rw [List.getElem?_set_ne q2] at h2 h4
    exact e.ow j k ds es l h1 h2 h3 h4
end

/-! ### expressions -/
section
variable (K : PySem.W.Frag) (pen : Pc) (H0 : Hp)
def E (te : TE) (L : Lv) (P : PyData → Prop) : Prop := ∀ (σ : L2.St) (G H : Hp), Ev K pen H0 G H σ L → ∀ Q : VK, (∀ v d G' H', Go pen G H G' H' → Dp K G' v d → P d → Q v H') → te σ H Q
def EA (ta : TA) (L : Lv) (P : List PyData → Prop) : Prop := ∀ (σ : L2.St) (G H : Hp), Ev K pen H0 G H σ L → ∀ Q : List V → Hp → Prop, (∀ vs ds G' H', Go pen G H G' H' → DpAll K G' vs ds → P ds → Q vs H') → ta σ H Q
def ET (tt : TT) (L : Lv) (P : Bool → Prop) : Prop := ∀ (σ : L2.St) (G H : Hp), Ev K pen H0 G H σ L → ∀ Q : Bool → Hp → Prop, (∀ b G' H', Go pen G H G' H' → P b → Q b H') → tt σ H Q
def EO (to : TO) (L : Lv) (P : Option Int → Prop) : Prop := ∀ (σ : L2.St) (G H : Hp), Ev K pen H0 G H σ L → ∀ Q : Option Int → Hp → Prop, (∀ b G' H', Go pen G H G' H' → P b → Q b H') → to σ H Q
/-- an operation by values -/
def R2d (r : R2) (a b : PyData) (P : PyData → Prop) : Prop := ∀ (x y : V) (G H : Hp), Vw pen G H → Dp K G x a → Dp K G y b → ∀ Q : VK, (∀ v d G' H', Go pen G H G' H' → Dp K G' v d → P d → Q v H') → r x y H Q
def RCd (r : List V → Hp → VK → Prop) (ds : List PyData) (P : PyData → Prop) : Prop := ∀ (vs : List V) (G H : Hp), Vw pen G H → DpAll K G vs ds → ∀ Q : VK, (∀ v d G' H', Go pen G H G' H' → Dp K G' v d → P d → Q v H') → r vs H Q
def RSd (r : V → Option Int → Option Int → Hp → VK → Prop) (a : PyData) (lo hi : Option Int) (P : PyData → Prop) : Prop := ∀ (x : V) (G H : Hp), Vw pen G H → Dp K G x a → ∀ Q : VK, (∀ v d G' H', Go pen G H G' H' → Dp K G' v d → P d → Q v H') → r x lo hi H Q
def RUd (r : V → Hp → VK → Prop) (a : PyData) (P : PyData → Prop) : Prop := ∀ (x : V) (G H : Hp), Vw pen G H → Dp K G x a → ∀ Q : VK, (∀ v d G' H', Go pen G H G' H' → Dp K G' v d → P d → Q v H') → r x H Q
end
section
variable {K : PySem.W.Frag} {pen : Pc} {H0 : Hp} {L : Lv} {P P' : PyData → Prop} {ta tb tc te : TE} {tl tr : TA} {t u : TT} {Pb : Bool → Prop}
theorem E.mono (h : E K pen H0 te L P) (k : ∀ d, P d → P' d) : E K pen H0 te L P' := fun σ G H e Q q => h σ G H e Q fun v d G' H' g hd p => q v d G' H' g hd (k d p)
theorem ET.mono {Pb' : Bool → Prop} (h : ET K pen H0 t L Pb) (k : ∀ d, Pb d → Pb' d) : ET K pen H0 t L Pb' := fun σ G H e Q q => h σ G H e Q fun v G' H' g p => q v G' H' g (k v p)
theorem e_var {i : Nat} {x : PyData} (h : L[i]? = some (some (.d x))) (p : P x) : E K pen H0 (tVar i) L P := fun σ G H e Q q => by
  obtain ⟨v, h1, h2⟩ := e.sl i _ h
  exact ⟨v, h1, q v x G H (.refl e.vw) h2 p⟩
theorem e_int {i : Int} (p : P (.int i)) : E K pen H0 (tC (.int i)) L P := fun σ G H e Q q => q _ _ G H (.refl e.vw) (.int i) p
theorem e_str {i : Str} (p : P (.str i)) : E K pen H0 (tC (.str i)) L P := fun σ G H e Q q => q _ _ G H (.refl e.vw) (.str i) p
theorem e_bl {i : Bool} (p : P (.bool i)) : E K pen H0 (tC (.bl i)) L P := fun σ G H e Q q => q _ _ G H (.refl e.vw) (.bl i) p
theorem e_non (p : P .none) : E K pen H0 (tC .non) L P := fun σ G H e Q q => q _ _ G H (.refl e.vw) .non p
theorem e_op {r : R2} (h : E K pen H0 ta L fun a => E K pen H0 tb L fun b => R2d K pen r a b P) : E K pen H0 (tOp r ta tb) L P := fun σ G H e Q q =>
  h σ G H e _ fun v a G1 H1 g1 d1 h1 => h1 σ G1 H1 (e.go g1) _ fun w b G2 H2 g2 d2 h2 =>
    h2 v w G2 H2 g2.vw (dp_mono g2.gg _ _ d1) d2 Q fun z c G3 H3 g3 d3 p => q z c G3 H3 ((g1.trans g2).trans g3) d3 p
theorem e_un {r : V → Hp → VK → Prop} (h : E K pen H0 ta L fun a => RUd K pen r a P) : E K pen H0 (tUn r ta) L P := fun σ G H e Q q =>
  h σ G H e _ fun v a G1 H1 g1 d1 h1 => h1 v G1 H1 g1.vw d1 Q fun z c G3 H3 g3 d3 p => q z c G3 H3 (g1.trans g3) d3 p
theorem ea_nil {Pl : List PyData → Prop} (p : Pl []) : EA K pen H0 tNil L Pl := fun σ G H e Q q => q [] [] G H (.refl e.vw) .nil p
theorem ea_cons {Pl : List PyData → Prop} (h : E K pen H0 ta L fun a => EA K pen H0 tr L fun ds => Pl (a :: ds)) : EA K pen H0 (tCons ta tr) L Pl := fun σ G H e Q q =>
  h σ G H e _ fun v a G1 H1 g1 d1 h1 => h1 σ G1 H1 (e.go g1) _ fun vs ds G2 H2 g2 d2 p => q _ _ G2 H2 (g1.trans g2) (.cons (dp_mono g2.gg _ _ d1) d2) p
theorem e_tup (h : EA K pen H0 tl L fun ds => ds.length ≤ 100000 ∧ P (.tuple ds)) : E K pen H0 (tTup tl) L P := fun σ G H e Q q =>
  h σ G H e _ fun vs ds G1 H1 g1 d1 h1 => ⟨Nat.le_trans (by rw [dpa_len d1]; exact h1.1) (by decide : 100000 ≤ sizeLine), fun p hp => by
    have g2 := Go.new g1.vw (o := .tup vs) hp
    exact q _ _ _ _ (g1.trans g2) (.tup (.inl (.inl upd_same)) (dpa_mono g2.gg _ _ d1)) h1.2⟩
theorem e_lst (h : EA K pen H0 tl L fun ds => ds.length ≤ 100000 ∧ P (.list ds)) : E K pen H0 (tLst tl) L P := fun σ G H e Q q =>
  h σ G H e _ fun vs ds G1 H1 g1 d1 h1 => ⟨Nat.le_trans (by rw [dpa_len d1]; exact h1.1) (by decide : 100000 ≤ sizeLine), fun p hp => by
    have g2 := Go.new g1.vw (o := .lst vs) hp
    exact q _ _ _ _ (g1.trans g2) (.lst (.inl (.inl upd_same)) (dpa_mono g2.gg _ _ d1)) h1.2⟩
theorem e_cb {r : List V → Hp → VK → Prop} (h : EA K pen H0 tl L fun ds => RCd K pen r ds P) : E K pen H0 (tCB r tl) L P := fun σ G H e Q q =>
  h σ G H e _ fun vs ds G1 H1 g1 d1 h1 => h1 vs G1 H1 g1.vw d1 Q fun z c G3 H3 g3 d3 p => q z c G3 H3 (g1.trans g3) d3 p
theorem e_sl {r : V → Option Int → Option Int → Hp → VK → Prop} {to th : TO} (h : E K pen H0 te L fun a => EO K pen H0 to L fun lo => EO K pen H0 th L fun hi => RSd K pen r a lo hi P) : E K pen H0 (tSl r te to th) L P := fun σ G H e Q q =>
  h σ G H e _ fun v a G1 H1 g1 d1 h1 => h1 σ G1 H1 (e.go g1) _ fun lo G2 H2 g2 h2 => h2 σ G2 H2 (e.go (g1.trans g2)) _ fun hi G3 H3 g3 h3 =>
    h3 v G3 H3 g3.vw (dp_mono (g2.gg.trans g3.gg) _ _ d1) Q fun z c G4 H4 g4 d4 p => q z c G4 H4 (((g1.trans g2).trans g3).trans g4) d4 p
theorem eo_none {Po : Option Int → Prop} (p : Po none) : EO K pen H0 tNoPart L Po := fun σ G H e Q q => q _ G H (.refl e.vw) p
theorem eo_some {Po : Option Int → Prop} (h : E K pen H0 te L fun d => ∃ i, d = .int i ∧ Po (some i)) : EO K pen H0 (tPart te) L Po := fun σ G H e Q q =>
  h σ G H e _ fun v d G1 H1 g1 d1 ⟨i, hi, p⟩ => by
    subst hi
    cases d1
    exact ⟨i, rfl, q _ G1 H1 g1 p⟩
/-! tests -/
theorem et_test (h : E K pen H0 te L fun d => ∃ b, d = .bool b ∧ Pb b) : ET K pen H0 (tTest te) L Pb := fun σ G H e Q q =>
  h σ G H e _ fun v d G1 H1 g1 d1 ⟨b, hb, p⟩ => by
    subst hb
    cases d1
    exact ⟨b, rfl, q _ G1 H1 g1 p⟩
theorem et_B (h : E K pen H0 te L fun d => ∃ b, d = .bool b ∧ Pb b) : ET K pen H0 (tB te) L Pb := fun σ G H e Q q =>
  h σ G H e _ fun v d G1 H1 g1 d1 ⟨b, hb, p⟩ => by
    subst hb
    cases d1
    exact ⟨b, rfl, q _ G1 H1 g1 p⟩
theorem et_and (h : ET K pen H0 t L fun a => (a = true → ET K pen H0 u L Pb) ∧ (a = false → Pb false)) : ET K pen H0 (tAnd t u) L Pb := fun σ G H e Q q =>
  h σ G H e _ fun a G1 H1 g1 h1 => by
    cases a with
    | true => exact h1.1 rfl σ G1 H1 (e.go g1) Q fun b G2 H2 g2 p => q b G2 H2 (g1.trans g2) p
    | false => exact q false G1 H1 g1 (h1.2 rfl)
theorem et_or (h : ET K pen H0 t L fun a => (a = true → Pb true) ∧ (a = false → ET K pen H0 u L Pb)) : ET K pen H0 (tOr t u) L Pb := fun σ G H e Q q =>
  h σ G H e _ fun a G1 H1 g1 h1 => by
    cases a with
    | false => exact h1.2 rfl σ G1 H1 (e.go g1) Q fun b G2 H2 g2 p => q b G2 H2 (g1.trans g2) p
    | true => exact q true G1 H1 g1 (h1.1 rfl)
theorem et_not (h : ET K pen H0 t L fun a => Pb (!a)) : ET K pen H0 (tNot t) L Pb := fun σ G H e Q q => h σ G H e _ fun a G1 H1 g1 h1 => q (!a) G1 H1 g1 h1
theorem e_andV (h : E K pen H0 ta L fun d => ∃ a, d = .bool a ∧ (a = true → E K pen H0 tb L P) ∧ (a = false → P (.bool false))) : E K pen H0 (tAndV ta tb) L P := fun σ G H e Q q =>
  h σ G H e _ fun v d G1 H1 g1 d1 ⟨a, ha, h1, h2⟩ => by
    subst ha
    cases d1
    refine ⟨a, rfl, ?_⟩
    cases a with
    | true => exact h1 rfl σ G1 H1 (e.go g1) Q fun w b G2 H2 g2 d2 p => q w b G2 H2 (g1.trans g2) d2 p
    | false => exact q _ _ G1 H1 g1 (.bl false) (h2 rfl)
theorem e_orV (h : E K pen H0 ta L fun d => ∃ a, d = .bool a ∧ (a = true → P (.bool true)) ∧ (a = false → E K pen H0 tb L P)) : E K pen H0 (tOrV ta tb) L P := fun σ G H e Q q =>
  h σ G H e _ fun v d G1 H1 g1 d1 ⟨a, ha, h1, h2⟩ => by
    subst ha
    cases d1
    refine ⟨a, rfl, ?_⟩
    cases a with
    | false => exact h2 rfl σ G1 H1 (e.go g1) Q fun w b G2 H2 g2 d2 p => q w b G2 H2 (g1.trans g2) d2 p
    | true => exact q _ _ G1 H1 g1 (.bl true) (h1 rfl)
theorem e_notV (h : E K pen H0 ta L fun d => ∃ a, d = .bool a ∧ P (.bool (!a))) : E K pen H0 (tNotV ta) L P := fun σ G H e Q q =>
  h σ G H e _ fun v d G1 H1 g1 d1 ⟨a, ha, h1⟩ => by
    subst ha
    cases d1
    exact ⟨a, rfl, q _ _ G1 H1 g1 (.bl _) h1⟩
theorem e_if (h : ET K pen H0 t L fun a => (a = true → E K pen H0 ta L P) ∧ (a = false → E K pen H0 tb L P)) : E K pen H0 (tIf t ta tb) L P := fun σ G H e Q q =>
  h σ G H e _ fun a G1 H1 g1 h1 => by
    cases a with
    | true => exact h1.1 rfl σ G1 H1 (e.go g1) Q fun w b G2 H2 g2 d2 p => q w b G2 H2 (g1.trans g2) d2 p
    | false => exact h1.2 rfl σ G1 H1 (e.go g1) Q fun w b G2 H2 g2 d2 p => q w b G2 H2 (g1.trans g2) d2 p
theorem e_chain {r r' : R2} (h : E K pen H0 ta L fun a => E K pen H0 tb L fun b => R2d K pen r a b fun z => ∃ k, z = .bool k ∧ (k = true → E K pen H0 tc L fun c => R2d K pen r' b c P) ∧ (k = false → P (.bool false))) : E K pen H0 (tChain r r' ta tb tc) L P := fun σ G H e Q q =>
  h σ G H e _ fun v a G1 H1 g1 d1 h1 => h1 σ G1 H1 (e.go g1) _ fun w b G2 H2 g2 d2 h2 =>
    h2 v w G2 H2 g2.vw (dp_mono g2.gg _ _ d1) d2 _ fun z c G3 H3 g3 d3 ⟨k, hk, p1, p2⟩ => by
      subst hk
      cases d3
      refine ⟨k, rfl, ?_⟩
      cases k with
      | true =>
        exact p1 rfl σ G3 H3 (e.go ((g1.trans g2).trans g3)) _ fun y c G4 H4 g4 d4 p => p w y G4 H4 g4.vw (dp_mono (g3.gg.trans g4.gg) _ _ d2) d4 Q fun z c G5 H5 g5 d5 p' =>
          q z c G5 H5 ((((g1.trans g2).trans g3).trans g4).trans g5) d5 p'
      | false => exact q _ _ G3 H3 ((g1.trans g2).trans g3) (.bl false) (p2 rfl)
/-! operators by values -/
theorem r_I0 {g : Int → Int → V} {f : Int → Int → PyData} {i j : Int} (hg : ∀ G, Dp K G (g i j) (f i j)) (p : P (f i j)) : R2d K pen (rI0 g) (.int i) (.int j) P := fun x y G H v hx hy Q q => by
  cases hx
  cases hy
  exact ⟨i, j, rfl, rfl, q _ _ G H (.refl v) (hg G) p⟩
theorem r_I {C : Int → Int → Prop} {g : Int → Int → V} {f : Int → Int → PyData} {i j : Int} (hg : ∀ G, Dp K G (g i j) (f i j)) (hc : C i j) (p : P (f i j)) : R2d K pen (rI C g) (.int i) (.int j) P := fun x y G H v hx hy Q q => by
  cases hx
  cases hy
  exact ⟨i, j, rfl, rfl, hc, q _ _ G H (.refl v) (hg G) p⟩
theorem r_add {i j : Int} (p : P (.int (i + j))) : R2d K pen (rI0 fun i j => .int (i + j)) (.int i) (.int j) P := r_I0 (f := fun i j => .int (i + j)) (fun _ => .int _) p
theorem r_sub {i j : Int} (p : P (.int (i - j))) : R2d K pen (rI0 fun i j => .int (i - j)) (.int i) (.int j) P := r_I0 (f := fun i j => .int (i - j)) (fun _ => .int _) p
theorem r_mul {i j : Int} (hc : CMul i j) (p : P (.int (i * j))) : R2d K pen (rI CMul fun i j => .int (i * j)) (.int i) (.int j) P := r_I (f := fun i j => .int (i * j)) (fun _ => .int _) hc p
theorem r_mod {i j : Int} (hc : 0 < j) (p : P (.int (i % j))) : R2d K pen (rI (fun _ j => 0 < j) fun i j => .int (i % j)) (.int i) (.int j) P := r_I (f := fun i j => .int (i % j)) (fun _ => .int _) hc p
theorem r_lt {i j : Int} (p : P (.bool (decide (i < j)))) : R2d K pen (rI0 fun i j => .bl (decide (i < j))) (.int i) (.int j) P := r_I0 (f := fun i j => .bool (decide (i < j))) (fun _ => .bl _) p
theorem r_le {i j : Int} (p : P (.bool (decide (i ≤ j)))) : R2d K pen (rI0 fun i j => .bl (decide (i ≤ j))) (.int i) (.int j) P := r_I0 (f := fun i j => .bool (decide (i ≤ j))) (fun _ => .bl _) p
theorem r_gt {i j : Int} (p : P (.bool (decide (j < i)))) : R2d K pen (rI0 fun i j => .bl (decide (j < i))) (.int i) (.int j) P := r_I0 (f := fun i j => .bool (decide (j < i))) (fun _ => .bl _) p
theorem r_ge {i j : Int} (p : P (.bool (decide (j ≤ i)))) : R2d K pen (rI0 fun i j => .bl (decide (j ≤ i))) (.int i) (.int j) P := r_I0 (f := fun i j => .bool (decide (j ≤ i))) (fun _ => .bl _) p
theorem r_eqI {i j : Int} (p : P (.bool (decide (i = j)))) : R2d K pen rEq (.int i) (.int j) P := fun x y G H v hx hy Q q => by
  cases hx
  cases hy
  refine ⟨rfl, ?_⟩
  rw [show decide (V.int i = V.int j) = decide (i = j) by rw [dec_int]; exact Bool.beq_eq_decide_eq i j]
  exact q _ _ G H (.refl v) (.bl _) p
theorem r_neI {i j : Int} (p : P (.bool (!decide (i = j)))) : R2d K pen rNe (.int i) (.int j) P := fun x y G H v hx hy Q q => by
  cases hx
  cases hy
  refine ⟨rfl, ?_⟩
  rw [show decide (V.int i = V.int j) = decide (i = j) by rw [dec_int]; exact Bool.beq_eq_decide_eq i j]
  exact q _ _ G H (.refl v) (.bl _) p
theorem r_eqB {i j : Bool} (p : P (.bool (decide (i = j)))) : R2d K pen rEq (.bool i) (.bool j) P := fun x y G H v hx hy Q q => by
  cases hx
  cases hy
  refine ⟨rfl, ?_⟩
  rw [show decide (V.bl i = V.bl j) = decide (i = j) by rw [dec_bl]; exact Bool.beq_eq_decide_eq i j]
  exact q _ _ G H (.refl v) (.bl _) p
theorem r_eqS {i j : Str} (p : P (.bool (decide (i = j)))) : R2d K pen rEq (.str i) (.str j) P := fun x y G H v hx hy Q q => by
  cases hx
  cases hy
  refine ⟨rfl, ?_⟩
  rw [show decide (V.str i = V.str j) = decide (i = j) by rw [dec_str]; exact Bool.beq_eq_decide_eq i j]
  exact q _ _ G H (.refl v) (.bl _) p
theorem r_eqD {a b : PyData} (ha : SeqAt.shaped a = true) (hb : SeqAt.shaped b = true) (p : P (.bool (PyData.eqv a b))) : R2d K pen (rEqD K) a b P := fun x y G H v hx hy Q q =>
  ⟨a, b, dp_mono v.vw _ _ hx, dp_mono v.vw _ _ hy, ha, hb, q _ _ G H (.refl v) (.bl _) p⟩
theorem r_neD {a b : PyData} (ha : SeqAt.shaped a = true) (hb : SeqAt.shaped b = true) (p : P (.bool (!PyData.eqv a b))) : R2d K pen (rNeD K) a b P := fun x y G H v hx hy Q q =>
  ⟨a, b, dp_mono v.vw _ _ hx, dp_mono v.vw _ _ hy, ha, hb, q _ _ G H (.refl v) (.bl _) p⟩
theorem r_isN {a : PyData} (p : P (.bool (match a with | .none => true | _ => false))) : R2d K pen (fun x y H Q => y = .non ∧ Q (.bl (decide (x = .non))) H) a .none P := fun x y G H v hx hy Q q => by
  cases hy
  refine ⟨rfl, q _ _ G H (.refl v) ?_ p⟩
  cases hx <;> exact .bl _
theorem r_ixT {ds : List PyData} {i : Int} {d : PyData} (h : atI ds i = some d) (p : P d) : R2d K pen (rIxT K) (.tuple ds) (.int i) P := fun x y G H v hx hy Q q => by
  cases hy
  cases hx with
  | tup hs ha =>
    rename_i a xs
    unfold atI at h
    cases hj : ixN ds.length i with
    | none => rw [hj] at h; cases h
    | some j =>
      rw [hj] at h
      obtain ⟨w, h1, h2⟩ := dpa_get ha (show ds[j]? = some d from h)
      refine ⟨_, xs, i, w, rfl, rfl, sqT_mono v.vw hs, ?_, q w d G H (.refl v) h2 p⟩
      unfold atI
      rw [dpa_len ha, hj]
      exact h1
theorem r_ixL {ds : List PyData} {i : Int} {d : PyData} (h : atI ds i = some d) (p : P d) : R2d K pen (rIxL K) (.list ds) (.int i) P := fun x y G H v hx hy Q q => by
  cases hy
  cases hx with
  | lst hs ha =>
    rename_i a xs
    unfold atI at h
    cases hj : ixN ds.length i with
    | none => rw [hj] at h; cases h
    | some j =>
      rw [hj] at h
      obtain ⟨w, h1, h2⟩ := dpa_get ha (show ds[j]? = some d from h)
      refine ⟨_, xs, i, w, rfl, rfl, sqL_mono v.vw hs, ?_, q w d G H (.refl v) h2 p⟩
      unfold atI
      rw [dpa_len ha, hj]
      exact h1
/-- len -/
theorem c_len {ds es : List PyData} (h : ds = [.tuple es] ∨ ds = [.list es]) (p : P (.int es.length)) : RCd K pen (fun xs H Q => ∃ p ys, xs = [.ref p] ∧ (SqL K H p ys ∨ SqT K H p ys) ∧ Q (.int ys.length) H) ds P := fun vs G H v hv Q q => by
  rcases h with rfl | rfl
  · cases hv with
    | cons h1 h2 =>
      cases h2
      cases h1 with
      | tup hs ha =>
        refine ⟨_, _, rfl, .inr (sqT_mono v.vw hs), ?_⟩
        rw [dpa_len ha]
        exact q _ _ G H (.refl v) (.int _) p
  · cases hv with
    | cons h1 h2 =>
      cases h2
      cases h1 with
      | lst hs ha =>
        refine ⟨_, _, rfl, .inl (sqL_mono v.vw hs), ?_⟩
        rw [dpa_len ha]
        exact q _ _ G H (.refl v) (.int _) p
/-- list(xs) -/
theorem c_list {ds es : List PyData} (h : ds = [.tuple es] ∨ ds = [.list es]) (p : P (.list es)) : RCd K pen (fun xs H Q => ∃ p ys, xs = [.ref p] ∧ (SqL K H p ys ∨ SqT K H p ys) ∧ ∀ l, H l = none → Q (.ref l) (upd H l (.lst ys))) ds P := fun vs G H v hv Q q => by
  rcases h with rfl | rfl
  · cases hv with
    | cons h1 h2 =>
      cases h2
      cases h1 with
      | tup hs ha =>
        refine ⟨_, _, rfl, .inr (sqT_mono v.vw hs), fun l hl => ?_⟩
        rename_i xs
        have g := Go.new v (o := .lst xs) hl
        exact q _ _ _ _ g (.lst (.inl (.inl upd_same)) (dpa_mono g.gg _ _ ha)) p
  · cases hv with
    | cons h1 h2 =>
      cases h2
      cases h1 with
      | lst hs ha =>
        refine ⟨_, _, rfl, .inl (sqL_mono v.vw hs), fun l hl => ?_⟩
        rename_i xs
        have g := Go.new v (o := .lst xs) hl
        exact q _ _ _ _ g (.lst (.inl (.inl upd_same)) (dpa_mono g.gg _ _ ha)) p
/-- tuple(xs) -/
theorem c_tuple {ds es : List PyData} (h : ds = [.tuple es] ∨ ds = [.list es]) (p : P (.tuple es)) : RCd K pen (fun xs H Q => ∃ p ys, xs = [.ref p] ∧ ((SqL K H p ys ∧ ∀ l, H l = none → Q (.ref l) (upd H l (.tup ys))) ∨ (SqT K H p ys ∧ Q (.ref p) H))) ds P := fun vs G H v hv Q q => by
  rcases h with rfl | rfl
  · cases hv with
    | cons h1 h2 =>
      cases h2
      cases h1 with
      | tup hs ha => exact ⟨_, _, rfl, .inr ⟨sqT_mono v.vw hs, q _ _ G H (.refl v) (.tup hs ha) p⟩⟩
  · cases hv with
    | cons h1 h2 =>
      cases h2
      cases h1 with
      | lst hs ha =>
        refine ⟨_, _, rfl, .inl ⟨sqL_mono v.vw hs, fun l hl => ?_⟩⟩
        rename_i xs
        have g := Go.new v (o := .tup xs) hl
        exact q _ _ _ _ g (.tup (.inl (.inl upd_same)) (dpa_mono g.gg _ _ ha)) p
theorem c_min2 {i j : Int} (p : P (.int (if j < i then j else i))) : RCd K pen (fun xs H Q => ∃ i j, xs = [.int i, .int j] ∧ Q (.int (if j < i then j else i)) H) [.int i, .int j] P := fun vs G H v hv Q q => by
  cases hv with
  | cons h1 h2 =>
    cases h2 with
    | cons h3 h4 =>
      cases h4
      cases h1
      cases h3
      exact ⟨i, j, rfl, q _ _ G H (.refl v) (.int _) p⟩
theorem c_max2 {i j : Int} (p : P (.int (if j > i then j else i))) : RCd K pen (fun xs H Q => ∃ i j, xs = [.int i, .int j] ∧ Q (.int (if j > i then j else i)) H) [.int i, .int j] P := fun vs G H v hv Q q => by
  cases hv with
  | cons h1 h2 =>
    cases h2 with
    | cons h3 h4 =>
      cases h4
      cases h1
      cases h3
      exact ⟨i, j, rfl, q _ _ G H (.refl v) (.int _) p⟩
theorem c_intB {b : Bool} (p : P (.int (if b then 1 else 0))) : RCd K pen (fun xs H Q => (∃ i, xs = [.int i] ∧ Q (.int i) H) ∨ ∃ k, xs = [.bl k] ∧ Q (.int (if k then 1 else 0)) H) [.bool b] P := fun vs G H v hv Q q => by
  cases hv with
  | cons h1 h2 =>
    cases h2
    cases h1
    exact .inr ⟨b, rfl, q _ _ G H (.refl v) (.int _) p⟩
end
end Dl
set_option Elab.async false
set_option linter.all false
set_option maxRecDepth 100000
namespace Dl
open PySem PySem.Spec PyProof.Rows L2

/-! ### statements -/
structure Dn where
  nx : Lv → Prop
  rt : PyData → Prop
  bk : Lv → Prop := fun _ => False
  ct : Lv → Prop := fun _ => False
  rn : PyData → Prop := fun _ => False
structure Gx (pen : Pc) (H0 G H G' H' : Hp) : Prop where
  gg : Same G G'
  nw : ∀ a, H0 a ≠ none → G' a = G a
  od : ∀ a o, ¬ IsPn pen a → H0 a ≠ none → H a = some o → H' a = some o
theorem Gx.refl {pen : Pc} {H0 G H : Hp} : Gx pen H0 G H G H := ⟨Same.refl _, fun _ _ => rfl, fun _ _ _ _ e => e⟩
theorem Gx.trans {pen : Pc} {H0 G H G1 H1 G2 H2 : Hp} (a : Gx pen H0 G H G1 H1) (b : Gx pen H0 G1 H1 G2 H2) : Gx pen H0 G H G2 H2 :=
  ⟨a.gg.trans b.gg, fun x h => (b.nw x h).trans (a.nw x h), fun x o p h e => b.od x o p h (a.od x o p h e)⟩
section
variable {K : PySem.W.Frag} {pen : Pc} {H0 G H G' H' : Hp} {σ : L2.St} {L : Lv}
theorem Ev.gx (e : Ev K pen H0 G H σ L) (g : Go pen G H G' H') : Gx pen H0 G H G' H' := ⟨g.gg, fun a h => g.nw a (e.dom a h), fun a o p _ q => g.od a o p q⟩
/-- a slot forgotten -/
theorem Ev.unset (e : Ev K pen H0 G H σ L) (i : Nat) : Ev K pen H0 G H (σ.set i none) (L.set i none) := by
  have nj : ∀ (j : Nat) (av : AV), (L.set i none)[j]? = some (some av) → i ≠ j := fun j av hj q => by
    subst q
    have hl : i < L.length := by
      have := (List.getElem?_eq_some_iff.mp hj).1
      rw [List.length_set] at this; exact this
    rw [List.getElem?_set_self hl] at hj
    cases hj
  refine ⟨e.vw, e.h0, e.dom, by rw [List.length_set, List.length_set]; exact e.len, fun j av hj => ?_, fun j k ds es l h1 h2 h3 h4 => ?_⟩
  · have q := nj j av hj
    rw [List.getElem?_set_ne q] at hj
    obtain ⟨w, h1, h2⟩ := e.sl j av hj
    exact ⟨w, by rw [List.getElem?_set_ne q]; exact h1, h2⟩
  · have q1 := nj j _ h1
    have q2 := nj k _ h2
    rw [List.getElem?_set_ne q1] at h1 h3
    rw [List.getElem?_set_ne q2] at h2 h4
    exact e.ow j k ds es l h1 h2 h3 h4
end
section
variable (K : PySem.W.Frag) (pen : Pc) (H0 : Hp)
def S (t : TS) (L : Lv) (D : Dn) : Prop := ∀ (σ : L2.St) (G H : Hp) (N : Ends), Ev K pen H0 G H σ L →
  (∀ σ' G' H' L', Gx pen H0 G H G' H' → Ev K pen H0 G' H' σ' L' → D.nx L' → N.nx σ' H') →
  (∀ v d G' H', Gx pen H0 G H G' H' → Vw pen G' H' → Dp K G' v d → D.rt d → N.rt v H') →
  (∀ σ' G' H' L', Gx pen H0 G H G' H' → Ev K pen H0 G' H' σ' L' → D.bk L' → N.bk σ' H') →
  (∀ σ' G' H' L', Gx pen H0 G H G' H' → Ev K pen H0 G' H' σ' L' → D.ct L' → N.ct σ' H') →
  (∀ v d G' H', Gx pen H0 G H G' H' → Vw pen G' H' → Nd K (vnew H0 G' H') v d → D.rn d → N.rt v H') → t N σ H
def GT (g : TG) (d : PyData) (L : Lv) (P : Lv → Prop) : Prop := ∀ (σ : L2.St) (G H : Hp) (v : V), Ev K pen H0 G H σ L → Dp K G v d → ∀ R : L2.St → Hp → Prop, (∀ σ' L', Ev K pen H0 G H σ' L' → P L' → R σ' H) → g v σ H R
def GTs (g : TGs) (ds : List PyData) (L : Lv) (P : Lv → Prop) : Prop := ∀ (σ : L2.St) (G H : Hp) (vs : List V), Ev K pen H0 G H σ L → DpAll K G vs ds → ∀ R : L2.St → Hp → Prop, (∀ σ' L', Ev K pen H0 G H σ' L' → P L' → R σ' H) → g vs σ H R
end
section
variable {K : PySem.W.Frag} {pen : Pc} {H0 : Hp} {L : Lv} {P P' : PyData → Prop} {ta tb tc te ti : TE} {tl tr : TA} {tt : TT} {t u : TS} {Pb : Bool → Prop} {D : Dn} {g : TG} {gs : TGs}
theorem g_name {i : Nat} {d : PyData} {P : Lv → Prop} (h : P (L.set i (some (.d d)))) : GT K pen H0 (gName i) d L P := fun σ G H v e hd R r => r _ _ (e.set hd) h
theorem g_tup {n : Nat} {ds : List PyData} {P : Lv → Prop} (hn : ds.length = n) (h : GTs K pen H0 gs ds L P) : GT K pen H0 (gTup K n gs) (.tuple ds) L P := fun σ G H v e hd R r => by
  cases hd with
  | tup hs ha => exact ⟨_, _, rfl, sqT_mono e.vw.vw hs, (dpa_len ha).trans hn, h σ G H _ e ha R r⟩
theorem gs_nil {P : Lv → Prop} (h : P L) : GTs K pen H0 gNil [] L P := fun σ G H vs e hd R r => by
  cases hd
  exact ⟨rfl, r _ _ e h⟩
theorem gs_cons {d : PyData} {ds : List PyData} {P : Lv → Prop} (h : GT K pen H0 g d L fun L' => GTs K pen H0 gs ds L' P) : GTs K pen H0 (gCons g gs) (d :: ds) L P := fun σ G H vs e hd R r => by
  cases hd with
  | cons h1 h2 =>
    refine ⟨_, _, rfl, h σ G H _ e h1 _ fun σ' L' e' h' => ?_⟩
    exact h' σ' G H _ e' h2 R r
theorem s_seq (h : S K pen H0 t L { D with nx := fun L' => S K pen H0 u L' D }) : S K pen H0 (tSeq t u) L D := fun σ G H N e n1 n2 n3 n4 n5 =>
  h σ G H _ e (fun σ' G' H' L' x e' h' => h' σ' G' H' N e' (fun σ2 G2 H2 L2 x2 e2 q => n1 σ2 G2 H2 L2 (x.trans x2) e2 q) (fun v d G2 H2 x2 vw hd q => n2 v d G2 H2 (x.trans x2) vw hd q)
    (fun σ2 G2 H2 L2 x2 e2 q => n3 σ2 G2 H2 L2 (x.trans x2) e2 q) (fun σ2 G2 H2 L2 x2 e2 q => n4 σ2 G2 H2 L2 (x.trans x2) e2 q) (fun v d G2 H2 x2 vw hd q => n5 v d G2 H2 (x.trans x2) vw hd q)) n2 n3 n4 n5
theorem s_next (h : D.nx L) : S K pen H0 tNext L D := fun σ G H N e n1 _ _ _ _ => n1 σ G H L .refl e h
theorem s_ret (h : E K pen H0 te L D.rt) : S K pen H0 (tRet te) L D := fun σ G H N e _ n2 _ _ _ => h σ G H e _ fun v d G' H' g hd p => n2 v d G' H' (e.gx g) g.vw hd p
theorem s_asg {i : Nat} (h : E K pen H0 te L fun d => D.nx (L.set i (some (.d d)))) : S K pen H0 (tAsg te (gName i)) L D := fun σ G H N e n1 _ _ _ _ =>
  h σ G H e _ fun v d G' H' g hd p => n1 _ G' H' _ (e.gx g) ((e.go g).set hd) p
theorem s_asgG (h : E K pen H0 te L fun d => GT K pen H0 g d L D.nx) : S K pen H0 (tAsg te g) L D := fun σ G H N e n1 _ _ _ _ =>
  h σ G H e _ fun v d G' H' go hd p => p σ G' H' v (e.go go) hd _ fun σ' L' e' p' => n1 σ' G' H' L' (e.gx go) e' p'
theorem s_drop (h : E K pen H0 te L fun _ => D.nx L) : S K pen H0 (tDrop te) L D := fun σ G H N e n1 _ _ _ _ => h σ G H e _ fun v d G' H' go _ p => n1 σ G' H' L (e.gx go) (e.go go) p
theorem s_if (h : ET K pen H0 tt L fun b => (b = true → S K pen H0 t L D) ∧ (b = false → S K pen H0 u L D)) : S K pen H0 (tIfS tt t u) L D := fun σ G H N e n1 n2 n3 n4 n5 =>
  h σ G H e _ fun b G' H' go p => by
    have x := e.gx go
    have go2 : ∀ {t : TS}, S K pen H0 t L D → t N σ H' := fun {t} h => h σ G' H' N (e.go go) (fun σ2 G2 H2 L2 x2 e2 q => n1 σ2 G2 H2 L2 (x.trans x2) e2 q) (fun v d G2 H2 x2 vw hd q => n2 v d G2 H2 (x.trans x2) vw hd q)
      (fun σ2 G2 H2 L2 x2 e2 q => n3 σ2 G2 H2 L2 (x.trans x2) e2 q) (fun σ2 G2 H2 L2 x2 e2 q => n4 σ2 G2 H2 L2 (x.trans x2) e2 q) (fun v d G2 H2 x2 vw hd q => n5 v d G2 H2 (x.trans x2) vw hd q)
    cases b with
    | true => exact go2 (p.1 rfl)
    | false => exact go2 (p.2 rfl)
theorem S.mono {D' : Dn} (h : S K pen H0 t L D) (h1 : ∀ L, D.nx L → D'.nx L) (h2 : ∀ d, D.rt d → D'.rt d) (h3 : ∀ L, D.bk L → D'.bk L) (h4 : ∀ L, D.ct L → D'.ct L) (h5 : ∀ d, D.rn d → D'.rn d := by intro _ h; exact h) : S K pen H0 t L D' := fun σ G H N e n1 n2 n3 n4 n5 =>
  h σ G H N e (fun σ' G' H' L' x e' q => n1 σ' G' H' L' x e' (h1 _ q)) (fun v d G' H' x vw hd q => n2 v d G' H' x vw hd (h2 _ q)) (fun σ' G' H' L' x e' q => n3 σ' G' H' L' x e' (h3 _ q)) (fun σ' G' H' L' x e' q => n4 σ' G' H' L' x e' (h4 _ q)) (fun v d G' H' x vw hd q => n5 v d G' H' x vw hd (h5 _ q))
/-! loops -/
theorem s_forT (h : E K pen H0 te L fun d => ∃ ds, d = .tuple ds ∧ ∃ I : Nat → Lv → Prop, I 0 L ∧ (∀ (i : Nat) x L', ds[i]? = some x → I i L' → GT K pen H0 g x L' fun L2 => S K pen H0 t L2 { D with nx := I (i + 1), ct := I (i + 1), bk := D.nx }) ∧ (∀ L', I ds.length L' → D.nx L')) :
    S K pen H0 (tFor (iTup K te) g t) L D := fun σ G H N e n1 n2 n3 n4 n5 => h σ G H e _ fun v d G1 H1 go hd ⟨ds, hds, I, i0, is, id⟩ => by
  subst hds
  cases hd with
  | tup hs ha =>
    rename_i a xs
    have x1 := e.gx go
    refine ⟨a, rfl, ⟨xs, sqT_mono go.vw.vw hs⟩, ?_⟩
    refine for_tup (fun i σ' H' => ∃ G' L', Gx pen H0 G1 H1 G' H' ∧ Ev K pen H0 G' H' σ' L' ∧ I i L') ⟨G1, L, .refl, e.go go, i0⟩ (fun i σ' H' _ ⟨G', L', x, e', _⟩ => sqT_mono (x.gg.trans e'.vw.vw) hs) (fun i y σ' H' hy ⟨G', L', x, e', q⟩ => ?_) (fun σ' H' ⟨G', L', x, e', q⟩ => ?_)
    · obtain ⟨z, hz, hd⟩ := dpa_getV ha hy
      refine is i z L' hz q σ' G' H' y e' (dp_mono x.gg _ _ hd) _ fun σ2 L2 e2 h2 => ?_
      exact h2 σ2 G' H' _ e2 (fun σ3 G3 H3 L3 x3 e3 q3 => ⟨G3, L3, x.trans x3, e3, q3⟩) (fun v d G3 H3 x3 vw hd q3 => n2 v d G3 H3 (x1.trans (x.trans x3)) vw hd q3)
        (fun σ3 G3 H3 L3 x3 e3 q3 => n1 σ3 G3 H3 L3 (x1.trans (x.trans x3)) e3 q3) (fun σ3 G3 H3 L3 x3 e3 q3 => ⟨G3, L3, x.trans x3, e3, q3⟩) (fun v d G3 H3 x3 vw hd q3 => n5 v d G3 H3 (x1.trans (x.trans x3)) vw hd q3)
    · rw [dpa_len ha] at q
      exact n1 σ' G' H' L' (x1.trans x) e' (id L' q)
theorem s_forL (h : E K pen H0 te L fun d => ∃ ds, d = .list ds ∧ ∃ I : Nat → Lv → Prop, I 0 L ∧ (∀ (i : Nat) x L', ds[i]? = some x → I i L' → GT K pen H0 g x L' fun L2 => S K pen H0 t L2 { D with nx := I (i + 1), ct := I (i + 1), bk := D.nx }) ∧ (∀ L', I ds.length L' → D.nx L')) :
    S K pen H0 (tFor (iList K te) g t) L D := fun σ G H N e n1 n2 n3 n4 n5 => h σ G H e _ fun v d G1 H1 go hd ⟨ds, hds, I, i0, is, id⟩ => by
  subst hds
  cases hd with
  | lst hs ha =>
    rename_i a xs
    have x1 := e.gx go
    refine ⟨a, rfl, ⟨xs, sqL_mono go.vw.vw hs⟩, ?_⟩
    refine for_list (fun i σ' H' => ∃ G' L', Gx pen H0 G1 H1 G' H' ∧ Ev K pen H0 G' H' σ' L' ∧ I i L') ⟨G1, L, .refl, e.go go, i0⟩ (fun i σ' H' _ ⟨G', L', x, e', _⟩ => sqL_mono (x.gg.trans e'.vw.vw) hs) (fun i y σ' H' hy ⟨G', L', x, e', q⟩ => ?_) (fun σ' H' ⟨G', L', x, e', q⟩ => ?_)
    · obtain ⟨z, hz, hd⟩ := dpa_getV ha hy
      refine is i z L' hz q σ' G' H' y e' (dp_mono x.gg _ _ hd) _ fun σ2 L2 e2 h2 => ?_
      exact h2 σ2 G' H' _ e2 (fun σ3 G3 H3 L3 x3 e3 q3 => ⟨G3, L3, x.trans x3, e3, q3⟩) (fun v d G3 H3 x3 vw hd q3 => n2 v d G3 H3 (x1.trans (x.trans x3)) vw hd q3)
        (fun σ3 G3 H3 L3 x3 e3 q3 => n1 σ3 G3 H3 L3 (x1.trans (x.trans x3)) e3 q3) (fun σ3 G3 H3 L3 x3 e3 q3 => ⟨G3, L3, x.trans x3, e3, q3⟩) (fun v d G3 H3 x3 vw hd q3 => n5 v d G3 H3 (x1.trans (x.trans x3)) vw hd q3)
    · rw [dpa_len ha] at q
      exact n1 σ' G' H' L' (x1.trans x) e' (id L' q)
theorem s_forR (h : EA K pen H0 tl L fun ds => ∃ n : Nat, ds = [.int n] ∧ n ≤ 100000 ∧ ∃ I : Nat → Lv → Prop, I 0 L ∧ (∀ (i : Nat) L', i < n → I i L' → GT K pen H0 g (.int i) L' fun L2 => S K pen H0 t L2 { D with nx := I (i + 1), ct := I (i + 1), bk := D.nx }) ∧ (∀ L', I n L' → D.nx L')) :
    S K pen H0 (tFor (iRng1 tl) g t) L D := fun σ G H N e n1 n2 n3 n4 n5 => h σ G H e _ fun vs ds G1 H1 go hd ⟨n, hds, hn, I, i0, is, id⟩ => by
  subst hds
  cases hd with
  | cons hd hd2 =>
    cases hd2
    cases hd
    have x1 := e.gx go
    refine ⟨(n : Int), rfl, by omega, by omega, ?_⟩
    rw [Int.toNat_natCast]
    refine for_range (lo := 0) (n := n) (fun i σ' H' => ∃ G' L', Gx pen H0 G1 H1 G' H' ∧ Ev K pen H0 G' H' σ' L' ∧ I i L') ⟨G1, L, .refl, e.go go, i0⟩ (fun i σ' H' hi ⟨G', L', x, e', q⟩ => ?_) (fun σ' H' ⟨G', L', x, e', q⟩ => ?_)
    · refine is i L' hi q σ' G' H' _ e' (by rw [Int.zero_add]; exact .int _) _ fun σ2 L2 e2 h2 => ?_
      exact h2 σ2 G' H' _ e2 (fun σ3 G3 H3 L3 x3 e3 q3 => ⟨G3, L3, x.trans x3, e3, q3⟩) (fun v d G3 H3 x3 vw hd q3 => n2 v d G3 H3 (x1.trans (x.trans x3)) vw hd q3)
        (fun σ3 G3 H3 L3 x3 e3 q3 => n1 σ3 G3 H3 L3 (x1.trans (x.trans x3)) e3 q3) (fun σ3 G3 H3 L3 x3 e3 q3 => ⟨G3, L3, x.trans x3, e3, q3⟩) (fun v d G3 H3 x3 vw hd q3 => n5 v d G3 H3 (x1.trans (x.trans x3)) vw hd q3)
    · exact n1 σ' G' H' L' (x1.trans x) e' (id L' q)
theorem s_while (I : Nat → Lv → Prop) (h0 : ∃ m, I m L) (h : ∀ m L', I m L' → ET K pen H0 tt L' fun b => (b = true → S K pen H0 t L' { D with nx := fun L2 => ∃ m', m' < m ∧ I m' L2, ct := fun L2 => ∃ m', m' < m ∧ I m' L2, bk := D.nx }) ∧ (b = false → D.nx L')) :
    S K pen H0 (tWhile tt t) L D := fun σ G H N e n1 n2 n3 n4 n5 => by
  obtain ⟨m0, i0⟩ := h0
  refine ⟨fun m σ' H' => ∃ G' L', Gx pen H0 G H G' H' ∧ Ev K pen H0 G' H' σ' L' ∧ I m L', ⟨m0, G, L, .refl, e, i0⟩, ?_⟩
  rintro m σ1 H1 ⟨G1, L1, x1, e1, q1⟩
  refine h m L1 q1 σ1 G1 H1 e1 _ fun b G2 H2 go p => ?_
  have x2 := x1.trans (e1.gx go)
  cases b with
  | false => exact n1 σ1 G2 H2 L1 x2 (e1.go go) (p.2 rfl)
  | true =>
    refine ⟨fun σ' H' => ∃ G' L' m', m' < m ∧ Gx pen H0 G H G' H' ∧ Ev K pen H0 G' H' σ' L' ∧ I m' L', fun σ' H' ⟨G', L', m', hm, r⟩ => ⟨m', hm, G', L', r⟩, ?_⟩
    exact p.1 rfl σ1 G2 H2 _ (e1.go go) (fun σ3 G3 H3 L3 x3 e3 ⟨m', hm, q3⟩ => ⟨G3, L3, m', hm, x2.trans x3, e3, q3⟩) (fun v d G3 H3 x3 vw hd q3 => n2 v d G3 H3 (x2.trans x3) vw hd q3)
      (fun σ3 G3 H3 L3 x3 e3 q3 => n1 σ3 G3 H3 L3 (x2.trans x3) e3 q3) (fun σ3 G3 H3 L3 x3 e3 ⟨m', hm, q3⟩ => ⟨G3, L3, m', hm, x2.trans x3, e3, q3⟩) (fun v d G3 H3 x3 vw hd q3 => n5 v d G3 H3 (x2.trans x3) vw hd q3)
/-- x op= e -/
theorem s_aug {i : Nat} {x : PyData} {r : TIp} (hi : L[i]? = some (some (.d x))) (h : E K pen H0 te L fun y => R2d K pen r x y fun d => D.nx (L.set i (some (.d d)))) : S K pen H0 (tAug i te r) L D := fun σ G H N e n1 _ _ _ _ => by
  obtain ⟨v, h1, h2⟩ := e.sl i _ hi
  refine ⟨v, h1, h σ G H e _ fun w y G1 H1 g1 d1 p => ?_⟩
  exact p v w G1 H1 g1.vw (dp_mono g1.gg _ _ h2) d1 _ fun z d G2 H2 g2 d2 q => n1 _ G2 H2 _ ((e.gx g1).trans ((e.go g1).gx g2)) (((e.go g1).go g2).set d2) q
/-! calls -/
def SpX {α : Type} (K : PySem.W.Frag) (ts : List Addr) (Wf : α → Prop) (enc : α → List PyData) (res : α → PyData → Prop) : Sp := fun vs H Q _ => ∃ (x : α) (G : Hp), Vw ⟨none, ts⟩ G H ∧ DpAll K G vs (enc x) ∧ Wf x ∧ ∀ v d G' H', Go ⟨none, ts⟩ G H G' H' → Dp K G' v d → res x d → Q v H'
def PK.Is : Bool → PK → Prop
  | false, .pen _ _ => True
  | true, .spr => True
  | _, _ => False
def SpXk {α : Type} (b : Bool) (K : PySem.W.Frag) (ts : List Addr) (Wf : α → Prop) (enc : α → List PyData) (res : α → PyData → Prop) : Sp := fun vs H Q _ => ∃ (x : α) (p : Pn) (G : Hp) (us : List V), PK.Is b p.k ∧ vs = .ref p.a :: us ∧ Vw ⟨some p, ts⟩ G H ∧ DpAll K G us (enc x) ∧ Wf x ∧ ∀ v d G' H', Go ⟨some p, ts⟩ G H G' H' → Dp K G' v d → res x d → Q v H'
def SpXF {α : Type} (K : PySem.W.Frag) (ts : List Addr) (Wf : α → Prop) (enc : α → List PyData) (res : α → PyData → Prop) : Sp := fun vs H Q _ => ∃ (x : α) (G : Hp), Vw ⟨none, ts⟩ G H ∧ DpAll K G vs (enc x) ∧ Wf x ∧ ∀ v d G' H', Go ⟨none, ts⟩ G H G' H' → Nd K (vnew H G' H') v d → res x d → Q v H'
/-- told, seen as data -/
theorem Go.see {pen : Pc} {G H G' H' : Hp} (vw : Vw pen G H) (g : Go pen G H G' H') : Go pen G H (vmax H G' H') H' := by
  have v := vw_max (H0 := H) g.vw vw.ok
  refine ⟨fun a o e => vmax_G (g.gg _ _ e), fun a h => ?_, g.od, v⟩
  rw [← g.nw a h]
  cases e : G' a with
  | some o => exact vmax_G e
  | none =>
    rw [vmax_new e]
    cases z : newL H H' a with
    | none => rfl
    | some o => exact absurd (newL_some z).1 h
theorem e_callXF {α : Type} {pn : Option Pn} {ts : List Addr} {Wf : α → Prop} {enc : α → List PyData} {res : α → PyData → Prop} {X : XK} (h : EA K ⟨pn, ts⟩ H0 tl L fun ds => ∃ x, ds = enc x ∧ Wf x ∧ ∀ d, res x d → P d) : E K ⟨pn, ts⟩ H0 (tCall (SpXF K ts Wf enc res) [] X tl) L P := fun σ G H e Q q =>
  h σ G H e _ fun vs ds G1 H1 go hd ⟨x, hx, h1, h2⟩ => ⟨x, G1, go.vw.plain, by rw [List.append_nil, ← hx]; exact hd, h1, fun v d G' H' go2 hd2 p => by
    have g3 := Go.see go.vw (go2.lift go.vw)
    exact q v d _ H' (go.trans g3) (dp_mono vnew_max _ _ (nd_dp _ _ hd2)) (h2 d p)⟩
theorem e_callX {α : Type} {pn : Option Pn} {ts : List Addr} {Wf : α → Prop} {enc : α → List PyData} {res : α → PyData → Prop} {X : XK} (h : EA K ⟨pn, ts⟩ H0 tl L fun ds => ∃ x, ds = enc x ∧ Wf x ∧ ∀ d, res x d → P d) : E K ⟨pn, ts⟩ H0 (tCall (SpX K ts Wf enc res) [] X tl) L P := fun σ G H e Q q =>
  h σ G H e _ fun vs ds G1 H1 go hd ⟨x, hx, h1, h2⟩ => ⟨x, G1, go.vw.plain, by rw [List.append_nil, ← hx]; exact hd, h1, fun v d G' H' go2 hd2 p => q v d G' H' (go.trans (go2.lift go.vw)) hd2 (h2 d p)⟩
abbrev SpXP {α : Type} (K : PySem.W.Frag) (ts : List Addr) (Wf : α → Prop) (enc : α → List PyData) (res : α → PyData → Prop) : Sp := SpXk false K ts Wf enc res
abbrev SpXS {α : Type} (K : PySem.W.Frag) (ts : List Addr) (Wf : α → Prop) (enc : α → List PyData) (res : α → PyData → Prop) : Sp := SpXk true K ts Wf enc res
theorem e_callXP {α : Type} {b : Bool} {p : Pn} {ts : List Addr} {Wf : α → Prop} {enc : α → List PyData} {res : α → PyData → Prop} {X : XK} {i : Nat} (hi : L[i]? = some (some .pen)) (h : EA K ⟨some p, ts⟩ H0 tl L fun ds => ∃ x, ds = enc x ∧ Wf x ∧ ∀ d, res x d → P d) (hk : PK.Is b p.k := by exact trivial) : E K ⟨some p, ts⟩ H0 (tCall (SpXk b K ts Wf enc res) [] X (tCons (tVar i) tl)) L P := fun σ G H e Q q => by
  obtain ⟨v, hv, p', hp, rfl⟩ := e.sl i _ hi
  refine ⟨_, hv, h σ G H e _ fun vs ds G1 H1 go hd ⟨x, hx, h1, h2⟩ => ?_⟩
  cases hp
  exact ⟨x, p, G1, vs, hk, by rw [List.append_nil], go.vw, by rw [← hx]; exact hd, h1, fun v d G' H' go2 hd2 p => q v d G' H' (go.trans go2) hd2 (h2 d p)⟩
/-! defs -/
def st0 (N : List Str) (ds : List PyData) : Lv := ds.map (fun d => some (.d d)) ++ List.replicate (N.length - ds.length) none
def stP (N : List Str) (ds : List PyData) : Lv := some .pen :: (ds.map (fun d => some (.d d)) ++ List.replicate (N.length - (ds.length + 1)) none)
theorem start_get {N : List Str} {vs : List V} {ds : List PyData} {G : Hp} (h : DpAll K G vs ds) : ∀ (i : Nat) av, (st0 N ds)[i]? = some (some av) → ∃ v d, av = .d d ∧ (start N vs)[i]? = some (some v) ∧ Dp K G v d := fun i av hi => by
  unfold st0 at hi
  unfold L2.start
  by_cases q : i < ds.length
  · rw [List.getElem?_append_left (by rw [List.length_map]; exact q), List.getElem?_map] at hi
    cases hd : ds[i]? with
    | none => rw [hd] at hi; cases hi
    | some d =>
      rw [hd] at hi
      obtain ⟨v, h1, h2⟩ := dpa_get h hd
      refine ⟨v, d, (Option.some.inj (Option.some.inj hi)).symm, ?_, h2⟩
      rw [List.getElem?_append_left (by rw [List.length_map, dpa_len h]; exact q), List.getElem?_map, h1]
      rfl
  · rw [List.getElem?_append_right (by rw [List.length_map]; omega)] at hi
    have z := List.mem_of_getElem? hi
    have z2 := (List.mem_replicate.mp z).2
    cases z2
theorem ev_start {ts : List Addr} {N : List Str} {vs : List V} {ds : List PyData} {G H : Hp} (h : DpAll K G vs ds) (v : Vw ⟨none, ts⟩ G H) : Ev K ⟨none, ts⟩ H G H (start N vs) (st0 N ds) := by
  refine ⟨v, v.ok, fun _ h => h, ?_, fun i av hi => ?_, fun i j ds' es l h1 _ _ _ => ?_⟩
  · unfold L2.start st0
    rw [List.length_append, List.length_append, List.length_map, List.length_map, List.length_replicate, List.length_replicate, dpa_len h]
  · obtain ⟨v, d, rfl, h1, h2⟩ := start_get h i av hi
    exact ⟨v, h1, h2⟩
  · obtain ⟨v, d, e, _⟩ := start_get h i _ h1
    cases e
theorem ev_startP {ts : List Addr} {N : List Str} {p : Pn} {vs : List V} {ds : List PyData} {G H : Hp} (h : DpAll K G vs ds) (v : Vw ⟨some p, ts⟩ G H) (hN : ∃ x r, N = x :: r) : Ev K ⟨some p, ts⟩ H G H (start N (.ref p.a :: vs)) (stP N ds) := by
  obtain ⟨x, r, rfl⟩ := hN
  have e1 : start (x :: r) (.ref p.a :: vs) = some (.ref p.a) :: start r vs := by
    unfold L2.start
    rw [List.length_cons, List.length_cons, Nat.add_sub_add_right]
    rfl
  have e2 : stP (x :: r) ds = some .pen :: st0 r ds := by
    unfold stP st0
    rw [List.length_cons, Nat.add_sub_add_right]
  rw [e1, e2]
  have l0 : (start r vs).length = (st0 r ds).length := by
    unfold L2.start st0
    rw [List.length_append, List.length_append, List.length_map, List.length_map, List.length_replicate, List.length_replicate, dpa_len h]
  refine ⟨v, v.ok, fun _ h => h, ?_, fun i av hi => ?_, fun i j ds' es l h1 _ _ _ => ?_⟩
  · rw [List.length_cons, List.length_cons, l0]
  · cases i with
    | zero =>
      have e := Option.some.inj (Option.some.inj hi)
      subst e
      exact ⟨_, rfl, p, rfl, rfl⟩
    | succ i =>
      obtain ⟨v, d, rfl, h1, h2⟩ := start_get h i av hi
      exact ⟨v, h1, h2⟩
  · cases i with
    | zero => cases h1
    | succ i =>
      obtain ⟨v, d, e, _⟩ := start_get h i _ h1
      cases e
end
section
variable {P : Program} {w : World} {K : PySem.W.Frag} {mg : Str → Option Value} {base : Heap}
/-- a def without the pen -/
theorem fnX {α : Type} {x qual : Str} {st : Stmt} {f : Addr} {fd : FuncData} {N ps : List Str} {k : Nat} {ts : List Addr} {Wf : α → Prop} {enc : α → List PyData} {res : α → PyData → Prop} (F : Fun K x qual st f fd) (S0 : FnScope N ps (defScope st)) (hl : ∀ x, Wf x → (enc x).length = ps.length)
    (hbody : ∀ (cdv : Value) (A : Around) (outer : List Env) (s : Shared) (H : Hp) (E : XK), Room k (A.deeper (envOfC qual (defScope st) s.heap.objs.size f cdv)) →
      ∃ t, PSs (cxOf CX0 P w K mg base N qual (defScope st) f cdv A outer s H E).nox (defBody st) t ∧ ∀ x, Wf x → S K ⟨none, ts⟩ H t (st0 N (enc x)) { nx := fun _ => res x .none, rt := res x }) : FnOk P w K mg base CX0 (k + 1) f fd ps (SpX K ts Wf enc res) := by
  refine F.ok S0 (fun vs H Q E h => ?_) (fun cdv A outer s H vs Q E hr h => ?_)
  · obtain ⟨x, G, _, h1, h2, _⟩ := h
    rw [dpa_len h1]
    exact hl x h2
  · obtain ⟨x, G, v, h1, h2, q⟩ := h
    obtain ⟨t, ht, hS⟩ := hbody cdv A outer s H E hr
    refine ⟨t, ht, hS x h2 (L2.start N vs) G H _ (ev_start h1 v) (fun σ' G' H' L' x e' p => ?_) (fun v d G' H' x vw hd p => ?_) (fun _ _ _ _ _ _ z => z.elim) (fun _ _ _ _ _ _ z => z.elim) (fun _ _ _ _ _ _ _ z => z.elim)⟩
    · exact q .non .none G' H' ⟨x.gg, x.nw, fun a o hp e => x.od a o hp (by rw [e]; exact fun z => by cases z) e, e'.vw⟩ .non p
    · exact q v d G' H' ⟨x.gg, x.nw, fun a o hp e => x.od a o hp (by rw [e]; exact fun z => by cases z) e, vw⟩ hd p
/-- a def that tells what is new -/
theorem fnXF {α : Type} {x qual : Str} {st : Stmt} {f : Addr} {fd : FuncData} {N ps : List Str} {k : Nat} {ts : List Addr} {Wf : α → Prop} {enc : α → List PyData} {res : α → PyData → Prop} (F : Fun K x qual st f fd) (S0 : FnScope N ps (defScope st)) (hl : ∀ x, Wf x → (enc x).length = ps.length)
    (hbody : ∀ (cdv : Value) (A : Around) (outer : List Env) (s : Shared) (H : Hp) (E : XK), Room k (A.deeper (envOfC qual (defScope st) s.heap.objs.size f cdv)) →
      ∃ t, PSs (cxOf CX0 P w K mg base N qual (defScope st) f cdv A outer s H E).nox (defBody st) t ∧ ∀ x, Wf x → S K ⟨none, ts⟩ H t (st0 N (enc x)) { nx := fun _ => False, rt := fun _ => False, rn := res x }) : FnOk P w K mg base CX0 (k + 1) f fd ps (SpXF K ts Wf enc res) := by
  refine F.ok S0 (fun vs H Q E h => ?_) (fun cdv A outer s H vs Q E hr h => ?_)
  · obtain ⟨x, G, _, h1, h2, _⟩ := h
    rw [dpa_len h1]
    exact hl x h2
  · obtain ⟨x, G, v, h1, h2, q⟩ := h
    obtain ⟨t, ht, hS⟩ := hbody cdv A outer s H E hr
    refine ⟨t, ht, hS x h2 (L2.start N vs) G H _ (ev_start h1 v) (fun _ _ _ _ _ _ z => z.elim) (fun _ _ _ _ _ _ _ z => z.elim) (fun _ _ _ _ _ _ z => z.elim) (fun _ _ _ _ _ _ z => z.elim) (fun v d G' H' x vw hd p => ?_)⟩
    exact q v d G' H' ⟨x.gg, x.nw, fun a o hp e => x.od a o hp (by rw [e]; exact fun z => by cases z) e, vw⟩ hd p
/-- a def whose first argument is the pen, the spring -/
theorem fnXk {α : Type} {b : Bool} {x qual : Str} {st : Stmt} {f : Addr} {fd : FuncData} {N ps : List Str} {k : Nat} {ts : List Addr} {Wf : α → Prop} {enc : α → List PyData} {res : α → PyData → Prop} (F : Fun K x qual st f fd) (S0 : FnScope N ps (defScope st)) (hN : ∃ x r, N = x :: r) (hl : ∀ x, Wf x → (enc x).length + 1 = ps.length)
    (hbody : ∀ (cdv : Value) (A : Around) (outer : List Env) (s : Shared) (H : Hp) (E : XK), Room k (A.deeper (envOfC qual (defScope st) s.heap.objs.size f cdv)) →
      ∃ t, PSs (cxOf CX0 P w K mg base N qual (defScope st) f cdv A outer s H E).nox (defBody st) t ∧ ∀ (p : Pn) x, PK.Is b p.k → Wf x → S K ⟨some p, ts⟩ H t (stP N (enc x)) { nx := fun _ => res x .none, rt := res x }) : FnOk P w K mg base CX0 (k + 1) f fd ps (SpXk b K ts Wf enc res) := by
  refine F.ok S0 (fun vs H Q E h => ?_) (fun cdv A outer s H vs Q E hr h => ?_)
  · obtain ⟨x, p, G, us, hk, rfl, _, h1, h2, _⟩ := h
    rw [List.length_cons, dpa_len h1]
    exact hl x h2
  · obtain ⟨x, p, G, us, hk, rfl, v, h1, h2, q⟩ := h
    obtain ⟨t, ht, hS⟩ := hbody cdv A outer s H E hr
    refine ⟨t, ht, hS p x hk h2 _ G H _ (ev_startP h1 v hN) (fun σ' G' H' L' x e' p => ?_) (fun v d G' H' x vw hd p => ?_) (fun _ _ _ _ _ _ z => z.elim) (fun _ _ _ _ _ _ z => z.elim) (fun _ _ _ _ _ _ _ z => z.elim)⟩
    · exact q .non .none G' H' ⟨x.gg, x.nw, fun a o hp e => x.od a o hp (by rw [e]; exact fun z => by cases z) e, e'.vw⟩ .non p
    · exact q v d G' H' ⟨x.gg, x.nw, fun a o hp e => x.od a o hp (by rw [e]; exact fun z => by cases z) e, vw⟩ hd p
theorem fnXP {α : Type} {x qual : Str} {st : Stmt} {f : Addr} {fd : FuncData} {N ps : List Str} {k : Nat} {ts : List Addr} {Wf : α → Prop} {enc : α → List PyData} {res : α → PyData → Prop} (F : Fun K x qual st f fd) (S0 : FnScope N ps (defScope st)) (hN : ∃ x r, N = x :: r) (hl : ∀ x, Wf x → (enc x).length + 1 = ps.length)
    (hbody : ∀ (cdv : Value) (A : Around) (outer : List Env) (s : Shared) (H : Hp) (E : XK), Room k (A.deeper (envOfC qual (defScope st) s.heap.objs.size f cdv)) →
      ∃ t, PSs (cxOf CX0 P w K mg base N qual (defScope st) f cdv A outer s H E).nox (defBody st) t ∧ ∀ (pa pc : Addr) (pn : Nat) x, Wf x → S K ⟨some ⟨pa, .pen pc pn⟩, ts⟩ H t (stP N (enc x)) { nx := fun _ => res x .none, rt := res x }) : FnOk P w K mg base CX0 (k + 1) f fd ps (SpXP K ts Wf enc res) :=
  fnXk F S0 hN hl fun cdv A outer s H E hr => by
    obtain ⟨t, ht, h⟩ := hbody cdv A outer s H E hr
    refine ⟨t, ht, fun p x hk hw => ?_⟩
    obtain ⟨a, kk⟩ := p
    cases kk with
    | pen c n => exact h a c n x hw
    | spr => exact hk.elim
theorem fnXS {α : Type} {x qual : Str} {st : Stmt} {f : Addr} {fd : FuncData} {N ps : List Str} {k : Nat} {ts : List Addr} {Wf : α → Prop} {enc : α → List PyData} {res : α → PyData → Prop} (F : Fun K x qual st f fd) (S0 : FnScope N ps (defScope st)) (hN : ∃ x r, N = x :: r) (hl : ∀ x, Wf x → (enc x).length + 1 = ps.length)
    (hbody : ∀ (cdv : Value) (A : Around) (outer : List Env) (s : Shared) (H : Hp) (E : XK), Room k (A.deeper (envOfC qual (defScope st) s.heap.objs.size f cdv)) →
      ∃ t, PSs (cxOf CX0 P w K mg base N qual (defScope st) f cdv A outer s H E).nox (defBody st) t ∧ ∀ (pa : Addr) x, Wf x → S K ⟨some ⟨pa, .spr⟩, ts⟩ H t (stP N (enc x)) { nx := fun _ => res x .none, rt := res x }) : FnOk P w K mg base CX0 (k + 1) f fd ps (SpXS K ts Wf enc res) :=
  fnXk F S0 hN hl fun cdv A outer s H E hr => by
    obtain ⟨t, ht, h⟩ := hbody cdv A outer s H E hr
    refine ⟨t, ht, fun p x hk hw => ?_⟩
    obtain ⟨a, kk⟩ := p
    cases kk with
    | pen c n => exact hk.elim
    | spr => exact h a x hw
end
end Dl
set_option Elab.async false
set_option linter.all false
set_option maxRecDepth 100000
namespace Dl
open PySem PySem.Spec PyProof.Rows L2
section
variable {K : PySem.W.Frag} {pen : Pc} {H0 : Hp} {L : Lv} {P P' : PyData → Prop} {ta tb tc te ti : TE} {tl tr : TA} {tt : TT} {t u : TS} {Pb : Bool → Prop} {D : Dn} {g : TG} {gs : TGs}
/-! ### a new list -/
def EL (K : PySem.W.Frag) (pen : Pc) (H0 : Hp) (te : TE) (L : Lv) (Pl : List PyData → Prop) : Prop := ∀ (σ : L2.St) (G H : Hp), Ev K pen H0 G H σ L → ∀ Q : VK, (∀ l vs ds G' H', Go pen G H G' H' → H' l = some (.lst vs) → G' l = none → H l = none → DpAll K G' vs ds → Pl ds → Q (.ref l) H') → te σ H Q
/-- G with a list that is not yet data -/
theorem Go.list {G H G' H' : Hp} {l : Addr} {vs : List V} (vw : Vw pen G H) (g : Go pen G H G' H') (h1 : H' l = some (.lst vs)) (h2 : G' l = none) (h3 : H l = none) : Go pen G H (upd G' l (.lst vs)) H' ∧ Same G' (upd G' l (.lst vs)) := by
  have s : Same G' (upd G' l (.lst vs)) := fun a o e => by
    rw [upd_ne (ne_of_none e h2)]
    exact e
  refine ⟨⟨g.gg.trans s, fun a h => ?_, g.od, ⟨fun a o e => ?_, fun a p => ?_, g.vw.ok⟩⟩, s⟩
  · rw [upd_ne (fun z => h (by rw [z]; exact h3))]
    exact g.nw a h
  · by_cases z : a = l
    · subst z
      rw [upd_same] at e
      rw [h1]; exact e
    · rw [upd_ne z] at e
      exact g.vw.vw a o e
  · rw [upd_ne (fun z => vw.ok.there p (by rw [z]; exact h3))]
    exact g.vw.no a p
theorem e_ofL (h : EL K pen H0 te L fun ds => P (.list ds)) : E K pen H0 te L P := fun σ G H e Q q => h σ G H e Q fun l vs ds G' H' g h1 h2 h3 h4 p => by
  obtain ⟨g2, s⟩ := Go.list e.vw g h1 h2 h3
  exact q _ _ _ _ g2 (.lst (.inl (.inl upd_same)) (dpa_mono s _ _ h4)) p
theorem EL.mono {Pl Pl' : List PyData → Prop} (h : EL K pen H0 te L Pl) (k : ∀ d, Pl d → Pl' d) : EL K pen H0 te L Pl' := fun σ G H e Q q => h σ G H e Q fun l vs ds G' H' g h1 h2 h3 h4 p => q l vs ds G' H' g h1 h2 h3 h4 (k ds p)
/-! ### comprehensions -/
/-- POk behind a write elsewhere -/
theorem POk.upd {H H1 : Hp} {D : Addr} {o : HO} (h : POk pen H) (h1 : POk pen H1) (hD : H1 D = none) : POk pen (L2.upd H D o) := by
  refine ⟨fun p hp => (h.1 p hp).mono fun a u ho e => ?_, fun P hP => ?_⟩
  · obtain ⟨xs, k⟩ := (h1.1 p hp).lst ho
    rw [upd_ne (ne_of_none k hD)]
    exact e
  · obtain ⟨ps, e, t⟩ := h.2 P hP
    exact ⟨ps, by rw [upd_ne (fun z => h1.there (.inr hP) (by rw [z]; exact hD))]; exact e, t⟩
/-- an object that was new at H1 and is not data changes -/
theorem Go.mut {G H1 G' H' : Hp} {D : Addr} {o : HO} (v1 : Vw pen G H1) (hD : H1 D = none) (gd : G' D = none) (g : Go pen G H1 G' H') : Go pen G H1 G' (upd H' D o) := by
  refine ⟨g.gg, g.nw, fun a o hp e => ?_, ⟨fun a o e => ?_, g.vw.no, ?_⟩⟩
  · rw [upd_ne (ne_of_none e hD)]
    exact g.od a o hp e
  · rw [upd_ne (fun z => by rw [z, gd] at e; cases e)]
    exact g.vw.vw a o e
  · exact g.vw.ok.upd v1.ok hD
def LcI (K : PySem.W.Frag) (pen : Pc) (G H1 : Hp) (D : Addr) (J : Nat → List PyData → Prop) (i : Nat) (H' : Hp) : Prop :=
  ∃ G' vs acc, Go pen G H1 G' H' ∧ H' D = some (.lst vs) ∧ G' D = none ∧ DpAll K G' vs acc ∧ J i acc ∧ acc.length ≤ i
theorem lc_start {G H1 : Hp} {D : Addr} {J : Nat → List PyData → Prop} (v : Vw pen G H1) (hD : H1 D = none) (j0 : J 0 []) : LcI K pen G H1 D J 0 (upd H1 D (.lst [])) := by
  refine ⟨G, [], [], Go.hid v hD, upd_same, ?_, .nil, j0, Nat.le_refl _⟩
  cases q : G D with
  | none => rfl
  | some o => rw [v.vw _ _ q] at hD; cases hD
theorem lc_end {G H G1 H1 H' : Hp} {D : Addr} {J : Nat → List PyData → Prop} {n : Nat} {Q : VK} {Pl : List PyData → Prop} (go : Go pen G H G1 H1) (hD : H1 D = none) (I : LcI K pen G1 H1 D J n H') (j1 : ∀ acc, J n acc → Pl acc)
    (q : ∀ l vs ds G' H', Go pen G H G' H' → H' l = some (.lst vs) → G' l = none → H l = none → DpAll K G' vs ds → Pl ds → Q (.ref l) H') : Q (.ref D) H' := by
  obtain ⟨G', vs, acc, g, h1, h2, h3, h4, _⟩ := I
  refine q D vs acc G' H' (go.trans g) h1 h2 ?_ h3 (j1 acc h4)
  cases z : H D with
  | none => rfl
  | some o => exact absurd hD (go.dom (by rw [z]; exact fun z => by cases z))
theorem lc_turn {G H1 G' H' : Hp} {D : Addr} {J : Nat → List PyData → Prop} {i : Nat} {vs : List V} {acc : List PyData} {σ2 : L2.St} {L2 : Lv} (v1 : Vw pen G H1) (hD : H1 D = none) (hi : i < 100000) (go : Go pen G H1 G' H') (h1 : H' D = some (.lst vs)) (h2 : G' D = none) (h3 : DpAll K G' vs acc) (h5 : acc.length ≤ i)
    (e2 : Ev K pen H0 G' H' σ2 L2) (h : ET K pen H0 tt L2 fun b => (b = true → E K pen H0 te L2 fun d => J (i + 1) (acc ++ [d])) ∧ (b = false → J (i + 1) acc)) :
    tt σ2 H' fun b H3 => if b = true then te σ2 H3 fun y H4 => ∃ acc, H4 D = some (.lst acc) ∧ acc.length < sizeLine ∧ LcI K pen G H1 D J (i + 1) (upd H4 D (.lst (acc ++ [y]))) else LcI K pen G H1 D J (i + 1) H3 := by
  have np : ¬ IsPn pen D := fun p => v1.ok.there p hD
  have hz : H' D ≠ none := by rw [h1]; exact fun z => by cases z
  refine h σ2 G' H' e2 _ fun b G3 H3 g3 p => ?_
  have k1 : H3 D = some (.lst vs) := g3.od D _ np h1
  have k2 : G3 D = none := (g3.nw D hz).trans h2
  cases b with
  | true =>
    show te σ2 H3 _
    refine p.1 rfl σ2 G3 H3 (e2.go g3) _ fun y d G4 H4 g4 d4 p4 => ?_
    have m1 : H4 D = some (.lst vs) := g4.od D _ np k1
    have m2 : G4 D = none := (g4.nw D (by rw [k1]; exact fun z => by cases z)).trans k2
    have m3 := dpa_mono (g3.gg.trans g4.gg) _ _ h3
    refine ⟨vs, m1, Nat.lt_of_lt_of_le (Nat.lt_of_le_of_lt (by rw [dpa_len h3]; exact h5) hi) (by decide : 100000 ≤ sizeLine), G4, vs ++ [y], acc ++ [d], Go.mut v1 hD m2 ((go.trans g3).trans g4), upd_same, m2, dpa_app m3 (.cons d4 .nil), p4, ?_⟩
    rw [List.length_append]
    show acc.length + 1 ≤ i + 1
    omega
  | false =>
    show LcI K pen G H1 D J (i + 1) H3
    exact ⟨G3, vs, acc, go.trans g3, k1, k2, dpa_mono g3.gg _ _ h3, p.2 rfl, by omega⟩
theorem wipe1 (σ : L2.St) (j : Nat) (x : Option V) : wipe ((wipe σ [j]).set j x) [j] = wipe σ [j] := by
  show ((σ.set j none).set j x).set j none = σ.set j none
  rw [List.set_set, List.set_set]
theorem wipe2 (σ : L2.St) (j k : Nat) (x y : Option V) : wipe (((wipe σ [j, k]).set j x).set k y) [j, k] = wipe σ [j, k] := by
  show (((((σ.set k none).set j none).set j x).set k y).set k none).set j none = (σ.set k none).set j none
  apply List.ext_getElem?
  intro m
  simp only [List.getElem?_set, List.length_set]
  by_cases h1 : j = m <;> by_cases h2 : k = m <;> simp [h1, h2] <;> (try split) <;> simp_all
theorem ev_wipe1 {G H : Hp} {σ : L2.St} (e : Ev K pen H0 G H σ L) (j : Nat) : Ev K pen H0 G H (wipe σ [j]) (L.set j none) := e.unset j
theorem ev_wipe2 {G H : Hp} {σ : L2.St} (e : Ev K pen H0 G H σ L) (j k : Nat) : Ev K pen H0 G H (wipe σ [j, k]) ((L.set k none).set j none) := (e.unset k).unset j
/-- one turn, by data -/
abbrev LcT (K : PySem.W.Frag) (pen : Pc) (H0 : Hp) (tt : TT) (te : TE) (L2 : Lv) (acc : List PyData) (Jn : List PyData → Prop) : Prop :=
  ET K pen H0 tt L2 fun b => (b = true → E K pen H0 te L2 fun d => Jn (acc ++ [d])) ∧ (b = false → Jn acc)
theorem el_lcR {Pl : List PyData → Prop} {j : Nat} (h : EA K pen H0 tl L fun ds => ∃ n : Nat, ds = [.int n] ∧ n ≤ 100000 ∧ ∃ J : Nat → List PyData → Prop, J 0 [] ∧
    (∀ (i : Nat) acc, i < n → J i acc → LcT K pen H0 tt te ((L.set j none).set j (some (.d (.int i)))) acc (J (i + 1))) ∧ (∀ acc, J n acc → Pl acc)) :
    EL K pen H0 (tLc (iRng1 tl) (gName j) tt te [j]) L Pl := fun σ G H e Q q => h σ G H e _ fun vs ds G1 H1 go hd ⟨n, hds, hn, J, j0, js, je⟩ => by
  subst hds
  cases hd with
  | cons hd hd2 =>
    cases hd2
    cases hd
    refine ⟨(n : Int), rfl, by omega, by omega, fun Dl hD => ?_⟩
    rw [Int.toNat_natCast]
    refine lc_range (lo := 0) (n := n) (LcI K pen G1 H1 Dl J) (lc_start go.vw hD j0) (fun i H' hi ⟨G', vs, acc, g, h1, h2, h3, h4, h5⟩ => ?_) (fun H' I => lc_end go hD I je q)
    show wipe ((wipe σ [j]).set j (some (.int ((0 : Int) + (i : Int))))) [j] = wipe σ [j] ∧ tt ((wipe σ [j]).set j (some (.int ((0 : Int) + (i : Int))))) H' _
    refine ⟨wipe1 _ _ _, ?_⟩
    rw [Int.zero_add]
    exact lc_turn go.vw hD (by omega) g h1 h2 h3 h5 ((ev_wipe1 ((e.go go).go g) j).set (.int _)) (js i acc hi h4)
theorem e_lcR {j : Nat} (h : EA K pen H0 tl L fun ds => ∃ n : Nat, ds = [.int n] ∧ n ≤ 100000 ∧ ∃ J : Nat → List PyData → Prop, J 0 [] ∧
    (∀ (i : Nat) acc, i < n → J i acc → LcT K pen H0 tt te ((L.set j none).set j (some (.d (.int i)))) acc (J (i + 1))) ∧ (∀ acc, J n acc → P (.list acc))) :
    E K pen H0 (tLc (iRng1 tl) (gName j) tt te [j]) L P := e_ofL (el_lcR h)
theorem el_lcT {Pl : List PyData → Prop} {j : Nat} (h : E K pen H0 ta L fun d => ∃ ds, d = .tuple ds ∧ ds.length ≤ 100000 ∧ ∃ J : Nat → List PyData → Prop, J 0 [] ∧
    (∀ (i : Nat) x acc, ds[i]? = some x → J i acc → LcT K pen H0 tt te ((L.set j none).set j (some (.d x))) acc (J (i + 1))) ∧ (∀ acc, J ds.length acc → Pl acc)) :
    EL K pen H0 (tLc (iTup K ta) (gName j) tt te [j]) L Pl := fun σ G H e Q q => h σ G H e _ fun v d G1 H1 go hd ⟨ds, hds, hn, J, j0, js, je⟩ => by
  subst hds
  cases hd with
  | tup hs ha =>
    rename_i a xs
    refine ⟨a, rfl, ⟨xs, sqT_mono go.vw.vw hs⟩, fun Dl hD => ?_⟩
    refine lc_tup (xs := xs) (LcI K pen G1 H1 Dl J) (lc_start go.vw hD j0) (fun i H' _ ⟨G', vs, acc, g, _⟩ => sqT_mono (g.gg.trans g.vw.vw) hs) (fun i x H' hx ⟨G', vs, acc, g, h1, h2, h3, h4, h5⟩ => ?_) (fun H' I => ?_)
    · obtain ⟨z, hz, hd⟩ := dpa_getV ha hx
      refine ⟨wipe1 _ _ _, ?_⟩
      have := (List.getElem?_eq_some_iff.mp hz).1
      exact lc_turn go.vw hD (by omega) g h1 h2 h3 h5 ((ev_wipe1 ((e.go go).go g) j).set (dp_mono g.gg _ _ hd)) (js i z acc hz h4)
    · rw [dpa_len ha] at I
      exact lc_end go hD I je q
theorem e_lcT {j : Nat} (h : E K pen H0 ta L fun d => ∃ ds, d = .tuple ds ∧ ds.length ≤ 100000 ∧ ∃ J : Nat → List PyData → Prop, J 0 [] ∧
    (∀ (i : Nat) x acc, ds[i]? = some x → J i acc → LcT K pen H0 tt te ((L.set j none).set j (some (.d x))) acc (J (i + 1))) ∧ (∀ acc, J ds.length acc → P (.list acc))) :
    E K pen H0 (tLc (iTup K ta) (gName j) tt te [j]) L P := e_ofL (el_lcT h)
theorem el_lcL {Pl : List PyData → Prop} {j : Nat} (h : E K pen H0 ta L fun d => ∃ ds, d = .list ds ∧ ds.length ≤ 100000 ∧ ∃ J : Nat → List PyData → Prop, J 0 [] ∧
    (∀ (i : Nat) x acc, ds[i]? = some x → J i acc → LcT K pen H0 tt te ((L.set j none).set j (some (.d x))) acc (J (i + 1))) ∧ (∀ acc, J ds.length acc → Pl acc)) :
    EL K pen H0 (tLc (iList K ta) (gName j) tt te [j]) L Pl := fun σ G H e Q q => h σ G H e _ fun v d G1 H1 go hd ⟨ds, hds, hn, J, j0, js, je⟩ => by
  subst hds
  cases hd with
  | lst hs ha =>
    rename_i a xs
    refine ⟨a, rfl, ⟨xs, sqL_mono go.vw.vw hs⟩, fun Dl hD => ?_⟩
    refine lc_list (xs := xs) (LcI K pen G1 H1 Dl J) (lc_start go.vw hD j0) (fun i H' _ ⟨G', vs, acc, g, _⟩ => sqL_mono (g.gg.trans g.vw.vw) hs) (fun i x H' hx ⟨G', vs, acc, g, h1, h2, h3, h4, h5⟩ => ?_) (fun H' I => ?_)
    · obtain ⟨z, hz, hd⟩ := dpa_getV ha hx
      refine ⟨wipe1 _ _ _, ?_⟩
      have := (List.getElem?_eq_some_iff.mp hz).1
      exact lc_turn go.vw hD (by omega) g h1 h2 h3 h5 ((ev_wipe1 ((e.go go).go g) j).set (dp_mono g.gg _ _ hd)) (js i z acc hz h4)
    · rw [dpa_len ha] at I
      exact lc_end go hD I je q
theorem e_lcL {j : Nat} (h : E K pen H0 ta L fun d => ∃ ds, d = .list ds ∧ ds.length ≤ 100000 ∧ ∃ J : Nat → List PyData → Prop, J 0 [] ∧
    (∀ (i : Nat) x acc, ds[i]? = some x → J i acc → LcT K pen H0 tt te ((L.set j none).set j (some (.d x))) acc (J (i + 1))) ∧ (∀ acc, J ds.length acc → P (.list acc))) :
    E K pen H0 (tLc (iList K ta) (gName j) tt te [j]) L P := e_ofL (el_lcL h)
/-- [e for a, b in zip(x, y)], two tuples or two lists of one length -/
theorem el_lcZ {Pl : List PyData → Prop} {j k : Nat} (h : EA K pen H0 tl L fun ds => ∃ as bs, (ds = [.tuple as, .tuple bs] ∨ ds = [.list as, .list bs]) ∧ as.length = bs.length ∧ as.length ≤ 100000 ∧ ∃ J : Nat → List PyData → Prop, J 0 [] ∧
    (∀ (i : Nat) x y acc, as[i]? = some x → bs[i]? = some y → J i acc → LcT K pen H0 tt te ((((L.set k none).set j none).set j (some (.d x))).set k (some (.d y))) acc (J (i + 1))) ∧ (∀ acc, J as.length acc → Pl acc)) :
    EL K pen H0 (tLc (RZ.iZipA K tl) (gTup K 2 (gCons (gName j) (gCons (gName k) gNil))) tt te [j, k]) L Pl := fun σ G H e Q q => h σ G H e _ fun vs ds G1 H1 go hd ⟨as, bs, hds, hl, hn, J, j0, js, je⟩ => by
  have turn : ∀ (Dl : Addr) (i : Nat) (H' : Hp) (x y : V) (T : Addr) (a b : PyData), H1 Dl = none → as[i]? = some a → bs[i]? = some b → (∀ G', Same G1 G' → Dp K G' x a ∧ Dp K G' y b) → LcI K pen G1 H1 Dl J i H' → H' T = none →
      gTup K 2 (gCons (gName j) (gCons (gName k) gNil)) (.ref T) (wipe σ [j, k]) (upd H' T (.tup [x, y])) fun σ2 H2 => wipe σ2 [j, k] = wipe σ [j, k] ∧ tt σ2 H2 fun b H3 =>
        if b = true then te σ2 H3 fun y H4 => ∃ acc, H4 Dl = some (.lst acc) ∧ acc.length < sizeLine ∧ LcI K pen G1 H1 Dl J (i + 1) (upd H4 Dl (.lst (acc ++ [y]))) else LcI K pen G1 H1 Dl J (i + 1) H3 := fun Dl i H' x y T a b hD ha hb hxy ⟨G', vs, acc, g, h1, h2, h3, h4, h5⟩ hT => by
    have g2 := Go.new g.vw (o := .tup [x, y]) hT
    have nT : Dl ≠ T := ne_of_none h1 hT
    refine ⟨T, [x, y], rfl, .inl (.inl upd_same), rfl, x, [y], rfl, y, [], rfl, rfl, wipe2 _ _ _ _ _, ?_⟩
    have hi := (List.getElem?_eq_some_iff.mp ha).1
    have ex := ((((ev_wipe2 ((e.go go).go g) j k).go g2).set (i := j) (dp_mono g2.gg _ _ (hxy G' g.gg).1)).set (i := k) (dp_mono g2.gg _ _ (hxy G' g.gg).2))
    refine lc_turn go.vw hD (by omega) (g.trans g2) ?_ ?_ (dpa_mono g2.gg _ _ h3) h5 ex (js i a b acc ha hb h4)
    · rw [upd_ne nT]; exact h1
    · rw [upd_ne nT]; exact h2
  rcases hds with rfl | rfl
  · cases hd with
    | cons hd hd2 =>
      cases hd2 with
      | cons hd3 hd4 =>
        cases hd4
        cases hd with
        | tup hs ha =>
          cases hd3 with
          | tup hs' ha' =>
            rename_i a xs a' ys
            refine ⟨a, a', xs, ys, rfl, .inr ⟨sqT_mono go.vw.vw hs, sqT_mono go.vw.vw hs', fun Dl hD => ?_⟩⟩
            refine ⟨fun i m H' => m = as.length - i ∧ i ≤ as.length ∧ LcI K pen G1 H1 Dl J i H', ⟨as.length, rfl, Nat.zero_le _, lc_start go.vw hD j0⟩, ?_⟩
            rintro i m H' ⟨rfl, hi, I⟩
            obtain ⟨G', vs, acc, g, r⟩ := id I
            have z1 : SqT K H' a xs := sqT_mono (g.gg.trans g.vw.vw) hs
            have z2 : SqT K H' a' ys := sqT_mono (g.gg.trans g.vw.vw) hs'
            by_cases hlt : i < as.length
            · obtain ⟨x, hx, dx⟩ := dpa_get ha (List.getElem?_eq_getElem hlt)
              obtain ⟨y, hy, dy⟩ := dpa_get ha' (List.getElem?_eq_getElem (hl ▸ hlt))
              refine .inr ⟨⟨xs, ys, x, y, z1, z2, hx, hy⟩, LcI K pen G1 H1 Dl J (i + 1), fun H2 I2 => ⟨as.length - (i + 1), by omega, rfl, hlt, I2⟩, fun v H2 hv => ?_⟩
              obtain ⟨T, x', y', rfl, hT, rfl, f1, f2⟩ := hv
              have e1 : x' = x := Option.some.inj ((f1 _ z1).symm.trans hx)
              have e2 : y' = y := Option.some.inj ((f2 _ z2).symm.trans hy)
              subst e1 e2
              exact turn Dl i H' x' y' T _ _ hD (List.getElem?_eq_getElem hlt) (List.getElem?_eq_getElem (hl ▸ hlt)) (fun G2 s => ⟨dp_mono s _ _ dx, dp_mono s _ _ dy⟩) I hT
            · have e1 : i = as.length := by omega
              subst e1
              exact .inl ⟨⟨xs, ys, z1, z2, .inl (by rw [dpa_len ha]; exact Nat.le_refl _)⟩, lc_end go hD I je q⟩
  · cases hd with
    | cons hd hd2 =>
      cases hd2 with
      | cons hd3 hd4 =>
        cases hd4
        cases hd with
        | lst hs ha =>
          cases hd3 with
          | lst hs' ha' =>
            rename_i a xs a' ys
            refine ⟨a, a', xs, ys, rfl, .inl ⟨sqL_mono go.vw.vw hs, sqL_mono go.vw.vw hs', fun Dl hD => ?_⟩⟩
            refine ⟨fun i m H' => m = as.length - i ∧ i ≤ as.length ∧ LcI K pen G1 H1 Dl J i H', ⟨as.length, rfl, Nat.zero_le _, lc_start go.vw hD j0⟩, ?_⟩
            rintro i m H' ⟨rfl, hi, I⟩
            obtain ⟨G', vs, acc, g, r⟩ := id I
            have z1 : SqL K H' a xs := sqL_mono (g.gg.trans g.vw.vw) hs
            have z2 : SqL K H' a' ys := sqL_mono (g.gg.trans g.vw.vw) hs'
            by_cases hlt : i < as.length
            · obtain ⟨x, hx, dx⟩ := dpa_get ha (List.getElem?_eq_getElem hlt)
              obtain ⟨y, hy, dy⟩ := dpa_get ha' (List.getElem?_eq_getElem (hl ▸ hlt))
              refine .inr ⟨⟨xs, ys, x, y, z1, z2, hx, hy⟩, LcI K pen G1 H1 Dl J (i + 1), fun H2 I2 => ⟨as.length - (i + 1), by omega, rfl, hlt, I2⟩, fun v H2 hv => ?_⟩
              obtain ⟨T, x', y', rfl, hT, rfl, f1, f2⟩ := hv
              have e1 : x' = x := Option.some.inj ((f1 _ z1).symm.trans hx)
              have e2 : y' = y := Option.some.inj ((f2 _ z2).symm.trans hy)
              subst e1 e2
              exact turn Dl i H' x' y' T _ _ hD (List.getElem?_eq_getElem hlt) (List.getElem?_eq_getElem (hl ▸ hlt)) (fun G2 s => ⟨dp_mono s _ _ dx, dp_mono s _ _ dy⟩) I hT
            · have e1 : i = as.length := by omega
              subst e1
              exact .inl ⟨⟨xs, ys, z1, z2, .inl (by rw [dpa_len ha]; exact Nat.le_refl _)⟩, lc_end go hD I je q⟩
theorem e_lcZ {j k : Nat} (h : EA K pen H0 tl L fun ds => ∃ as bs, (ds = [.tuple as, .tuple bs] ∨ ds = [.list as, .list bs]) ∧ as.length = bs.length ∧ as.length ≤ 100000 ∧ ∃ J : Nat → List PyData → Prop, J 0 [] ∧
    (∀ (i : Nat) x y acc, as[i]? = some x → bs[i]? = some y → J i acc → LcT K pen H0 tt te ((((L.set k none).set j none).set j (some (.d x))).set k (some (.d y))) acc (J (i + 1))) ∧ (∀ acc, J as.length acc → P (.list acc))) :
    E K pen H0 (tLc (RZ.iZipA K tl) (gTup K 2 (gCons (gName j) (gCons (gName k) gNil))) tt te [j, k]) L P := e_ofL (el_lcZ h)
theorem et_yes (h : Pb true) : ET K pen H0 tYes L Pb := fun σ G H e Q q => q true G H (.refl e.vw) h
/-! ### slices, sums of tuples and lists -/
def cutD (xs : List PyData) (lo hi : Option Int) : List PyData := (xs.drop (HT.sIx xs.length 0 lo)).take (HT.sIx xs.length xs.length hi - HT.sIx xs.length 0 lo)
theorem dpa_cut {G : Hp} {vs : List V} {ds : List PyData} (h : DpAll K G vs ds) (lo hi : Option Int) : DpAll K G (cutV vs lo hi) (cutD ds lo hi) := by
  unfold cutV cutD
  rw [dpa_len h]
  exact dpa_take _ (dpa_drop _ h)
theorem r_slT {ds : List PyData} {lo hi : Option Int} (p : P (.tuple (cutD ds lo hi))) : RSd K pen (rSlA K) (.tuple ds) lo hi P := fun x G H v hx Q q => by
  cases hx with
  | tup hs ha =>
    rename_i a xs
    refine ⟨a, xs, rfl, sqT_mono v.vw hs, fun ⟨w1, w2⟩ => ?_, fun _ p' hp => ?_⟩
    · have e : cutD ds lo hi = ds := by
        unfold cutD
        rw [← dpa_len ha, w1, w2, dpa_len ha]
        show ds.take (ds.length - 0) = ds
        rw [Nat.sub_zero, List.take_length]
      rw [e] at p
      exact q _ _ G H (.refl v) (.tup hs ha) p
    · have g := Go.new v (o := .tup (cutV xs lo hi)) hp
      exact q _ _ _ _ g (.tup (.inl (.inl upd_same)) (dpa_mono g.gg _ _ (dpa_cut ha lo hi))) p
theorem r_slL {ds : List PyData} {lo hi : Option Int} (p : P (.list (cutD ds lo hi))) : RSd K pen (rSlL K) (.list ds) lo hi P := fun x G H v hx Q q => by
  cases hx with
  | lst hs ha =>
    rename_i a xs
    refine ⟨a, xs, rfl, sqL_mono v.vw hs, fun p' hp => ?_⟩
    have g := Go.new v (o := .lst (cutV xs lo hi)) hp
    exact q _ _ _ _ g (.lst (.inl (.inl upd_same)) (dpa_mono g.gg _ _ (dpa_cut ha lo hi))) p
theorem r_catT {as bs : List PyData} (hl : as.length + bs.length ≤ 100000) (p : P (.tuple (as ++ bs))) : R2d K pen (rCatA K) (.tuple as) (.tuple bs) P := fun x y G H v hx hy Q q => by
  cases hx with
  | tup hs ha =>
    cases hy with
    | tup hs' ha' =>
      rename_i a xs a' ys
      refine ⟨a, a', xs, ys, rfl, rfl, sqT_mono v.vw hs, sqT_mono v.vw hs', Nat.le_trans (by rw [dpa_len ha, dpa_len ha']; exact hl) (by decide : 100000 ≤ sizeLine), fun e => ?_, fun _ e => ?_, fun _ _ p' hp => ?_⟩
      · subst e
        cases ha
        exact q _ _ G H (.refl v) (.tup hs' ha') p
      · subst e
        cases ha'
        rw [List.append_nil] at p
        exact q _ _ G H (.refl v) (.tup hs ha) p
      · have g := Go.new v (o := .tup (xs ++ ys)) hp
        exact q _ _ _ _ g (.tup (.inl (.inl upd_same)) (dpa_mono g.gg _ _ (dpa_app ha ha'))) p
/-! ### isinstance -/
def tyD : PyData → String
  | .none => "NoneType"
  | .bool _ => "bool"
  | .int _ => "int"
  | .str _ => "str"
  | .list _ => "list"
  | .tuple _ => "tuple"
  | .dict _ => "dict"
theorem tyx_of {G H : Hp} (s : Same G H) : ∀ {v : V} {d : PyData}, Dp K G v d → TyX K H v (.type (tyD d))
  | _, _, .non => .base .non
  | _, _, .bl b => .base (.bl b)
  | _, _, .int i => .base (.int i)
  | _, _, .str x => .base (.str x)
  | _, _, .lst hs _ => by
    rcases hs with (h | ⟨o, h⟩) | ⟨o, its, n, h, hc, _⟩
    · exact .base (.lst (s _ _ h))
    · exact .base (.frz (s _ _ h))
    · exact .kList h hc
  | _, _, .tup hs _ => by
    rcases hs with (h | ⟨o, h⟩) | ⟨o, its, n, h, hc, _⟩
    · exact .base (.tup (s _ _ h))
    · exact .fTuple (s _ _ h)
    · exact .kTuple h hc
def isS (a T : String) : Bool := a == T || (a == "bool" && T == "int")
def isD (d : PyData) (T : String) : Bool := isS (tyD d) T
theorem kit_isS (a T : String) (ha : a = "NoneType" ∨ a = "bool" ∨ a = "int" ∨ a = "str" ∨ a = "list" ∨ a = "tuple") (hT : T = "int" ∨ T = "bool" ∨ T = "str" ∨ T = "tuple" ∨ T = "list") : kitB a T = some (isS a T) := by
  rcases ha with rfl | rfl | rfl | rfl | rfl | rfl <;> rcases hT with rfl | rfl | rfl | rfl | rfl <;> decide +kernel
theorem kit_isD (d : PyData) (T : String) (hT : T = "int" ∨ T = "bool" ∨ T = "str" ∨ T = "tuple" ∨ T = "list") (hd : ∀ x, d ≠ .dict x) : kitB (tyD d) T = some (isD d T) := by
  refine kit_isS _ _ ?_ hT
  cases d with
  | dict x => exact absurd rfl (hd x)
  | none => exact .inl rfl
  | bool _ => exact .inr (.inl rfl)
  | int _ => exact .inr (.inr (.inl rfl))
  | str _ => exact .inr (.inr (.inr (.inl rfl)))
  | list _ => exact .inr (.inr (.inr (.inr (.inl rfl))))
  | tuple _ => exact .inr (.inr (.inr (.inr (.inr rfl))))
theorem e_isi {T : String} (hT : T = "int" ∨ T = "bool" ∨ T = "str" ∨ T = "tuple" ∨ T = "list") (h : E K pen H0 ta L fun d => P (.bool (isD d T))) : E K pen H0 (tCB (rIsi K) (tCons ta (tCons (tC (.ty T)) tNil))) L P := fun σ G H e Q q =>
  h σ G H e _ fun v d G1 H1 go hd p => by
    refine ⟨v, .ty T, .type (tyD d), .type T, isD d T, rfl, .ty T, tyx_of go.vw.vw hd, kit_ty (kit_isD d T hT fun x z => ?_), q _ _ G1 H1 go (.bl _) p⟩
    subst z
    cases hd
end
end Dl
set_option Elab.async false
set_option linter.all false
set_option maxRecDepth 100000
namespace Dl
open PySem PySem.Spec PyProof.Rows L2
section
variable {K : PySem.W.Frag} {pen : Pc} {H0 : Hp} {L : Lv} {P P' : PyData → Prop} {ta tb tc te ti : TE} {tl tr : TA} {tt : TT} {t u : TS} {Pb : Bool → Prop} {D : Dn} {g : TG} {gs : TGs}
/-! ### objects of one's own, that change -/
theorem Ev.setOwn {G H : Hp} {σ : L2.St} (e : Ev K pen H0 G H σ L) {i : Nat} {l : Addr} {ho : HO} {o : OO} (hl : H l = some ho) (h0l : H0 l = none) (gl : G l = none) (old : ∀ (j : Nat) (es : OO), i ≠ j → L[j]? = some (some (.own es)) → σ[j]? ≠ some (some (.ref l))) (h : OwnOk K G ho o) : Ev K pen H0 G H (σ.set i (some (.ref l))) (L.set i (some (.own o))) := by
  have here : ∀ (j : Nat) (av : AV), (L.set i (some (.own o)))[j]? = some (some av) → i = j → av = .own o ∧ (σ.set i (some (.ref l)))[j]? = some (some (.ref l)) := fun j av hj q => by
    subst q
    have hl : i < L.length := by
      have := (List.getElem?_eq_some_iff.mp hj).1
      rw [List.length_set] at this; exact this
    rw [List.getElem?_set_self hl] at hj
    exact ⟨(Option.some.inj (Option.some.inj hj)).symm, List.getElem?_set_self (by rw [e.len]; exact hl)⟩
  refine ⟨e.vw, e.h0, e.dom, by rw [List.length_set, List.length_set]; exact e.len, fun j av hj => ?_, fun j k ds' es l' h1 h2 h3 h4 => ?_⟩
  · by_cases q : i = j
    · obtain ⟨rfl, k⟩ := here j av hj q
      exact ⟨_, k, l, ho, rfl, hl, h0l, gl, h⟩
    · rw [List.getElem?_set_ne q] at hj
      obtain ⟨w, k1, k2⟩ := e.sl j av hj
      exact ⟨w, by rw [List.getElem?_set_ne q]; exact k1, k2⟩
  · by_cases q1 : i = j
    · by_cases q2 : i = k
      · exact q1.symm.trans q2
      · have k1 := (here j _ h1 q1).2
        rw [h3] at k1
        have z : l' = l := V.ref.inj (Option.some.inj (Option.some.inj k1))
        rw [List.getElem?_set_ne q2] at h2 h4
        exact absurd (z ▸ h4) (old k es q2 h2)
    · rw [List.getElem?_set_ne q1] at h1 h3
      by_cases q2 : i = k
      · have k1 := (here k _ h2 q2).2
        rw [h4] at k1
        have z : l' = l := V.ref.inj (Option.some.inj (Option.some.inj k1))
        exact absurd (z ▸ h3) (old j ds' q1 h1)
      · rw [List.getElem?_set_ne q2] at h2 h4
        exact e.ow j k ds' es l' h1 h2 h3 h4
theorem Ev.h0none {G H : Hp} {σ : L2.St} (e : Ev K pen H0 G H σ L) {l : Addr} (hl : H l = none) : H0 l = none := by
  cases q : H0 l with
  | none => rfl
  | some o => exact absurd hl (e.dom l (by rw [q]; exact fun z => by cases z))
theorem Ev.gnone {G H : Hp} {σ : L2.St} (e : Ev K pen H0 G H σ L) {l : Addr} (hl : H l = none) : G l = none := by
  cases q : G l with
  | none => rfl
  | some o => rw [e.vw.vw _ _ q] at hl; cases hl
/-- no own slot holds a place that was free -/
theorem Ev.oldOwn {G H : Hp} {σ : L2.St} (e : Ev K pen H0 G H σ L) {l : Addr} (hl : H l = none) : ∀ (j : Nat) (es : OO), L[j]? = some (some (.own es)) → σ[j]? ≠ some (some (.ref l)) := fun j es h1 h2 => by
  obtain ⟨v, k1, l2, ws, k2, k3, _⟩ := e.sl j _ h1
  rw [h2] at k1
  have := Option.some.inj (Option.some.inj k1)
  rw [← this] at k2
  cases k2
  rw [hl] at k3
  cases k3
/-- a new object goes to slot i -/
theorem Ev.newOwn {G H : Hp} {σ : L2.St} (e : Ev K pen H0 G H σ L) {i : Nat} {l : Addr} {ho : HO} {o : OO} (hl : H l = none) (h : OwnOk K G ho o) : Ev K pen H0 G (upd H l ho) (σ.set i (some (.ref l))) (L.set i (some (.own o))) :=
  (e.go (Go.hid e.vw (o := ho) hl)).setOwn upd_same (e.h0none hl) (e.gnone hl) (fun j es _ h1 => e.oldOwn hl j es h1) h
def noFr : Lv → Bool
  | [] => true
  | some (.fr _) :: _ => false
  | _ :: L => noFr L
theorem noFr_get : ∀ {L : Lv} {i : Nat} {x : PyData}, noFr L = true → L[i]? = some (some (.fr x)) → False
  | [], _, _, _, h => by simp at h
  | a :: L, 0, x, n, h => by
    have := Option.some.inj h
    subst this
    cases n
  | a :: L, i + 1, x, n, h => by
    have n' : noFr L = true := by
      cases a with
      | none => exact n
      | some av => cases av <;> first | exact n | cases n
    exact noFr_get (L := L) (i := i) n' h
/-- the own object in slot j is written -/
theorem Ev.putOwn {G H : Hp} {σ : L2.St} (e : Ev K pen H0 G H σ L) (nf : noFr L = true) {j : Nat} {l : Addr} {o o' : OO} {ho : HO} (hj : L[j]? = some (some (.own o))) (hs : σ[j]? = some (some (.ref l))) (h : OwnOk K G ho o') :
    Ev K pen H0 G (upd H l ho) σ (L.set j (some (.own o'))) ∧ Gx pen H0 G H G (upd H l ho) := by
  obtain ⟨v, k1, l2, vs, k2, k3, k4, k5, k6⟩ := e.sl j _ hj
  rw [hs] at k1
  have := Option.some.inj (Option.some.inj k1)
  rw [← this] at k2
  cases k2
  have n0 : ∀ a, H0 a ≠ none → a ≠ l := fun a h z => h (by rw [z]; exact k4)
  have ng : ∀ a o, G a = some o → a ≠ l := fun a o q z => by rw [z, k5] at q; cases q
  have vw : Vw pen G (upd H l ho) := by
    refine ⟨fun a o q => by rw [upd_ne (ng a o q)]; exact e.vw.vw a o q, e.vw.no, ?_⟩
    exact e.vw.ok.upd e.h0 k4
  have jl : j < L.length := (List.getElem?_eq_some_iff.mp hj).1
  refine ⟨⟨vw, e.h0, fun a h => ?_, by rw [List.length_set]; exact e.len, fun i av hi => ?_, fun i k ds' es' l' h1 h2 h3 h4 => ?_⟩, Same.refl _, fun _ _ => rfl, fun a o _ h q => by rw [upd_ne (n0 a h)]; exact q⟩
  · rw [upd_ne (n0 a h)]; exact e.dom a h
  · by_cases q : j = i
    · subst q
      rw [List.getElem?_set_self jl] at hi
      have := Option.some.inj (Option.some.inj hi)
      subst this
      exact ⟨_, hs, l, ho, rfl, upd_same, k4, k5, h⟩
    · rw [List.getElem?_set_ne q] at hi
      obtain ⟨w, m1, m2⟩ := e.sl i av hi
      refine ⟨w, m1, ?_⟩
      cases av with
      | d x => exact m2
      | pen => exact m2
      | own ds2 =>
        obtain ⟨l3, vs3, rfl, m3, m4, m5, m6⟩ := m2
        refine ⟨l3, vs3, rfl, ?_, m4, m5, m6⟩
        rw [upd_ne (fun z => q (e.ow j i o ds2 l hj hi hs (by rw [← z]; exact m1)))]
        exact m3
      | bor ds2 =>
        obtain ⟨l3, vs3, rfl, m3, m4, m5, m6⟩ := m2
        refine ⟨l3, vs3, rfl, ?_, m4, m5, m6⟩
        rw [upd_ne (n0 l3 (by rw [m4]; exact fun z => by cases z))]
        exact m3
      | fr x => exact (noFr_get nf hi).elim
  · have was : ∀ (i : Nat) (ds' : OO), (L.set j (some (.own o')))[i]? = some (some (.own ds')) → ∃ ds2, L[i]? = some (some (.own ds2)) := fun i ds' hi => by
      by_cases q : j = i
      · subst q; exact ⟨o, hj⟩
      · rw [List.getElem?_set_ne q] at hi; exact ⟨ds', hi⟩
    obtain ⟨a1, b1⟩ := was i ds' h1
    obtain ⟨a2, b2⟩ := was k es' h2
    exact e.ow i k a1 a2 l' b1 b2 h3 h4
/-- the own object's place and content -/
theorem Ev.own {G H : Hp} {σ : L2.St} (e : Ev K pen H0 G H σ L) {j : Nat} {o : OO} (hj : L[j]? = some (some (.own o))) : ∃ l ho, σ[j]? = some (some (.ref l)) ∧ H l = some ho ∧ OwnOk K G ho o := by
  obtain ⟨x, k1, l, vs, rfl, k3, k4, k5, k6⟩ := e.sl j _ hj
  exact ⟨l, vs, k1, k3, k6⟩
theorem Ev.ownAt {G H : Hp} {σ : L2.St} (e : Ev K pen H0 G H σ L) {j : Nat} {o : OO} {l : Addr} (hj : L[j]? = some (some (.own o))) (hs : σ[j]? = some (some (.ref l))) : ∃ ho, H l = some ho ∧ OwnOk K G ho o := by
  obtain ⟨l', ho, k1, k2, k3⟩ := e.own hj
  rw [hs] at k1
  cases k1
  exact ⟨ho, k2, k3⟩
/-- an object that is read: own, or borrowed -/
def RdO (L : Lv) (j : Nat) (o : OO) : Prop := L[j]? = some (some (.own o)) ∨ L[j]? = some (some (.bor o))
theorem Ev.rd {G H : Hp} {σ : L2.St} (e : Ev K pen H0 G H σ L) {j : Nat} {o : OO} (hj : RdO L j o) : ∃ l ho, σ[j]? = some (some (.ref l)) ∧ H l = some ho ∧ OwnOk K G ho o := by
  rcases hj with hj | hj
  · exact e.own hj
  · obtain ⟨x, k1, l, vs, rfl, k3, k4, k5, k6⟩ := e.sl j _ hj
    exact ⟨l, vs, k1, k3, k6⟩
theorem Ev.rdAt {G H : Hp} {σ : L2.St} (e : Ev K pen H0 G H σ L) {j : Nat} {o : OO} {l : Addr} (hj : RdO L j o) (hs : σ[j]? = some (some (.ref l))) : ∃ ho, H l = some ho ∧ OwnOk K G ho o := by
  obtain ⟨l', ho, k1, k2, k3⟩ := e.rd hj
  rw [hs] at k1
  cases k1
  exact ⟨ho, k2, k3⟩
/-- x = a new list -/
theorem s_ownL {i : Nat} (h : EL K pen H0 te L fun es => D.nx (L.set i (some (.own (.lst es))))) : S K pen H0 (tAsg te (gName i)) L D := fun σ G H N e n1 _ _ _ _ =>
  h σ G H e _ fun l vs ds G' H' g h1 h2 h3 h4 p => by
    have e1 := e.go g
    exact n1 _ G' H' _ (e.gx g) (e1.setOwn h1 (e.h0none h3) h2 (fun j es _ hj => e.oldOwn h3 j es hj) (o := .lst ds) h4) p
theorem el_list (h : E K pen H0 te L fun d => ∃ es, (d = .tuple es ∨ d = .list es) ∧ P (.list es)) :
    EL K pen H0 (tCB (fun xs H Q => ∃ p ys, xs = [.ref p] ∧ (SqL K H p ys ∨ SqT K H p ys) ∧ ∀ l, H l = none → Q (.ref l) (upd H l (.lst ys))) (tCons te tNil)) L fun es => P (.list es) := fun σ G H e Q q =>
  h σ G H e _ fun v d G1 H1 go hd ⟨es, hes, p⟩ => by
    have fin : ∀ (ys : List V) (l : Addr), DpAll K G1 ys es → H1 l = none → Q (.ref l) (upd H1 l (.lst ys)) := fun ys l hy hl => by
      have e1 := e.go go
      have g2 := Go.hid e1.vw (o := .lst ys) hl
      refine q l ys es G1 _ (go.trans g2) upd_same (e1.gnone hl) ?_ hy p
      cases z : H l with
      | none => rfl
      | some o => exact absurd hl (go.dom (by rw [z]; exact fun z => by cases z))
    rcases hes with rfl | rfl
    · cases hd with
      | tup hs ha => exact ⟨_, _, rfl, .inr (sqT_mono go.vw.vw hs), fun l hl => fin _ l ha hl⟩
    · cases hd with
      | lst hs ha => exact ⟨_, _, rfl, .inl (sqL_mono go.vw.vw hs), fun l hl => fin _ l ha hl⟩
theorem el_lst {Pl : List PyData → Prop} (h : EA K pen H0 tl L fun ds => ds.length ≤ 100000 ∧ Pl ds) : EL K pen H0 (tLst tl) L Pl := fun σ G H e Q q =>
  h σ G H e _ fun vs ds G1 H1 g1 d1 h1 => ⟨Nat.le_trans (by rw [dpa_len d1]; exact h1.1) (by decide : 100000 ≤ sizeLine), fun l hl => by
    have e1 := e.go g1
    have g2 := Go.hid e1.vw (o := .lst vs) hl
    refine q l vs ds G1 _ (g1.trans g2) upd_same (e1.gnone hl) ?_ d1 h1.2
    cases z : H l with
    | none => rfl
    | some o => exact absurd hl (g1.dom (by rw [z]; exact fun z => by cases z))⟩
/-- x = list(e) -/
theorem s_ownList {i : Nat} (h : E K pen H0 te L fun d => ∃ es, (d = .tuple es ∨ d = .list es) ∧ D.nx (L.set i (some (.own (.lst es))))) :
    S K pen H0 (tAsg (tCB (fun xs H Q => ∃ p ys, xs = [.ref p] ∧ (SqL K H p ys ∨ SqT K H p ys) ∧ ∀ l, H l = none → Q (.ref l) (upd H l (.lst ys))) (tCons te tNil)) (gName i)) L D :=
  s_ownL ((el_list (P := fun d => ∃ es, d = .list es ∧ D.nx (L.set i (some (.own (.lst es))))) (h.mono fun d ⟨es, e, p⟩ => ⟨es, e, es, rfl, p⟩)).mono fun ds ⟨es, e, p⟩ => by cases e; exact p)
/-- x = [] -/
theorem s_ownNil {i : Nat} (h : D.nx (L.set i (some (.own (.lst []))))) : S K pen H0 (tAsg (tLst tNil) (gName i)) L D := s_ownL (el_lst (ea_nil ⟨Nat.zero_le _, h⟩))
/-- x[k] = e -/
theorem s_putOwn {j : Nat} {ds : List PyData} (hj : L[j]? = some (some (.own (.lst ds)))) (h : E K pen H0 te L fun d => E K pen H0 ti L fun k => ∃ m : Nat, k = .int m ∧ m < ds.length ∧ D.nx (L.set j (some (.own (.lst (ds.set m d)))))) (nf : noFr L = true := by rfl) :
    S K pen H0 (tAsg te (gSub (tVar j) ti rSetL)) L D := fun σ G H N e n1 _ _ _ _ =>
  h σ G H e _ fun v d G1 H1 g1 d1 h1 => by
    have e1 := e.go g1
    obtain ⟨l, ho, k1, k3, k6⟩ := e1.own hj
    refine ⟨_, k1, h1 σ G1 H1 e1 _ fun w k G2 H2 g2 d2 ⟨m, hm, hl, p⟩ => ?_⟩
    subst hm
    cases d2
    have e2 := e1.go g2
    obtain ⟨ho2, q3, q6⟩ := e2.ownAt hj k1
    obtain ⟨vs2, rfl, q6⟩ := q6.lst
    obtain ⟨r1, r2⟩ := e2.putOwn nf hj k1 (o' := .lst (ds.set m d)) (ho := .lst (vs2.set m v)) (dpa_set (dp_mono g2.gg _ _ d1) m q6)
    refine ⟨l, vs2, (m : Int), m, rfl, rfl, q3, ?_, n1 σ G2 _ _ (((e.gx g1).trans (e1.gx g2)).trans r2) r1 p⟩
    rw [dpa_len q6]
    unfold ixN
    rw [if_pos (by omega), if_pos (by omega)]
    simp
/-- x.append(e) -/
theorem s_appOwn {j : Nat} {ds : List PyData} (hj : L[j]? = some (some (.own (.lst ds)))) (hz : ds.length < 100000) (h : E K pen H0 te L fun d => D.nx (L.set j (some (.own (.lst (ds ++ [d])))))) (nf : noFr L = true := by rfl) :
    S K pen H0 (tDrop (tBM K "list" rAppend (tVar j) (tCons te tNil))) L D := fun σ G H N e n1 _ _ _ _ => by
  obtain ⟨l, ho, k1, k3, k6⟩ := e.own hj
  obtain ⟨vs, rfl, k6⟩ := k6.lst
  refine ⟨_, k1, .inl ⟨rfl, vs, .inl (.inl k3)⟩, h σ G H e _ fun v d G1 H1 g1 d1 p => ?_⟩
  have e1 := e.go g1
  obtain ⟨ho2, q3, q6⟩ := e1.ownAt hj k1
  obtain ⟨vs2, rfl, q6⟩ := q6.lst
  obtain ⟨r1, r2⟩ := e1.putOwn nf hj k1 (o' := .lst (ds ++ [d])) (ho := .lst (vs2 ++ [v])) (dpa_app q6 (.cons d1 .nil))
  exact ⟨l, vs2, v, rfl, rfl, q3, Nat.lt_of_lt_of_le (by rw [dpa_len q6]; exact hz) (by decide : 100000 ≤ sizeLine), n1 σ G1 _ _ ((e.gx g1).trans r2) r1 p⟩
theorem dpa_erase {G : Hp} : ∀ (n : Nat) {vs : List V} {ds : List PyData}, DpAll K G vs ds → DpAll K G (vs.eraseIdx n) (ds.eraseIdx n)
  | _, _, _, .nil => .nil
  | 0, _, _, .cons _ t => t
  | n + 1, _, _, .cons h t => .cons h (dpa_erase n t)
/-- x.pop(0), the value dropped -/
theorem s_pop0 {j : Nat} {d0 : PyData} {ds : List PyData} (hj : L[j]? = some (some (.own (.lst (d0 :: ds))))) (h : D.nx (L.set j (some (.own (.lst ds))))) (nf : noFr L = true := by rfl) :
    S K pen H0 (tDrop (tBM K "list" rPopAt (tVar j) (tCons (tC (.int 0)) tNil))) L D := fun σ G H N e n1 _ _ _ _ => by
  obtain ⟨l, ho, k1, k3, k6⟩ := e.own hj
  obtain ⟨vs, rfl, k6⟩ := k6.lst
  cases k6 with
  | cons h1 h2 =>
    rename_i v vs
    obtain ⟨r1, r2⟩ := e.putOwn nf hj k1 (o' := .lst ds) (ho := .lst vs) h2
    exact ⟨_, k1, .inl ⟨rfl, _, .inl (.inl k3)⟩, l, v :: vs, 0, 0, v, rfl, rfl, k3, by decide, by decide, by unfold seqIndex?; simp, rfl, n1 σ G _ _ r2 r1 h⟩
/-- y = x.pop(0) as a value -/
theorem s_clearOwn {j : Nat} {ds : List PyData} (hj : L[j]? = some (some (.own (.lst ds)))) (h : D.nx (L.set j (some (.own (.lst []))))) (nf : noFr L = true := by rfl) :
    S K pen H0 (tDrop (tBM0 K "list" rClear (tVar j))) L D := fun σ G H N e n1 _ _ _ _ => by
  obtain ⟨l, ho, k1, k3, k6⟩ := e.own hj
  obtain ⟨vs, rfl, k6⟩ := k6.lst
  obtain ⟨r1, r2⟩ := e.putOwn nf hj k1 (o' := .lst []) (ho := .lst []) .nil
  exact ⟨_, k1, .inl ⟨rfl, _, .inl (.inl k3)⟩, l, vs, rfl, rfl, k3, n1 σ G _ _ r2 r1 h⟩
/-- tuple(x), x one's own list -/
theorem e_tupRd {j : Nat} {ds : List PyData} (hj : RdO L j (.lst ds)) (p : P (.tuple ds)) :
    E K pen H0 (tCB (fun xs H Q => ∃ p ys, xs = [.ref p] ∧ ((SqL K H p ys ∧ ∀ l, H l = none → Q (.ref l) (upd H l (.tup ys))) ∨ (SqT K H p ys ∧ Q (.ref p) H))) (tCons (tVar j) tNil)) L P := fun σ G H e Q q => by
  obtain ⟨l, ho, k1, k3, k6⟩ := e.rd hj
  obtain ⟨vs, rfl, k6⟩ := k6.lst
  refine ⟨_, k1, l, vs, rfl, .inl ⟨.inl (.inl k3), fun l' hl => ?_⟩⟩
  have g := Go.new e.vw (o := .tup vs) hl
  exact q _ _ _ _ g (.tup (.inl (.inl upd_same)) (dpa_mono g.gg _ _ k6)) p
/-- len(x), x one's own list -/
theorem e_lenRd {j : Nat} {ds : List PyData} (hj : RdO L j (.lst ds)) (p : P (.int ds.length)) :
    E K pen H0 (tCB (fun xs H Q => ∃ p ys, xs = [.ref p] ∧ (SqL K H p ys ∨ SqT K H p ys) ∧ Q (.int ys.length) H) (tCons (tVar j) tNil)) L P := fun σ G H e Q q => by
  obtain ⟨l, ho, k1, k3, k6⟩ := e.rd hj
  obtain ⟨vs, rfl, k6⟩ := k6.lst
  refine ⟨_, k1, l, vs, rfl, .inl (.inl (.inl k3)), ?_⟩
  rw [dpa_len k6]
  exact q _ _ G H (.refl e.vw) (.int _) p
theorem e_tupOwn {j : Nat} {ds : List PyData} (hj : L[j]? = some (some (.own (.lst ds)))) (p : P (.tuple ds)) :
    E K pen H0 (tCB (fun xs H Q => ∃ p ys, xs = [.ref p] ∧ ((SqL K H p ys ∧ ∀ l, H l = none → Q (.ref l) (upd H l (.tup ys))) ∨ (SqT K H p ys ∧ Q (.ref p) H))) (tCons (tVar j) tNil)) L P := e_tupRd (.inl hj) p
theorem e_lenOwn {j : Nat} {ds : List PyData} (hj : L[j]? = some (some (.own (.lst ds)))) (p : P (.int ds.length)) :
    E K pen H0 (tCB (fun xs H Q => ∃ p ys, xs = [.ref p] ∧ (SqL K H p ys ∨ SqT K H p ys) ∧ Q (.int ys.length) H) (tCons (tVar j) tNil)) L P := e_lenRd (.inl hj) p
/-! ### looking at what is one's own as data -/
def lookA : Option AV → Option AV
  | some (.own (.lst ds)) => some (.d (.list ds))
  | some (.fr d) => some (.d d)
  | a => a
def lookL (L : Lv) : Lv := L.map lookA
theorem lookL_get {L : Lv} {i : Nat} {av : AV} (h : (lookL L)[i]? = some (some av)) : ∃ a, L[i]? = some (some a) ∧ lookA (some a) = some av := by
  unfold lookL at h
  rw [List.getElem?_map] at h
  cases e : L[i]? with
  | none => rw [e] at h; cases h
  | some a =>
    rw [e] at h
    have h := Option.some.inj h
    cases a with
    | none => cases h
    | some a => exact ⟨a, rfl, h⟩
theorem same_max {G H : Hp} : Same G (vmax H0 G H) := fun _ _ h => vmax_G h
/-- the own dicts and borrowed ones stay as they are -/
theorem Ev.look {G H : Hp} {σ : L2.St} (e : Ev K pen H0 G H σ L) : Ev K pen H0 (vmax H0 G H) H σ (lookL L) := by
  refine ⟨vw_max e.vw e.h0, e.h0, e.dom, by rw [lookL, List.length_map]; exact e.len, fun i av hi => ?_, fun i j ds es l h1 h2 => ?_⟩
  · obtain ⟨a, ha, hl⟩ := lookL_get hi
    obtain ⟨v, k1, k2⟩ := e.sl i a ha
    refine ⟨v, k1, ?_⟩
    cases a with
    | d x => cases hl; exact dp_mono same_max _ _ k2
    | pen => cases hl; exact k2
    | bor o => cases hl; obtain ⟨l, ho, q1, q2, q3, q4, q5⟩ := k2; exact ⟨l, ho, q1, q2, q3, q4, q5.mono same_max⟩
    | fr x => cases hl; exact dp_mono vnew_max _ _ (nd_dp _ _ k2)
    | own o =>
      obtain ⟨l, ho, rfl, q2, q3, q4, q5⟩ := k2
      cases o with
      | lst ds =>
        cases hl
        obtain ⟨vs, rfl, q5⟩ := q5.lst
        exact .lst (.inl (.inl (by rw [vmax_new q4]; exact newL_of q3 q2))) (dpa_mono same_max _ _ q5)
      | dK m =>
        cases hl
        obtain ⟨kvs, rfl, q6⟩ := q5.dK
        refine ⟨l, _, rfl, q2, q3, ?_, q5.mono same_max⟩
        rw [vmax_new q4]
        unfold newL
        rw [q3, q2]
      | dT m =>
        cases hl
        obtain ⟨kvs, rfl, q6⟩ := q5.dT
        refine ⟨l, _, rfl, q2, q3, ?_, q5.mono same_max⟩
        rw [vmax_new q4]
        unfold newL
        rw [q3, q2]
  · obtain ⟨a, ha, hl⟩ := lookL_get h1
    obtain ⟨b, hb, hl2⟩ := lookL_get h2
    have own : ∀ (a : AV) (o : OO), lookA (some a) = some (.own o) → ∃ o', a = .own o' := fun a o h => by
      cases a with
      | own o' => exact ⟨o', rfl⟩
      | _ => cases h
    obtain ⟨o1, rfl⟩ := own a _ hl
    obtain ⟨o2, rfl⟩ := own b _ hl2
    exact e.ow i j o1 o2 l ha hb
/-- back to the data alone: what is without a list stays -/
def bakV (G H Gu : Hp) : Hp := fun a => match G a with
  | some o => some o
  | none => match H a with
    | some _ => none
    | none => Gu a
theorem bak_G {G H Gu : Hp} {a : Addr} {o : HO} (h : G a = some o) : bakV G H Gu a = some o := by unfold bakV; rw [h]
theorem bak_H {G H Gu : Hp} {a : Addr} (h : G a = none) (h2 : H a ≠ none) : bakV G H Gu a = none := by
  unfold bakV; rw [h]
  cases e : H a with
  | none => exact absurd e h2
  | some o => rfl
theorem bak_N {G H Gu : Hp} {a : Addr} (h : G a = none) (h2 : H a = none) : bakV G H Gu a = Gu a := by unfold bakV; rw [h, h2]
theorem look_back {G H Gu' H' : Hp} (vw : Vw pen G H) (h0 : POk pen H0) (g : Go pen (vmax H0 G H) H Gu' H') : ∃ G', Go pen G H G' H' ∧ (∀ a xs, Rd Gu' a (.tup xs) → Rd G' a (.tup xs)) ∧ ∀ a, H a = none → Gu' a = none → G' a = none := by
  have hN : ∀ a, H a = none → G a = none := fun a h => by
    cases e : G a with
    | none => rfl
    | some o => rw [vw.vw _ _ e] at h; cases h
  refine ⟨bakV G H Gu', ⟨fun a o e => bak_G e, fun a h => ?_, g.od, ⟨fun a o e => ?_, fun a p => bak_H (vw.no a p) (vw.ok.there p), g.vw.ok⟩⟩, fun a xs r => ?_, fun a h1 h2 => ?_⟩
  · cases e : G a with
    | some o => exact bak_G e
    | none => exact bak_H e h
  · cases e1 : G a with
    | some u =>
      rw [bak_G e1] at e
      cases e
      exact g.vw.vw _ _ (g.gg _ _ (vmax_G e1))
    | none =>
      by_cases e2 : H a = none
      · rw [bak_N e1 e2] at e
        exact g.vw.vw _ _ e
      · rw [bak_H e1 e2] at e; cases e
  · have one : ∀ u, (∀ ys, u ≠ HO.lst ys) → Gu' a = some u → bakV G H Gu' a = some u := fun u nu e => by
      by_cases e2 : H a = none
      · rw [bak_N (hN a e2) e2]; exact e
      · have e3 := g.nw a e2
        rw [e] at e3
        rcases vmax_cases e3.symm with k | ⟨_, _, _, ys, z⟩
        · exact bak_G k
        · exact absurd z (nu ys)
    rcases r with r | ⟨o, r⟩
    · exact .inl (one _ (fun _ z => by cases z) r)
    · exact .inr ⟨o, one _ (fun _ z => by cases z) r⟩
  · rw [bak_N (hN a h1) h1]; exact h2
theorem e_look (h : E K pen H0 te (lookL L) fun d => noL d = true ∧ P d) : E K pen H0 te L P := fun σ G H e Q q =>
  h σ _ H e.look Q fun v d G' H' g hd ⟨n, p⟩ => by
    obtain ⟨G1, g1, k, k0⟩ := look_back e.vw e.h0 g
    exact q v d G1 H' g1 (dp_nol k d v n hd) p
theorem et_look (h : ET K pen H0 tt (lookL L) Pb) : ET K pen H0 tt L Pb := fun σ G H e Q q =>
  h σ _ H e.look Q fun b G' H' g p => by
    obtain ⟨G1, g1, k, k0⟩ := look_back e.vw e.h0 g
    exact q b G1 H' g1 p
theorem ea_look {Pl : List PyData → Prop} (h : EA K pen H0 tl (lookL L) fun ds => noLs ds = true ∧ Pl ds) : EA K pen H0 tl L Pl := fun σ G H e Q q =>
  h σ _ H e.look Q fun v d G' H' g hd ⟨n, p⟩ => by
    obtain ⟨G1, g1, k, k0⟩ := look_back e.vw e.h0 g
    exact q v d G1 H' g1 (dpa_nol k d v n hd) p
/-- a new list, made while looking: its items without a list -/
theorem el_look {Pl : List PyData → Prop} (h : EL K pen H0 te (lookL L) fun ds => noLs ds = true ∧ Pl ds) : EL K pen H0 te L Pl := fun σ G H e Q q =>
  h σ _ H e.look Q fun l vs ds G' H' g h1 h2 h3 hd ⟨n, p⟩ => by
    obtain ⟨G1, g1, k, k0⟩ := look_back e.vw e.h0 g
    exact q l vs ds G1 H' g1 h1 (k0 l h3 h2) h3 (dpa_nol k ds vs n hd) p
/-- return, looking -/
theorem s_retL (h : E K pen H0 te (lookL L) D.rt) : S K pen H0 (tRet te) L D := fun σ G H N e _ n2 _ _ _ => h σ _ H e.look _ fun v d G' H' g hd p => by
  have x := e.look.gx g
  refine n2 v d G' H' ⟨same_max.trans x.gg, fun a ha => ?_, x.od⟩ g.vw hd p
  rw [x.nw a ha]
  cases e1 : G a with
  | some o => exact vmax_G e1
  | none =>
    rw [vmax_new e1]
    cases z : newL H0 H a with
    | none => rfl
    | some o => exact absurd (newL_some z).1 ha
/-! ### told as new -/
def EN (K : PySem.W.Frag) (pen : Pc) (H0 : Hp) (te : TE) (L : Lv) (P : PyData → Prop) : Prop := ∀ (σ : L2.St) (G H : Hp), Ev K pen H0 G H σ L → ∀ Q : VK, (∀ v d G' H', Go pen G H G' H' → Nd K (vnew H0 G' H') v d → P d → Q v H') → te σ H Q
def ENA (K : PySem.W.Frag) (pen : Pc) (H0 : Hp) (tl : TA) (L : Lv) (P : List PyData → Prop) : Prop := ∀ (σ : L2.St) (G H : Hp), Ev K pen H0 G H σ L → ∀ Q : List V → Hp → Prop, (∀ v d G' H', Go pen G H G' H' → NdAll K (vnew H0 G' H') v d → P d → Q v H') → tl σ H Q
theorem nd_of {G H : Hp} {v : V} {d : PyData} (n : noL d = true) (h : Dp K G v d) : Nd K (vnew H0 G H) v d := by
  refine dp_nd d v n (dp_nol (fun a xs r => ?_) d v n h)
  rcases r with r | ⟨o, r⟩
  · exact .inl (vnew_G r rfl)
  · exact .inr ⟨o, vnew_G r rfl⟩
theorem nda_of {G H : Hp} {v : List V} {d : List PyData} (n : noLs d = true) (h : DpAll K G v d) : NdAll K (vnew H0 G H) v d := by
  refine dpa_nda d v n (dpa_nol (fun a xs r => ?_) d v n h)
  rcases r with r | ⟨o, r⟩
  · exact .inl (vnew_G r rfl)
  · exact .inr ⟨o, vnew_G r rfl⟩
theorem en_e (h : E K pen H0 te L fun d => noL d = true ∧ P d) : EN K pen H0 te L P := fun σ G H e Q q => h σ G H e Q fun v d G' H' g hd ⟨n, p⟩ => q v d G' H' g (nd_of n hd) p
theorem en_own {j : Nat} {ds : List PyData} (hj : L[j]? = some (some (.own (.lst ds)))) (n : noLs ds = true) (p : P (.list ds)) : EN K pen H0 (tVar j) L P := fun σ G H e Q q => by
  obtain ⟨x, k1, l, ho, rfl, k3, k4, k5, k6⟩ := e.sl j _ hj
  obtain ⟨vs, rfl, k6⟩ := k6.lst
  exact ⟨_, k1, q _ _ G H (.refl e.vw) (.lst (vnew_of k5 k4 k3) (nda_of n k6)) p⟩
theorem en_el (h : EL K pen H0 te L fun ds => noLs ds = true ∧ P (.list ds)) : EN K pen H0 te L P := fun σ G H e Q q => h σ G H e Q fun l vs ds G' H' g h1 h2 h3 hd ⟨n, p⟩ =>
  q _ _ G' H' g (.lst (vnew_of h2 (e.h0none h3) h1) (nda_of n hd)) p
theorem ena_nil {Pl : List PyData → Prop} (p : Pl []) : ENA K pen H0 tNil L Pl := fun σ G H e Q q => q [] [] G H (.refl e.vw) .nil p
theorem ena_cons {Pl : List PyData → Prop} (h : EN K pen H0 ta L fun a => ENA K pen H0 tr L fun ds => Pl (a :: ds)) : ENA K pen H0 (tCons ta tr) L Pl := fun σ G H e Q q =>
  h σ G H e _ fun v a G1 H1 g1 d1 h1 => h1 σ G1 H1 (e.go g1) _ fun vs ds G2 H2 g2 d2 p => q _ _ G2 H2 (g1.trans g2) (.cons (nd_mono (vnew_go e.h0 g2 g1.vw.vw) _ _ d1) d2) p
theorem nda_len {W : Hp} : ∀ {vs : List V} {ds : List PyData}, NdAll K W vs ds → vs.length = ds.length
  | _, _, .nil => rfl
  | _, _, .cons _ h => by rw [List.length_cons, List.length_cons, nda_len h]
theorem en_tup (h : ENA K pen H0 tl L fun ds => ds.length ≤ 100000 ∧ P (.tuple ds)) : EN K pen H0 (tTup tl) L P := fun σ G H e Q q =>
  h σ G H e _ fun vs ds G1 H1 g1 d1 h1 => ⟨Nat.le_trans (by rw [nda_len d1]; exact h1.1) (by decide : 100000 ≤ sizeLine), fun p hp => by
    have g2 := Go.new g1.vw (o := .tup vs) hp
    exact q _ _ _ _ (g1.trans g2) (.tup (.inl (.inl (vnew_G upd_same rfl))) (nda_mono (vnew_go e.h0 g2 g1.vw.vw) _ _ d1)) h1.2⟩
theorem en_if {t : TT} (h : ET K pen H0 t L fun a => (a = true → EN K pen H0 ta L P) ∧ (a = false → EN K pen H0 tb L P)) : EN K pen H0 (tIf t ta tb) L P := fun σ G H e Q q =>
  h σ G H e _ fun a G1 H1 g1 h1 => by
    cases a with
    | true => exact h1.1 rfl σ G1 H1 (e.go g1) Q fun w b G2 H2 g2 d2 p => q w b G2 H2 (g1.trans g2) d2 p
    | false => exact h1.2 rfl σ G1 H1 (e.go g1) Q fun w b G2 H2 g2 d2 p => q w b G2 H2 (g1.trans g2) d2 p
theorem EN.mono {P' : PyData → Prop} (h : EN K pen H0 te L P) (k : ∀ d, P d → P' d) : EN K pen H0 te L P' := fun σ G H e Q q => h σ G H e Q fun v d G' H' g hd p => q v d G' H' g hd (k d p)
/-- a call that tells what is new, seen from a frame: lists new at the call are new in the frame -/
theorem vnew_call {G1 H1 G' H' : Hp} (dom : ∀ a, H0 a ≠ none → H1 a ≠ none) : Same (vnew H1 G' H') (vnew H0 G' H') := fun a o h => by
  rcases vnew_cases h with ⟨k, z⟩ | ⟨k, k0, k1, xs, rfl⟩
  · exact vnew_G k z
  · refine vnew_of k ?_ k1
    cases z : H0 a with
    | none => rfl
    | some u => exact absurd k0 (dom a (by rw [z]; exact fun z => by cases z))
theorem en_callF {α : Type} {pn : Option Pn} {ts : List Addr} {Wf : α → Prop} {enc : α → List PyData} {res : α → PyData → Prop} {X : XK} (h : EA K ⟨pn, ts⟩ H0 tl L fun ds => ∃ x, ds = enc x ∧ Wf x ∧ ∀ d, res x d → P d) : EN K ⟨pn, ts⟩ H0 (tCall (SpXF K ts Wf enc res) [] X tl) L P := fun σ G H e Q q =>
  h σ G H e _ fun vs ds G1 H1 go hd ⟨x, hx, h1, h2⟩ => ⟨x, G1, go.vw.plain, by rw [List.append_nil, ← hx]; exact hd, h1, fun v d G' H' go2 hd2 p =>
    q v d G' H' (go.trans (go2.lift go.vw)) (nd_mono (vnew_call (G1 := G1) (e.go go).dom) _ _ hd2) (h2 d p)⟩
theorem s_retN (h : EN K pen H0 te L D.rn) : S K pen H0 (tRet te) L D := fun σ G H N e _ _ _ _ n5 => h σ G H e _ fun v d G' H' g hd p => n5 v d G' H' (e.gx g) g.vw hd p
/-- x = what is told as new -/
theorem Ev.setFr {G H : Hp} {σ : L2.St} (e : Ev K pen H0 G H σ L) {i : Nat} {v : V} {x : PyData} (h : Nd K (vnew H0 G H) v x) : Ev K pen H0 G H (σ.set i (some v)) (L.set i (some (.fr x))) := by
  refine ⟨e.vw, e.h0, e.dom, by rw [List.length_set, List.length_set]; exact e.len, fun j av hj => ?_, fun j k ds es l h1 h2 h3 h4 => ?_⟩
  · by_cases q : i = j
    · subst q
      have hl : i < L.length := by
        have := (List.getElem?_eq_some_iff.mp hj).1
        rw [List.length_set] at this; exact this
      rw [List.getElem?_set_self hl] at hj
      have := Option.some.inj (Option.some.inj hj)
      subst this
      exact ⟨v, List.getElem?_set_self (by rw [e.len]; exact hl), h⟩
    · rw [List.getElem?_set_ne q] at hj
      obtain ⟨w, h1, h2⟩ := e.sl j av hj
      exact ⟨w, by rw [List.getElem?_set_ne q]; exact h1, h2⟩
  · have nj : ∀ (j : Nat) (ds : OO), (L.set i (some (.fr x)))[j]? = some (some (.own ds)) → i ≠ j := fun j ds hj q => by
      subst q
      have hl : i < L.length := by
        have := (List.getElem?_eq_some_iff.mp hj).1
        rw [List.length_set] at this; exact this
      rw [List.getElem?_set_self hl] at hj
      cases hj
    have q1 := nj j ds h1
    have q2 := nj k es h2
    rw [List.getElem?_set_ne q1] at h1 h3
    rw [List.getElem?_set_ne q2] at h2 h4
    exact e.ow j k ds es l h1 h2 h3 h4
theorem s_asgN {i : Nat} (h : EN K pen H0 te L fun d => D.nx (L.set i (some (.fr d)))) : S K pen H0 (tAsg te (gName i)) L D := fun σ G H N e n1 _ _ _ _ =>
  h σ G H e _ fun v d G' H' g hd p => n1 _ G' H' _ (e.gx g) ((e.go g).setFr hd) p
def onlyD : Lv → Bool
  | [] => true
  | some (.own _) :: _ => false
  | some (.fr _) :: _ => false
  | _ :: L => onlyD L
theorem onlyD_get : ∀ {L : Lv} {i : Nat} {a : AV}, onlyD L = true → L[i]? = some (some a) → (∀ o, a ≠ .own o) ∧ (∀ x, a ≠ .fr x)
  | [], _, _, _, h => by simp at h
  | a :: L, 0, x, n, h => by
    have := Option.some.inj h
    subst this
    cases x <;> first | cases n | exact ⟨fun _ z => (by cases z), fun _ z => (by cases z)⟩
  | a :: L, i + 1, x, n, h => by
    have n' : onlyD L = true := by
      cases a with
      | none => exact n
      | some av => cases av <;> first | exact n | cases n
    exact onlyD_get (L := L) (i := i) n' h
/-- a list that was told is changed, and looked at no more -/
theorem Ev.spoil {G H : Hp} {σ : L2.St} (e : Ev K pen H0 G H σ L) (od : onlyD L = true) {l : Addr} {ho : HO} (h0 : H0 l = none) (g : G l = none) : Ev K pen H0 G (upd H l ho) σ L ∧ Gx pen H0 G H G (upd H l ho) := by
  have n0 : ∀ a, H0 a ≠ none → a ≠ l := fun a h z => h (by rw [z]; exact h0)
  have ng : ∀ a o, G a = some o → a ≠ l := fun a o q z => by rw [z, g] at q; cases q
  refine ⟨⟨⟨fun a o q => by rw [upd_ne (ng a o q)]; exact e.vw.vw a o q, e.vw.no, e.vw.ok.upd e.h0 h0⟩, e.h0, fun a h => by rw [upd_ne (n0 a h)]; exact e.dom a h, e.len, fun i av hi => ?_, e.ow⟩, Same.refl _, fun _ _ => rfl, fun a o _ h q => by rw [upd_ne (n0 a h)]; exact q⟩
  obtain ⟨v, k1, k2⟩ := e.sl i av hi
  obtain ⟨no, nf⟩ := onlyD_get od hi
  refine ⟨v, k1, ?_⟩
  cases av with
  | d x => exact k2
  | pen => exact k2
  | own o => exact absurd rfl (no o)
  | fr x => exact absurd rfl (nf x)
  | bor o =>
    obtain ⟨l3, vs3, rfl, m3, m4, m5, m6⟩ := k2
    refine ⟨l3, vs3, rfl, ?_, m4, m5, m6⟩
    rw [upd_ne (n0 l3 (by rw [m4]; exact fun z => by cases z))]
    exact m3
theorem same_new {G H : Hp} {σ : L2.St} (e : Ev K pen H0 G H σ L) : Same (vnew H0 G H) H := vnew_max.trans (vw_max e.vw e.h0).vw
theorem nd_list {G H : Hp} {v : V} {ds : List PyData} (h : Nd K (vnew H0 G H) v (.list ds)) : ∃ l vs, v = .ref l ∧ H l = some (.lst vs) ∧ H0 l = none ∧ G l = none ∧ vs.length = ds.length := by
  cases h with
  | lst hs ha =>
    rcases vnew_cases hs with ⟨_, z⟩ | ⟨k, k0, k1, _⟩
    · cases z
    · exact ⟨_, _, rfl, k1, k0, k, nda_len ha⟩
theorem nda_get {W : Hp} : ∀ {vs : List V} {ds : List PyData} {i : Nat} {d : PyData}, NdAll K W vs ds → ds[i]? = some d → ∃ v, vs[i]? = some v ∧ Nd K W v d
  | _, _, _, _, .nil, e => by simp at e
  | _, _, 0, _, .cons (v := v) h _, e => by
    have e' := Option.some.inj e
    subst e'
    exact ⟨v, rfl, h⟩
  | _, _, i + 1, d, .cons _ t, e => nda_get (i := i) (d := d) t e
theorem Ev.forget {G H : Hp} {σ : L2.St} (e : Ev K pen H0 G H σ L) (i : Nat) (od : onlyD (L.set i none) = true) : Ev K pen H0 G H σ (L.set i none) := ⟨e.vw, e.h0, e.dom, by rw [List.length_set]; exact e.len, fun j av hj => by
    by_cases q : i = j
    · subst q
      have hl : i < L.length := by
        have := (List.getElem?_eq_some_iff.mp hj).1
        rw [List.length_set] at this; exact this
      rw [List.getElem?_set_self hl] at hj
      cases hj
    · rw [List.getElem?_set_ne q] at hj
      exact e.sl j av hj, fun j k a b l' h1 h2 => by
    have z : ∀ (j : Nat) (o : OO), (L.set i none)[j]? ≠ some (some (.own o)) := fun j o hj => (onlyD_get od hj).1 o rfl
    exact absurd h1 (z j a)⟩
/-- x.append(e), x told as new -/
theorem s_appFr {i : Nat} {ds : List PyData} (hi : L[i]? = some (some (.fr (.list ds)))) (hz : ds.length < 100000) (h : E K pen H0 te (L.set i none) fun _ => D.nx (L.set i none)) (od : onlyD (L.set i none) = true := by rfl) :
    S K pen H0 (tDrop (tBM K "list" rAppend (tVar i) (tCons te tNil))) L D := fun σ G H N e n1 _ _ _ _ => by
  obtain ⟨v, k1, k2⟩ := e.sl i _ hi
  obtain ⟨l, vs, rfl, m1, m2, m3, m4⟩ := nd_list k2
  have e' := e.forget i od
  refine ⟨_, k1, .inl ⟨rfl, vs, .inl (.inl m1)⟩, h σ G H e' _ fun w d G1 H1 g1 d1 p => ?_⟩
  have np : ¬ IsPn pen l := fun q => e.h0.there q m2
  have q1 := g1.od _ _ np m1
  have q2 : G1 l = none := (g1.nw l (by rw [m1]; exact fun z => by cases z)).trans m3
  obtain ⟨r1, r2⟩ := (e'.go g1).spoil od (ho := .lst (vs ++ [w])) m2 q2
  exact ⟨l, vs, w, rfl, rfl, q1, Nat.lt_of_lt_of_le (by rw [m4]; exact hz) (by decide : 100000 ≤ sizeLine), n1 σ G1 _ _ ((e'.gx g1).trans r2) r1 p⟩
theorem s_clearFr {i : Nat} {ds : List PyData} (hi : L[i]? = some (some (.fr (.list ds)))) (h : D.nx (L.set i none)) (od : onlyD (L.set i none) = true := by rfl) :
    S K pen H0 (tDrop (tBM0 K "list" rClear (tVar i))) L D := fun σ G H N e n1 _ _ _ _ => by
  obtain ⟨v, k1, k2⟩ := e.sl i _ hi
  obtain ⟨l, vs, rfl, m1, m2, m3, m4⟩ := nd_list k2
  obtain ⟨r1, r2⟩ := (e.forget i od).spoil od (ho := .lst []) m2 m3
  exact ⟨_, k1, .inl ⟨rfl, vs, .inl (.inl m1)⟩, l, vs, rfl, rfl, m1, n1 σ G _ _ r2 r1 h⟩
theorem fr_part {G H : Hp} {σ : L2.St} (e : Ev K pen H0 G H σ L) {i k : Nat} {ds es : List PyData} (hi : L[i]? = some (some (.fr (.tuple ds)))) (hk : ds[k]? = some (.list es)) :
    ∃ t xs l vs, σ[i]? = some (some (.ref t)) ∧ SqT K H t xs ∧ xs[k]? = some (.ref l) ∧ H l = some (.lst vs) ∧ H0 l = none ∧ G l = none ∧ vs.length = es.length := by
  obtain ⟨v, k1, k2⟩ := e.sl i _ hi
  cases k2 with
  | tup hs ha =>
    obtain ⟨w, q1, q2⟩ := nda_get ha hk
    obtain ⟨l, vs, rfl, m1, m2, m3, m4⟩ := nd_list q2
    exact ⟨_, _, l, vs, k1, sqT_mono (same_new e) hs, q1, m1, m2, m3, m4⟩
/-- x[k].append(e), x a told tuple -/
theorem s_appFrT {i k : Nat} {ds es : List PyData} (hi : L[i]? = some (some (.fr (.tuple ds)))) (hk : ds[k]? = some (.list es)) (hz : es.length < 100000) (h : E K pen H0 te (L.set i none) fun _ => D.nx (L.set i none)) (od : onlyD (L.set i none) = true := by rfl) :
    S K pen H0 (tDrop (tBM K "list" rAppend (tOp (rIxT K) (tVar i) (tC (.int k))) (tCons te tNil))) L D := fun σ G H N e n1 _ _ _ _ => by
  obtain ⟨t, xs, l, vs, k1, k2, k3, m1, m2, m3, m4⟩ := fr_part e hi hk
  have e' := e.forget i od
  refine ⟨_, k1, t, xs, k, .ref l, rfl, rfl, k2, atI_nat k3, .inl ⟨rfl, vs, .inl (.inl m1)⟩, h σ G H e' _ fun w d G1 H1 g1 d1 p => ?_⟩
  have np : ¬ IsPn pen l := fun q => e.h0.there q m2
  have q1 := g1.od _ _ np m1
  have q2 : G1 l = none := (g1.nw l (by rw [m1]; exact fun z => by cases z)).trans m3
  obtain ⟨r1, r2⟩ := (e'.go g1).spoil od (ho := .lst (vs ++ [w])) m2 q2
  exact ⟨l, vs, w, rfl, rfl, q1, Nat.lt_of_lt_of_le (by rw [m4]; exact hz) (by decide : 100000 ≤ sizeLine), n1 σ G1 _ _ ((e'.gx g1).trans r2) r1 p⟩
theorem s_clearFrT {i k : Nat} {ds es : List PyData} (hi : L[i]? = some (some (.fr (.tuple ds)))) (hk : ds[k]? = some (.list es)) (h : D.nx (L.set i none)) (od : onlyD (L.set i none) = true := by rfl) :
    S K pen H0 (tDrop (tBM0 K "list" rClear (tOp (rIxT K) (tVar i) (tC (.int k))))) L D := fun σ G H N e n1 _ _ _ _ => by
  obtain ⟨t, xs, l, vs, k1, k2, k3, m1, m2, m3, m4⟩ := fr_part e hi hk
  obtain ⟨r1, r2⟩ := (e.forget i od).spoil od (ho := .lst []) m2 m3
  exact ⟨_, k1, t, xs, k, .ref l, rfl, rfl, k2, atI_nat k3, .inl ⟨rfl, vs, .inl (.inl m1)⟩, l, vs, rfl, rfl, m1, n1 σ G _ _ r2 r1 h⟩
theorem r_neB {i j : Bool} (p : P (.bool (!decide (i = j)))) : R2d K pen rNe (.bool i) (.bool j) P := fun x y G H v hx hy Q q => by
  cases hx
  cases hy
  refine ⟨rfl, ?_⟩
  rw [show decide (V.bl i = V.bl j) = decide (i = j) by rw [dec_bl]; exact Bool.beq_eq_decide_eq i j]
  exact q _ _ G H (.refl v) (.bl _) p
/-- False not in a list of truths -/
theorem dpa_bls {G : Hp} : ∀ {vs : List V} {bs : List Bool}, DpAll K G vs (bs.map PyData.bool) → vs = bs.map V.bl
  | _, [], h => by cases h; rfl
  | _, b :: bs, h => by
    cases h with
    | cons h1 h2 =>
      cases h1
      rw [dpa_bls h2]
      rfl
theorem inV_false (bs : List Bool) : inV (.bl false) (bs.map V.bl) = bs.any (!·) := by
  unfold inV
  rw [List.any_map]
  congr 1
  funext b
  cases b <;> rfl
theorem flat_bls (bs : List Bool) : (bs.map V.bl).all flatV = true := by
  rw [List.all_eq_true]
  intro x hx
  obtain ⟨b, _, rfl⟩ := List.mem_map.mp hx
  rfl
theorem r_notIn {bs : List Bool} (p : P (.bool (!bs.any (!·)))) : R2d K pen (rIn K true) (.bool false) (.list (bs.map PyData.bool)) P := fun x y G H v hx hy Q q => by
  cases hx
  cases hy with
  | lst hs ha =>
    have e := dpa_bls ha
    subst e
    refine ⟨_, _, rfl, .inl (sqL_mono v.vw hs), rfl, flat_bls bs, ?_⟩
    rw [if_pos rfl, inV_false]
    exact q _ _ G H (.refl v) (.bl _) p
end
/-! ### the pen's own def -/
section
variable {K : PySem.W.Frag} {p : Pn} {pa pc : Addr} {pn : Nat} {ts : List Addr} {H0 : Hp} {L : Lv} {P P' : PyData → Prop} {ta tb tc te ti : TE} {D : Dn}
theorem Ev.pen {G H : Hp} {σ : L2.St} (e : Ev K ⟨some p, ts⟩ H0 G H σ L) {i : Nat} (hi : L[i]? = some (some .pen)) : σ[i]? = some (some (.ref p.a)) := by
  obtain ⟨v, hv, q, hq, rfl⟩ := e.sl i _ hi
  cases hq
  exact hv
/-- the pen is written -/
theorem Ev.putPen {G H : Hp} {σ : L2.St} (e : Ev K ⟨some p, ts⟩ H0 G H σ L) {o : HO} (h : PenOk p (upd H p.a o)) : Ev K ⟨some p, ts⟩ H0 G (upd H p.a o) σ L ∧ Gx ⟨some p, ts⟩ H0 G H G (upd H p.a o) := by
  have h0 : H0 p.a ≠ none := e.h0.there (.inl ⟨p, rfl, rfl⟩)
  have ga : G p.a = none := e.vw.no _ (.inl ⟨p, rfl, rfl⟩)
  refine ⟨⟨⟨fun b o q => ?_, e.vw.no, fun p' hp' => by cases hp'; exact h, fun P hP => by obtain ⟨ps, e1, t⟩ := e.vw.ok.2 P hP; exact ⟨ps, by rw [upd_ne (fun z => e.vw.ok.apart (p := p) rfl hP (.inl z))]; exact e1, t⟩⟩, e.h0, fun b hb => ?_, e.len, fun j av hj => ?_, e.ow⟩, Same.refl _, fun _ _ => rfl, fun b o hb _ q => ?_⟩
  · rw [upd_ne (fun w => by rw [w, ga] at q; cases q)]; exact e.vw.vw b o q
  · by_cases w : b = p.a
    · rw [w, upd_same]; exact fun z => by cases z
    · rw [upd_ne w]; exact e.dom b hb
  · obtain ⟨x, q1, q2⟩ := e.sl j av hj
    refine ⟨x, q1, ?_⟩
    cases av with
    | d x => exact q2
    | pen => exact q2
    | own ds =>
      obtain ⟨l, vs, rfl, k3, k4, k5⟩ := q2
      exact ⟨l, vs, rfl, by rw [upd_ne (fun w => h0 (by rw [← w]; exact k4))]; exact k3, k4, k5⟩
    | bor ds =>
      obtain ⟨l, vs, rfl, k3, k4, k5, k6⟩ := q2
      exact ⟨l, vs, rfl, by rw [upd_ne (fun w => k5 (.inl ⟨p, rfl, w⟩))]; exact k3, k4, k5, k6⟩
    | fr x =>
      refine nd_mono (fun a o h => ?_) _ _ q2
      rcases vnew_cases h with ⟨k, z⟩ | ⟨k, k0, k1, xs, rfl⟩
      · exact vnew_G k z
      · exact vnew_of k k0 (by rw [upd_ne (fun w => h0 (by rw [← w]; exact k0))]; exact k1)
  · rw [upd_ne (fun w => hb (.inl ⟨p, rfl, w⟩))]; exact q
theorem e_pen {i : Nat} {k : Int} (hi : L[i]? = some (some .pen)) (hk : k = 1 ∨ k = 2) (h : ∀ z : Int, 0 ≤ z → P (.int z)) : E K ⟨some ⟨pa, .pen pc pn⟩, ts⟩ H0 (tOp (rIxL K) (tVar i) (tC (.int k))) L P := fun σ G H e Q q => by
  obtain ⟨cells, at_, rest, m1, m2, m3, m4, m5⟩ := e.vw.ok.1 _ rfl
  refine ⟨_, e.pen hi, pa, _, k, .int (if k = 1 then at_ else rest), rfl, rfl, .inl (.inl m1), ?_, q _ _ G H (.refl e.vw) (.int _) (h _ ?_)⟩
  · rcases hk with rfl | rfl
    · rfl
    · rfl
  · split <;> assumption
theorem e_penLen {i : Nat} (hi : L[i]? = some (some .pen)) (h : P (.int pn)) : E K ⟨some ⟨pa, .pen pc pn⟩, ts⟩ H0 (tCB (fun xs H Q => ∃ p ys, xs = [.ref p] ∧ (SqL K H p ys ∨ SqT K H p ys) ∧ Q (.int ys.length) H) (tCons (tOp (rIxL K) (tVar i) (tC (.int 0))) tNil)) L P := fun σ G H e Q q => by
  obtain ⟨cells, at_, rest, m1, m2, m3, m4, m5⟩ := e.vw.ok.1 _ rfl
  refine ⟨_, e.pen hi, pa, _, 0, .ref pc, rfl, rfl, .inl (.inl m1), rfl, pc, _, rfl, .inl (.inl (.inl m2)), ?_⟩
  rw [List.length_map, m5]
  exact q _ _ G H (.refl e.vw) (.int _) h
theorem e_penIx {i : Nat} (hi : L[i]? = some (some .pen)) (h : E K ⟨some ⟨pa, .pen pc pn⟩, ts⟩ H0 ti L fun k => ∃ m : Nat, k = .int m ∧ m < pn ∧ ∀ z : Int, P (.int z)) : E K ⟨some ⟨pa, .pen pc pn⟩, ts⟩ H0 (tOp (rIxL K) (tOp (rIxL K) (tVar i) (tC (.int 0))) ti) L P := fun σ G H e Q q => by
  obtain ⟨cells, at_, rest, m1, m2, m3, m4, m5⟩ := e.vw.ok.1 _ rfl
  refine ⟨_, e.pen hi, pa, _, 0, .ref pc, rfl, rfl, .inl (.inl m1), rfl, h σ G H e _ fun v k G1 H1 go hd ⟨m, hm, hl, hp⟩ => ?_⟩
  subst hm
  cases hd
  have m2' : H1 pc = some (.lst (cells.map V.int)) := go.od _ _ (fun z => by
    rcases z with ⟨q, z, w⟩ | z
    · cases z
      have w : pc = pa := w
      rw [w, m1] at m2
      cases cells with
      | nil => cases m2
      | cons x r => cases m2
    · exact e.vw.ok.apart (p := ⟨pa, .pen pc pn⟩) rfl z (.inr ⟨_, _, rfl, rfl⟩)) m2
  refine ⟨pc, _, (m : Int), .int cells[m], rfl, rfl, .inl (.inl m2'), ?_, q _ _ G1 H1 go (.int _) (hp _)⟩
  refine atI_nat ?_
  rw [List.getElem?_map, List.getElem?_eq_getElem (by rw [m5]; exact hl)]
  rfl
theorem s_pen {i : Nat} {k : Int} (hi : L[i]? = some (some .pen)) (hk : k = 1 ∨ k = 2) (h : E K ⟨some ⟨pa, .pen pc pn⟩, ts⟩ H0 te L fun d => ∃ z, d = .int z ∧ 0 ≤ z ∧ D.nx L) : S K ⟨some ⟨pa, .pen pc pn⟩, ts⟩ H0 (tAsg te (gSub (tVar i) (tC (.int k)) rSetL)) L D := fun σ G H N e n1 _ _ _ _ =>
  h σ G H e _ fun v d G1 H1 g1 d1 ⟨z, hz, z0, hp⟩ => by
    subst hz
    cases d1
    have e1 := e.go g1
    obtain ⟨cells, at_, rest, m1, m2, m3, m4, m5⟩ := e1.vw.ok.1 _ rfl
    have ne : pc ≠ pa := fun w => by
      have m1 : H1 pa = _ := m1
      rw [w, m1] at m2
      cases cells with
      | nil => cases m2
      | cons x r => cases m2
    have put : ∀ (a r : Int), 0 ≤ a → 0 ≤ r → N.nx σ (upd H1 pa (.lst [.ref pc, .int a, .int r])) := fun a r ha hr => by
      obtain ⟨r1, r2⟩ := e1.putPen (p := ⟨pa, .pen pc pn⟩) (o := .lst [.ref pc, .int a, .int r]) ⟨cells, a, r, upd_same, by show upd H1 pa _ pc = _; rw [upd_ne ne]; exact m2, ha, hr, m5⟩
      exact n1 σ G1 _ L ((e.gx g1).trans r2) r1 hp
    rcases hk with rfl | rfl
    · exact ⟨_, e1.pen hi, pa, _, 1, 1, rfl, rfl, m1, rfl, put z rest z0 m4⟩
    · exact ⟨_, e1.pen hi, pa, _, 2, 2, rfl, rfl, m1, rfl, put at_ z m3 z0⟩
/-- the spring -/
theorem e_spr {i : Nat} (hi : L[i]? = some (some .pen)) (h : ∀ z : Int, P (.int z)) : E K ⟨some ⟨pa, .spr⟩, ts⟩ H0 (tOp (rIxL K) (tVar i) (tC (.int 0))) L P := fun σ G H e Q q => by
  obtain ⟨z, m1⟩ := e.vw.ok.1 _ rfl
  exact ⟨_, e.pen hi, pa, _, 0, .int z, rfl, rfl, .inl (.inl m1), rfl, q _ _ G H (.refl e.vw) (.int _) (h _)⟩
theorem s_spr {i : Nat} (hi : L[i]? = some (some .pen)) (h : E K ⟨some ⟨pa, .spr⟩, ts⟩ H0 te L fun d => ∃ z, d = .int z ∧ D.nx L) : S K ⟨some ⟨pa, .spr⟩, ts⟩ H0 (tAsg te (gSub (tVar i) (tC (.int 0)) rSetL)) L D := fun σ G H N e n1 _ _ _ _ =>
  h σ G H e _ fun v d G1 H1 g1 d1 ⟨z, hz, hp⟩ => by
    subst hz
    cases d1
    have e1 := e.go g1
    obtain ⟨z0, m1⟩ := e1.vw.ok.1 _ rfl
    obtain ⟨r1, r2⟩ := e1.putPen (p := ⟨pa, .spr⟩) (o := .lst [.int z]) ⟨z, upd_same⟩
    exact ⟨_, e1.pen hi, pa, _, 0, 0, rfl, rfl, m1, rfl, n1 σ G1 _ L ((e.gx g1).trans r2) r1 hp⟩
end
def WfTake (m : Int) : Prop := 0 < m ∧ m ≤ 10 ^ 60
def resTake (m : Int) (d : PyData) : Prop := ∃ z : Nat, d = .int (z : Int) ∧ (z : Int) < m
theorem resTake_of {z m : Int} (h0 : 0 ≤ z) (h1 : z < m) : resTake m (.int z) := ⟨z.toNat, by rw [Int.toNat_of_nonneg h0], by rw [Int.toNat_of_nonneg h0]; exact h1⟩
theorem take_all {m : Int} {P : PyData → Prop} (h : ∀ k : Nat, (k : Int) < m → P (.int (k : Int))) : ∀ d, resTake m d → P d := fun d ⟨k, e, hk⟩ => by rw [e]; exact h k hk
abbrev spTake (K : PySem.W.Frag) (ts : List Addr) : Sp := SpXP (α := Int) K ts WfTake (fun m => [.int m]) resTake
section
variable {K : PySem.W.Frag} {pen : Pc} {H0 : Hp} {P P' : PyData → Prop}
theorem r_modAny {i j : Int} (hc : 0 < j) (p : ∀ z, 0 ≤ z → z < j → P (.int z)) : R2d K pen (rI (fun _ j => 0 < j) fun i j => .int (i % j)) (.int i) (.int j) P := r_mod hc (p _ (Int.emod_nonneg _ (by omega)) (Int.emod_lt_of_pos _ hc))
theorem r_fdivW {i j : Int} (hc : CDivW i j) (p : P (.int (i / j))) : R2d K pen (rI CDivW fun i j => .int (i / j)) (.int i) (.int j) P := r_I (f := fun i j => .int (i / j)) (fun _ => .int _) hc p
theorem r_pow {i j : Int} (hc : CPow i j) (p : P (.int (i ^ j.toNat))) : R2d K pen (rI CPow fun i j => .int (i ^ j.toNat)) (.int i) (.int j) P := r_I (f := fun i j => .int (i ^ j.toNat)) (fun _ => .int _) hc p
end
end Dl
namespace Dl
open PySem PySem.Spec PyProof.Rows L2
theorem nox_K {CX : CXT} {P : Program} {w : World} {K : PySem.W.Frag} {mg : Str → Option Value} {base : Heap} {N : List Str} {qual : Str} {scope : Scope} {f : Addr} {cd : Value} {A : Around} {outer : List Env} {s : Shared} {H : Hp} {E : XK} : (cxOf CX P w K mg base N qual scope f cd A outer s H E).nox.K = K := rfl
theorem cx_K {CX : CXT} {P : Program} {w : World} {K : PySem.W.Frag} {mg : Str → Option Value} {base : Heap} {N : List Str} {qual : Str} {scope : Scope} {f : Addr} {cd : Value} {A : Around} {outer : List Env} {s : Shared} {H : Hp} {E : XK} : (cxOf CX P w K mg base N qual scope f cd A outer s H E).K = K := rfl
theorem blk_K {X : Cx} {s : Shared} {H : Hp} {sc : Scope} {env : Env} {fp : List Addr} : (X.blk s H sc env fp).K = X.K := rfl
end Dl
namespace Dl
open PySem PySem.Spec PyProof.Rows L2
section
variable {X : Cx} (K : PySem.W.Frag)
theorem kx_ixT (h : X.K = K) : IxR X (rIxT K) := by subst h; exact ix_tup
theorem kx_ixL (h : X.K = K) : IxR X (rIxL K) := by subst h; exact ix_list
theorem kx_slT (h : X.K = K) : SlR X (rSlA K) := by subst h; exact sl_tupA
theorem kx_slL (h : X.K = K) : SlR X (rSlL K) := by subst h; exact sl_list
theorem kx_catT (h : X.K = K) : OpR X (binaryOp .Add) (rCatA K) := by subst h; exact op_catA
theorem kx_in (h : X.K = K) : OpR X (compareOp .In) (rIn K false) := by subst h; exact op_in_seq
theorem kx_notIn (h : X.K = K) : OpR X (compareOp .NotIn) (rIn K true) := by subst h; exact op_notIn_seq
theorem kx_eqD (h : X.K = K) (hu : X.A.units + 64 < cLine) : OpR X (compareOp .Eq) (rEqD K) := by subst h; exact op_eqD hu
theorem kx_neD (h : X.K = K) (hu : X.A.units + 64 < cLine) : OpR X (compareOp .NotEq) (rNeD K) := by subst h; exact op_neD hu
theorem kx_len (h : X.K = K) : CallR X (.builtin "len") (fun xs H Q => ∃ p ys, xs = [.ref p] ∧ (SqL K H p ys ∨ SqT K H p ys) ∧ Q (.int ys.length) H) := by subst h; exact call_len_seq
theorem kx_list (h : X.K = K) : CallR X (.type "list") (fun xs H Q => ∃ p ys, xs = [.ref p] ∧ (SqL K H p ys ∨ SqT K H p ys) ∧ ∀ l, H l = none → Q (.ref l) (upd H l (.lst ys))) := by subst h; exact call_list_of
theorem kx_tuple (h : X.K = K) : CallR X (.type "tuple") (fun xs H Q => ∃ p ys, xs = [.ref p] ∧ ((SqL K H p ys ∧ ∀ l, H l = none → Q (.ref l) (upd H l (.tup ys))) ∨ (SqT K H p ys ∧ Q (.ref p) H))) := by subst h; exact call_tuple_of
theorem kx_isi (h : X.K = K) : CallR X (.builtin "isinstance") (rIsi K) := by subst h; exact call_isi
variable {l tg : Expr} {tl : TE}
theorem kx_piL (h : X.K = K) (hl : PE X l tl) : PI X tg l (iList K tl) := by subst h; exact pi_list hl
theorem kx_piT (h : X.K = K) (hl : PE X l tl) : PI X tg l (iTup K tl) := by subst h; exact pi_tup hl
theorem kx_zip {e e2 : Expr} {ta : TA} {p pos tpos : Pos} {elts : List Expr} {kk : Nat} (h : X.K = K) (hg : Gl X "zip") (hm : X.mg "zip" = none) (ha : PA X [e, e2] ta)
    (hs : starEach [e, e2] X.env = (false, eval e X.env) :: starEach [e2] X.env := by rfl) (hpl : (backTo pos (starEach [e2] X.env)).any (·.1) = false := by rfl) :
    PI X (.Tuple elts kk tpos) (.Call (.Name "zip" p) [e, e2] [] pos) (RZ.iZipA K ta) := by subst h; exact RZ.pi_zipA hg hm ha hs hpl
theorem kx_pgT {es : List Expr} {k : Nat} {t : TGs} {n : Nat} {pos : Pos} (h : X.K = K) (hc : X.calm = true) (hp : PGs X es t)
    (hn : (assignEach es X.env).length = n := by rfl) (hst : (assignEach es X.env).findIdx? (·.1) = none := by rfl) : PG X (.Tuple es k pos) (gTup K n t) := by subst h; exact pg_tup hc hp hn hst
end
end Dl
namespace Dl
open PySem PySem.Spec PyProof.Rows L2
inductive Ty where
  | int | bool | str | tuple | list
def Ty.s : Ty → String
  | .int => "int"
  | .bool => "bool"
  | .str => "str"
  | .tuple => "tuple"
  | .list => "list"
def isT : PyData → Ty → Bool
  | .bool _, .int => true
  | .bool _, .bool => true
  | .int _, .int => true
  | .str _, .str => true
  | .tuple _, .tuple => true
  | .list _, .list => true
  | _, _ => false
theorem isT_eq (d : PyData) (t : Ty) : isD d t.s = isT d t := by
  cases d with
  | none => cases t <;> (show isS "NoneType" _ = _) <;> decide +kernel
  | bool b => cases t <;> (show isS "bool" _ = _) <;> (first | (show _ = true; decide +kernel) | (show _ = false; decide +kernel))
  | int b => cases t <;> (show isS "int" _ = _) <;> (first | (show _ = true; decide +kernel) | (show _ = false; decide +kernel))
  | str b => cases t <;> (show isS "str" _ = _) <;> (first | (show _ = true; decide +kernel) | (show _ = false; decide +kernel))
  | list b => cases t <;> (show isS "list" _ = _) <;> (first | (show _ = true; decide +kernel) | (show _ = false; decide +kernel))
  | tuple b => cases t <;> (show isS "tuple" _ = _) <;> (first | (show _ = true; decide +kernel) | (show _ = false; decide +kernel))
  | dict b => cases t <;> (show isS "dict" _ = _) <;> (first | (show _ = true; decide +kernel) | (show _ = false; decide +kernel))
section
variable {K : PySem.W.Frag} {pen : Pc} {H0 : Hp} {L : Lv} {P : PyData → Prop} {ta : TE}
theorem e_isT (t : Ty) (h : E K pen H0 ta L fun d => P (.bool (isT d t))) : E K pen H0 (tCB (rIsi K) (tCons ta (tCons (tC (.ty t.s)) tNil))) L P :=
  e_isi (by cases t <;> simp [Ty.s]) (h.mono fun d p => by rw [isT_eq]; exact p)
theorem e_isI (h : E K pen H0 ta L fun d => P (.bool (isT d .int))) : E K pen H0 (tCB (rIsi K) (tCons ta (tCons (tC (.ty "int")) tNil))) L P := e_isT .int h
theorem e_isB (h : E K pen H0 ta L fun d => P (.bool (isT d .bool))) : E K pen H0 (tCB (rIsi K) (tCons ta (tCons (tC (.ty "bool")) tNil))) L P := e_isT .bool h
theorem e_isS (h : E K pen H0 ta L fun d => P (.bool (isT d .str))) : E K pen H0 (tCB (rIsi K) (tCons ta (tCons (tC (.ty "str")) tNil))) L P := e_isT .str h
theorem e_isTu (h : E K pen H0 ta L fun d => P (.bool (isT d .tuple))) : E K pen H0 (tCB (rIsi K) (tCons ta (tCons (tC (.ty "tuple")) tNil))) L P := e_isT .tuple h
theorem e_isL (h : E K pen H0 ta L fun d => P (.bool (isT d .list))) : E K pen H0 (tCB (rIsi K) (tCons ta (tCons (tC (.ty "list")) tNil))) L P := e_isT .list h
def isNone : PyData → Bool
  | .none => true
  | _ => false
theorem r_isNone {a : PyData} (p : P (.bool (isNone a))) : R2d K pen (fun x y H Q => y = .non ∧ Q (.bl (decide (x = .non))) H) a .none P := r_isN (by cases a <;> exact p)
end
/-- data with a bound on its depth and its lengths -/
def Flat : Nat → PyData → Prop
  | _, .none => True
  | _, .bool _ => True
  | _, .int _ => True
  | _, .str _ => True
  | n + 1, .tuple ds => ds.length ≤ 1000 ∧ ∀ d ∈ ds, Flat n d
  | n + 1, .list ds => ds.length ≤ 1000 ∧ ∀ d ∈ ds, Flat n d
  | _, _ => False
end Dl
set_option Elab.async false
set_option linter.all false
set_option maxRecDepth 100000
namespace Dl
open PySem PySem.Spec PyProof.Rows L2
/-! ### forgetting slots -/
def Sub (L' L : Lv) : Prop := L'.length = L.length ∧ ∀ (i : Nat) av, L'[i]? = some (some av) → L[i]? = some (some av)
theorem Sub.refl (L : Lv) : Sub L L := ⟨rfl, fun _ _ h => h⟩
theorem Sub.trans {A B C : Lv} (h : Sub A B) (k : Sub B C) : Sub A C := ⟨h.1.trans k.1, fun i av q => k.2 i av (h.2 i av q)⟩
theorem Sub.nil : Sub [] [] := Sub.refl _
theorem Sub.keep {x : Option AV} {L' L : Lv} (h : Sub L' L) : Sub (x :: L') (x :: L) := by
  refine ⟨by rw [List.length_cons, List.length_cons, h.1], fun i av q => ?_⟩
  cases i with
  | zero => exact q
  | succ i => exact h.2 i av q
theorem Sub.drop {x : Option AV} {L' L : Lv} (h : Sub L' L) : Sub (none :: L') (x :: L) := by
  refine ⟨by rw [List.length_cons, List.length_cons, h.1], fun i av q => ?_⟩
  cases i with
  | zero => cases q
  | succ i => exact h.2 i av q
section
variable {K : PySem.W.Frag} {pen : Pc} {H0 : Hp} {L L' : Lv} {P P' : PyData → Prop} {ta tb tc te ti : TE} {tl tr : TA} {tt : TT} {t u : TS} {Pb : Bool → Prop} {D : Dn} {g : TG} {gs : TGs}
theorem Ev.sub {G H : Hp} {σ : L2.St} (e : Ev K pen H0 G H σ L) (s : Sub L' L) : Ev K pen H0 G H σ L' :=
  ⟨e.vw, e.h0, e.dom, e.len.trans s.1.symm, fun i av h => e.sl i av (s.2 i av h), fun i j ds es l h1 h2 => e.ow i j ds es l (s.2 _ _ h1) (s.2 _ _ h2)⟩
theorem S.sub (h : S K pen H0 t L' D) (s : Sub L' L) : S K pen H0 t L D := fun σ G H N e => h σ G H N (e.sub s)
theorem E.sub (h : E K pen H0 te L' P) (s : Sub L' L) : E K pen H0 te L P := fun σ G H e => h σ G H (e.sub s)
theorem GT.sub {d : PyData} {Q : Lv → Prop} (h : GT K pen H0 g d L' Q) (s : Sub L' L) : GT K pen H0 g d L Q := fun σ G H v e => h σ G H v (e.sub s)
/-- what a loop keeps, with slots forgotten -/
abbrev Wk (I : Nat → Lv → Prop) (i : Nat) (L : Lv) : Prop := ∃ L3, Sub L3 L ∧ I i L3
theorem s_forRw (h : EA K pen H0 tl L fun ds => ∃ n : Nat, ds = [.int n] ∧ n ≤ 100000 ∧ ∃ I : Nat → Lv → Prop, Wk I 0 L ∧ (∀ (i : Nat) L', i < n → I i L' → GT K pen H0 g (.int i) L' fun L2 => S K pen H0 t L2 { D with nx := Wk I (i + 1), ct := Wk I (i + 1), bk := D.nx }) ∧ (∀ L', I n L' → ∀ L4, Sub L' L4 → D.nx L4)) :
    S K pen H0 (tFor (iRng1 tl) g t) L D := s_forR fun σ G H e Q q => h σ G H e Q fun vs ds G' H' go hd ⟨n, h1, h2, I, h3, h4, h5⟩ => q vs ds G' H' go hd ⟨n, h1, h2, Wk I, h3, fun i L' hi ⟨L3, s, hI⟩ => (h4 i L3 hi hI).sub s, fun L' ⟨L3, s, hI⟩ => h5 L3 hI L' s⟩
theorem s_forTw (h : E K pen H0 te L fun d => ∃ ds, d = .tuple ds ∧ ∃ I : Nat → Lv → Prop, Wk I 0 L ∧ (∀ (i : Nat) x L', ds[i]? = some x → I i L' → GT K pen H0 g x L' fun L2 => S K pen H0 t L2 { D with nx := Wk I (i + 1), ct := Wk I (i + 1), bk := D.nx }) ∧ (∀ L', I ds.length L' → ∀ L4, Sub L' L4 → D.nx L4)) :
    S K pen H0 (tFor (iTup K te) g t) L D := s_forT fun σ G H e Q q => h σ G H e Q fun v d G' H' go hd ⟨ds, h1, I, h3, h4, h5⟩ => q v d G' H' go hd ⟨ds, h1, Wk I, h3, fun i x L' hi ⟨L3, s, hI⟩ => (h4 i x L3 hi hI).sub s, fun L' ⟨L3, s, hI⟩ => h5 L3 hI L' s⟩
theorem s_forLw (h : E K pen H0 te L fun d => ∃ ds, d = .list ds ∧ ∃ I : Nat → Lv → Prop, Wk I 0 L ∧ (∀ (i : Nat) x L', ds[i]? = some x → I i L' → GT K pen H0 g x L' fun L2 => S K pen H0 t L2 { D with nx := Wk I (i + 1), ct := Wk I (i + 1), bk := D.nx }) ∧ (∀ L', I ds.length L' → ∀ L4, Sub L' L4 → D.nx L4)) :
    S K pen H0 (tFor (iList K te) g t) L D := s_forL fun σ G H e Q q => h σ G H e Q fun v d G' H' go hd ⟨ds, h1, I, h3, h4, h5⟩ => q v d G' H' go hd ⟨ds, h1, Wk I, h3, fun i x L' hi ⟨L3, s, hI⟩ => (h4 i x L3 hi hI).sub s, fun L' ⟨L3, s, hI⟩ => h5 L3 hI L' s⟩
/-! ### the law's beginning -/
theorem pen_start {ts : List Addr} {N : Ends} {σ : L2.St} {H1 : Hp} {p c : Addr} {cells : List Int} (hp : H1 p = some (.lst [.ref c, .int 0, .int 0])) (hc : H1 c = some (.lst (cells.map V.int))) (hlen : σ.length = L.length)
    (hL : ∀ (i : Nat) av, L[i]? = some (some av) → av = .pen ∧ σ[i]? = some (some (.ref p))) (hts : ∀ P ∈ ts, GxR.TabG H1 P) (h : S K ⟨some ⟨p, .pen c cells.length⟩, ts⟩ H1 t L { nx := fun _ => False, rt := fun d => d = .bool true }) (q : ∀ H', N.rt (.bl true) H') : t N σ H1 := by
  have ok : POk ⟨some ⟨p, .pen c cells.length⟩, ts⟩ H1 := ⟨fun p' e => by cases e; exact ⟨cells, 0, 0, hp, hc, Int.le_refl _, Int.le_refl _, rfl⟩, hts⟩
  refine h σ (fun _ => none) H1 N ⟨⟨fun a o e => (nomatch e), fun _ _ => rfl, ok⟩, ok, fun _ h => h, hlen, fun i av hi => ?_, fun i j ds es l h1 => ?_⟩ (fun _ _ _ _ _ _ z => z.elim) (fun v d G' H' _ _ hd e => ?_) (fun _ _ _ _ _ _ z => z.elim) (fun _ _ _ _ _ _ z => z.elim) (fun _ _ _ _ _ _ _ z => z.elim)
  · obtain ⟨rfl, e⟩ := hL i av hi
    exact ⟨_, e, _, rfl, rfl⟩
  · cases (hL i _ h1).1
  · subst e
    cases hd
    exact q H'
def spPen (K : PySem.W.Frag) : Sp := fun vs H Q _ => ∃ (a : Addr) (ns : List Int), vs = [.ref a] ∧ SqL K H a (ns.map V.int) ∧
  ∀ (p c : Addr) (cells : List Int) H', H' p = some (.lst [.ref c, .int 0, .int 0]) → H' c = some (.lst (cells.map V.int)) → Q (.ref p) H'
def spLaw (K : PySem.W.Frag) : Sp := fun vs H Q _ => ∃ (a : Addr) (ns : List Int), vs = [.ref a] ∧ SqL K H a (ns.map V.int) ∧ ns.length ≤ 63 ∧ ∀ H', Q (.bl true) H'
theorem cut_ints (ns : List Int) (lo hi : Option Int) : ∃ ms : List Int, cutV (ns.map V.int) lo hi = ms.map V.int := by
  unfold cutV
  exact ⟨_, by rw [← List.map_drop, ← List.map_take]⟩
end
section
variable {P : Program} {w : World} {K : PySem.W.Frag} {mg : Str → Option Value} {base : Heap}
theorem fn_never {α : Type} {ts : List Addr} {k : Nat} {f : Addr} {fd : FuncData} {ps : List Str} {enc : α → List PyData} {res : α → PyData → Prop} : FnOk P w K mg base CX0 k f fd ps (SpX K ts (fun _ : α => False) enc res) :=
  ⟨fun _ _ _ _ ⟨_, _, _, _, z, _⟩ => z.elim, fun _ _ _ _ _ _ _ _ _ _ _ _ _ ⟨_, _, _, _, z, _⟩ => z.elim⟩
end
end Dl
set_option Elab.async false
set_option linter.all false
set_option maxRecDepth 100000
namespace Dl
open PySem PySem.Spec PyProof.Rows L2 _root_.Gx GxR
/-! ### a def whose code object is known -/
structure FunC (K : PySem.W.Frag) (x qual : Str) (st : Stmt) (f : Addr) (fd : FuncData) (c : Addr) : Prop where
  ex : ∃ (oc : Value) (od : Option Addr) (kV doc pm : Value) (an : Option Addr) (ct : Value) (osl : Array (Option Value)),
    fd = PySem.W.fnOf x qual (defArgs st) (defBody st) (defScope st) .none kV doc pm an (.ref c) ct ∧ K.lookup f = some ⟨oc, od, .func fd, osl⟩ ∧ PySem.W.codeIn K (.ref c) qual = true
  kp : PySem.W.keepIn K (.ref f) = true
section
variable {P : Program} {w : World} {K : PySem.W.Frag} {mg : Str → Option Value} {base : Heap}
theorem FunC.plain {x qual : Str} {st : Stmt} {f c : Addr} {fd : FuncData} (F : FunC K x qual st f fd c) : Fun K x qual st f fd := by
  obtain ⟨oc, od, kV, doc, pm, an, ct, osl, e, l, h⟩ := F.ex
  exact ⟨⟨oc, od, kV, doc, pm, an, .ref c, ct, osl, e, l, h⟩, F.kp⟩
theorem funC_mk {x qual : Str} {st : Stmt} {f c : Addr} {oc : Value} {od an : Option Addr} {osl : Array (Option Value)} {kV doc pm ct : Value} (l : K.lookup f = some ⟨oc, od, .func (PySem.W.fnOf x qual (defArgs st) (defBody st) (defScope st) .none kV doc pm an (.ref c) ct), osl⟩)
    (h : PySem.W.codeIn K (.ref c) qual = true) (k : PySem.W.keepIn K (.ref f) = true) : FunC K x qual st f (PySem.W.fnOf x qual (defArgs st) (defBody st) (defScope st) .none kV doc pm an (.ref c) ct) c := ⟨⟨oc, od, kV, doc, pm, an, ct, osl, rfl, l, h⟩, k⟩
theorem FunC.ok {x qual : Str} {st : Stmt} {f c : Addr} {fd : FuncData} {N ps : List Str} {k : Nat} {sp : Sp} (F : FunC K x qual st f fd c) (S : FnScope N ps (defScope st)) (len : ∀ vs H Q E, sp vs H Q E → vs.length = ps.length)
    (hbody : ∀ (A : Around) (outer : List Env) (s : Shared) (H : Hp) (vs : List V) (Q : VK) (E : XK), Room k (A.deeper (envOfC qual (defScope st) s.heap.objs.size f (.ref c))) → sp vs H Q E →
      ∃ t, PSs (cxOf CX0 P w K mg base N qual (defScope st) f (.ref c) A outer s H E).nox (defBody st) t ∧ t { nx := fun _ H' => Q .non H', rt := Q } (L2.start N vs) H) : FnOk P w K mg base CX0 (k + 1) f fd ps sp := by
  obtain ⟨oc, od, kV, doc, pm, an, ct, osl, rfl, lk, hcd⟩ := F.ex
  refine fn_of lk hcd S len fun A outer s H vs Q E hr hsp => ?_
  obtain ⟨t, h, q⟩ := hbody A outer s H vs Q E hr hsp
  exact ⟨t, h.nox, q⟩
/-- a def without the pen, its code object known -/
theorem fnXc {α : Type} {x qual : Str} {st : Stmt} {f c : Addr} {fd : FuncData} {N ps : List Str} {k : Nat} {ts : List Addr} {Wf : α → Prop} {enc : α → List PyData} {res : α → PyData → Prop} (F : FunC K x qual st f fd c) (S0 : FnScope N ps (defScope st)) (hl : ∀ x, Wf x → (enc x).length = ps.length)
    (hbody : ∀ (A : Around) (outer : List Env) (s : Shared) (H : Hp) (E : XK), Room k (A.deeper (envOfC qual (defScope st) s.heap.objs.size f (.ref c))) →
      ∃ t, PSs (cxOf CX0 P w K mg base N qual (defScope st) f (.ref c) A outer s H E).nox (defBody st) t ∧ ∀ x, Wf x → S K ⟨none, ts⟩ H t (st0 N (enc x)) { nx := fun _ => res x .none, rt := res x }) : FnOk P w K mg base CX0 (k + 1) f fd ps (SpX K ts Wf enc res) := by
  refine F.ok S0 (fun vs H Q E h => ?_) (fun A outer s H vs Q E hr h => ?_)
  · obtain ⟨x, G, _, h1, h2, _⟩ := h
    rw [dpa_len h1]
    exact hl x h2
  · obtain ⟨x, G, v, h1, h2, q⟩ := h
    obtain ⟨t, ht, hS⟩ := hbody A outer s H E hr
    refine ⟨t, ht, hS x h2 (L2.start N vs) G H _ (ev_start h1 v) (fun σ' G' H' L' x e' p => ?_) (fun v d G' H' x vw hd p => ?_) (fun _ _ _ _ _ _ z => z.elim) (fun _ _ _ _ _ _ z => z.elim) (fun _ _ _ _ _ _ _ z => z.elim)⟩
    · exact q .non .none G' H' ⟨x.gg, x.nw, fun a o hp e => x.od a o hp (by rw [e]; exact fun z => by cases z) e, e'.vw⟩ .non p
    · exact q v d G' H' ⟨x.gg, x.nw, fun a o hp e => x.od a o hp (by rw [e]; exact fun z => by cases z) e, vw⟩ hd p
end
/-! ### all(..), any(..) by data -/
section
variable {K : PySem.W.Frag} {pn : Option Pn} {ts : List Addr} {H0 : Hp} {L : Lv} {P P' : PyData → Prop} {ta tb tc te ti : TE} {tl tr : TA} {tt : TT} {Tb : Addr} {go : Bool}
/-- the table has grown -/
theorem Go.tab {c : Pc} {G H H' : Hp} (v : Vw c G H) (hT : Tb ∈ c.ts) (h : Tabbed Tb H H') : Go c G H G H' := by
  refine ⟨Same.refl _, fun _ _ => rfl, fun a o n e => ?_, ⟨fun a o e => ?_, v.no, fun p hp => ?_, fun P hP => ?_⟩⟩
  · rw [h.2 a (fun z => n (.inr (by rw [z]; exact hT)))]; exact e
  · rw [h.2 a (fun z => by rw [z, v.no _ (.inr hT)] at e; cases e)]; exact v.vw a o e
  · exact (v.ok.1 p hp).mono fun a o ho e => by rw [h.2 a (fun z => v.ok.apart hp hT (z ▸ ho))]; exact e
  · by_cases z : P = Tb
    · rw [z]; exact h.1
    · obtain ⟨ps, e, t⟩ := v.ok.2 P hP
      exact ⟨ps, by rw [h.2 P z]; exact e, t⟩
/-- one turn of the element, by data: J is kept, or it ends -/
abbrev GnT (K : PySem.W.Frag) (c : Pc) (H0 : Hp) (go : Bool) (tt : TT) (te : TE) (L2 : Lv) (Jn : Prop) (P : PyData → Prop) : Prop :=
  ET K c H0 tt L2 fun b => (b = true → E K c H0 te L2 fun d => ∃ k, d = .bool k ∧ (k = go → Jn) ∧ (k = !go → P (.bool (!go)))) ∧ (b = false → Jn)
theorem gn_turn {c : Pc} {G1 H1 G' H' : Hp} {σ2 : L2.St} {L2 : Lv} {Jn : Prop} {Nx : Hp → Prop} {Q : VK} (g : Go c G1 H1 G' H') (e2 : Ev K c H0 G' H' σ2 L2) (h : GnT K c H0 go tt te L2 Jn P)
    (hN : ∀ G3 H3, Go c G1 H1 G3 H3 → Jn → Nx H3) (q : ∀ v d G' H', Go c G1 H1 G' H' → Dp K G' v d → P d → Q v H') :
    tt σ2 H' fun b H3 => if b = true then te σ2 H3 fun y H4 => YdB go (fun H => Q (.bl (!go)) H) y H4 Nx else Nx H3 := by
  refine h σ2 G' H' e2 _ fun b G3 H3 g3 p => ?_
  cases b with
  | false => exact hN G3 H3 (g.trans g3) (p.2 rfl)
  | true =>
    show te σ2 H3 _
    refine p.1 rfl σ2 G3 H3 (e2.go g3) _ fun y d G4 H4 g4 d4 ⟨k, hk, p1, p2⟩ => ?_
    subst hk
    cases d4
    refine ⟨k, rfl, ?_⟩
    by_cases z : k = go
    · rw [if_pos z]
      exact hN G4 H4 ((g.trans g3).trans g4) (p1 z)
    · rw [if_neg z]
      exact q _ _ G4 H4 ((g.trans g3).trans g4) (.bl _) (p2 (by cases k <;> cases go <;> simp_all))
theorem e_genT {j : Nat} (hT : Tb ∈ ts) (h : E K ⟨pn, ts⟩ H0 ta L fun d => ∃ ds, d = .tuple ds ∧ ∃ J : Nat → Prop, J 0 ∧
    (∀ (i : Nat) x, ds[i]? = some x → J i → GnT K ⟨pn, ts⟩ H0 go tt te ((L.set j none).set j (some (.d x))) (J (i + 1)) P) ∧ (J ds.length → P (.bool go))) :
    E K ⟨pn, ts⟩ H0 (tGen Tb go (iTup K ta) (gName j) tt te [j]) L P := fun σ G H e Q q => h σ G H e _ fun v d G1 H1 gg hd ⟨ds, hds, J, j0, js, je⟩ => by
  subst hds
  cases hd with
  | tup hs ha =>
    rename_i a xs
    refine ⟨a, rfl, ⟨xs, sqT_mono gg.vw.vw hs⟩, gg.vw.ok.2 Tb hT, fun H2 htab => ?_⟩
    have g2 := Go.tab gg.vw hT htab
    refine ⟨fun i m H' => m = ds.length - i ∧ i ≤ ds.length ∧ J i ∧ ∃ G', Go ⟨pn, ts⟩ G1 H2 G' H', ⟨ds.length, rfl, Nat.zero_le _, j0, G1, .refl g2.vw⟩, ?_⟩
    rintro i m H' ⟨rfl, hi, hJ, G', g⟩
    have z1 : SqT K H' a xs := sqT_mono (g.gg.trans g.vw.vw) hs
    have q' : ∀ v d G' H', Go ⟨pn, ts⟩ G1 H2 G' H' → Dp K G' v d → P d → Q v H' := fun v d G' H' g hd p => q v d G' H' ((gg.trans g2).trans g) hd p
    by_cases hlt : i < ds.length
    · obtain ⟨x, hx, dx⟩ := dpa_get ha (List.getElem?_eq_getElem hlt)
      refine .inr ⟨⟨xs, x, z1, hx⟩, fun H3 => J (i + 1) ∧ ∃ G', Go ⟨pn, ts⟩ G1 H2 G' H3, fun H3 ⟨k1, k2⟩ => ⟨ds.length - (i + 1), by omega, rfl, hlt, k1, k2⟩, fun y H3 hy => ?_⟩
      obtain ⟨rfl, hy⟩ := hy
      have e1 : y = x := Option.some.inj ((hy _ z1).symm.trans hx)
      subst e1
      refine ⟨wipe1 _ _ _, ?_⟩
      exact gn_turn g ((ev_wipe1 (((e.go gg).go g2).go g) j).set (dp_mono g.gg _ _ dx)) (js i _ (List.getElem?_eq_getElem hlt) hJ) (fun G3 H3 g3 k => ⟨k, G3, g3⟩) q'
    · have e1 : i = ds.length := by omega
      subst e1
      exact .inl ⟨⟨xs, z1, by rw [dpa_len ha]; exact Nat.le_refl _⟩, q' _ _ G' H' g (.bl _) (je hJ)⟩
theorem e_genL {j : Nat} (hT : Tb ∈ ts) (h : E K ⟨pn, ts⟩ H0 ta L fun d => ∃ ds, d = .list ds ∧ ∃ J : Nat → Prop, J 0 ∧
    (∀ (i : Nat) x, ds[i]? = some x → J i → GnT K ⟨pn, ts⟩ H0 go tt te ((L.set j none).set j (some (.d x))) (J (i + 1)) P) ∧ (J ds.length → P (.bool go))) :
    E K ⟨pn, ts⟩ H0 (tGen Tb go (iList K ta) (gName j) tt te [j]) L P := fun σ G H e Q q => h σ G H e _ fun v d G1 H1 gg hd ⟨ds, hds, J, j0, js, je⟩ => by
  subst hds
  cases hd with
  | lst hs ha =>
    rename_i a xs
    refine ⟨a, rfl, ⟨xs, sqL_mono gg.vw.vw hs⟩, gg.vw.ok.2 Tb hT, fun H2 htab => ?_⟩
    have g2 := Go.tab gg.vw hT htab
    refine ⟨fun i m H' => m = ds.length - i ∧ i ≤ ds.length ∧ J i ∧ ∃ G', Go ⟨pn, ts⟩ G1 H2 G' H', ⟨ds.length, rfl, Nat.zero_le _, j0, G1, .refl g2.vw⟩, ?_⟩
    rintro i m H' ⟨rfl, hi, hJ, G', g⟩
    have z1 : SqL K H' a xs := sqL_mono (g.gg.trans g.vw.vw) hs
    have q' : ∀ v d G' H', Go ⟨pn, ts⟩ G1 H2 G' H' → Dp K G' v d → P d → Q v H' := fun v d G' H' g hd p => q v d G' H' ((gg.trans g2).trans g) hd p
    by_cases hlt : i < ds.length
    · obtain ⟨x, hx, dx⟩ := dpa_get ha (List.getElem?_eq_getElem hlt)
      refine .inr ⟨⟨xs, x, z1, hx⟩, fun H3 => J (i + 1) ∧ ∃ G', Go ⟨pn, ts⟩ G1 H2 G' H3, fun H3 ⟨k1, k2⟩ => ⟨ds.length - (i + 1), by omega, rfl, hlt, k1, k2⟩, fun y H3 hy => ?_⟩
      obtain ⟨rfl, hy⟩ := hy
      have e1 : y = x := Option.some.inj ((hy _ z1).symm.trans hx)
      subst e1
      refine ⟨wipe1 _ _ _, ?_⟩
      exact gn_turn g ((ev_wipe1 (((e.go gg).go g2).go g) j).set (dp_mono g.gg _ _ dx)) (js i _ (List.getElem?_eq_getElem hlt) hJ) (fun G3 H3 g3 k => ⟨k, G3, g3⟩) q'
    · have e1 : i = ds.length := by omega
      subst e1
      exact .inl ⟨⟨xs, z1, by rw [dpa_len ha]; exact Nat.le_refl _⟩, q' _ _ G' H' g (.bl _) (je hJ)⟩
/-- over zip of two tuples of one length -/
theorem e_genZ {j k : Nat} (hT : Tb ∈ ts) (h : EA K ⟨pn, ts⟩ H0 tl L fun ds => ∃ as bs, ds = [.tuple as, .tuple bs] ∧ as.length = bs.length ∧ ∃ J : Nat → Prop, J 0 ∧
    (∀ (i : Nat) x y, as[i]? = some x → bs[i]? = some y → J i → GnT K ⟨pn, ts⟩ H0 go tt te ((((L.set k none).set j none).set j (some (.d x))).set k (some (.d y))) (J (i + 1)) P) ∧ (J as.length → P (.bool go))) :
    E K ⟨pn, ts⟩ H0 (tGen Tb go (RZ.iZipA K tl) (gTup K 2 (gCons (gName j) (gCons (gName k) gNil))) tt te [j, k]) L P := fun σ G H e Q q => h σ G H e _ fun vs ds G1 H1 gg hd ⟨as, bs, hds, hl, J, j0, js, je⟩ => by
  subst hds
  cases hd with
  | cons hd hd2 =>
    cases hd2 with
    | cons hd3 hd4 =>
      cases hd4
      cases hd with
      | tup hs ha =>
        cases hd3 with
        | tup hs' ha' =>
          rename_i a xs a' ys
          refine ⟨a, a', xs, ys, rfl, .inr ⟨sqT_mono gg.vw.vw hs, sqT_mono gg.vw.vw hs', gg.vw.ok.2 Tb hT, fun H2 htab => ?_⟩⟩
          have g2 := Go.tab gg.vw hT htab
          refine ⟨fun i m H' => m = as.length - i ∧ i ≤ as.length ∧ J i ∧ ∃ G', Go ⟨pn, ts⟩ G1 H2 G' H', ⟨as.length, rfl, Nat.zero_le _, j0, G1, .refl g2.vw⟩, ?_⟩
          rintro i m H' ⟨rfl, hi, hJ, G', g⟩
          have z1 : SqT K H' a xs := sqT_mono (g.gg.trans g.vw.vw) hs
          have z2 : SqT K H' a' ys := sqT_mono (g.gg.trans g.vw.vw) hs'
          have q' : ∀ v d G' H', Go ⟨pn, ts⟩ G1 H2 G' H' → Dp K G' v d → P d → Q v H' := fun v d G' H' g hd p => q v d G' H' ((gg.trans g2).trans g) hd p
          by_cases hlt : i < as.length
          · obtain ⟨x, hx, dx⟩ := dpa_get ha (List.getElem?_eq_getElem hlt)
            obtain ⟨y, hy, dy⟩ := dpa_get ha' (List.getElem?_eq_getElem (hl ▸ hlt))
            refine .inr ⟨⟨xs, ys, x, y, z1, z2, hx, hy⟩, fun H3 => J (i + 1) ∧ ∃ G', Go ⟨pn, ts⟩ G1 H2 G' H3, fun H3 ⟨k1, k2⟩ => ⟨as.length - (i + 1), by omega, rfl, hlt, k1, k2⟩, fun v H3 hv => ?_⟩
            obtain ⟨T, x', y', rfl, hT', rfl, f1, f2⟩ := hv
            have e1 : x' = x := Option.some.inj ((f1 _ z1).symm.trans hx)
            have e2 : y' = y := Option.some.inj ((f2 _ z2).symm.trans hy)
            subst e1 e2
            have g3 := Go.new g.vw (o := .tup [x', y']) hT'
            refine ⟨T, [x', y'], rfl, .inl (.inl upd_same), rfl, x', [y'], rfl, y', [], rfl, rfl, wipe2 _ _ _ _ _, ?_⟩
            have ex := (((ev_wipe2 (((e.go gg).go g2).go g) j k).go g3).set (i := j) (dp_mono (g.gg.trans g3.gg) _ _ dx)).set (i := k) (dp_mono (g.gg.trans g3.gg) _ _ dy)
            exact gn_turn (g.trans g3) ex (js i _ _ (List.getElem?_eq_getElem hlt) (List.getElem?_eq_getElem (hl ▸ hlt)) hJ) (fun G3 H3 g3 k => ⟨k, G3, g3⟩) q'
          · have e1 : i = as.length := by omega
            subst e1
            exact .inl ⟨⟨xs, ys, z1, z2, .inl (by rw [dpa_len ha]; exact Nat.le_refl _)⟩, q' _ _ G' H' g (.bl _) (je hJ)⟩
end
end Dl
set_option Elab.async false
set_option linter.all false
set_option maxRecDepth 100000
namespace Dl
open PySem PySem.Spec PyProof.Rows L2
/-! ### dicts with text keys, made and read -/
def DictOk (K : PySem.W.Frag) (G : Hp) (kvs : List (Key × V)) (m : List (Str × PyData)) : Prop := Paired (fun (kv : Key × V) (xd : Str × PyData) => kv.1 = Sum.inr xd.1 ∧ Dp K G kv.2 xd.2) kvs m
theorem dictOk_mono {K : PySem.W.Frag} {G G' : Hp} (e : Same G G') {kvs : List (Key × V)} {m : List (Str × PyData)} (h : DictOk K G kvs m) : DictOk K G' kvs m := Paired.mapP h fun _ _ z => ⟨z.1, dp_mono e _ _ z.2⟩
section
variable (K : PySem.W.Frag) (pen : Pc) (H0 : Hp)
def ED (te : TE) (L : Lv) (P : List (Str × PyData) → Prop) : Prop := ∀ (σ : L2.St) (G H : Hp), Ev K pen H0 G H σ L → ∀ Q : VK, (∀ p kvs m G' H', Go pen G H G' H' → G' p = some (.dK kvs) → DictOk K G' kvs m → P m → Q (.ref p) H') → te σ H Q
def EPs (trs : List (TE × TE)) (L : Lv) (P : List (Str × PyData) → Prop) : Prop := ∀ (σ : L2.St) (G H : Hp), Ev K pen H0 G H σ L → ∀ Q : List (V × V) → Hp → Prop, (∀ ps kvs m G' H', Go pen G H G' H' → ps = kvs.map (fun kv => (kV kv.1, kv.2)) → DictOk K G' kvs m → P m → Q ps H') → tPairs trs σ H Q
end
section
variable {K : PySem.W.Frag} {pen : Pc} {H0 : Hp} {L : Lv} {P : PyData → Prop} {Pm : List (Str × PyData) → Prop} {td ty tk tv : TE} {tl : TA} {trs : List (TE × TE)}
theorem eps_nil (h : Pm []) : EPs K pen H0 [] L Pm := fun σ G H e Q q => q [] [] [] G H (.refl e.vw) rfl .nil h
theorem eps_cons (h : E K pen H0 tk L fun k => ∃ x : Str, k = .str x ∧ E K pen H0 tv L fun d => EPs K pen H0 trs L fun m => Pm ((x, d) :: m)) : EPs K pen H0 ((tk, tv) :: trs) L Pm := fun σ G H e Q q =>
  h σ G H e _ fun v k G1 H1 g1 d1 ⟨x, hx, h1⟩ => by
    subst hx
    cases d1
    refine h1 σ G1 H1 (e.go g1) _ fun u d G2 H2 g2 d2 h2 => ?_
    refine h2 σ G2 H2 (e.go (g1.trans g2)) _ fun ps kvs m G3 H3 g3 hps hm p => ?_
    subst hps
    exact q _ ((Sum.inr x, u) :: kvs) ((x, d) :: m) G3 H3 ((g1.trans g2).trans g3) rfl (.cons ⟨rfl, dp_mono g3.gg _ _ d2⟩ hm) p
theorem dictOk_len {G : Hp} {kvs : List (Key × V)} {m : List (Str × PyData)} (h : DictOk K G kvs m) : kvs.length = m.length := Paired.length h
theorem dictOk_keys {G : Hp} : ∀ {kvs : List (Key × V)} {m : List (Str × PyData)}, DictOk K G kvs m → kvs.map (·.1) = m.map (fun xd => Sum.inr xd.1)
  | _, _, .nil => rfl
  | _, _, .cons h t => by rw [List.map_cons, List.map_cons, h.1, dictOk_keys t]
theorem merge_nodup : ∀ (more acc : List (Key × V)), (acc.map (·.1) ++ more.map (·.1)).Nodup → mergeK acc more = acc ++ more
  | [], acc, _ => by rw [List.append_nil]; rfl
  | kv :: r, acc, h => by
    show mergeK (putK acc kv.1 kv.2) r = acc ++ kv :: r
    have hn : kv.1 ∉ acc.map (·.1) := fun z => by
      rw [List.nodup_append] at h
      exact h.2.2 _ z _ (List.mem_cons_self ..) rfl
    have e : putK acc kv.1 kv.2 = acc ++ [kv] := by
      unfold putK
      rw [if_neg]
      intro z
      obtain ⟨x, hx, hk⟩ := List.any_eq_true.mp z
      exact hn (List.mem_map.mpr ⟨x, hx, of_decide_eq_true hk⟩)
    rw [e, merge_nodup r (acc ++ [kv]) (by rw [List.map_append, List.append_assoc]; exact h), List.append_assoc]
    rfl
theorem ed_disp (h : EPs K pen H0 trs L fun m => m.length ≤ 15 ∧ (m.map (·.1)).Nodup ∧ Pm m) : ED K pen H0 (tDisp trs) L Pm := fun σ G H e Q q p hp => by
  have g0 := Go.hid e.vw (o := .dK []) hp
  refine h σ G _ (e.go g0) _ fun ps kvs m G1 H1 g1 hps hm ⟨h1, h2, h3⟩ => ?_
  have hH : (upd H p (.dK [])) p = some (.dK []) := upd_same
  have np : ¬ IsPn pen p := fun z => e.vw.ok.there z hp
  have k1 : H1 p = some (.dK []) := g1.od p _ np hH
  have gp : G p = none := by
    cases z : G p with
    | none => rfl
    | some o => rw [e.vw.vw _ _ z] at hp; cases hp
  have k2 : G1 p = none := (g1.nw p (by rw [hH]; exact fun z => by cases z)).trans gp
  refine ⟨k1, kvs, hps, by rw [dictOk_len hm]; exact h1, ?_⟩
  have e1 : mergeK [] kvs = kvs := merge_nodup kvs [] (by
    show (kvs.map (·.1)).Nodup
    rw [dictOk_keys hm]
    rw [show (m.map fun xd => (Sum.inr xd.1 : Key)) = (m.map (·.1)).map Sum.inr by rw [List.map_map]; rfl]
    exact List.Pairwise.map _ (fun a b hab z => hab (Sum.inr.inj z)) h2)
  rw [e1]
  have s : Same G1 (upd G1 p (.dK kvs)) := fun a o z => by rw [upd_ne (ne_of_none z k2)]; exact z
  have gm := Go.mut (o := .dK kvs) e.vw hp k2 (g0.trans g1)
  refine q p kvs m (upd G1 p (.dK kvs)) _ ⟨gm.gg.trans s, fun a ha => ?_, gm.od, ⟨fun a o z => ?_, fun a z => ?_, gm.vw.ok⟩⟩ upd_same (dictOk_mono s hm) h3
  · rw [upd_ne (fun z => ha (by rw [z]; exact hp))]; exact gm.nw a ha
  · by_cases y : a = p
    · subst y; rw [upd_same] at z ⊢; exact z
    · rw [upd_ne y] at z; exact gm.vw.vw a o z
  · rw [upd_ne (fun (y : a = p) => np (by rw [← y]; exact z))]; exact gm.vw.no a z
theorem dict_val {G : Hp} (x : Str) : ∀ {kvs : List (Key × V)} {m : List (Str × PyData)}, DictOk K G kvs m → Dp K G ((valV kvs (Sum.inr x)).getD .non) ((m.lookup x).getD .none)
  | _, _, .nil => .non
  | kv :: kvs, (y, d) :: m, .cons h t => by
    obtain ⟨h1, h2⟩ := h
    unfold valV
    rw [List.find?_cons, List.lookup_cons]
    by_cases z : x = y
    · subst z
      rw [h1, decide_eq_true rfl, beq_self_eq_true]
      exact h2
    · have e1 : decide (kv.1 = Sum.inr x) = false := decide_eq_false (by rw [h1]; exact fun q => z (Sum.inr.inj q).symm)
      have e2 : (x == y) = false := beq_eq_false_iff_ne.mpr z
      rw [e1, e2]
      exact dict_val x t
theorem e_dget1 (h : ED K pen H0 td L fun m => E K pen H0 ty L fun k => ∃ x : Str, k = .str x ∧ P ((m.lookup x).getD .none)) : E K pen H0 (tDGet1 td ty) L P := fun σ G H e Q q =>
  h σ G H e _ fun p kvs m G1 H1 g1 hp hm h1 => ⟨p, rfl, .inl ⟨kvs, .inl (g1.vw.vw _ _ hp)⟩, h1 σ G1 H1 (e.go g1) _ fun v k G2 H2 g2 d2 ⟨x, hx, pp⟩ => by
    subst hx
    cases d2
    exact ⟨_, DGet.k (k := Sum.inr x) (g2.vw.vw _ _ (g2.gg _ _ hp)), q _ _ G2 H2 (g1.trans g2) (dict_val x (dictOk_mono g2.gg hm)) pp⟩⟩
/-! defs that tell a dict -/
def SpXD {α : Type} (K : PySem.W.Frag) (ts : List Addr) (Wf : α → Prop) (enc : α → List PyData) (res : α → List (Str × PyData)) : Sp := fun vs H Q _ => ∃ (x : α) (G : Hp), Vw ⟨none, ts⟩ G H ∧ DpAll K G vs (enc x) ∧ Wf x ∧ ∀ p kvs G' H', Go ⟨none, ts⟩ G H G' H' → G' p = some (.dK kvs) → DictOk K G' kvs (res x) → Q (.ref p) H'
theorem ed_callX {α : Type} {pn : Option Pn} {ts : List Addr} {Wf : α → Prop} {enc : α → List PyData} {res : α → List (Str × PyData)} {X : XK} (h : EA K ⟨pn, ts⟩ H0 tl L fun ds => ∃ x, ds = enc x ∧ Wf x ∧ Pm (res x)) : ED K ⟨pn, ts⟩ H0 (tCall (SpXD K ts Wf enc res) [] X tl) L Pm := fun σ G H e Q q =>
  h σ G H e _ fun vs ds G1 H1 go hd ⟨x, hx, h1, h2⟩ => ⟨x, G1, go.vw.plain, by rw [List.append_nil, ← hx]; exact hd, h1, fun p kvs G' H' go2 hp hm => q p kvs _ G' H' (go.trans (go2.lift go.vw)) hp hm h2⟩
end
section
variable {P : Program} {w : World} {K : PySem.W.Frag} {mg : Str → Option Value} {base : Heap}
theorem fnXD {α : Type} {x qual : Str} {st : Stmt} {f : Addr} {fd : FuncData} {N ps : List Str} {k : Nat} {ts : List Addr} {Wf : α → Prop} {enc : α → List PyData} {res : α → List (Str × PyData)} (F : Fun K x qual st f fd) (S0 : FnScope N ps (defScope st)) (hl : ∀ x, Wf x → (enc x).length = ps.length)
    (hbody : ∀ (cdv : Value) (A : Around) (outer : List Env) (s : Shared) (H : Hp) (E : XK), Room k (A.deeper (envOfC qual (defScope st) s.heap.objs.size f cdv)) →
      ∃ t, PSs (cxOf CX0 P w K mg base N qual (defScope st) f cdv A outer s H E).nox (defBody st) (tRet t) ∧ ∀ x, Wf x → ED K ⟨none, ts⟩ H t (st0 N (enc x)) fun m => m = res x) : FnOk P w K mg base CX0 (k + 1) f fd ps (SpXD K ts Wf enc res) := by
  refine F.ok S0 (fun vs H Q E h => ?_) (fun cdv A outer s H vs Q E hr h => ?_)
  · obtain ⟨x, G, _, h1, h2, _⟩ := h
    rw [dpa_len h1]
    exact hl x h2
  · obtain ⟨x, G, v, h1, h2, q⟩ := h
    obtain ⟨t, ht, hS⟩ := hbody cdv A outer s H E hr
    exact ⟨tRet t, ht, hS x h2 (L2.start N vs) G H (ev_start h1 v) _ fun p kvs m G' H' g hp hm e => by subst e; exact q p kvs G' H' g hp hm⟩
end
end Dl
set_option Elab.async false
set_option linter.all false
set_option maxRecDepth 100000
set_option maxHeartbeats 4000000
namespace Dl
open PySem PySem.Spec PyProof.Rows L2
/-! ### xs + ys of lists that are read -/
def rCatL (K : PySem.W.Frag) : R2 := fun x y H Q => ∃ l b xs zs, x = .ref l ∧ y = .ref b ∧ SqL K H l xs ∧ SqL K H b zs ∧ xs.length + zs.length ≤ sizeLine ∧ ∀ p, H p = none → Q (.ref p) (upd H p (.lst (xs ++ zs)))
section
variable {X : Cx}
theorem op_catL : OpR X (binaryOp .Add) (rCatL X.K) := by
  intro pins s σ H x y v u Q I rx ry h
  obtain ⟨l, b, xs, zs, rfl, rfl, hH, hB, hz, q⟩ := h
  cases rx
  cases ry
  obtain ⟨its, r, ⟨⟨cls, dd, data, sl⟩, n, ho, hc, hdd, hd⟩, z⟩ := I.list hH
  obtain ⟨its2, r2, ⟨⟨cls2, dd2, data2, sl2⟩, n2, ho2, hc2, hdd2, hd2⟩, z2⟩ := I.list hB
  simp only at hc hd hc2 hd2
  subst hc hd hc2 hd2
  have hl := r.length
  have hl2 := r2.length
  have ea : its.toArray ++ its2.toArray = (its ++ its2).toArray := by simp
  refine concat_meets ⟨_, ho, rfl⟩ ⟨_, ho2, rfl⟩ noFill_list_add seq_list_add PySem.F.slot_list_add PySem.F.entry_list_add (PySem.F.args_list_add_2 _ _) (list_addW l b its.toArray its2.toArray n n2 dd dd2 sl sl2 (by rw [List.size_toArray, List.size_toArray]; omega)) ⟨ho, ho2, ?_⟩
  rw [ea]
  exact ⟨.ref _, _, I.lnew (t' := s.toks) (r.append r2) (by rw [List.length_append]; omega), rfl, q _ I.fresh⟩
/-! ### a tuple once -/
theorem tuple_mul1 (l : Addr) (items : Array Value) (n : Nat) (dd : Option Addr) (sl : Array (Option Value)) (u : Tok) :
    Meets (Builtin.«tuple.__mul__» ⟨[.ref l, .int 1 u], []⟩) (fun _ R s => s.heap.get? l = some { cls := .type "tuple", dict := dd, data := .seq items n, slots := sl } ∧ R (.ok (.ret (Value.ref l))) s) :=
  .of_wp fun prog w A R s h => by
    obtain ⟨hp, g, d, tk, os⟩ := s
    obtain ⟨hl, h⟩ := h
    have f1 := AutoSeq1.idx_int
    have c0 : (decide ((1 : Int) < -(2 ^ 63)) || decide ((1 : Int) ≥ 2 ^ 63)) = false := by decide
    have c1 : (items.isEmpty || (1 : Int) == 1) = true := by rw [Bool.or_eq_true]; exact .inr rfl
    wp_walk using wpAny_loadPart' hl
    repeat (first
      | (refine wpAny_ite_false (decide_eq_false (by rw [c0]; exact Bool.false_ne_true)) ?_; wp_walk using wpAny_loadPart' hl)
      | (refine wpAny_ite_true (decide_eq_true c1) ?_; wp_walk using wpAny_loadPart' hl))
    exact ⟨_, rfl, h⟩
def rRepA (K : PySem.W.Frag) : R2 := fun x y H Q => ∃ l k xs, x = .ref l ∧ y = .int k ∧ SqT K H l xs ∧ xs ≠ [] ∧ 1 ≤ k ∧ k ≤ 1000 ∧ xs.length ≤ 1000 ∧ (k = 1 → Q (.ref l) H) ∧ (2 ≤ k → ∀ p, H p = none → Q (.ref p) (upd H p (.tup (List.replicate k.toNat xs).flatten)))
theorem op_repA : OpR X (binaryOp .Mult) (rRepA X.K) := by
  intro pins s σ H x y v u Q I rx ry h
  obtain ⟨l, k, xs, rfl, rfl, hT, hne, h1, h2, hz, q1, q2⟩ := h
  by_cases e : k = 1
  · subst e
    cases rx
    obtain ⟨t, rfl⟩ := ry
    obtain ⟨its, r, ⟨⟨cls, dd, data, sl⟩, ho, hc, n, hd⟩, hs⟩ := I.tuple hT
    simp only at hc hd
    subst hc hd
    refine wpAny_binaryOp_repeat_ref (T := "tuple") (U := "int") (by decide) ⟨_, ho, rfl⟩ (fun s' => typeIs_int s' 1 t) noFill_tuple_mul F.fills_int_mul F.slot_int_rmul repeat_tuple F.slot_int_index.lookup
      (call_meets F.slot_int_rmul (typeIs_int s 1 t) F.entry_int_rmul (F.args_int_rmul_2 _ _) (int_rmul_tuple 1 t l its.toArray n dd sl)
        ⟨ho, rfl, ⟨_, ho, rfl⟩, call_meets F.slot_tuple_mul ⟨_, ho, rfl⟩ F.entry_tuple_mul (F.args_tuple_mul_2 _ _) (tuple_mul1 l its.toArray n dd sl t) ⟨ho, ?_⟩⟩)
    exact ⟨.ref l, H, I, rfl, q1 rfl⟩
  · exact op_repT pins s σ H _ _ v u Q I rx ry ⟨l, k, xs, rfl, rfl, hT, hne, by omega, h2, hz, q2 (by omega)⟩
theorem kx_catL {K : PySem.W.Frag} (h : X.K = K) : OpR X (binaryOp .Add) (rCatL K) := by subst h; exact op_catL
theorem kx_repA {K : PySem.W.Frag} (h : X.K = K) : OpR X (binaryOp .Mult) (rRepA K) := by subst h; exact op_repA
end
section
variable {K : PySem.W.Frag} {pen : Pc} {H0 : Hp} {L : Lv} {P : PyData → Prop} {ta te : TE} {tl : TA}
theorem r_catL {as bs : List PyData} (hl : as.length + bs.length ≤ 100000) (p : P (.list (as ++ bs))) : R2d K pen (rCatL K) (.list as) (.list bs) P := fun x y G H v hx hy Q q => by
  cases hx with
  | lst hs ha =>
    cases hy with
    | lst hs' ha' =>
      rename_i a xs a' ys
      refine ⟨a, a', xs, ys, rfl, rfl, sqL_mono v.vw hs, sqL_mono v.vw hs', Nat.le_trans (by rw [dpa_len ha, dpa_len ha']; exact hl) (by decide : 100000 ≤ sizeLine), fun p' hp => ?_⟩
      have g := Go.new v (o := .lst (xs ++ ys)) hp
      exact q _ _ _ _ g (.lst (.inl (.inl upd_same)) (dpa_mono g.gg _ _ (dpa_app ha ha'))) p
theorem dpa_rep {G : Hp} {vs : List V} {ds : List PyData} (h : DpAll K G vs ds) : ∀ n : Nat, DpAll K G (List.replicate n vs).flatten (List.replicate n ds).flatten
  | 0 => .nil
  | n + 1 => by
    rw [List.replicate_succ, List.replicate_succ, List.flatten_cons, List.flatten_cons]
    exact dpa_app h (dpa_rep h n)
theorem r_repA {ds : List PyData} {k : Nat} (h0 : ds ≠ []) (h1 : 1 ≤ k) (h2 : k ≤ 1000) (h3 : ds.length ≤ 1000) (p : P (.tuple (List.replicate k ds).flatten)) : R2d K pen (rRepA K) (.tuple ds) (.int k) P := fun x y G H v hx hy Q q => by
  cases hx with
  | tup hs ha =>
    cases hy
    rename_i a xs
    have hl := dpa_len ha
    refine ⟨a, k, xs, rfl, rfl, sqT_mono v.vw hs, fun z => h0 ?_, by omega, by omega, by omega, fun e => ?_, fun _ p' hp => ?_⟩
    · rw [z] at hl
      exact List.eq_nil_of_length_eq_zero hl.symm
    · have e : k = 1 := by omega
      subst e
      have e1 : (List.replicate 1 ds).flatten = ds := by rw [List.replicate_one, List.flatten_singleton]
      rw [e1] at p
      exact q _ _ G H (.refl v) (.tup hs ha) p
    · have g := Go.new v (o := .tup (List.replicate ((k : Int)).toNat xs).flatten) hp
      exact q _ _ _ _ g (.tup (.inl (.inl upd_same)) (dpa_mono g.gg _ _ (dpa_rep ha k))) p
theorem r_notBl {i j : Bool} (p : P (.bool (!decide (i = j)))) : R2d K pen rNotB (.bool i) (.bool j) P := fun x y G H v hx hy Q q => by
  cases hx
  cases hy
  exact ⟨i, j, rfl, rfl, q _ _ G H (.refl v) (.bl _) p⟩
/-! ### all(f(x) for x in xs) -/
theorem e_allT {pn : Option Pn} {ts : List Addr} {Tb : Addr} {j : Nat} (f : PyData → Bool) (hT : Tb ∈ ts) (h : E K ⟨pn, ts⟩ H0 ta L fun d => ∃ ds, d = .tuple ds ∧ (∀ x ∈ ds, E K ⟨pn, ts⟩ H0 te ((L.set j none).set j (some (.d x))) fun d => d = .bool (f x)) ∧ P (.bool (ds.all f))) :
    E K ⟨pn, ts⟩ H0 (_root_.Gx.tGen Tb true (iTup K ta) (gName j) tYes te [j]) L P := by
  refine e_genT hT (h.mono fun d ⟨ds, e, hx, hp⟩ => ⟨ds, e, fun i => ds.all f = (ds.drop i).all f, rfl, fun i x hi hJ => et_yes ⟨fun _ => (hx x (List.mem_of_getElem? hi)).mono fun d e2 => ⟨f x, e2, fun hk => ?_, fun hk => ?_⟩, fun z => by cases z⟩, fun hJ => ?_⟩)
  · obtain ⟨hlt, hg⟩ := List.getElem?_eq_some_iff.mp hi
    rw [hJ, List.drop_eq_getElem_cons hlt, List.all_cons, hg, hk, Bool.true_and]
  · obtain ⟨hlt, hg⟩ := List.getElem?_eq_some_iff.mp hi
    rw [hJ, List.drop_eq_getElem_cons hlt, List.all_cons, hg, hk] at hp
    exact hp
  · rw [hJ, List.drop_eq_nil_of_le (Nat.le_refl _)] at hp
    exact hp
theorem e_allZ {pn : Option Pn} {ts : List Addr} {Tb : Addr} {j k : Nat} (f : PyData → PyData → Bool) (hT : Tb ∈ ts) (h : EA K ⟨pn, ts⟩ H0 tl L fun ds => ∃ as bs, ds = [.tuple as, .tuple bs] ∧ as.length = bs.length ∧
    (∀ x ∈ as, ∀ y ∈ bs, E K ⟨pn, ts⟩ H0 te ((((L.set k none).set j none).set j (some (.d x))).set k (some (.d y))) fun d => d = .bool (f x y)) ∧ P (.bool ((as.zip bs).all fun p => f p.1 p.2))) :
    E K ⟨pn, ts⟩ H0 (_root_.Gx.tGen Tb true (RZ.iZipA K tl) (gTup K 2 (gCons (gName j) (gCons (gName k) gNil))) tYes te [j, k]) L P := by
  have hm : ∀ {P P' : List PyData → Prop}, EA K ⟨pn, ts⟩ H0 tl L P → (∀ d, P d → P' d) → EA K ⟨pn, ts⟩ H0 tl L P' := fun h k σ G H e Q q => h σ G H e Q fun v d G' H' g hd p => q v d G' H' g hd (k d p)
  refine e_genZ hT (hm h fun d ⟨as, bs, e, hl, hx, hp⟩ => ⟨as, bs, e, hl, fun i => ((as.zip bs).all fun p => f p.1 p.2) = (((as.drop i).zip (bs.drop i)).all fun p => f p.1 p.2), rfl, fun i x y hi hi2 hJ => et_yes ⟨fun _ => (hx x (List.mem_of_getElem? hi) y (List.mem_of_getElem? hi2)).mono fun d e2 => ⟨f x y, e2, fun hk => ?_, fun hk => ?_⟩, fun z => by cases z⟩, fun hJ => ?_⟩)
  · obtain ⟨hlt, hg⟩ := List.getElem?_eq_some_iff.mp hi
    obtain ⟨hlt2, hg2⟩ := List.getElem?_eq_some_iff.mp hi2
    rw [hJ, List.drop_eq_getElem_cons hlt, List.drop_eq_getElem_cons hlt2, List.zip_cons_cons, List.all_cons, hg, hg2, hk, Bool.true_and]
  · obtain ⟨hlt, hg⟩ := List.getElem?_eq_some_iff.mp hi
    obtain ⟨hlt2, hg2⟩ := List.getElem?_eq_some_iff.mp hi2
    rw [hJ, List.drop_eq_getElem_cons hlt, List.drop_eq_getElem_cons hlt2, List.zip_cons_cons, List.all_cons, hg, hg2, hk] at hp
    exact hp
  · rw [hJ, List.drop_eq_nil_of_le (Nat.le_refl _)] at hp
    exact hp
/-! ### [f(x) for x in xs] -/
theorem e_mapT {j : Nat} (f : PyData → PyData) (h : E K pen H0 ta L fun d => ∃ ds, d = .tuple ds ∧ ds.length ≤ 100000 ∧ (∀ x ∈ ds, E K pen H0 te ((L.set j none).set j (some (.d x))) fun d => d = f x) ∧ P (.list (ds.map f))) :
    E K pen H0 (tLc (iTup K ta) (gName j) tYes te [j]) L P := by
  refine e_lcT (h.mono fun d ⟨ds, e, hz, hx, hp⟩ => ⟨ds, e, hz, fun i acc => acc = (ds.take i).map f, rfl, fun i x acc hi hJ => et_yes ⟨fun _ => (hx x (List.mem_of_getElem? hi)).mono fun d e2 => ?_, fun z => by cases z⟩, fun acc hJ => ?_⟩)
  · obtain ⟨hlt, hg⟩ := List.getElem?_eq_some_iff.mp hi
    rw [hJ, e2, List.take_succ_eq_append_getElem hlt, List.map_append, hg]
    rfl
  · rw [hJ, List.take_length]
    exact hp
end
/-! ### the end with tables -/
theorem tabB_of {base : Heap} {mg : Str → Option Value} {c P : Addr} (h : LamX.TabB base mg c P) : GxR.TabB base mg c P := ⟨h.code, h.bm, h.gP⟩
theorem tabG_nil {H : Hp} {P : Addr} (h : H P = some (.tbl #[])) : GxR.TabG H P := ⟨#[], h, trivial⟩
/-- the tables of all defs of the top are empty -/
def AllTabs (q : Program) (K : PySem.W.Frag) (mg : Str → Option Value) (h : Heap) : Prop := ∀ (x : Str) (fa c P : Addr) (o : Obj) (fd : FuncData) (e : Value) (dd : Option Addr) (vs : Array Value) (sl : Array (Option Value)), ((recsOf q).any fun e => e.name == x) = true → mg x = some (.ref fa) →
  K.lookup fa = some o → o.data = .func fd → fd.code = .ref c → K.lookup c = some ⟨e, dd, .fields vs, sl⟩ → vs[11]? = some (.ref P) → h.get? P = some { cls := .none, data := .fields #[] }
theorem walk_ofTabs {l : PySem.W.OpenLaw} {n k : Nat} {q : Program} {loose : List Str} {XP : (Str → Option Value) → Heap → Prop} {YP : World → Heap → Prop} {d : DefRec} {K : Params → PySem.W.Frag} {CX : World → CXT} {x : Str}
    (hn : l.most = some n) (hn2 : n ≤ sizeLine) (hdf : d.params.defaults = []) (hr : Room k callerA) (hY : ∀ (w : World) (h : Heap), YP w h → (K w.params).In h)
    (F : ∀ (w : World) (mg : Str → Option Value) (fa : Addr) (h : Heap), (K w.params).In h → h.Ns mainGlobals mg → mg d.name = some (.ref fa) → AllTabs q (K w.params) mg h → LamX.LawAtS l w (K w.params) (CX w) k n x mg fa h)
    (hCX : ∀ (w : World) (H : Hp) (s : Shared) (e : Value) (s' : Shared), CX w [] H s (fun _ _ _ => False) e s' → False) :
    PySem.W.WalkO q loose XP YP l.row.toRowW d [] (fun f vs => PySem.call f vs) := by
  refine Att.attach_callB hn hdf fun w s₀ s₁ mg mb fa o pm cd doc a vs ns G Y ho hd hcd hmg hobj hints hlen hbits hg => ?_
  have KX := hY w _ Y
  have own : AllTabs q (K w.params) mg s₁.heap := fun x f c P o1 fd1 e dd vs1 sl hrec hx k1 k2 k3 k4 k5 => by
    obtain ⟨dL, hm, hn1⟩ := List.any_eq_true.mp hrec
    obtain ⟨a', o', fd', c', P', h1, h2, h3, h4, h5, h6⟩ := G.T.tab dL hm
    rw [beq_iff_eq.mp hn1, hx] at h1
    cases h1
    rw [KX _ _ k1] at h2
    cases h2
    rw [k2] at h3
    cases h3
    rw [k3] at h4
    cases h4
    obtain ⟨⟨oc, vc, e1, _, e3, e4⟩, hP⟩ := h6
    rw [KX _ _ k4] at e1
    cases e1
    cases e3
    rw [k5] at e4
    cases e4
    exact hP
  obtain ⟨fd, cs, sp, hT, nT, C, hb, hsp, hF⟩ := F w mg fa _ KX G.T.g hmg own
  exact LamX.law_callTs KX G.T.g G.T.b G.T.builtins G.T.nolimit hg hT nT C G.T.bmain hobj hints (Nat.le_trans hlen hn2) hr hF hb (fun H hH hS => hsp H a ns hlen hbits hH hS) fun H e s' => hCX w H s₁ e s'
end Dl
set_option Elab.async false
set_option linter.all false
set_option maxRecDepth 100000
namespace Dl
open PySem PySem.Spec PyProof.Rows L2
/-! ### the law's beginning, with tables -/
theorem tabG_upd {H : Hp} {P l : Addr} {o : HO} (h : GxR.TabG H P) (hn : H l = none) : GxR.TabG (upd H l o) P := by
  obtain ⟨ps, e, t⟩ := h
  exact ⟨ps, by rw [upd_ne (fun z => by rw [z, hn] at e; cases e)]; exact e, t⟩
def spPenT (K : PySem.W.Frag) (ts : List Addr) : Sp := fun vs H Q _ => ∃ (a : Addr) (ns : List Int), vs = [.ref a] ∧ SqL K H a (ns.map V.int) ∧ (∀ P ∈ ts, GxR.TabG H P) ∧
  ∀ (p c : Addr) (cells : List Int) H', H' p = some (.lst [.ref c, .int 0, .int 0]) → H' c = some (.lst (cells.map V.int)) → (∀ P ∈ ts, GxR.TabG H' P) → Q (.ref p) H'
def spLawT (K : PySem.W.Frag) (ts : List Addr) : Sp := fun vs H Q _ => ∃ (a : Addr) (ns : List Int), vs = [.ref a] ∧ SqL K H a (ns.map V.int) ∧ ns.length ≤ 63 ∧ (∀ P ∈ ts, GxR.TabG H P) ∧ ∀ H', Q (.bl true) H'
end Dl
set_option Elab.async false
set_option linter.all false
set_option maxRecDepth 100000
set_option maxHeartbeats 4000000
namespace Dl
open PySem PySem.Spec PyProof.Rows L2
/-! ### sorted(set(t)), t a tuple of ints -/
def rSetI (K : PySem.W.Frag) (w : World) : List V → Hp → VK → Prop := fun xs H Q => ∃ (l : Addr) (ns : List Int), xs = [V.ref l] ∧ SqT K H l (ns.map V.int) ∧ ns.length ≤ 1000 ∧ ∀ p c, H p = none → c ≤ ns.length → Q (.ref p) (upd H p (SetO w p (fun j => decide (j ∈ ns)) c))
section
variable {X : Cx}
theorem cr_setI (hc : X.calm = true) : CallR X (.type "set") (rSetI X.K X.w) := by
  intro pins s σ H xs us Q I r h
  obtain ⟨l, ns, rfl, hl, hz, q⟩ := h
  rw [Vals.ref1 r]
  obtain ⟨its, rv, pt, _⟩ := I.tuple hl
  have hb : (2000 : Nat) < scanBound := by decide +kernel
  refine call_set_tupI (P := X.prog) (w := X.w) ns (I.ok.hd hc) (show s.heap.IsTuple l its.toArray from pt) (by simpa using rv.ints) (by omega) fun h' tk c R hcl kp => ?_
  exact ⟨.ref s.heap.objs.size, _, I.laid (t' := tk) kp (Nat.le_refl _) (setO_new R), rfl, q _ c I.fresh hcl⟩
theorem kx_setI {K : PySem.W.Frag} {w : World} (h : X.K = K) (hw : X.w = w) (hc : X.calm = true) : CallR X (.type "set") (rSetI K w) := by subst h; subst hw; exact cr_setI hc
theorem kx_sortedSet {w : World} (hw : X.w = w) (hc : X.calm = true) : CallR X (.builtin "sorted") (rSortedSet w) := by subst hw; exact cr_sortedSet hc
end
def intsL (l : List Int) : List PyData := l.map .int
theorem dpa_ints {K : PySem.W.Frag} {G : Hp} : ∀ {vs : List V} {ns : List Int}, DpAll K G vs (intsL ns) → vs = ns.map V.int
  | _, [], h => by cases h; rfl
  | _, n :: ns, h => by
    cases h with
    | cons h1 h2 =>
      cases h1
      rw [dpa_ints h2]
      rfl
theorem ints_dpa {K : PySem.W.Frag} {G : Hp} : ∀ ns : List Int, DpAll K G (ns.map V.int) (intsL ns)
  | [] => .nil
  | n :: ns => .cons (.int n) (ints_dpa ns)
section
variable {K : PySem.W.Frag} {pen : Pc} {H0 : Hp} {L : Lv} {P : PyData → Prop} {ta te : TE} {tl : TA} {w : World}
theorem e_sortSet (h : E K pen H0 ta L fun d => ∃ ns : List Int, d = .tuple (intsL ns) ∧ ns.length < 64 ∧ ∀ ms : List Int, ms.Pairwise (· < ·) → (∀ k, k ∈ ms ↔ k ∈ ns) → P (.list (intsL ms))) :
    E K pen H0 (tCB (rSortedSet w) (tCons (tCB (rSetI K w) (tCons ta tNil)) tNil)) L P := fun σ G H e Q q => h σ G H e _ fun v d G1 H1 go hd ⟨ns, hds, hz, hp⟩ => by
  subst hds
  cases hd with
  | tup hs ha =>
    rename_i a xs
    have ex := dpa_ints ha
    subst ex
    refine ⟨a, ns, rfl, sqT_mono go.vw.vw hs, by omega, fun p c hpn hc => ?_⟩
    refine ⟨p, _, c, rfl, upd_same, by omega, fun ms r hm1 hm2 hm3 hr => ?_⟩
    have g2 := Go.hid go.vw (o := SetO w p (fun j => decide (j ∈ ns)) c) hpn
    have g3 := Go.new g2.vw (o := .lst (ms.map V.int)) hr
    exact q _ _ _ _ ((go.trans g2).trans g3) (.lst (.inl (.inl upd_same)) (ints_dpa ms)) (hp ms hm1 fun k => by rw [hm2 k, decide_eq_true_eq])
/-! ### k in t, k not in t, t a tuple of ints -/
theorem inV_ints (k : Int) (ns : List Int) : inV (.int k) (ns.map V.int) = decide (k ∈ ns) := by
  unfold inV
  rw [List.any_map]
  have e : ((fun y => eqV y (V.int k)) ∘ V.int) = fun n : Int => decide (n = k) := by
    funext n
    rfl
  rw [e]
  by_cases h : k ∈ ns
  · rw [decide_eq_true h, List.any_eq_true]
    exact ⟨k, h, decide_eq_true rfl⟩
  · rw [decide_eq_false h, List.any_eq_false]
    intro n hn z
    exact h (of_decide_eq_true z ▸ hn)
theorem r_inI {k : Int} {ns : List Int} (p : P (.bool (decide (k ∈ ns)))) : R2d K pen (rIn K false) (.int k) (.tuple (intsL ns)) P := fun x y G H v hx hy Q q => by
  cases hx
  cases hy with
  | tup hs ha =>
    rename_i a xs
    have ex := dpa_ints ha
    subst ex
    refine ⟨a, _, rfl, .inr (sqT_mono v.vw hs), rfl, ?_, ?_⟩
    · rw [List.all_eq_true]
      intro z hz
      obtain ⟨n, _, rfl⟩ := List.mem_map.mp hz
      rfl
    · rw [if_neg Bool.false_ne_true, inV_ints]
      exact q _ _ G H (.refl v) (.bl _) p
theorem r_notInI {k : Int} {ns : List Int} (p : P (.bool (!decide (k ∈ ns)))) : R2d K pen (rIn K true) (.int k) (.tuple (intsL ns)) P := fun x y G H v hx hy Q q => by
  cases hx
  cases hy with
  | tup hs ha =>
    rename_i a xs
    have ex := dpa_ints ha
    subst ex
    refine ⟨a, _, rfl, .inr (sqT_mono v.vw hs), rfl, ?_, ?_⟩
    · rw [List.all_eq_true]
      intro z hz
      obtain ⟨n, _, rfl⟩ := List.mem_map.mp hz
      rfl
    · rw [if_pos rfl, inV_ints]
      exact q _ _ G H (.refl v) (.bl _) p
end
end Dl
set_option Elab.async false
set_option linter.all false
set_option maxRecDepth 100000
set_option maxHeartbeats 4000000
namespace Dl
open PySem PySem.Spec PyProof.Rows L2
/-! ### t == () -/
def rEqNil (K : PySem.W.Frag) : R2 := fun x y H Q => ∃ a b xs, x = .ref a ∧ y = .ref b ∧ SqT K H a xs ∧ SqT K H b [] ∧ Q (.bl (decide (xs.length = 0))) H
section
variable {X : Cx}
theorem op_eqNil {k : Nat} (hr : Room k X.A) : OpR X (compareOp .Eq) (rEqNil X.K) := by
  intro pins s σ H x y v u Q I rx ry h
  obtain ⟨a, b, xs, rfl, rfl, ha, hb, q⟩ := h
  cases rx
  cases ry
  obtain ⟨its, r1, p1, _⟩ := I.tuple ha
  obtain ⟨its2, r2, p2, _⟩ := I.tuple hb
  have l1 := r1.length
  cases r2
  refine SeqAt.eq_tupleAt (e := fun _ => true) (show s.heap.IsTuple a its.toArray from p1) (show s.heap.IsTuple b #[] from p2) (Nat.lt_of_le_of_lt (Nat.le_add_right _ _) hr.units) (fun j _ h2 => absurd h2 (Nat.not_lt_zero _)) ?_
  refine ⟨.bl (decide (xs.length = 0)), H, I, ?_, q⟩
  show Value.bool _ = Value.bool _
  congr 1
  rw [show min its.toArray.size (#[] : Array Value).size = 0 from Nat.min_zero _]
  show (true && (its.toArray.size == 0)) = _
  rw [Bool.true_and, List.size_toArray, ← l1, Bool.eq_iff_iff, beq_iff_eq, decide_eq_true_eq]
theorem kx_eqNil {K : PySem.W.Frag} {k : Nat} (h : X.K = K) (hr : Room k X.A) : OpR X (compareOp .Eq) (rEqNil K) := by subst h; exact op_eqNil hr
end
section
variable {K : PySem.W.Frag} {pen : Pc} {H0 : Hp} {L : Lv} {P : PyData → Prop} {td ty ta te : TE} {tl : TA}
theorem r_eqNil {ds : List PyData} (p : P (.bool (decide (ds.length = 0)))) : R2d K pen (rEqNil K) (.tuple ds) (.tuple []) P := fun x y G H v hx hy Q q => by
  cases hx with
  | tup hs ha =>
    cases hy with
    | tup hs' ha' =>
      rename_i a xs a' ys
      cases ha'
      refine ⟨a, a', xs, rfl, rfl, sqT_mono v.vw hs, sqT_mono v.vw hs', ?_⟩
      rw [dpa_len ha]
      exact q _ _ G H (.refl v) (.bl _) p
/-! ### d[k] -/
theorem dict_some {G : Hp} (x : Str) {d : PyData} : ∀ {kvs : List (Key × V)} {m : List (Str × PyData)}, DictOk K G kvs m → m.lookup x = some d → ∃ v, valV kvs (Sum.inr x) = some v ∧ Dp K G v d
  | _, _, .nil, e => by cases e
  | kv :: kvs, (y, d') :: m, .cons h t, e => by
    obtain ⟨h1, h2⟩ := h
    unfold valV
    rw [List.find?_cons]
    rw [List.lookup_cons] at e
    by_cases z : x = y
    · subst z
      rw [beq_self_eq_true] at e
      cases e
      rw [h1, decide_eq_true rfl]
      exact ⟨_, rfl, h2⟩
    · rw [beq_eq_false_iff_ne.mpr z] at e
      rw [decide_eq_false (by rw [h1]; exact fun q => z (Sum.inr.inj q).symm)]
      exact dict_some x t e
theorem e_dget (h : ED K pen H0 td L fun m => E K pen H0 ty L fun k => ∃ x : Str, k = .str x ∧ ∃ d, m.lookup x = some d ∧ P d) : E K pen H0 (tDGet td ty) L P := fun σ G H e Q q =>
  h σ G H e _ fun p kvs m G1 H1 g1 hp hm h1 => h1 σ G1 H1 (e.go g1) _ fun v k G2 H2 g2 d2 ⟨x, hx, d, hd, pp⟩ => by
    subst hx
    cases d2
    obtain ⟨u, hu, du⟩ := dict_some x (dictOk_mono g2.gg hm) hd
    exact ⟨p, u, rfl, by rw [← hu]; exact DGet.k (k := Sum.inr x) (g2.vw.vw _ _ (g2.gg _ _ hp)), q _ _ G2 H2 (g1.trans g2) du pp⟩
/-! ### texts -/
def strsL (l : List Str) : List PyData := l.map .str
theorem dpa_strs {G : Hp} : ∀ {vs : List V} {ns : List Str}, DpAll K G vs (strsL ns) → vs = ns.map V.str
  | _, [], h => by cases h; rfl
  | _, n :: ns, h => by
    cases h with
    | cons h1 h2 =>
      cases h1
      rw [dpa_strs h2]
      rfl
theorem inV_strs (k : Str) (ns : List Str) : inV (.str k) (ns.map V.str) = decide (k ∈ ns) := by
  unfold inV
  rw [List.any_map]
  by_cases h : k ∈ ns
  · rw [decide_eq_true h, List.any_eq_true]
    exact ⟨k, h, show (k == k) = true from beq_self_eq_true k⟩
  · rw [decide_eq_false h, List.any_eq_false]
    intro n hn z
    have z : (n == k) = true := z
    exact h (beq_iff_eq.mp z ▸ hn)
theorem flat_strs (ns : List Str) : (ns.map V.str).all flatV = true := by
  rw [List.all_eq_true]
  intro x hx
  obtain ⟨b, _, rfl⟩ := List.mem_map.mp hx
  rfl
theorem r_inS {k : Str} {ns : List Str} (p : P (.bool (decide (k ∈ ns)))) : R2d K pen (rIn K false) (.str k) (.tuple (strsL ns)) P := fun x y G H v hx hy Q q => by
  cases hx
  cases hy with
  | tup hs ha =>
    have ex := dpa_strs ha
    subst ex
    refine ⟨_, _, rfl, .inr (sqT_mono v.vw hs), rfl, flat_strs ns, ?_⟩
    rw [if_neg Bool.false_ne_true, inV_strs]
    exact q _ _ G H (.refl v) (.bl _) p
theorem r_notInS {k : Str} {ns : List Str} (p : P (.bool (!decide (k ∈ ns)))) : R2d K pen (rIn K true) (.str k) (.tuple (strsL ns)) P := fun x y G H v hx hy Q q => by
  cases hx
  cases hy with
  | tup hs ha =>
    have ex := dpa_strs ha
    subst ex
    refine ⟨_, _, rfl, .inr (sqT_mono v.vw hs), rfl, flat_strs ns, ?_⟩
    rw [if_pos rfl, inV_strs]
    exact q _ _ G H (.refl v) (.bl _) p
theorem r_addS {i j : Str} (h : i.length + j.length ≤ 100000) (p : P (.str (i ++ j))) : R2d K pen (fun x y H Q => ∃ i j, x = .str i ∧ y = .str j ∧ i.length + j.length ≤ sizeLine ∧ Q (.str (i ++ j)) H) (.str i) (.str j) P := fun x y G H v hx hy Q q => by
  cases hx
  cases hy
  exact ⟨i, j, rfl, rfl, Nat.le_trans h (by decide : 100000 ≤ sizeLine), q _ _ G H (.refl v) (.str _) p⟩
theorem r_slS {z : Str} {lo hi : Option Int} (h : z.length ≤ 100000) (p : P (.str (cutS z lo hi))) : RSd K pen rSlS (.str z) lo hi P := fun x G H v hx Q q => by
  cases hx
  exact ⟨z, rfl, Nat.le_trans h (by decide : 100000 ≤ sizeLine), q _ _ G H (.refl v) (.str _) p⟩
theorem e_upper (h : E K pen H0 te L fun d => ∃ z : Str, d = .str z ∧ z.length ≤ 100000 ∧ P (.str (Txt.upper z))) : E K pen H0 (tM0 (fun x xs H Q => ∃ a, x = .str a ∧ xs = [] ∧ a.length ≤ 5592405 ∧ Q (.str (Txt.upper a)) H) te) L P := fun σ G H e Q q =>
  h σ G H e _ fun v d G1 H1 go hd ⟨z, hz, hl, p⟩ => by
    subst hz
    cases hd
    exact ⟨⟨z, rfl⟩, z, rfl, rfl, Nat.le_trans hl (by decide), q _ _ G1 H1 go (.str _) p⟩
theorem c_strI {i : Int} (h : i.natAbs.log2 < 1920) (p : P (.str (toString i))) : RCd K pen (fun xs H Q => ∃ i, xs = [.int i] ∧ i.natAbs.log2 < 1920 ∧ Q (.str (toString i)) H) [.int i] P := fun vs G H v hv Q q => by
  cases hv with
  | cons h1 h2 =>
    cases h2
    cases h1
    exact ⟨i, rfl, h, q _ _ G H (.refl v) (.str _) p⟩
theorem r_neg {i : Int} (p : P (.int (-i))) : RUd K pen (rU fun i => .int (-i)) (.int i) P := fun x G H v hx Q q => by
  cases hx
  exact ⟨i, rfl, q _ _ G H (.refl v) (.int _) p⟩
theorem cutS_len (z : Str) (lo hi : Option Int) : (cutS z lo hi).length ≤ z.length := by
  show (((z.cps.toList.drop _).take _).toArray).size ≤ z.cps.size
  rw [List.size_toArray, List.length_take, List.length_drop, Array.length_toList]
  omega
theorem e_mapL {j : Nat} (f : PyData → PyData) (h : E K pen H0 ta L fun d => ∃ ds, d = .list ds ∧ ds.length ≤ 100000 ∧ (∀ x ∈ ds, E K pen H0 te ((L.set j none).set j (some (.d x))) fun d => d = f x) ∧ P (.list (ds.map f))) :
    E K pen H0 (tLc (iList K ta) (gName j) tYes te [j]) L P := by
  refine e_lcL (h.mono fun d ⟨ds, e, hz, hx, hp⟩ => ⟨ds, e, hz, fun i acc => acc = (ds.take i).map f, rfl, fun i x acc hi hJ => et_yes ⟨fun _ => (hx x (List.mem_of_getElem? hi)).mono fun d e2 => ?_, fun z => by cases z⟩, fun acc hJ => ?_⟩)
  · obtain ⟨hlt, hg⟩ := List.getElem?_eq_some_iff.mp hi
    rw [hJ, e2, List.take_succ_eq_append_getElem hlt, List.map_append, hg]
    rfl
  · rw [hJ, List.take_length]
    exact hp
end
end Dl
set_option Elab.async false
set_option linter.all false
set_option maxRecDepth 100000
set_option maxHeartbeats 4000000
namespace Dl
open PySem PySem.Spec PyProof.Rows L2
/-! ### what is walked, by its items -/
def Wlk (K : PySem.W.Frag) (pen : Pc) (J : It) (G1 : Hp) (xs : List PyData) : Prop := ∀ G' H', Same G1 G' → Vw pen G' H' →
  (∀ (i : Nat) x, xs[i]? = some x → J.go i H' ∧ ∀ v H2, J.yld i H' v H2 → ∃ G2, Go pen G' H' G2 H2 ∧ Dp K G2 v x) ∧ J.stop xs.length H'
def IT (K : PySem.W.Frag) (pen : Pc) (H0 : Hp) (ti : TI) (L : Lv) (P : List PyData → Prop) : Prop := ∀ (σ : L2.St) (G H : Hp), Ev K pen H0 G H σ L → ∀ R : It → Hp → Prop, (∀ J G1 H1 xs, Go pen G H G1 H1 → Wlk K pen J G1 xs → P xs → R J H1) → ti σ H R
section
variable {K : PySem.W.Frag} {pen : Pc} {H0 : Hp} {L : Lv} {P : List PyData → Prop} {Pd : PyData → Prop} {te ta : TE} {tl : TA} {ti : TI} {tt : TT} {t : TS} {D : Dn} {g : TG} {gs : TGs}
theorem IT.mono {P' : List PyData → Prop} (h : IT K pen H0 ti L P) (k : ∀ d, P d → P' d) : IT K pen H0 ti L P' := fun σ G H e R r => h σ G H e R fun J G1 H1 xs g w p => r J G1 H1 xs g w (k xs p)
theorem it_list (h : E K pen H0 te L fun d => ∃ ds, d = .list ds ∧ P ds) : IT K pen H0 (iList K te) L P := fun σ G H e R r => h σ G H e _ fun v d G1 H1 go hd ⟨ds, hds, p⟩ => by
  subst hds
  cases hd with
  | lst hs ha =>
    rename_i a xs
    refine ⟨a, rfl, ⟨xs, sqL_mono go.vw.vw hs⟩, r _ G1 H1 ds go (fun G' H' s v => ⟨fun i x hx => ?_, ?_⟩) p⟩
    · have z := sqL_mono (s.trans v.vw) hs
      obtain ⟨y, hy, dy⟩ := dpa_get ha hx
      refine ⟨⟨xs, y, z, hy⟩, fun w H2 hw => ?_⟩
      obtain ⟨rfl, f⟩ := hw
      have e1 : w = y := Option.some.inj ((f _ z).symm.trans hy)
      subst e1
      exact ⟨G', .refl v, dp_mono s _ _ dy⟩
    · exact ⟨xs, sqL_mono (s.trans v.vw) hs, by rw [dpa_len ha]; exact Nat.le_refl _⟩
theorem it_tup (h : E K pen H0 te L fun d => ∃ ds, d = .tuple ds ∧ P ds) : IT K pen H0 (iTup K te) L P := fun σ G H e R r => h σ G H e _ fun v d G1 H1 go hd ⟨ds, hds, p⟩ => by
  subst hds
  cases hd with
  | tup hs ha =>
    rename_i a xs
    refine ⟨a, rfl, ⟨xs, sqT_mono go.vw.vw hs⟩, r _ G1 H1 ds go (fun G' H' s v => ⟨fun i x hx => ?_, ?_⟩) p⟩
    · have z := sqT_mono (s.trans v.vw) hs
      obtain ⟨y, hy, dy⟩ := dpa_get ha hx
      refine ⟨⟨xs, y, z, hy⟩, fun w H2 hw => ?_⟩
      obtain ⟨rfl, f⟩ := hw
      have e1 : w = y := Option.some.inj ((f _ z).symm.trans hy)
      subst e1
      exact ⟨G', .refl v, dp_mono s _ _ dy⟩
    · exact ⟨xs, sqT_mono (s.trans v.vw) hs, by rw [dpa_len ha]; exact Nat.le_refl _⟩
/-- lo, lo + 1, .., n of them -/
def rngL (lo : Int) (n : Nat) : List PyData := (List.range n).map fun i => .int (lo + (i : Nat))
theorem rngL_len (lo : Int) (n : Nat) : (rngL lo n).length = n := by unfold rngL; rw [List.length_map, List.length_range]
theorem rngL_get {lo : Int} {n i : Nat} {x : PyData} (h : (rngL lo n)[i]? = some x) : i < n ∧ x = .int (lo + i) := by
  have hi : i < n := by
    have := (List.getElem?_eq_some_iff.mp h).1
    rw [rngL_len] at this; exact this
  refine ⟨hi, ?_⟩
  unfold rngL at h
  rw [List.getElem?_map, List.getElem?_range hi] at h
  exact (Option.some.inj h).symm
theorem wlk_rng (lo : Int) (n : Nat) (G : Hp) : Wlk K pen (Itr lo n) G (rngL lo n) := fun G' H' s v => ⟨fun i x hx => by
    obtain ⟨hi, rfl⟩ := rngL_get hx
    refine ⟨hi, fun w H2 hw => ?_⟩
    obtain ⟨rfl, rfl⟩ := hw
    exact ⟨G', .refl v, .int _⟩, by rw [rngL_len]; exact Nat.le_refl _⟩
theorem it_rng (h : EA K pen H0 tl L fun ds => ∃ j : Int, ds = [.int j] ∧ -(2 ^ 62) ≤ j ∧ j < 2 ^ 62 ∧ P (rngL 0 j.toNat)) : IT K pen H0 (iRng1 tl) L P := fun σ G H e R r => h σ G H e _ fun vs ds G1 H1 go hd ⟨j, hds, h1, h2, p⟩ => by
  subst hds
  cases hd with
  | cons hd hd2 =>
    cases hd2
    cases hd
    exact ⟨j, rfl, h1, h2, r _ G1 H1 _ go (wlk_rng _ _ _) p⟩
theorem it_rng2 (h : EA K pen H0 tl L fun ds => ∃ i j : Int, ds = [.int i, .int j] ∧ (-(2 ^ 62) ≤ i ∧ i < 2 ^ 62 ∧ -(2 ^ 62) ≤ j ∧ j < 2 ^ 62) ∧ P (rngL i (j - i).toNat)) : IT K pen H0 (iRng2 tl) L P := fun σ G H e R r => h σ G H e _ fun vs ds G1 H1 go hd ⟨i, j, hds, h1, p⟩ => by
  subst hds
  cases hd with
  | cons hd hd2 =>
    cases hd2 with
    | cons hd3 hd4 =>
      cases hd4
      cases hd
      cases hd3
      exact ⟨i, j, rfl, h1, r _ G1 H1 _ go (wlk_rng _ _ _) p⟩
/-- enumerate(list) -/
def enumL (ds : List PyData) : List PyData := ds.mapIdx fun i x => .tuple [.int (i : Nat), x]
theorem enumL_get {ds : List PyData} {i : Nat} {x : PyData} (h : (enumL ds)[i]? = some x) : ∃ y, ds[i]? = some y ∧ x = .tuple [.int (i : Nat), y] := by
  unfold enumL at h
  rw [List.getElem?_mapIdx] at h
  cases e : ds[i]? with
  | none => rw [e] at h; cases h
  | some y => rw [e] at h; exact ⟨y, rfl, (Option.some.inj h).symm⟩
theorem enumL_len (ds : List PyData) : (enumL ds).length = ds.length := by unfold enumL; rw [List.length_mapIdx]
theorem it_enum (h : EA K pen H0 tl L fun es => ∃ ds, es = [.list ds] ∧ P (enumL ds)) : IT K pen H0 (iEnum K tl) L P := fun σ G H e R r => h σ G H e _ fun vs es G1 H1 go hd ⟨ds, hds, p⟩ => by
  subst hds
  cases hd with
  | cons hd hd2 =>
    cases hd2
    cases hd with
    | lst hs ha =>
      rename_i a xs
      refine ⟨a, xs, rfl, sqL_mono go.vw.vw hs, r _ G1 H1 _ go (fun G' H' s v => ⟨fun i x hx => ?_, ?_⟩) p⟩
      · have z := sqL_mono (s.trans v.vw) hs
        obtain ⟨y', hy', rfl⟩ := enumL_get hx
        obtain ⟨y, hy, dy⟩ := dpa_get ha hy'
        refine ⟨⟨xs, y, z, hy⟩, fun w H2 hw => ?_⟩
        obtain ⟨T, u, rfl, hT, rfl, f⟩ := hw
        have e1 : u = y := Option.some.inj ((f _ z).symm.trans hy)
        subst e1
        have g2 := Go.new v (o := .tup [.int (i : Nat), u]) hT
        exact ⟨_, g2, .tup (.inl (.inl upd_same)) (.cons (.int _) (.cons (dp_mono (s.trans g2.gg) _ _ dy) .nil))⟩
      · exact ⟨xs, sqL_mono (s.trans v.vw) hs, by rw [dpa_len ha, enumL_len]; exact Nat.le_refl _⟩
/-- zip -/
def zipL (as bs : List PyData) : List PyData := (as.zip bs).map fun p => .tuple [p.1, p.2]
theorem zipL_len (as bs : List PyData) : (zipL as bs).length = min as.length bs.length := by unfold zipL; rw [List.length_map, List.length_zip]
theorem zipL_get {as bs : List PyData} {i : Nat} {x : PyData} (h : (zipL as bs)[i]? = some x) : ∃ a b, as[i]? = some a ∧ bs[i]? = some b ∧ x = .tuple [a, b] := by
  unfold zipL at h
  rw [List.getElem?_map] at h
  cases e : (as.zip bs)[i]? with
  | none => rw [e] at h; cases h
  | some y =>
    rw [e] at h
    obtain ⟨h1, h2⟩ := List.getElem?_zip_eq_some.mp e
    exact ⟨y.1, y.2, h1, h2, (Option.some.inj h).symm⟩
theorem it_zip (h : EA K pen H0 tl L fun es => ∃ as bs, (es = [.tuple as, .tuple bs] ∨ es = [.list as, .list bs]) ∧ P (zipL as bs)) : IT K pen H0 (RZ.iZipA K tl) L P := fun σ G H e R r => h σ G H e _ fun vs es G1 H1 go hd ⟨as, bs, hds, p⟩ => by
  rcases hds with rfl | rfl
  · cases hd with
    | cons hd hd2 =>
      cases hd2 with
      | cons hd3 hd4 =>
        cases hd4
        cases hd with
        | tup hs ha =>
          cases hd3 with
          | tup hs' ha' =>
            rename_i a xs a' ys
            refine ⟨a, a', xs, ys, rfl, .inr ⟨sqT_mono go.vw.vw hs, sqT_mono go.vw.vw hs', r _ G1 H1 _ go (fun G' H' s v => ⟨fun i x hx => ?_, ?_⟩) p⟩⟩
            · have z := sqT_mono (s.trans v.vw) hs
              have z' := sqT_mono (s.trans v.vw) hs'
              obtain ⟨x1, x2, hx1, hx2, rfl⟩ := zipL_get hx
              obtain ⟨y1, hy1, dy1⟩ := dpa_get ha hx1
              obtain ⟨y2, hy2, dy2⟩ := dpa_get ha' hx2
              refine ⟨⟨xs, ys, y1, y2, z, z', hy1, hy2⟩, fun w H2 hw => ?_⟩
              obtain ⟨T, u1, u2, rfl, hT, rfl, f1, f2⟩ := hw
              have e1 : u1 = y1 := Option.some.inj ((f1 _ z).symm.trans hy1)
              have e2 : u2 = y2 := Option.some.inj ((f2 _ z').symm.trans hy2)
              subst e1 e2
              have g2 := Go.new v (o := .tup [u1, u2]) hT
              exact ⟨_, g2, .tup (.inl (.inl upd_same)) (.cons (dp_mono (s.trans g2.gg) _ _ dy1) (.cons (dp_mono (s.trans g2.gg) _ _ dy2) .nil))⟩
            · refine ⟨xs, ys, sqT_mono (s.trans v.vw) hs, sqT_mono (s.trans v.vw) hs', ?_⟩
              rw [dpa_len ha, dpa_len ha', zipL_len]
              omega
  · cases hd with
    | cons hd hd2 =>
      cases hd2 with
      | cons hd3 hd4 =>
        cases hd4
        cases hd with
        | lst hs ha =>
          cases hd3 with
          | lst hs' ha' =>
            rename_i a xs a' ys
            refine ⟨a, a', xs, ys, rfl, .inl ⟨sqL_mono go.vw.vw hs, sqL_mono go.vw.vw hs', r _ G1 H1 _ go (fun G' H' s v => ⟨fun i x hx => ?_, ?_⟩) p⟩⟩
            · have z := sqL_mono (s.trans v.vw) hs
              have z' := sqL_mono (s.trans v.vw) hs'
              obtain ⟨x1, x2, hx1, hx2, rfl⟩ := zipL_get hx
              obtain ⟨y1, hy1, dy1⟩ := dpa_get ha hx1
              obtain ⟨y2, hy2, dy2⟩ := dpa_get ha' hx2
              refine ⟨⟨xs, ys, y1, y2, z, z', hy1, hy2⟩, fun w H2 hw => ?_⟩
              obtain ⟨T, u1, u2, rfl, hT, rfl, f1, f2⟩ := hw
              have e1 : u1 = y1 := Option.some.inj ((f1 _ z).symm.trans hy1)
              have e2 : u2 = y2 := Option.some.inj ((f2 _ z').symm.trans hy2)
              subst e1 e2
              have g2 := Go.new v (o := .tup [u1, u2]) hT
              exact ⟨_, g2, .tup (.inl (.inl upd_same)) (.cons (dp_mono (s.trans g2.gg) _ _ dy1) (.cons (dp_mono (s.trans g2.gg) _ _ dy2) .nil))⟩
            · refine ⟨xs, ys, sqL_mono (s.trans v.vw) hs, sqL_mono (s.trans v.vw) hs', ?_⟩
              rw [dpa_len ha, dpa_len ha', zipL_len]
              omega
/-! ### for, over anything that is walked -/
theorem s_forI (h : IT K pen H0 ti L fun xs => ∃ I : Nat → Lv → Prop, Wk I 0 L ∧ (∀ (i : Nat) x L', xs[i]? = some x → I i L' → GT K pen H0 g x L' fun L2 => S K pen H0 t L2 { D with nx := Wk I (i + 1), ct := Wk I (i + 1), bk := D.nx }) ∧ (∀ L', I xs.length L' → ∀ L4, Sub L' L4 → D.nx L4)) :
    S K pen H0 (tFor ti g t) L D := fun σ G H N e n1 n2 n3 n4 n5 => h σ G H e _ fun J G1 H1 xs go w ⟨I, i0, is, id⟩ => by
  have x1 := e.gx go
  refine ⟨fun i m σ' H' => m = xs.length - i ∧ i ≤ xs.length ∧ ∃ G' L', Gx pen H0 G1 H1 G' H' ∧ Ev K pen H0 G' H' σ' L' ∧ I i L', ⟨xs.length, rfl, Nat.zero_le _, ?_⟩, ?_⟩
  · obtain ⟨L3, s, hI⟩ := i0
    exact ⟨G1, L3, .refl, (e.go go).sub s, hI⟩
  rintro i m σ1 H2 ⟨rfl, hi, G2, L2, x2, e2, q2⟩
  obtain ⟨w1, w2⟩ := w G2 H2 x2.gg e2.vw
  by_cases hlt : i < xs.length
  · obtain ⟨k1, k2⟩ := w1 i _ (List.getElem?_eq_getElem hlt)
    refine .inr ⟨k1, fun σ' H' => ∃ G' L', Gx pen H0 G1 H1 G' H' ∧ Ev K pen H0 G' H' σ' L' ∧ Wk I (i + 1) L', fun σ' H' ⟨G', L', a, b, L3, s, c⟩ => ⟨xs.length - (i + 1), by omega, rfl, hlt, G', L3, a, b.sub s, c⟩, fun v H3 hy => ?_⟩
    obtain ⟨G3, g3, d3⟩ := k2 v H3 hy
    have x3 := x2.trans (e2.gx g3)
    refine is i _ L2 (List.getElem?_eq_getElem hlt) q2 σ1 G3 H3 v (e2.go g3) d3 _ fun σ4 L4 e4 h4 => ?_
    exact h4 σ4 G3 H3 _ e4 (fun σ5 G5 H5 L5 x5 e5 q5 => ⟨G5, L5, x3.trans x5, e5, q5⟩) (fun v d G5 H5 x5 vw hd q5 => n2 v d G5 H5 (x1.trans (x3.trans x5)) vw hd q5)
      (fun σ5 G5 H5 L5 x5 e5 q5 => n1 σ5 G5 H5 L5 (x1.trans (x3.trans x5)) e5 q5) (fun σ5 G5 H5 L5 x5 e5 q5 => ⟨G5, L5, x3.trans x5, e5, q5⟩) (fun v d G5 H5 x5 vw hd q5 => n5 v d G5 H5 (x1.trans (x3.trans x5)) vw hd q5)
  · have e1 : i = xs.length := by omega
    subst e1
    exact .inl ⟨w2, n1 σ1 G2 H2 L2 (x1.trans x2) e2 (id L2 q2 L2 (Sub.refl _))⟩
/-! ### targets within a comprehension -/
def Agree (vs : List Nat) (σ σ' : L2.St) : Prop := σ'.length = σ.length ∧ ∀ j, j ∉ vs → σ'[j]? = σ[j]?
theorem wipe_get (σ : L2.St) : ∀ (vs : List Nat) (j : Nat), (wipe σ vs)[j]? = if j ∈ vs then (if j < σ.length then some none else none) else σ[j]?
  | [], j => by simp [wipe]
  | v :: vs, j => by
    unfold wipe
    rw [List.getElem?_set, wipe_get σ vs j, wipe_length]
    by_cases h : v = j
    · subst h
      simp
    · rw [if_neg h]
      have : (j ∈ v :: vs) = (j ∈ vs) := by rw [List.mem_cons]; exact propext ⟨fun z => z.resolve_left fun q => h q.symm, .inr⟩
      simp only [this]
theorem wipe_agree {vs : List Nat} {σ σ' : L2.St} (h : Agree vs (wipe σ vs) σ') : wipe σ' vs = wipe σ vs := by
  apply List.ext_getElem?
  intro j
  have hl := h.1
  rw [wipe_length] at hl
  rw [wipe_get, wipe_get, hl]
  by_cases hj : j ∈ vs
  · rw [if_pos hj, if_pos hj]
  · rw [if_neg hj, if_neg hj, h.2 j hj, wipe_get, if_neg hj]
def wipeL (L : Lv) : List Nat → Lv
  | [] => L
  | v :: vs => (wipeL L vs).set v none
theorem ev_wipe {G H : Hp} {σ : L2.St} (e : Ev K pen H0 G H σ L) : ∀ vs : List Nat, Ev K pen H0 G H (wipe σ vs) (wipeL L vs)
  | [] => e
  | v :: vs => (ev_wipe e vs).unset v
def GTw (K : PySem.W.Frag) (pen : Pc) (H0 : Hp) (vs : List Nat) (g : TG) (d : PyData) (L : Lv) (P : Lv → Prop) : Prop := ∀ (σ : L2.St) (G H : Hp) (v : V), Ev K pen H0 G H σ L → Dp K G v d → ∀ R : L2.St → Hp → Prop, (∀ σ' L', Agree vs σ σ' → Ev K pen H0 G H σ' L' → P L' → R σ' H) → g v σ H R
def GTws (K : PySem.W.Frag) (pen : Pc) (H0 : Hp) (vs : List Nat) (g : TGs) (ds : List PyData) (L : Lv) (P : Lv → Prop) : Prop := ∀ (σ : L2.St) (G H : Hp) (us : List V), Ev K pen H0 G H σ L → DpAll K G us ds → ∀ R : L2.St → Hp → Prop, (∀ σ' L', Agree vs σ σ' → Ev K pen H0 G H σ' L' → P L' → R σ' H) → g us σ H R
theorem gw_name {vs : List Nat} {i : Nat} {d : PyData} {P : Lv → Prop} (hi : i ∈ vs) (h : P (L.set i (some (.d d)))) : GTw K pen H0 vs (gName i) d L P := fun σ G H v e hd R r =>
  r _ _ ⟨List.length_set .., fun j hj => List.getElem?_set_ne fun (z : i = j) => hj (z ▸ hi)⟩ (e.set hd) h
theorem gw_tup {vs : List Nat} {n : Nat} {ds : List PyData} {P : Lv → Prop} (hn : ds.length = n) (h : GTws K pen H0 vs gs ds L P) : GTw K pen H0 vs (gTup K n gs) (.tuple ds) L P := fun σ G H v e hd R r => by
  cases hd with
  | tup hs ha => exact ⟨_, _, rfl, sqT_mono e.vw.vw hs, (dpa_len ha).trans hn, h σ G H _ e ha R r⟩
theorem gws_nil {vs : List Nat} {P : Lv → Prop} (h : P L) : GTws K pen H0 vs gNil [] L P := fun σ G H us e hd R r => by
  cases hd
  exact ⟨rfl, r _ _ ⟨rfl, fun _ _ => rfl⟩ e h⟩
theorem gws_cons {vs : List Nat} {d : PyData} {ds : List PyData} {P : Lv → Prop} (h : GTw K pen H0 vs g d L fun L' => GTws K pen H0 vs gs ds L' P) : GTws K pen H0 vs (gCons g gs) (d :: ds) L P := fun σ G H us e hd R r => by
  cases hd with
  | cons h1 h2 =>
    refine ⟨_, _, rfl, h σ G H _ e h1 _ fun σ' L' a e' h' => ?_⟩
    exact h' σ' G H _ e' h2 R fun σ2 L2 a2 e2 p2 => r σ2 L2 ⟨a2.1.trans a.1, fun j hj => (a2.2 j hj).trans (a.2 j hj)⟩ e2 p2
/-! ### a comprehension over anything that is walked -/
theorem el_lcI {vs : List Nat} {Pl : List PyData → Prop} (h : IT K pen H0 ti L fun xs => xs.length ≤ 100000 ∧ ∃ J : Nat → List PyData → Prop, J 0 [] ∧
    (∀ (i : Nat) x acc, xs[i]? = some x → J i acc → GTw K pen H0 vs g x (wipeL L vs) fun L2 => LcT K pen H0 tt te L2 acc (J (i + 1))) ∧ (∀ acc, J xs.length acc → Pl acc)) :
    EL K pen H0 (tLc ti g tt te vs) L Pl := fun σ G H e Q q => h σ G H e _ fun It G1 H1 xs go w ⟨hn, J, j0, js, je⟩ => fun Dl hD => by
  refine ⟨fun i m H' => m = xs.length - i ∧ i ≤ xs.length ∧ LcI K pen G1 H1 Dl J i H', ⟨xs.length, rfl, Nat.zero_le _, lc_start go.vw hD j0⟩, ?_⟩
  rintro i m H' ⟨rfl, hi, I⟩
  obtain ⟨G', us, acc, g1, h1, h2, h3, h4, h5⟩ := id I
  obtain ⟨w1, w2⟩ := w G' H' g1.gg g1.vw
  by_cases hlt : i < xs.length
  · obtain ⟨k1, k2⟩ := w1 i _ (List.getElem?_eq_getElem hlt)
    refine .inr ⟨k1, LcI K pen G1 H1 Dl J (i + 1), fun H2 I2 => ⟨xs.length - (i + 1), by omega, rfl, hlt, I2⟩, fun v H2 hv => ?_⟩
    obtain ⟨G2, g2, d2⟩ := k2 v H2 hv
    have np : ¬ IsPn pen Dl := fun p => go.vw.ok.there p hD
    have e2 := ev_wipe (((e.go go).go g1).go g2) vs
    refine js i _ acc (List.getElem?_eq_getElem hlt) h4 (wipe σ vs) G2 H2 v e2 d2 _ fun σ3 L3 ag e3 h6 => ⟨wipe_agree ag, ?_⟩
    exact lc_turn go.vw hD (by omega) (g1.trans g2) (g2.od Dl _ np h1) ((g2.nw Dl (by rw [h1]; exact fun z => by cases z)).trans h2) (dpa_mono g2.gg _ _ h3) h5 e3 h6
  · have e1 : i = xs.length := by omega
    subst e1
    exact .inl ⟨w2, lc_end go hD I je q⟩
theorem e_lcI {vs : List Nat} (h : IT K pen H0 ti L fun xs => xs.length ≤ 100000 ∧ ∃ J : Nat → List PyData → Prop, J 0 [] ∧
    (∀ (i : Nat) x acc, xs[i]? = some x → J i acc → GTw K pen H0 vs g x (wipeL L vs) fun L2 => LcT K pen H0 tt te L2 acc (J (i + 1))) ∧ (∀ acc, J xs.length acc → Pd (.list acc))) :
    E K pen H0 (tLc ti g tt te vs) L Pd := e_ofL (el_lcI h)
/-- the plain way: each item gives one, or none -/
theorem el_lcF {vs : List Nat} {Pl : List PyData → Prop} (f : Nat → PyData → Option PyData) (h : IT K pen H0 ti L fun xs => xs.length ≤ 100000 ∧
    (∀ (i : Nat) x, xs[i]? = some x → GTw K pen H0 vs g x (wipeL L vs) fun L2 => ET K pen H0 tt L2 fun b => (b = true → E K pen H0 te L2 fun d => f i x = some d) ∧ (b = false → f i x = none)) ∧ Pl ((xs.mapIdx f).filterMap id)) :
    EL K pen H0 (tLc ti g tt te vs) L Pl := by
  refine el_lcI (h.mono fun xs ⟨hn, hs, hp⟩ => ⟨hn, fun i acc => acc = ((xs.take i).mapIdx f).filterMap id, by simp, fun i x acc hx ha => ?_, fun acc ha => ?_⟩)
  · have key : ((xs.take (i + 1)).mapIdx f).filterMap id = ((xs.take i).mapIdx f).filterMap id ++ (f i x).toList := by
      obtain ⟨hlt, hg⟩ := List.getElem?_eq_some_iff.mp hx
      rw [List.take_succ_eq_append_getElem hlt, List.mapIdx_append, List.filterMap_append, hg]
      congr 1
      simp only [List.mapIdx_cons, List.mapIdx_nil, List.length_take]
      rw [Nat.min_eq_left (Nat.le_of_lt hlt)]
      simp only [Nat.zero_add]
      cases f i x <;> rfl
    intro σ G H v e hd R r
    refine hs i x hx σ G H v e hd R fun σ' L' ag e' p => r σ' L' ag e' (p.mono fun b pb => ⟨fun hb => (pb.1 hb).mono fun d hd => ?_, fun hb => ?_⟩)
    · show acc ++ [d] = _
      rw [ha, key, hd]; rfl
    · show acc = _
      rw [ha, key, pb.2 hb]; simp
  · have ha : acc = ((xs.take xs.length).mapIdx f).filterMap id := ha
    rw [List.take_length] at ha
    rw [ha]; exact hp
/-! ### all(..), any(..) over anything that is walked -/
theorem e_genI {pn : Option Pn} {ts : List Addr} {Tb : Addr} {go : Bool} {vs : List Nat} (hT : Tb ∈ ts) (h : IT K ⟨pn, ts⟩ H0 ti L fun xs => ∃ J : Nat → Prop, J 0 ∧
    (∀ (i : Nat) x, xs[i]? = some x → J i → GTw K ⟨pn, ts⟩ H0 vs g x (wipeL L vs) fun L2 => GnT K ⟨pn, ts⟩ H0 go tt te L2 (J (i + 1)) Pd) ∧ (J xs.length → Pd (.bool go))) :
    E K ⟨pn, ts⟩ H0 (_root_.Gx.tGen Tb go ti g tt te vs) L Pd := fun σ G H e Q q => h σ G H e _ fun It G1 H1 xs gg w ⟨J, j0, js, je⟩ => by
  refine ⟨gg.vw.ok.2 Tb hT, fun H2 htab => ?_⟩
  have g2 := Go.tab gg.vw hT htab
  refine ⟨fun i m H' => m = xs.length - i ∧ i ≤ xs.length ∧ J i ∧ ∃ G', Go ⟨pn, ts⟩ G1 H2 G' H', ⟨xs.length, rfl, Nat.zero_le _, j0, G1, .refl g2.vw⟩, ?_⟩
  rintro i m H' ⟨rfl, hi, hJ, G', g'⟩
  have q' : ∀ v d G' H', Go ⟨pn, ts⟩ G1 H2 G' H' → Dp K G' v d → Pd d → Q v H' := fun v d G' H' g hd p => q v d G' H' ((gg.trans g2).trans g) hd p
  obtain ⟨w1, w2⟩ := w G' H' g'.gg g'.vw
  by_cases hlt : i < xs.length
  · obtain ⟨k1, k2⟩ := w1 i _ (List.getElem?_eq_getElem hlt)
    refine .inr ⟨k1, fun H3 => J (i + 1) ∧ ∃ G', Go ⟨pn, ts⟩ G1 H2 G' H3, fun H3 ⟨k1, k2⟩ => ⟨xs.length - (i + 1), by omega, rfl, hlt, k1, k2⟩, fun y H3 hy => ?_⟩
    obtain ⟨G3, g3, d3⟩ := k2 y H3 hy
    refine js i _ (List.getElem?_eq_getElem hlt) hJ (wipe σ vs) G3 H3 y (ev_wipe ((((e.go gg).go g2).go g').go g3) vs) d3 _ fun σ4 L4 ag e4 h4 => ⟨wipe_agree ag, ?_⟩
    exact gn_turn (g'.trans g3) e4 h4 (fun G3 H3 g3 k => ⟨k, G3, g3⟩) q'
  · have e1 : i = xs.length := by omega
    subst e1
    exact .inl ⟨w2, q' _ _ G' H' g' (.bl _) (je hJ)⟩
/-- all(f(x) ..) -/
theorem e_allI {pn : Option Pn} {ts : List Addr} {Tb : Addr} {vs : List Nat} (f : PyData → Bool) (hT : Tb ∈ ts) (h : IT K ⟨pn, ts⟩ H0 ti L fun xs => (∀ x ∈ xs, GTw K ⟨pn, ts⟩ H0 vs g x (wipeL L vs) fun L2 => E K ⟨pn, ts⟩ H0 te L2 fun d => d = .bool (f x)) ∧ Pd (.bool (xs.all f))) :
    E K ⟨pn, ts⟩ H0 (_root_.Gx.tGen Tb true ti g tYes te vs) L Pd := by
  refine e_genI hT (h.mono fun xs ⟨hx, hp⟩ => ⟨fun i => xs.all f = (xs.drop i).all f, rfl, fun i x hi hJ => ?_, fun hJ => ?_⟩)
  · intro σ G H v e hd R r
    obtain ⟨hlt, hg⟩ := List.getElem?_eq_some_iff.mp hi
    refine hx x (List.mem_of_getElem? hi) σ G H v e hd R fun σ' L' ag e' p => r σ' L' ag e' (et_yes ⟨fun _ => p.mono fun d e2 => ⟨f x, e2, fun hk => ?_, fun hk => ?_⟩, fun z => by cases z⟩)
    · rw [hJ, List.drop_eq_getElem_cons hlt, List.all_cons, hg, hk, Bool.true_and]
    · rw [hJ, List.drop_eq_getElem_cons hlt, List.all_cons, hg, hk] at hp
      exact hp
  · rw [hJ, List.drop_eq_nil_of_le (Nat.le_refl _)] at hp
    exact hp
/-! ### own lists kept from now on -/
theorem s_frz {j : Nat} {ds : List PyData} (hj : L[j]? = some (some (.own (.lst ds)))) (h : S K pen H0 t (L.set j (some (.d (.list ds)))) D) (nf : noFr L = true := by rfl) : S K pen H0 t L D := fun σ G H N e n1 n2 n3 n4 n5 => by
  obtain ⟨x, k1, l, ho, rfl, k3, k4, k5, k6⟩ := e.sl j _ hj
  obtain ⟨vs, rfl, k6⟩ := k6.lst
  have s : Same G (upd G l (.lst vs)) := fun a o q => by rw [upd_ne (ne_of_none q k5)]; exact q
  have x0 : Gx pen H0 G H (upd G l (.lst vs)) H := ⟨s, fun a h => upd_ne (fun z => h (by rw [z]; exact k4)), fun _ _ _ _ q => q⟩
  have vw : Vw pen (upd G l (.lst vs)) H := ⟨fun a o q => by
    by_cases z : a = l
    · subst z; rw [upd_same] at q; rw [k3]; exact q
    · rw [upd_ne z] at q; exact e.vw.vw a o q, fun a p => by rw [upd_ne (fun z => e.h0.there p (by rw [z]; exact k4))]; exact e.vw.no a p, e.vw.ok⟩
  have jl : j < L.length := (List.getElem?_eq_some_iff.mp hj).1
  have e1 : Ev K pen H0 (upd G l (.lst vs)) H σ (L.set j (some (.d (.list ds)))) := by
    refine ⟨vw, e.h0, e.dom, by rw [List.length_set]; exact e.len, fun i av hi => ?_, fun i k o1 o2 l' h1 h2 h3 h4 => ?_⟩
    · by_cases q : j = i
      · subst q
        rw [List.getElem?_set_self jl] at hi
        have := Option.some.inj (Option.some.inj hi)
        subst this
        exact ⟨_, k1, .lst (.inl (.inl upd_same)) (dpa_mono s _ _ k6)⟩
      · rw [List.getElem?_set_ne q] at hi
        obtain ⟨w, m1, m2⟩ := e.sl i av hi
        refine ⟨w, m1, ?_⟩
        cases av with
        | d x => exact dp_mono s _ _ m2
        | pen => exact m2
        | own o =>
          obtain ⟨l3, vs3, rfl, m3, m4, m5, m6⟩ := m2
          refine ⟨l3, vs3, rfl, m3, m4, ?_, m6.mono s⟩
          rw [upd_ne (fun z => q (e.ow j i _ o l hj hi k1 (by rw [← z]; exact m1)))]
          exact m5
        | bor o =>
          obtain ⟨l3, vs3, rfl, m3, m4, m5, m6⟩ := m2
          exact ⟨l3, vs3, rfl, m3, m4, m5, m6.mono s⟩
        | fr x => exact (noFr_get nf hi).elim
    · have was : ∀ (i : Nat) (o : OO), (L.set j (some (.d (.list ds))))[i]? = some (some (.own o)) → L[i]? = some (some (.own o)) := fun i o hi => by
        by_cases q : j = i
        · subst q
          rw [List.getElem?_set_self jl] at hi
          cases hi
        · rw [List.getElem?_set_ne q] at hi; exact hi
      exact e.ow i k o1 o2 l' (was _ _ h1) (was _ _ h2) h3 h4
  exact h σ _ H N e1 (fun σ' G' H' L' x e' q => n1 σ' G' H' L' (x0.trans x) e' q) (fun v d G' H' x vw hd q => n2 v d G' H' (x0.trans x) vw hd q) (fun σ' G' H' L' x e' q => n3 σ' G' H' L' (x0.trans x) e' q) (fun σ' G' H' L' x e' q => n4 σ' G' H' L' (x0.trans x) e' q) (fun v d G' H' x vw hd q => n5 v d G' H' (x0.trans x) vw hd q)
end
end Dl
set_option Elab.async false
set_option linter.all false
set_option maxRecDepth 100000
set_option maxHeartbeats 4000000
namespace Dl
open PySem PySem.Spec PyProof.Rows L2
/-! ### the law's beginning, the script as data -/
def spPenS (K : PySem.W.Frag) : Sp := fun vs H Q _ => ∃ (a : Addr) (ns : List Int), vs = [.ref a] ∧ SqL K H a (ns.map V.int) ∧
  ∀ (p c : Addr) (cells : List Int) H', Same H H' → H p = none → H' p = some (.lst [.ref c, .int 0, .int 0]) → H' c = some (.lst (cells.map V.int)) → Q (.ref p) H'
section
variable {K : PySem.W.Frag} {pen : Pc} {H0 : Hp} {L : Lv} {P : PyData → Prop} {te ta ti ty tx tv : TE} {tl : TA} {tt : TT} {t : TS} {D : Dn} {Pb : Bool → Prop} {Pl : List PyData → Prop}
theorem script_view {H : Hp} {a : Addr} {ns : List Int} (hS : SqL K H a (ns.map V.int)) (ok : POk pen H) (np : Rd H a (.lst (ns.map V.int)) → ∀ p, pen.pen = some p → p.a ≠ a) : ∃ G, Vw pen G H ∧ Dp K G (.ref a) (.list (intsL ns)) := by
  rcases hS with r | k
  · refine ⟨fun b => if b = a then H a else none, ⟨fun b o h => ?_, fun b q => ?_, ok⟩, .lst (.inl ?_) (ints_dpa ns)⟩
    · by_cases z : b = a
      · rw [show (if b = a then H a else none) = H a from if_pos z] at h; rw [z]; exact h
      · rw [show (if b = a then H a else none) = none from if_neg z] at h; cases h
    · refine if_neg fun z => ?_
      rcases q with ⟨p, hp, e⟩ | hP
      · exact np r p hp (e.symm.trans z)
      · obtain ⟨ps, e, _⟩ := ok.2 b hP
        rw [z] at e
        rcases r with r | ⟨o, r⟩
        · rw [r] at e; cases e
        · rw [r] at e; cases e
    · rcases r with r | ⟨o, r⟩
      · exact .inl ((if_pos rfl).trans r)
      · exact .inr ⟨o, (if_pos rfl).trans r⟩
  · exact ⟨fun _ => none, ⟨fun _ _ h => (nomatch h), fun _ _ => rfl, ok⟩, .lst (.inr k) (ints_dpa ns)⟩
theorem pen_startS {ts : List Addr} {N : Ends} {σ : L2.St} {H1 : Hp} {p c a : Addr} {cells ns : List Int} (hp : H1 p = some (.lst [.ref c, .int 0, .int 0])) (hc : H1 c = some (.lst (cells.map V.int))) (hS : SqL K H1 a (ns.map V.int)) (hlen : σ.length = L.length)
    (hL : ∀ (i : Nat) av, L[i]? = some (some av) → (av = .pen ∧ σ[i]? = some (some (.ref p))) ∨ (av = .d (.list (intsL ns)) ∧ σ[i]? = some (some (.ref a)))) (hts : ∀ P ∈ ts, GxR.TabG H1 P)
    (h : S K ⟨some ⟨p, .pen c cells.length⟩, ts⟩ H1 t L { nx := fun _ => False, rt := fun d => d = .bool true }) (q : ∀ H', N.rt (.bl true) H') : t N σ H1 := by
  have ok : POk ⟨some ⟨p, .pen c cells.length⟩, ts⟩ H1 := ⟨fun p' e => by cases e; exact ⟨cells, 0, 0, hp, hc, Int.le_refl _, Int.le_refl _, rfl⟩, hts⟩
  obtain ⟨G, v, d⟩ := script_view hS ok (fun r p' e => by
    cases e
    intro z
    have z : p = a := z
    rcases r with r | ⟨o, r⟩
    · rw [← z, hp] at r
      cases ns with
      | nil => cases r
      | cons n ns => cases r
    · rw [← z, hp] at r; cases r)
  refine h σ G H1 N ⟨v, ok, fun _ h => h, hlen, fun i av hi => ?_, fun i j ds es l h1 => ?_⟩ (fun _ _ _ _ _ _ z => z.elim) (fun v d G' H' _ _ hd e => ?_) (fun _ _ _ _ _ _ z => z.elim) (fun _ _ _ _ _ _ z => z.elim) (fun _ _ _ _ _ _ _ z => z.elim)
  · rcases hL i av hi with ⟨rfl, e⟩ | ⟨rfl, e⟩
    · exact ⟨_, e, _, rfl, rfl⟩
    · exact ⟨_, e, d⟩
  · rcases hL i _ h1 with ⟨z, _⟩ | ⟨z, _⟩ <;> cases z
  · subst e
    cases hd
    exact q H'
theorem law_start {ts : List Addr} {N : Ends} {σ : L2.St} {H1 : Hp} {a : Addr} {ns : List Int} (hS : SqL K H1 a (ns.map V.int)) (hlen : σ.length = L.length)
    (hL : ∀ (i : Nat) av, L[i]? = some (some av) → av = .d (.list (intsL ns)) ∧ σ[i]? = some (some (.ref a))) (hts : ∀ P ∈ ts, GxR.TabG H1 P)
    (h : S K ⟨none, ts⟩ H1 t L { nx := fun _ => False, rt := fun d => d = .bool true }) (q : ∀ H', N.rt (.bl true) H') : t N σ H1 := by
  have ok : POk ⟨none, ts⟩ H1 := ⟨fun p' e => (by cases e), hts⟩
  obtain ⟨G, v, d⟩ := script_view hS ok (fun _ p' e => by cases e)
  refine h σ G H1 N ⟨v, ok, fun _ h => h, hlen, fun i av hi => ?_, fun i j ds es l h1 => ?_⟩ (fun _ _ _ _ _ _ z => z.elim) (fun v d G' H' _ _ hd e => ?_) (fun _ _ _ _ _ _ z => z.elim) (fun _ _ _ _ _ _ z => z.elim) (fun _ _ _ _ _ _ _ z => z.elim)
  · obtain ⟨rfl, e⟩ := hL i av hi
    exact ⟨_, e, d⟩
  · cases (hL i _ h1).1
  · subst e
    cases hd
    exact q H'
/-! ### a list of one int becomes the spring -/
def noPen : Lv → Bool
  | [] => true
  | some .pen :: _ => false
  | some (.bor _) :: _ => false
  | _ :: L => noPen L
theorem noPen_all : ∀ {L : Lv} {i : Nat} {a : AV}, noPen L = true → L[i]? = some (some a) → a ≠ .pen ∧ ∀ o, a ≠ .bor o
  | [], _, _, _, h => by simp at h
  | a :: L, 0, x, n, h => by
    have := Option.some.inj h
    subst this
    cases x <;> first | cases n | exact ⟨fun z => (by cases z), fun _ z => (by cases z)⟩
  | a :: L, i + 1, x, n, h => by
    have n' : noPen L = true := by
      cases a with
      | none => exact n
      | some av => cases av <;> first | exact n | cases n
    exact noPen_all (L := L) (i := i) n' h
theorem noPen_get {L : Lv} {i : Nat} (n : noPen L = true) : L[i]? ≠ some (some .pen) := fun h => (noPen_all n h).1 rfl
theorem s_spring {ts : List Addr} {i : Nat} {z : Int} (hi : L[i]? = some (some (.own (.lst [.int z]))))
    (h : ∀ pa H1, S K ⟨some ⟨pa, .spr⟩, ts⟩ H1 t (L.set i (some .pen)) { D with nx := fun L' => ∃ L3, Sub L3 L' ∧ noPen L3 = true ∧ D.nx L3, bk := fun L' => ∃ L3, Sub L3 L' ∧ noPen L3 = true ∧ D.bk L3, ct := fun L' => ∃ L3, Sub L3 L' ∧ noPen L3 = true ∧ D.ct L3 })
    (od : onlyD (L.set i none) = true := by rfl) (np : noPen (L.set i none) = true := by rfl) : S K ⟨none, ts⟩ H0 t L D := fun σ G H N e n1 n2 n3 n4 n5 => by
  obtain ⟨x, k1, l, ho, rfl, k3, k4, k5, k6⟩ := e.sl i _ hi
  obtain ⟨vs, rfl, k6⟩ := k6.lst
  have il : i < L.length := (List.getElem?_eq_some_iff.mp hi).1
  cases k6 with
  | cons h1 h2 =>
    cases h2
    cases h1
    have nots : l ∉ ts := fun z => e.h0.there (.inr z) k4
    have ok : POk ⟨some ⟨l, .spr⟩, ts⟩ H := ⟨fun p hp => by cases hp; exact ⟨z, k3⟩, e.vw.ok.2⟩
    have vw : Vw ⟨some ⟨l, .spr⟩, ts⟩ G H := ⟨e.vw.vw, fun a q => by
      rcases q with ⟨p, hp, rfl⟩ | q
      · cases hp; exact k5
      · exact e.vw.no a (.inr q), ok⟩
    have get : ∀ (j : Nat) (av : AV), (L.set i (some .pen))[j]? = some (some av) → (i = j ∧ av = .pen) ∨ (i ≠ j ∧ L[j]? = some (some av) ∧ (L.set i none)[j]? = some (some av)) := fun j av hj => by
      by_cases q : i = j
      · subst q
        rw [List.getElem?_set_self il] at hj
        exact .inl ⟨rfl, (Option.some.inj (Option.some.inj hj)).symm⟩
      · rw [List.getElem?_set_ne q] at hj
        exact .inr ⟨q, hj, by rw [List.getElem?_set_ne q]; exact hj⟩
    have e1 : Ev K ⟨some ⟨l, .spr⟩, ts⟩ H G H σ (L.set i (some .pen)) := by
      refine ⟨vw, ok, fun _ h => h, by rw [List.length_set]; exact e.len, fun j av hj => ?_, fun j k o1 o2 l' h1 => ?_⟩
      · rcases get j av hj with ⟨rfl, rfl⟩ | ⟨_, hj, hj2⟩
        · exact ⟨_, k1, _, rfl, rfl⟩
        · obtain ⟨w, m1, m2⟩ := e.sl j av hj
          refine ⟨w, m1, ?_⟩
          cases av with
          | d x => exact m2
          | pen => exact absurd hj2 (noPen_get np)
          | own o => exact absurd rfl ((onlyD_get od hj2).1 o)
          | fr x => exact absurd rfl ((onlyD_get od hj2).2 x)
          | bor o =>
            obtain ⟨l3, vs3, rfl, m3, m4, m5, m6⟩ := m2
            refine ⟨l3, vs3, rfl, m3, m3, fun q => ?_, m6⟩
            rcases q with ⟨p, hp, q⟩ | q
            · cases hp
              have q : l3 = l := q
              rw [q, k4] at m4; cases m4
            · exact m5 (.inr q)
      · rcases get j _ h1 with ⟨_, z⟩ | ⟨_, _, hj2⟩
        · cases z
        · exact absurd rfl ((onlyD_get od hj2).1 o1)
    have bx : ∀ {G' H'}, Gx ⟨some ⟨l, .spr⟩, ts⟩ H G H G' H' → Gx ⟨none, ts⟩ H0 G H G' H' := fun x => ⟨x.gg, fun a ha => x.nw a (e.dom a ha), fun a o hp ha q => x.od a o (fun z => by
      rcases z with ⟨p, hp', z⟩ | z
      · cases hp'
        exact ha (by rw [z]; exact k4)
      · exact hp (.inr z)) (e.dom a ha) q⟩
    have bv : ∀ {G' H'}, Vw ⟨some ⟨l, .spr⟩, ts⟩ G' H' → Vw ⟨none, ts⟩ G' H' := fun v => v.plain
    have be : ∀ {σ' G' H' L' L3}, Gx ⟨some ⟨l, .spr⟩, ts⟩ H G H G' H' → Ev K ⟨some ⟨l, .spr⟩, ts⟩ H G' H' σ' L' → Sub L3 L' → noPen L3 = true → Ev K ⟨none, ts⟩ H0 G' H' σ' L3 := fun {σ' G' H' L' L3} x e' s n => by
      have e3 := e'.sub s
      refine ⟨bv e3.vw, e.h0, fun a ha => e3.dom a (e.dom a ha), e3.len, fun j av hj => ?_, e3.ow⟩
      obtain ⟨w, m1, m2⟩ := e3.sl j av hj
      refine ⟨w, m1, ?_⟩
      cases av with
      | d x => exact m2
      | pen => exact absurd hj (noPen_get n)
      | own o =>
        obtain ⟨l3, vs3, rfl, m3, m4, m5⟩ := m2
        exact ⟨l3, vs3, rfl, m3, e.h0none m4, m5⟩
      | fr x => exact nd_mono (vnew_call (G1 := G) e.dom) _ _ m2
      | bor o => exact absurd rfl ((noPen_all n hj).2 o)
    refine h l H σ G H N e1 (fun σ' G' H' L' x e' ⟨L3, s, n, q⟩ => n1 σ' G' H' L3 (bx x) (be x e' s n) q) (fun v d G' H' x vw hd q => n2 v d G' H' (bx x) (bv vw) hd q) (fun σ' G' H' L' x e' ⟨L3, s, n, q⟩ => n3 σ' G' H' L3 (bx x) (be x e' s n) q) (fun σ' G' H' L' x e' ⟨L3, s, n, q⟩ => n4 σ' G' H' L3 (bx x) (be x e' s n) q) (fun v d G' H' x vw hd q => n5 v d G' H' (bx x) (bv vw) (nd_mono (vnew_call (G1 := G) e.dom) _ _ hd) q)
/-! ### a list as a test -/
def tTru (K : PySem.W.Frag) (ta : TE) : TT := fun σ H Q => ta σ H fun x H' => ∃ k, TruV K x H' k ∧ Q k H'
theorem kx_truth {X : Cx} {a : Expr} (h : X.K = K) (ha : PE X a ta) (he : ∀ whole, isTrue a X.env whole = (do let v ← whole; standAt a.pos; holding [v] (truthy v))) : PT X a (tTru K ta) := by subst h; exact pt_truth ha he
theorem kx_enum {X : Cx} {e : Expr} {p pos tpos : Pos} {elts : List Expr} {kk : Nat} (h : X.K = K) (hg : Gl X "enumerate") (hm : X.mg "enumerate" = none) (ha : PA X [e] tl) (hs : starEach [e] X.env = [(false, eval e X.env)] := by rfl) :
    PI X (.Tuple elts kk tpos) (.Call (.Name "enumerate" p) [e] [] pos) (iEnum K tl) := by subst h; exact pi_enum hg hm ha hs
theorem dpa_empty {G : Hp} {vs : List V} {ds : List PyData} (h : DpAll K G vs ds) : vs.isEmpty = ds.isEmpty := by cases h <;> rfl
theorem et_truL (h : E K pen H0 ta L fun d => ∃ ds, (d = .list ds ∨ d = .tuple ds) ∧ Pb (!ds.isEmpty)) : ET K pen H0 (tTru K ta) L Pb := fun σ G H e Q q => h σ G H e _ fun v d G1 H1 go hd ⟨ds, hds, p⟩ => by
  rcases hds with rfl | rfl
  · cases hd with
    | lst hs ha => exact ⟨!ds.isEmpty, .inl ⟨_, sqL_mono go.vw.vw hs, by rw [dpa_empty ha]⟩, q _ G1 H1 go p⟩
  · cases hd with
    | tup hs ha => exact ⟨!ds.isEmpty, .inr (.inl ⟨_, sqT_mono go.vw.vw hs, by rw [dpa_empty ha]⟩), q _ G1 H1 go p⟩
theorem et_truI (h : E K pen H0 ta L fun d => ∃ i, d = .int i ∧ Pb (i != 0)) : ET K pen H0 (tTru K ta) L Pb := fun σ G H e Q q => h σ G H e _ fun v d G1 H1 go hd ⟨i, hi, p⟩ => by
  subst hi
  cases hd
  exact ⟨_, rfl, q _ G1 H1 go p⟩
/-! ### sorted(list of ints) -/
theorem el_sortI (h : E K pen H0 te L fun d => ∃ ns : List Int, d = .list (intsL ns) ∧ ∀ ms : List Int, ms.Perm ns → ms.Pairwise (· ≤ ·) → Pl (intsL ms)) : EL K pen H0 (tCB (rSortedI K) (tCons te tNil)) L Pl := fun σ G H e Q q => h σ G H e _ fun v d G1 H1 go hd ⟨ns, hds, p⟩ => by
  subst hds
  cases hd with
  | lst hs ha =>
    rename_i a xs
    have ex := dpa_ints ha
    subst ex
    refine ⟨a, ns, rfl, sqL_mono go.vw.vw hs, fun ms r hp hw hr => ?_⟩
    have e1 := e.go go
    have g2 := Go.hid e1.vw (o := .lst (ms.map V.int)) hr
    refine q r _ _ G1 _ (go.trans g2) upd_same (e1.gnone hr) ?_ (ints_dpa ms) (p ms hp hw)
    cases z : H r with
    | none => rfl
    | some o => exact absurd hr (go.dom (by rw [z]; exact fun z => by cases z))
theorem kx_sortI {X : Cx} (h : X.K = K) : CallR X (.builtin "sorted") (rSortedI K) := by subst h; exact cr_sortedI
/-! ### dicts of one's own -/
section
variable {κ : Type} [DecidableEq κ]
def valD (m : List (κ × PyData)) (k : κ) : Option PyData := (m.find? fun kv => decide (kv.1 = k)).map (·.2)
def putD (m : List (κ × PyData)) (k : κ) (d : PyData) : List (κ × PyData) := if (m.any fun kv => decide (kv.1 = k)) = true then m.map (fun kv => if kv.1 = k then (kv.1, d) else kv) else m ++ [(k, d)]
def dropD (m : List (κ × PyData)) (k : κ) : List (κ × PyData) := m.filter fun kv => decide (kv.1 ≠ k)
theorem kv_val {G : Hp} (k : κ) : ∀ {kvs : List (κ × V)} {m : List (κ × PyData)}, KvOk K G kvs m → (∃ v d, valV kvs k = some v ∧ valD m k = some d ∧ Dp K G v d) ∨ (valV kvs k = none ∧ valD m k = none)
  | _, _, .nil => .inr ⟨rfl, rfl⟩
  | kv :: kvs, xd :: m, .cons h t => by
    obtain ⟨h1, h2⟩ := h
    by_cases z : xd.1 = k
    · refine .inl ⟨kv.2, xd.2, valV_pos (h1.trans z), ?_, h2⟩
      unfold valD
      rw [List.find?_cons, decide_eq_true z]
      rfl
    · rw [valV_neg (fun q => z (h1.symm.trans q))]
      have : valD (xd :: m) k = valD m k := by
        unfold valD
        rw [List.find?_cons, decide_eq_false z]
      rw [this]
      exact kv_val k t
theorem kv_any {G : Hp} (k : κ) : ∀ {kvs : List (κ × V)} {m : List (κ × PyData)}, KvOk K G kvs m → (kvs.any fun kv => decide (kv.1 = k)) = (m.any fun kv => decide (kv.1 = k))
  | _, _, .nil => rfl
  | kv :: kvs, xd :: m, .cons h t => by
    rw [List.any_cons, List.any_cons, kv_any k t, h.1]
theorem kv_put {G : Hp} {v : V} {d : PyData} (k : κ) (hd : Dp K G v d) {kvs : List (κ × V)} {m : List (κ × PyData)} (h : KvOk K G kvs m) : KvOk K G (putK kvs k v) (putD m k d) := by
  unfold putK putD
  rw [kv_any k h]
  by_cases a : (m.any fun kv => decide (kv.1 = k)) = true
  · rw [if_pos a, if_pos a]
    clear a
    induction h with
    | nil => exact .nil
    | cons h t ih =>
      refine .cons ?_ ih
      rename_i kv xd kvs m
      show ((if kv.1 = k then (kv.1, v) else kv).1 = (if xd.1 = k then (xd.1, d) else xd).1) ∧ Dp K G (if kv.1 = k then (kv.1, v) else kv).2 (if xd.1 = k then (xd.1, d) else xd).2
      rw [h.1]
      by_cases z : xd.1 = k
      · rw [if_pos z, if_pos z]; exact ⟨rfl, hd⟩
      · rw [if_neg z, if_neg z]; exact h
  · rw [if_neg a, if_neg a]
    clear a
    induction h with
    | nil => exact .cons ⟨rfl, hd⟩ .nil
    | cons h t ih => exact .cons h ih
theorem kv_drop {G : Hp} (k : κ) {kvs : List (κ × V)} {m : List (κ × PyData)} (h : KvOk K G kvs m) : KvOk K G (dropK kvs k) (dropD m k) := by
  unfold dropK dropD
  induction h with
  | nil => exact .nil
  | cons h t ih =>
    rename_i kv xd kvs m
    rw [List.filter_cons, List.filter_cons, h.1]
    by_cases z : xd.1 = k
    · rw [if_neg (by simp [z]), if_neg (by simp [z])]; exact ih
    · rw [if_pos (by simp [z]), if_pos (by simp [z])]; exact .cons h ih
theorem kv_len {G : Hp} {kvs : List (κ × V)} {m : List (κ × PyData)} (h : KvOk K G kvs m) : kvs.length = m.length := Paired.length h
theorem kv_keys {G : Hp} : ∀ {kvs : List (κ × V)} {m : List (κ × PyData)}, KvOk K G kvs m → kvs.map (·.1) = m.map (·.1)
  | _, _, .nil => rfl
  | _, _, .cons h t => by rw [List.map_cons, List.map_cons, h.1, kv_keys t]
theorem valD_put (m : List (κ × PyData)) (k j : κ) (d : PyData) : valD (putD m k d) j = if j = k then some d else valD m j := by
  unfold putD
  by_cases a : (m.any fun kv => decide (kv.1 = k)) = true
  · rw [if_pos a]
    have gen : ∀ m : List (κ × PyData), valD (m.map fun kv => if kv.1 = k then (kv.1, d) else kv) j = if j = k then (if (m.any fun kv => decide (kv.1 = k)) = true then some d else none) else valD m j := fun m => by
      induction m with
      | nil => unfold valD; simp
      | cons x m ih =>
        unfold valD at ih ⊢
        rw [List.map_cons, List.find?_cons, List.find?_cons, List.any_cons]
        by_cases z : x.1 = k
        · rw [if_pos z, decide_eq_true z]
          by_cases w : j = k
          · subst w; simp [z]
          · have w2 : ¬ x.1 = j := fun q => w (q.symm.trans z)
            simp only [decide_eq_false w2]
            rw [ih, if_neg w, if_neg w]
        · rw [if_neg z, decide_eq_false z, Bool.false_or]
          by_cases w : x.1 = j
          · have w2 : ¬ j = k := fun q => z (w.trans q)
            simp [w, w2]
          · simp only [decide_eq_false w]
            exact ih
    rw [gen m, if_pos a]
  · rw [if_neg a]
    have none : ∀ m : List (κ × PyData), ¬ (m.any fun kv => decide (kv.1 = k)) = true → valD (m ++ [(k, d)]) j = if j = k then some d else valD m j := fun m => by
      induction m with
      | nil =>
        intro _
        unfold valD
        by_cases w : k = j
        · subst w; simp
        · have w2 : ¬ j = k := fun q => w q.symm
          simp [w, w2]
      | cons x m ih =>
        intro a
        rw [List.any_cons, Bool.or_eq_true, not_or] at a
        have ih := ih a.2
        unfold valD at ih ⊢
        rw [List.cons_append, List.find?_cons, List.find?_cons]
        by_cases w : x.1 = j
        · have w2 : ¬ j = k := fun q => a.1 (decide_eq_true (w.trans q))
          simp [w, w2]
        · simp only [decide_eq_false w]
          exact ih
    exact none m a
theorem valD_drop (m : List (κ × PyData)) (k j : κ) : valD (dropD m k) j = if j = k then none else valD m j := by
  unfold dropD valD
  induction m with
  | nil => simp
  | cons x m ih =>
    rw [List.filter_cons]
    by_cases z : x.1 = k
    · rw [if_neg (by simp [z]), ih, List.find?_cons]
      by_cases w : j = k
      · rw [if_pos w, if_pos w]
      · rw [if_neg w, if_neg w, decide_eq_false (fun q => w (q.symm.trans z))]
    · rw [if_pos (by simp [z]), List.find?_cons, List.find?_cons]
      by_cases w : x.1 = j
      · have w2 : ¬ j = k := fun q => z (w.trans q)
        rw [if_neg w2, decide_eq_true w]
      · rw [decide_eq_false w]
        exact ih
theorem dropD_none {m : List (κ × PyData)} {k : κ} (h : valD m k = none) : dropD m k = m := by
  unfold dropD
  unfold valD at h
  rw [Option.map_eq_none_iff, List.find?_eq_none] at h
  exact List.filter_eq_self.mpr fun x hx => by
    have := h x hx
    simpa using this
theorem putD_len (m : List (κ × PyData)) (k : κ) (d : PyData) : (putD m k d).length ≤ m.length + 1 := by
  unfold putD
  split
  · rw [List.length_map]; omega
  · rw [List.length_append]; exact Nat.le_refl _
end
/-- a key -/
def KeyD : PyData → Key → Prop
  | .int i, k => k = .inl i
  | .str x, k => k = .inr x
  | _, _ => False
theorem key_v {G : Hp} {v : V} {d : PyData} {k : Key} (h : Dp K G v d) (hk : KeyD d k) : v = kV k := by
  cases h <;> first | exact hk.elim | (cases hk; rfl)
theorem s_dnew {i : Nat} (h : D.nx (L.set i (some (.own (.dK []))))) : S K pen H0 (tAsg tDNewK (gName i)) L D := fun σ G H N e n1 _ _ _ _ => fun p hp =>
  n1 _ G _ _ (e.gx (Go.hid e.vw hp)) (e.newOwn (o := .dK []) (ho := .dK []) hp .nil) h
theorem s_dput {j : Nat} {m : List (Key × PyData)} (hj : L[j]? = some (some (.own (.dK m)))) (hz : m.length < 100000) (h : E K pen H0 tv L fun d => E K pen H0 ty L fun k => ∃ key, KeyD k key ∧ D.nx (L.set j (some (.own (.dK (putD m key d)))))) (nf : noFr L = true := by rfl) :
    S K pen H0 (sDPut (tVar j) ty tv) L D := fun σ G H N e n1 _ _ _ _ => h σ G H e _ fun v d G1 H1 g1 d1 h1 => by
  have e1 := e.go g1
  obtain ⟨l, ho, k1, k3, k6⟩ := e1.own hj
  refine ⟨_, k1, h1 σ G1 H1 e1 _ fun w k G2 H2 g2 d2 ⟨key, hk, p⟩ => ?_⟩
  have e2 := e1.go g2
  obtain ⟨ho2, q3, q6⟩ := e2.ownAt hj k1
  obtain ⟨kvs, rfl, q6⟩ := q6.dK
  obtain ⟨r1, r2⟩ := e2.putOwn nf hj k1 (o' := .dK (putD m key d)) (ho := .dK (putK kvs key v)) (kv_put key (dp_mono g2.gg _ _ d1) q6)
  have hv := key_v d2 hk
  subst hv
  exact ⟨l, _, rfl, DPut.k q3 (Nat.lt_of_lt_of_le (by rw [kv_len q6]; exact hz) (by decide : 100000 ≤ sizeLine)), n1 σ G2 _ _ (((e.gx g1).trans (e1.gx g2)).trans r2) r1 p⟩
theorem e_dget2O {j : Nat} {m : List (Key × PyData)} (hj : RdO L j (.dK m)) (h : E K pen H0 ty L fun k => ∃ key, KeyD k key ∧ E K pen H0 tx L fun x => P ((valD m key).getD x)) : E K pen H0 (tDGet2 (tVar j) ty tx) L P := fun σ G H e Q q => by
  obtain ⟨l, ho, k1, k3, k6⟩ := e.rd hj
  obtain ⟨kvs, rfl, k6⟩ := k6.dK
  refine ⟨_, k1, l, rfl, .inl ⟨kvs, .inl k3⟩, h σ G H e _ fun w k G1 H1 g1 d1 ⟨key, hk, h1⟩ => ?_⟩
  refine h1 σ G1 H1 (e.go g1) _ fun x dx G2 H2 g2 d2 p => ?_
  have e2 := (e.go g1).go g2
  obtain ⟨ho2, q3, q6⟩ := e2.rdAt hj k1
  obtain ⟨kvs2, rfl, q6⟩ := q6.dK
  have hv := key_v d1 hk
  subst hv
  refine ⟨_, DGet.k q3, ?_⟩
  rcases kv_val key q6 with ⟨v, d, z1, z2, z3⟩ | ⟨z1, z2⟩
  · rw [z1]
    rw [z2] at p
    exact q v d G2 H2 (g1.trans g2) z3 p
  · rw [z1]
    rw [z2] at p
    exact q x dx G2 H2 (g1.trans g2) d2 p
theorem e_dgetO {j : Nat} {m : List (Key × PyData)} (hj : RdO L j (.dK m)) (h : E K pen H0 ty L fun k => ∃ key, KeyD k key ∧ ∃ d, valD m key = some d ∧ P d) : E K pen H0 (tDGet (tVar j) ty) L P := fun σ G H e Q q => by
  obtain ⟨l, ho, k1, k3, k6⟩ := e.rd hj
  refine ⟨_, k1, h σ G H e _ fun w k G1 H1 g1 d1 ⟨key, hk, d, hd, p⟩ => ?_⟩
  obtain ⟨ho2, q3, q6⟩ := (e.go g1).rdAt hj k1
  obtain ⟨kvs2, rfl, q6⟩ := q6.dK
  have hv := key_v d1 hk
  subst hv
  rcases kv_val key q6 with ⟨v, d', z1, z2, z3⟩ | ⟨z1, z2⟩
  · rw [z2] at hd
    cases hd
    exact ⟨l, v, rfl, by rw [← z1]; exact DGet.k q3, q v _ G1 H1 g1 z3 p⟩
  · rw [z2] at hd; cases hd
theorem e_dinO {j : Nat} {m : List (Key × PyData)} (hj : RdO L j (.dK m)) (h : E K pen H0 ty L fun k => ∃ key, KeyD k key ∧ P (.bool (valD m key).isSome)) : E K pen H0 (tDIn ty (tVar j)) L P := fun σ G H e Q q =>
  h σ G H e _ fun w k G1 H1 g1 d1 ⟨key, hk, p⟩ => by
    obtain ⟨l, ho2, k1, q3, q6⟩ := (e.go g1).rd hj
    obtain ⟨kvs2, rfl, q6⟩ := q6.dK
    have hv := key_v d1 hk
    subst hv
    refine ⟨_, k1, l, _, rfl, DGet.k q3, ?_⟩
    have e3 : (valV kvs2 key).isSome = (valD m key).isSome := by
      rcases kv_val key q6 with ⟨v, d', z1, z2, z3⟩ | ⟨z1, z2⟩ <;> rw [z1, z2] <;> rfl
    rw [e3]
    exact q _ _ G1 H1 g1 (.bl _) p
theorem e_dnotinO {j : Nat} {m : List (Key × PyData)} (hj : RdO L j (.dK m)) (h : E K pen H0 ty L fun k => ∃ key, KeyD k key ∧ P (.bool (!(valD m key).isSome))) : E K pen H0 (tDNotIn ty (tVar j)) L P := fun σ G H e Q q =>
  h σ G H e _ fun w k G1 H1 g1 d1 ⟨key, hk, p⟩ => by
    obtain ⟨l, ho2, k1, q3, q6⟩ := (e.go g1).rd hj
    obtain ⟨kvs2, rfl, q6⟩ := q6.dK
    have hv := key_v d1 hk
    subst hv
    refine ⟨_, k1, l, _, rfl, DGet.k q3, ?_⟩
    have e3 : (valV kvs2 key).isSome = (valD m key).isSome := by
      rcases kv_val key q6 with ⟨v, d', z1, z2, z3⟩ | ⟨z1, z2⟩ <;> rw [z1, z2] <;> rfl
    rw [e3]
    exact q _ _ G1 H1 g1 (.bl _) p
/-- d.pop(k, x), the value dropped -/
theorem s_dpop2 {j : Nat} {m : List (Key × PyData)} (hj : L[j]? = some (some (.own (.dK m)))) (h : E K pen H0 ty L fun k => ∃ key, KeyD k key ∧ E K pen H0 tx L fun _ => D.nx (L.set j (some (.own (.dK (dropD m key)))))) (nf : noFr L = true := by rfl) :
    S K pen H0 (tDrop (tDPop2 (tVar j) ty tx)) L D := fun σ G H N e n1 _ _ _ _ => by
  obtain ⟨l, ho, k1, k3, k6⟩ := e.own hj
  obtain ⟨kvs, rfl, k6⟩ := k6.dK
  refine ⟨_, k1, l, rfl, .inl ⟨kvs, .inl k3⟩, h σ G H e _ fun w k G1 H1 g1 d1 ⟨key, hk, h1⟩ => ?_⟩
  have e1 := e.go g1
  refine h1 σ G1 H1 e1 _ fun x dx G2 H2 g2 d2 p => ?_
  have e2 := e1.go g2
  obtain ⟨ho2, q3, q6⟩ := e2.ownAt hj k1
  obtain ⟨kvs2, rfl, q6⟩ := q6.dK
  have hv := key_v d1 hk
  subst hv
  refine ⟨kvs2, key, q3, rfl, fun v hv => ?_, fun hn => ?_⟩
  · obtain ⟨r1, r2⟩ := e2.putOwn nf hj k1 (o' := .dK (dropD m key)) (ho := .dK (dropK kvs2 key)) (kv_drop key q6)
    exact n1 σ G2 _ _ (((e.gx g1).trans (e1.gx g2)).trans r2) r1 p
  · rcases kv_val key q6 with ⟨v, d', z1, z2, z3⟩ | ⟨z1, z2⟩
    · rw [hn] at z1; cases z1
    · rw [dropD_none z2] at p
      have jl : j < L.length := (List.getElem?_eq_some_iff.mp hj).1
      have es : L.set j (some (.own (.dK m))) = L := by
        apply List.ext_getElem?
        intro i
        by_cases q : j = i
        · subst q; rw [List.getElem?_set_self jl, hj]
        · rw [List.getElem?_set_ne q]
      rw [es] at p
      exact n1 σ G2 _ _ ((e.gx g1).trans (e1.gx g2)) e2 p
/-- sorted(d), int keys -/
def rSortDI : List V → Hp → VK → Prop := fun xs H Q => ∃ (a : Addr) (kvs : List (Key × V)) (ks : List Int), xs = [.ref a] ∧ Rd H a (.dK kvs) ∧ kvs.map (·.1) = ks.map Sum.inl ∧ ks.length < 64 ∧
    ∀ (ys : List Int) (p : Addr), ys.Perm ks → ys.Pairwise (· ≤ ·) → H p = none → Q (.ref p) (upd H p (.lst (ys.map V.int)))
theorem kx_sortDI {X : Cx} (hc : X.calm = true) : CallR X (.builtin "sorted") rSortDI := call_sortedDI hc
theorem el_sortD {j : Nat} {m : List (Key × PyData)} {ks : List Int} (hj : RdO L j (.dK m)) (hk : m.map (·.1) = ks.map Sum.inl) (hz : ks.length < 64) (h : ∀ ys : List Int, ys.Perm ks → ys.Pairwise (· ≤ ·) → Pl (intsL ys)) : EL K pen H0 (tCB rSortDI (tCons (tVar j) tNil)) L Pl := fun σ G H e Q q => by
  obtain ⟨l, ho, k1, k3, k6⟩ := e.rd hj
  obtain ⟨kvs, rfl, k6⟩ := k6.dK
  refine ⟨_, k1, l, kvs, ks, rfl, .inl k3, by rw [kv_keys k6, hk], hz, fun ys p hp hw hn => ?_⟩
  have g := Go.hid e.vw (o := .lst (ys.map V.int)) hn
  exact q p _ _ G _ g upd_same (e.gnone hn) hn (ints_dpa ys) (h ys hp hw)
theorem r_ipI {f : Int → Int → Int} {i j : Int} (p : P (.int (f i j))) : R2d K pen (ipI f) (.int i) (.int j) P := fun x y G H v hx hy Q q => by
  cases hx
  cases hy
  exact ⟨i, j, rfl, rfl, q _ _ G H (.refl v) (.int _) p⟩
theorem s_cut {u : TS} (M : Lv → Prop) (h : S K pen H0 t L { D with nx := M }) (h2 : ∀ L', M L' → S K pen H0 u L' D) : S K pen H0 (tSeq t u) L D :=
  s_seq (h.mono (fun L h => h2 L h) (fun _ h => h) (fun _ h => h) (fun _ h => h))
end
end Dl
set_option Elab.async false
set_option linter.all false
set_option maxRecDepth 100000
/-! programs, stands, ticks as plain data -/
namespace Wm
open PySem Dl
inductive Row where
  | set (p v : Nat) | add (p q : Nat) | jump (p k : Nat) | say (p : Nat) | take (p : Nat) | fin
def Row.D : Row → PyData
  | .set p v => .tuple [.str "set", .int p, .int v]
  | .add p q => .tuple [.str "add", .int p, .int q]
  | .jump p k => .tuple [.str "jump", .int p, .int k]
  | .say p => .tuple [.str "say", .int p]
  | .take p => .tuple [.str "take", .int p]
  | .fin => .tuple [.str "end"]
def Row.Ok (n w many : Nat) : Row → Prop
  | .set p v => p < n ∧ v < w
  | .add p q => p < n ∧ q < n
  | .jump p k => p < n ∧ k < many
  | .say p => p < n
  | .take p => p < n
  | .fin => True
structure Prog where
  n : Nat
  w : Nat
  rows : List Row
structure Prog.Ok (x : Prog) : Prop where
  n1 : 1 ≤ x.n
  n2 : x.n ≤ 12
  w1 : 2 ≤ x.w
  w2 : x.w ≤ 100
  r1 : 1 ≤ x.rows.length
  r2 : x.rows.length ≤ 20
  rs : ∀ r ∈ x.rows, r.Ok x.n x.w x.rows.length
abbrev Prog.D (x : Prog) : PyData := .tuple [.int x.n, .int x.w, .tuple (x.rows.map Row.D)]
structure Stand where
  at_ : Nat
  sh : List Nat
structure Stand.Ok (x : Prog) (s : Stand) : Prop where
  a1 : s.at_ ≤ x.rows.length
  s1 : s.sh.length = x.n
  s2 : ∀ v ∈ s.sh, v < x.w
abbrev natD (v : Nat) : PyData := .int (v : Int)
def natsD (l : List Nat) : List PyData := l.map natD
abbrev Stand.D (s : Stand) : PyData := .tuple [.int s.at_, .tuple (natsD s.sh)]
structure Told where
  st : Stand
  word : Str
  num : Option Nat
  reads : List Nat
  writes : List Nat
def numD : Option Nat → PyData
  | none => .none
  | some v => .int v
abbrev Told.D (t : Told) : PyData := .tuple [t.st.D, .str t.word, numD t.num, .tuple (natsD t.reads), .tuple (natsD t.writes)]
def rowAt (x : Prog) (a : Nat) : Row := x.rows.getD a .fin
def rise (p q : Nat) : List Nat := if p = q then [p] else [min p q, max p q]
def tickF (x : Prog) (s : Stand) (ls : List Nat) : Told := match rowAt x s.at_ with
  | .set p v => ⟨⟨s.at_ + 1, s.sh.set p v⟩, "did", none, [], [p]⟩
  | .add p q => ⟨⟨s.at_ + 1, s.sh.set p ((s.sh.getD p 0 + s.sh.getD q 0) % x.w)⟩, "did", none, rise p q, [p]⟩
  | .jump p k => ⟨⟨if s.sh.getD p 0 = 0 then k else s.at_ + 1, s.sh⟩, "did", none, [p], []⟩
  | .say p => ⟨⟨s.at_ + 1, s.sh⟩, "said", some (s.sh.getD p 0), [p], []⟩
  | .take p => (match ls with
    | [] => ⟨s, "waits", none, [], []⟩
    | l :: _ => ⟨⟨s.at_ + 1, s.sh.set p l⟩, "took", some l, [], [p]⟩)
  | .fin => ⟨s, "ended", none, [], []⟩
theorem natsD_len (l : List Nat) : (natsD l).length = l.length := List.length_map _
theorem natsD_get {l : List Nat} {p : Nat} (h : p < l.length) : (natsD l)[p]? = some (natD (l.getD p 0)) := by
  unfold natsD
  rw [List.getElem?_map, List.getElem?_eq_getElem h, List.getD_eq_getElem?_getD, List.getElem?_eq_getElem h]
  rfl
theorem natsD_at {l : List Nat} {p : Nat} (h : p < l.length) : L2.atI (natsD l) (p : Int) = some (.int ((l.getD p 0 : Nat) : Int)) := L2.atI_nat (natsD_get h)
theorem cut_to (xs : List PyData) (p : Nat) : cutD xs none (some (p : Int)) = xs.take p := by
  unfold cutD
  rw [HT.sIx_none, HT.sIx_nat]
  show (xs.drop 0).take (min p xs.length - 0) = xs.take p
  rw [Nat.sub_zero, List.drop_zero]
  by_cases h : p ≤ xs.length
  · rw [Nat.min_eq_left h]
  · rw [Nat.min_eq_right (by omega), List.take_length, List.take_of_length_le (by omega)]
theorem cut_from (xs : List PyData) (p : Nat) : cutD xs (some (p : Int)) none = xs.drop p := by
  unfold cutD
  rw [HT.sIx_none, HT.sIx_nat]
  by_cases h : p ≤ xs.length
  · rw [Nat.min_eq_left h, List.take_of_length_le]
    rw [List.length_drop]; omega
  · rw [Nat.min_eq_right (by omega), Nat.sub_self, List.take_zero, List.drop_eq_nil_of_le (by omega)]
theorem set_parts {l : List Nat} {p v : Nat} (h : p < l.length) : (natsD l).take p ++ [natD v] ++ (natsD l).drop (p + 1) = natsD (l.set p v) := by
  unfold natsD
  rw [← List.map_take, ← List.map_drop, List.set_eq_take_append_cons_drop, if_pos h, List.map_append, List.map_cons, List.append_assoc]
  rfl
theorem natsD_set (l : List Nat) (p v : Nat) : (natsD l).set p (natD v) = natsD (l.set p v) := by
  unfold natsD
  rw [List.map_set]
end Wm
set_option Elab.async false
set_option linter.all false
set_option maxRecDepth 100000
/-! what is a program, what is a stand, over plain data -/
namespace Wm
open PySem Dl
def whole : PyData → Bool
  | .int _ => true
  | _ => false
def wholeIn (d : PyData) (lo hi : Int) : Bool := match d with
  | .int i => decide (lo ≤ i) && decide (i ≤ hi)
  | _ => false
def tupOf (d : PyData) (m : Int) : Bool := match d with
  | .tuple ds => decide ((ds.length : Int) = m)
  | _ => false
def lims (n w m : Int) : List (Str × List Int) := [("set", [n, w]), ("add", [n, n]), ("jump", [n, m]), ("say", [n]), ("take", [n]), ("end", [])]
def intsD (l : List Int) : List PyData := l.map .int
def limsD (n w m : Int) : List (Str × PyData) := [("set", .tuple [.int n, .int w]), ("add", .tuple [.int n, .int n]), ("jump", .tuple [.int n, .int m]), ("say", .tuple [.int n]), ("take", .tuple [.int n]), ("end", .tuple [])]
theorem limsD_eq (n w m : Int) : limsD n w m = (lims n w m).map fun p => (p.1, PyData.tuple (intsD p.2)) := rfl
theorem lookup_map {β γ : Type} (f : β → γ) (x : Str) : ∀ l : List (Str × β), (l.map fun p => (p.1, f p.2)).lookup x = (l.lookup x).map f
  | [] => rfl
  | (y, b) :: l => by
    rw [List.map_cons, List.lookup_cons, List.lookup_cons]
    cases x == y with
    | true => rfl
    | false => exact lookup_map f x l
theorem limsD_get (n w m : Int) (x : Str) : (limsD n w m).lookup x = ((lims n w m).lookup x).map fun l => PyData.tuple (intsD l) := by rw [limsD_eq, lookup_map (fun l => PyData.tuple (intsD l))]
def partB (x y : PyData) : Bool := match y with
  | .int l => wholeIn x 0 (l - 1)
  | _ => false
def restB (rest : List PyData) (o : Option (List Int)) : Bool := match o with
  | some ls => decide (rest.length = ls.length) && (rest.zip (intsD ls)).all fun p => partB p.1 p.2
  | none => false
def rowB (d : PyData) (n w m : Int) : Bool := match d with
  | .tuple (.str word :: rest) => restB rest ((lims n w m).lookup word)
  | _ => false
def progB3 (a b c : PyData) : Bool := match a, b, c with
  | .int n, .int w, .tuple rs => (decide (1 ≤ n) && decide (n ≤ 12)) && (decide (2 ≤ w) && decide (w ≤ 100)) && (decide (1 ≤ (rs.length : Int)) && decide ((rs.length : Int) ≤ 20)) && rs.all fun r => rowB r n w rs.length
  | _, _, _ => false
def progB (d : PyData) : Bool := match d with
  | .tuple [a, b, c] => progB3 a b c
  | _ => false
def sheetsB (x : Prog) (a s : PyData) : Bool := match s with
  | .tuple ss => wholeIn a 0 x.rows.length && decide ((ss.length : Int) = x.n) && ss.all fun s => wholeIn s 0 (x.w - 1)
  | _ => false
def standB (x : Prog) (d : PyData) : Bool := match d with
  | .tuple [a, s] => sheetsB x a s
  | _ => false
theorem whole_nat (v : Nat) (m : Int) (h : (v : Int) ≤ m) : wholeIn (.int v) 0 m = true := by
  show (decide ((0 : Int) ≤ v) && decide ((v : Int) ≤ m)) = true
  rw [decide_eq_true (by omega), decide_eq_true h]
  rfl
theorem row_B {r : Row} {n w m : Nat} (h : r.Ok n w m) : rowB r.D n w m = true := by
  cases r with
  | set p v => obtain ⟨h1, h2⟩ := h; show (true && (wholeIn (.int p) 0 ((n : Int) - 1) && (wholeIn (.int v) 0 ((w : Int) - 1) && true))) = true; rw [whole_nat _ _ (by omega), whole_nat _ _ (by omega)]; rfl
  | add p v => obtain ⟨h1, h2⟩ := h; show (true && (wholeIn (.int p) 0 ((n : Int) - 1) && (wholeIn (.int v) 0 ((n : Int) - 1) && true))) = true; rw [whole_nat _ _ (by omega), whole_nat _ _ (by omega)]; rfl
  | jump p v => obtain ⟨h1, h2⟩ := h; show (true && (wholeIn (.int p) 0 ((n : Int) - 1) && (wholeIn (.int v) 0 ((m : Int) - 1) && true))) = true; rw [whole_nat _ _ (by omega), whole_nat _ _ (by omega)]; rfl
  | say p => have h1 : p < n := h; show (true && (wholeIn (.int p) 0 ((n : Int) - 1) && true)) = true; rw [whole_nat _ _ (by omega)]; rfl
  | take p => have h1 : p < n := h; show (true && (wholeIn (.int p) 0 ((n : Int) - 1) && true)) = true; rw [whole_nat _ _ (by omega)]; rfl
  | fin => rfl
theorem prog_B {x : Prog} (h : x.Ok) : progB x.D = true := by
  obtain ⟨h1, h2, h3, h4, h5, h6, h7⟩ := h
  show ((decide (1 ≤ (x.n : Int)) && decide ((x.n : Int) ≤ 12)) && (decide (2 ≤ (x.w : Int)) && decide ((x.w : Int) ≤ 100)) && (decide (1 ≤ ((x.rows.map Row.D).length : Int)) && decide (((x.rows.map Row.D).length : Int) ≤ 20)) && (x.rows.map Row.D).all fun r => rowB r x.n x.w (x.rows.map Row.D).length) = true
  rw [List.length_map, decide_eq_true (by omega), decide_eq_true (by omega), decide_eq_true (by omega), decide_eq_true (by omega), decide_eq_true (by omega), decide_eq_true (by omega)]
  show ((x.rows.map Row.D).all fun r => rowB r x.n x.w x.rows.length) = true
  rw [List.all_eq_true]
  intro d hd
  obtain ⟨r, hr, rfl⟩ := List.mem_map.mp hd
  exact row_B (h7 r hr)
theorem stand_B {x : Prog} {s : Stand} (h : s.Ok x) : standB x s.D = true := by
  obtain ⟨h1, h2, h3⟩ := h
  show (wholeIn (.int s.at_) 0 x.rows.length && decide (((natsD s.sh).length : Int) = x.n) && (natsD s.sh).all fun s => wholeIn s 0 ((x.w : Int) - 1)) = true
  rw [natsD_len, whole_nat _ _ (by omega), decide_eq_true (by omega)]
  show ((natsD s.sh).all fun s => wholeIn s 0 ((x.w : Int) - 1)) = true
  rw [List.all_eq_true]
  intro d hd
  obtain ⟨v, hv, rfl⟩ := List.mem_map.mp hd
  have := h3 v hv
  exact whole_nat _ _ (by omega)
theorem wholeIn_int {d : PyData} {lo hi : Int} (h : wholeIn d lo hi = true) : ∃ i, d = .int i ∧ lo ≤ i ∧ i ≤ hi := by
  cases d with
  | int i =>
    have h : (decide (lo ≤ i) && decide (i ≤ hi)) = true := h
    rw [Bool.and_eq_true] at h
    exact ⟨i, rfl, of_decide_eq_true h.1, of_decide_eq_true h.2⟩
  | _ => cases h
theorem progB_no1 {a b c : PyData} (h : wholeIn a 1 12 = false) : progB (.tuple [a, b, c]) = false := by
  cases a <;> try rfl
  cases b <;> try rfl
  cases c <;> try rfl
  rename_i n w rs
  show (wholeIn (.int n) 1 12 && _ && _ && _) = false
  rw [h, Bool.false_and, Bool.false_and, Bool.false_and]
theorem progB_no2 {n : Int} {b c : PyData} (h : wholeIn b 2 100 = false) : progB (.tuple [.int n, b, c]) = false := by
  cases b <;> try rfl
  cases c <;> try rfl
  rename_i w rs
  show (_ && wholeIn (.int w) 2 100 && _ && _) = false
  rw [h, Bool.and_false, Bool.false_and, Bool.false_and]
theorem progB_yes {n w : Int} {rs : List PyData} (h1 : wholeIn (.int n) 1 12 = true) (h2 : wholeIn (.int w) 2 100 = true) : progB (.tuple [.int n, .int w, .tuple rs]) = ((decide (1 ≤ (rs.length : Int)) && decide ((rs.length : Int) ≤ 20)) && rs.all fun r => rowB r n w rs.length) := by
  show (wholeIn (.int n) 1 12 && wholeIn (.int w) 2 100 && (decide (1 ≤ (rs.length : Int)) && decide ((rs.length : Int) ≤ 20)) && rs.all fun r => rowB r n w rs.length) = _
  rw [h1, h2]
  rfl
theorem part_in (i m : Int) : wholeIn (.int i) 0 (m - 1) = (decide (0 ≤ i) && decide (i < m)) := by
  show (decide (0 ≤ i) && decide (i ≤ m - 1)) = _
  rw [show decide (i ≤ m - 1) = decide (i < m) from decide_eq_decide.mpr (by omega)]
theorem all_not (f : PyData → Bool) : ∀ l : List PyData, (!(l.map f).any (!·)) = l.all f
  | [] => rfl
  | a :: l => by
    rw [List.map_cons, List.any_cons, List.all_cons, ← all_not f l, Bool.not_or, Bool.not_not]
end Wm
set_option Elab.async false
set_option linter.all false
set_option maxRecDepth 100000
/-! a tick needs only what it reads -/
namespace Wm
open PySem Dl
theorem row_ok {x : Prog} (hx : x.Ok) (a : Nat) : (rowAt x a).Ok x.n x.w x.rows.length := by
  unfold rowAt
  rw [List.getD_eq_getElem?_getD]
  cases h : x.rows[a]? with
  | none => trivial
  | some r => exact hx.rs r (List.mem_of_getElem? h)
theorem set_lt {l : List Nat} {m p v : Nat} (h : ∀ x ∈ l, x < m) (hv : v < m) : ∀ x ∈ l.set p v, x < m := fun x hx => by
  rcases List.mem_or_eq_of_mem_set hx with hx | rfl
  · exact h x hx
  · exact hv
theorem tick_ok {x : Prog} {s : Stand} {ls : List Nat} (hx : x.Ok) (hs : s.Ok x) (hl : ∀ v ∈ ls, v < x.w) : (tickF x s ls).st.Ok x := by
  have hr := row_ok hx s.at_
  have hw := hx.w1
  have at1 : ∀ r, rowAt x s.at_ = r → r ≠ .fin → s.at_ + 1 ≤ x.rows.length := fun r e h => by
    by_cases hlt : s.at_ < x.rows.length
    · omega
    · exfalso
      apply h
      rw [← e]
      unfold rowAt
      rw [List.getD_eq_getElem?_getD, List.getElem?_eq_none (by omega)]
      rfl
  unfold tickF
  cases e : rowAt x s.at_ with
  | set p v =>
    rw [e] at hr
    exact ⟨at1 _ e (fun z => by cases z), by show (s.sh.set p v).length = _; rw [List.length_set]; exact hs.s1, set_lt hs.s2 hr.2⟩
  | add p q =>
    exact ⟨at1 _ e (fun z => by cases z), by show (s.sh.set p _).length = _; rw [List.length_set]; exact hs.s1, set_lt hs.s2 (Nat.mod_lt _ (by omega))⟩
  | jump p k =>
    rw [e] at hr
    refine ⟨?_, hs.s1, hs.s2⟩
    show (if s.sh.getD p 0 = 0 then k else s.at_ + 1) ≤ x.rows.length
    split
    · exact Nat.le_of_lt hr.2
    · exact at1 _ e (fun z => by cases z)
  | say p => exact ⟨at1 _ e (fun z => by cases z), hs.s1, hs.s2⟩
  | take p =>
    cases ls with
    | nil => exact hs
    | cons l r => exact ⟨at1 _ e (fun z => by cases z), by show (s.sh.set p l).length = _; rw [List.length_set]; exact hs.s1, set_lt hs.s2 (hl l (List.mem_cons_self ..))⟩
  | fin => exact hs
theorem getD_set {l : List Nat} {p q v : Nat} (h : p < l.length) : (l.set p v).getD q 0 = if p = q then v else l.getD q 0 := by
  rw [List.getD_eq_getElem?_getD, List.getD_eq_getElem?_getD, List.getElem?_set]
  by_cases e : p = q
  · rw [if_pos e, if_pos h, if_pos e]
    rfl
  · rw [if_neg e, if_neg e]
theorem rise_mem (p q : Nat) : p ∈ rise p q ∧ q ∈ rise p q := by
  unfold rise
  by_cases e : p = q
  · subst e
    rw [if_pos rfl]
    exact ⟨List.mem_cons_self .., List.mem_cons_self ..⟩
  · rw [if_neg e]
    rcases Nat.le_total p q with h | h
    · rw [Nat.min_eq_left h, Nat.max_eq_right h]
      exact ⟨List.mem_cons_self .., List.mem_cons_of_mem _ (List.mem_cons_self ..)⟩
    · rw [Nat.min_eq_right h, Nat.max_eq_left h]
      exact ⟨List.mem_cons_of_mem _ (List.mem_cons_self ..), List.mem_cons_self ..⟩
theorem rise_up (p q : Nat) : (rise p q).Pairwise (· < ·) ∧ (rise p q).length ≤ 2 := by
  unfold rise
  by_cases e : p = q
  · rw [if_pos e]
    exact ⟨List.pairwise_singleton _ _, Nat.le_of_ble_eq_true rfl⟩
  · rw [if_neg e]
    refine ⟨List.pairwise_pair.mpr ?_, Nat.le_refl _⟩
    omega
structure Like (x : Prog) (s : Stand) (os : List Nat) (t u : Told) : Prop where
  word : u.word = t.word
  num : u.num = t.num
  reads : u.reads = t.reads
  writes : u.writes = t.writes
  at_ : u.st.at_ = t.st.at_
  wr : ∀ p ∈ t.writes, u.st.sh.getD p 0 = t.st.sh.getD p 0
  nw : ∀ p, p ∉ t.writes → t.st.sh.getD p 0 = s.sh.getD p 0
  no : ∀ p, p ∉ t.writes → u.st.sh.getD p 0 = os.getD p 0
  r1 : t.reads.Pairwise (· < ·)
  r2 : t.reads.length ≤ 2
  w1 : t.writes.Pairwise (· < ·)
  w2 : t.writes.length ≤ 2
theorem one_up (p : Nat) : [p].Pairwise (· < ·) ∧ [p].length ≤ 2 := ⟨List.pairwise_singleton _ _, Nat.le_of_ble_eq_true rfl⟩
theorem nil_up : ([] : List Nat).Pairwise (· < ·) ∧ ([] : List Nat).length ≤ 2 := ⟨.nil, by decide⟩
theorem tick_like {x : Prog} {s : Stand} {os ls : List Nat} (hx : x.Ok) (hs : s.Ok x) (hl : os.length = s.sh.length) (ha : ∀ p ∈ (tickF x s ls).reads, os.getD p 0 = s.sh.getD p 0) : Like x s os (tickF x s ls) (tickF x ⟨s.at_, os⟩ ls) := by
  have hr := row_ok hx s.at_
  have hsl := hs.s1
  have wr1 : ∀ (p v : Nat), p < s.sh.length → (∀ q ∈ [p], (os.set p v).getD q 0 = (s.sh.set p v).getD q 0) ∧ (∀ q, q ∉ [p] → (s.sh.set p v).getD q 0 = s.sh.getD q 0) ∧ (∀ q, q ∉ [p] → (os.set p v).getD q 0 = os.getD q 0) := fun p v hp => by
    refine ⟨fun q hq => ?_, fun q hq => ?_, fun q hq => ?_⟩
    · rw [List.mem_singleton.mp hq, getD_set hp, getD_set (by omega), if_pos rfl, if_pos rfl]
    · rw [getD_set hp, if_neg (fun z => hq (by rw [z]; exact List.mem_cons_self ..))]
    · rw [getD_set (by omega), if_neg (fun z => hq (by rw [z]; exact List.mem_cons_self ..))]
  unfold tickF at ha ⊢
  cases e : rowAt x s.at_ with
  | set p v =>
    rw [e] at hr
    have k := wr1 p v (by have := hr.1; omega)
    exact ⟨rfl, rfl, rfl, rfl, rfl, k.1, k.2.1, k.2.2, nil_up.1, nil_up.2, (one_up p).1, (one_up p).2⟩
  | add p q =>
    rw [e] at hr ha
    have e1 := ha p (rise_mem p q).1
    have e2 := ha q (rise_mem p q).2
    have k := wr1 p ((s.sh.getD p 0 + s.sh.getD q 0) % x.w) (by have := hr.1; omega)
    dsimp only
    rw [e1, e2]
    exact ⟨rfl, rfl, rfl, rfl, rfl, k.1, k.2.1, k.2.2, (rise_up p q).1, (rise_up p q).2, (one_up p).1, (one_up p).2⟩
  | jump p k =>
    rw [e] at ha
    have e1 := ha p (List.mem_cons_self ..)
    dsimp only
    rw [e1]
    exact ⟨rfl, rfl, rfl, rfl, rfl, fun q hq => (nomatch hq), fun _ _ => rfl, fun _ _ => rfl, (one_up p).1, (one_up p).2, nil_up.1, nil_up.2⟩
  | say p =>
    rw [e] at ha
    have e1 := ha p (List.mem_cons_self ..)
    dsimp only
    rw [e1]
    exact ⟨rfl, rfl, rfl, rfl, rfl, fun q hq => (nomatch hq), fun _ _ => rfl, fun _ _ => rfl, (one_up p).1, (one_up p).2, nil_up.1, nil_up.2⟩
  | take p =>
    rw [e] at hr
    cases ls with
    | nil => exact ⟨rfl, rfl, rfl, rfl, rfl, fun q hq => (nomatch hq), fun _ _ => rfl, fun _ _ => rfl, nil_up.1, nil_up.2, nil_up.1, nil_up.2⟩
    | cons l r =>
      have k := wr1 p l (by have : p < x.n := hr; omega)
      exact ⟨rfl, rfl, rfl, rfl, rfl, k.1, k.2.1, k.2.2, nil_up.1, nil_up.2, (one_up p).1, (one_up p).2⟩
  | fin => exact ⟨rfl, rfl, rfl, rfl, rfl, fun q hq => (nomatch hq), fun _ _ => rfl, fun _ _ => rfl, nil_up.1, nil_up.2, nil_up.1, nil_up.2⟩
theorem srt_eq : ∀ {ms ns : List Int}, ms.Pairwise (· < ·) → ns.Pairwise (· < ·) → (∀ k, k ∈ ms ↔ k ∈ ns) → ms = ns
  | [], [], _, _, _ => rfl
  | [], n :: ns, _, _, h => absurd ((h n).mpr (List.mem_cons_self ..)) (by simp)
  | m :: ms, [], _, _, h => absurd ((h m).mp (List.mem_cons_self ..)) (by simp)
  | m :: ms, n :: ns, h1, h2, h => by
    obtain ⟨a1, b1⟩ := List.pairwise_cons.mp h1
    obtain ⟨a2, b2⟩ := List.pairwise_cons.mp h2
    have e : m = n := by
      rcases List.mem_cons.mp ((h m).mp (List.mem_cons_self ..)) with q | q
      · exact q
      · rcases List.mem_cons.mp ((h n).mpr (List.mem_cons_self ..)) with r | r
        · exact r.symm
        · have := a2 m q
          have := a1 n r
          omega
    subst e
    rw [srt_eq b1 b2 fun k => ⟨fun hk => ?_, fun hk => ?_⟩]
    · rcases List.mem_cons.mp ((h k).mp (List.mem_cons_of_mem _ hk)) with q | q
      · have := a1 k hk
        omega
      · exact q
    · rcases List.mem_cons.mp ((h k).mpr (List.mem_cons_of_mem _ hk)) with q | q
      · have := a2 k hk
        omega
      · exact q
abbrev castL (l : List Nat) : List Int := l.map fun v : Nat => (v : Int)
theorem natsD_ints (l : List Nat) : natsD l = intsL (castL l) := by
  unfold natsD intsL
  rw [List.map_map]
  rfl
theorem cast_mem (p : Nat) (l : List Nat) : ((p : Int) ∈ castL l) ↔ p ∈ l := by
  rw [List.mem_map]
  exact ⟨fun ⟨v, hv, e⟩ => by have : v = p := by omega
                              rw [← this]; exact hv, fun h => ⟨p, h, rfl⟩⟩
theorem cast_up {l : List Nat} (h : l.Pairwise (· < ·)) : (castL l).Pairwise (· < ·) := List.Pairwise.map _ (fun a b hab => by omega) h
theorem lay_nats : ∀ l : List Nat, PyData.canLayAll0 (natsD l) = true
  | [] => rfl
  | a :: r => by
    show PyData.canLayAll0 (natD a :: natsD r) = true
    rw [PyData.canLayAll0, lay_nats r]
    rfl
theorem depth_nats : ∀ l : List Nat, PyData.depthAll (natsD l) = 0
  | [] => rfl
  | a :: r => by
    show PyData.depthAll (natD a :: natsD r) = 0
    rw [PyData.depthAll, depth_nats r]
    rfl
theorem shaped_nats (l : List Nat) : SeqAt.shaped (.list (natsD l)) = true := by
  unfold SeqAt.shaped
  rw [PyData.canLay0, lay_nats, PyData.depth, depth_nats]
  rfl
abbrev restD (t : Told) : PyData := .tuple [.str t.word, numD t.num, .tuple (natsD t.reads), .tuple (natsD t.writes)]
theorem tick_word (x : Prog) (s : Stand) (ls : List Nat) : PyData.strOk (tickF x s ls).word = true := by
  unfold tickF
  cases rowAt x s.at_ with
  | take p => cases ls <;> (dsimp only; decide +kernel)
  | _ => dsimp only; decide +kernel
theorem lay_rest (t : Told) (h : PyData.strOk t.word = true) : (restD t).canLay0 = true := by
  rw [PyData.canLay0]
  rw [PyData.canLayAll0, PyData.canLayAll0, PyData.canLayAll0, PyData.canLayAll0, PyData.canLayAll0, PyData.canLay0, PyData.canLay0, PyData.canLay0, lay_nats, lay_nats, h]
  cases t.num <;> rfl
theorem shaped_rest (t : Told) (h : PyData.strOk t.word = true) : SeqAt.shaped (restD t) = true := by
  unfold SeqAt.shaped
  rw [lay_rest t h]
  rw [PyData.depth, PyData.depthAll, PyData.depthAll, PyData.depthAll, PyData.depthAll, PyData.depthAll, PyData.depth, PyData.depth, PyData.depth, depth_nats, depth_nats]
  cases t.num <;> rfl
end Wm
set_option Elab.async false
set_option linter.all false
set_option maxRecDepth 100000
/-! runs as plain data -/
namespace Wm
open PySem Dl
abbrev Let := Nat × Nat
def letD (l : Let) : PyData := .tuple [.int l.1, .int l.2]
def letsD (ls : List Let) : List PyData := ls.map letD
/-- what lies there at a tick, so many taken -/
def lie (ls : List Let) (now used : Nat) : List Nat := ((ls.filter fun l => decide (l.1 ≤ now)).map (·.2)).drop used
structure RunA where
  x : Prog
  s : Stand
  ls : List Let
  many : Nat
/-- the stand and how many were taken, behind so many ticks -/
def runS (x : Prog) (s : Stand) (ls : List Let) : Nat → Stand × Nat
  | 0 => (s, 0)
  | n + 1 => let r := runS x s ls n
    let t := tickF x r.1 (lie ls n r.2)
    (t.st, r.2 + if t.word = "took" then 1 else 0)
def toldAt (x : Prog) (s : Stand) (ls : List Let) (n : Nat) : Told := tickF x (runS x s ls n).1 (lie ls n (runS x s ls n).2)
theorem runS_succ (x : Prog) (s : Stand) (ls : List Let) (n : Nat) : runS x s ls (n + 1) = ((toldAt x s ls n).st, (runS x s ls n).2 + if (toldAt x s ls n).word = "took" then 1 else 0) := rfl
def toldL (x : Prog) (s : Stand) (ls : List Let) (n : Nat) : List Told := (List.range n).map (toldAt x s ls)
theorem toldL_succ (x : Prog) (s : Stand) (ls : List Let) (n : Nat) : toldL x s ls (n + 1) = toldL x s ls n ++ [toldAt x s ls n] := by
  unfold toldL
  rw [List.range_succ, List.map_append]
  rfl
theorem toldL_len (x : Prog) (s : Stand) (ls : List Let) (n : Nat) : (toldL x s ls n).length = n := by
  unfold toldL
  rw [List.length_map, List.length_range]
theorem lie_lt {x : Prog} {ls : List Let} (h : ∀ l ∈ ls, l.2 < x.w) (now used : Nat) : ∀ v ∈ lie ls now used, v < x.w := fun v hv => by
  have hv := List.mem_of_mem_drop hv
  obtain ⟨l, hl, rfl⟩ := List.mem_map.mp hv
  exact h l (List.mem_filter.mp hl).1
theorem runS_ok {x : Prog} {s : Stand} {ls : List Let} (hx : x.Ok) (hs : s.Ok x) (h : ∀ l ∈ ls, l.2 < x.w) : ∀ n, (runS x s ls n).1.Ok x
  | 0 => hs
  | n + 1 => tick_ok hx (runS_ok hx hs h n) (lie_lt h _ _)
theorem took_ne {x : Prog} {s : Stand} {ls : List Nat} (h : (tickF x s ls).word = "took") : ls ≠ [] := fun z => by
  subst z
  unfold tickF at h
  revert h
  cases rowAt x s.at_ with
  | _ => intro h; dsimp only at h; exact absurd h (by decide +kernel)
/-- sorted by ticks -/
def Rises (ls : List Let) : Prop := ls.Pairwise fun a b => a.1 ≤ b.1
theorem filter_take {ls : List Let} {now came : Nat} (hs : Rises ls) (h1 : ∀ l ∈ ls.take came, l.1 ≤ now) (h2 : ∀ l, ls[came]? = some l → now < l.1) : (ls.filter fun l => decide (l.1 ≤ now)) = ls.take came := by
  have e : ls.filter (fun l => decide (l.1 ≤ now)) = (ls.take came).filter (fun l => decide (l.1 ≤ now)) ++ (ls.drop came).filter (fun l => decide (l.1 ≤ now)) := by
    rw [← List.filter_append, List.take_append_drop]
  rw [e, List.filter_eq_self.mpr (fun l hl => decide_eq_true (h1 l hl)), List.filter_eq_nil_iff.mpr, List.append_nil]
  intro l hl hd
  have hd : l.1 ≤ now := by simpa using hd
  cases hc : ls.drop came with
  | nil => rw [hc] at hl; cases hl
  | cons f r =>
    have hf : ls[came]? = some f := by
      have := congrArg (fun z : List Let => z[0]?) hc
      simpa using this
    have h3 := h2 f hf
    have hp : Rises (ls.drop came) := List.Pairwise.sublist (List.drop_sublist ..) hs
    rw [hc] at hl hp
    rcases List.mem_cons.mp hl with rfl | hl
    · omega
    · have := (List.pairwise_cons.mp hp).1 l hl
      omega
def saidL (x : Prog) (s : Stand) (ls : List Let) (n : Nat) : List (Nat × Option Nat) := (List.range n).filterMap fun i => if (toldAt x s ls i).word = "said" then some (i, (toldAt x s ls i).num) else none
def saidD (l : Nat × Option Nat) : PyData := .tuple [.int l.1, numD l.2]
theorem saidL_succ (x : Prog) (s : Stand) (ls : List Let) (n : Nat) : saidL x s ls (n + 1) = saidL x s ls n ++ (if (toldAt x s ls n).word = "said" then [(n, (toldAt x s ls n).num)] else []) := by
  unfold saidL
  rw [List.range_succ, List.filterMap_append]
  congr 1
  by_cases h : (toldAt x s ls n).word = "said"
  · simp [h]
  · simp [h]
theorem saidL_len (x : Prog) (s : Stand) (ls : List Let) (n : Nat) : (saidL x s ls n).length ≤ n := by
  unfold saidL
  exact Nat.le_trans (List.length_filterMap_le ..) (by rw [List.length_range]; exact Nat.le_refl _)
def touchD (t : Told) : PyData := .tuple [.tuple (natsD t.reads), .tuple (natsD t.writes)]
structure RunA.Ok (a : RunA) : Prop where
  hx : a.x.Ok
  hs : a.s.Ok a.x
  hl : ∀ l ∈ a.ls, l.2 < a.x.w
  hr : Rises a.ls
  ln : a.ls.length ≤ 1000
  mn : a.many ≤ 10000
theorem noL_nat (l : List Nat) : noLs (natsD l) = true := by
  rw [noLs_iff]
  intro d hd
  obtain ⟨v, _, rfl⟩ := List.mem_map.mp hd
  rfl
theorem noL_stand (s : Stand) : noL s.D = true := by
  show (noL (.int s.at_) && (noL (.tuple (natsD s.sh)) && noLs [])) = true
  rw [show noL (.tuple (natsD s.sh)) = noLs (natsD s.sh) from rfl, noL_nat]
  rfl
theorem noL_told (t : Told) : noL t.D = true := by
  show (noL t.st.D && (noL (.str t.word) && (noL (numD t.num) && (noL (.tuple (natsD t.reads)) && (noL (.tuple (natsD t.writes)) && noLs []))))) = true
  rw [noL_stand, show noL (.tuple (natsD t.reads)) = noLs (natsD t.reads) from rfl, show noL (.tuple (natsD t.writes)) = noLs (natsD t.writes) from rfl, noL_nat, noL_nat]
  cases t.num <;> rfl
theorem noL_tolds (l : List Told) : noLs (l.map Told.D) = true := by
  rw [noLs_iff]
  intro d hd
  obtain ⟨v, _, rfl⟩ := List.mem_map.mp hd
  exact noL_told v
theorem noL_said (l : List (Nat × Option Nat)) : noLs (l.map saidD) = true := by
  rw [noLs_iff]
  intro d hd
  obtain ⟨v, _, rfl⟩ := List.mem_map.mp hd
  show (noL (.int v.1) && (noL (numD v.2) && noLs [])) = true
  cases v.2 <;> rfl
theorem noL_touch (l : List Told) : noLs (l.map touchD) = true := by
  rw [noLs_iff]
  intro d hd
  obtain ⟨v, _, rfl⟩ := List.mem_map.mp hd
  show (noL (.tuple (natsD v.reads)) && (noL (.tuple (natsD v.writes)) && noLs [])) = true
  rw [show noL (.tuple (natsD v.reads)) = noLs (natsD v.reads) from rfl, show noL (.tuple (natsD v.writes)) = noLs (natsD v.writes) from rfl, noL_nat, noL_nat]
  rfl
end Wm
set_option Elab.async false
set_option linter.all false
set_option maxRecDepth 100000
/-! runs put together -/
namespace Wm
open PySem Dl
theorem rises_filter {ls : List Let} (hs : Rises ls) (now : Nat) : (ls.filter fun l => decide (l.1 ≤ now)) = ls.take (ls.filter fun l => decide (l.1 ≤ now)).length := by
  induction ls with
  | nil => rfl
  | cons l r ih =>
    have hp := List.pairwise_cons.mp hs
    rw [List.filter_cons]
    by_cases h : l.1 ≤ now
    · rw [if_pos (decide_eq_true h), List.length_cons, List.take_succ_cons, ← ih hp.2]
    · rw [if_neg (by rw [decide_eq_true_eq]; exact h)]
      have : r.filter (fun l => decide (l.1 ≤ now)) = [] := by
        rw [List.filter_eq_nil_iff]
        intro m hm hd
        have := hp.1 m hm
        have hd : m.1 ≤ now := by simpa using hd
        omega
      rw [this]
      rfl
/-- what was taken had come -/
theorem used_pre {x : Prog} {s : Stand} {ls : List Let} (hs : Rises ls) : ∀ n, (∀ l ∈ ls.take (runS x s ls n).2, l.1 ≤ n) ∧ (runS x s ls n).2 ≤ ls.length
  | 0 => ⟨fun l hl => (nomatch hl), Nat.zero_le _⟩
  | n + 1 => by
    obtain ⟨ih, ih2⟩ := used_pre (x := x) (s := s) hs n
    rw [runS_succ]
    by_cases hw : (toldAt x s ls n).word = "took"
    · rw [if_pos hw]
      have ne := took_ne hw
      have hlt : (runS x s ls n).2 < (ls.filter fun l => decide (l.1 ≤ n)).length := by
        rcases Nat.lt_or_ge (runS x s ls n).2 (ls.filter fun l => decide (l.1 ≤ n)).length with h | h
        · exact h
        · exact absurd (by unfold lie; rw [List.drop_eq_nil_of_le (by rw [List.length_map]; exact h)]) ne
      have hle := List.length_filter_le (fun l : Let => decide (l.1 ≤ n)) ls
      refine ⟨fun l hl => ?_, by show (runS x s ls n).2 + 1 ≤ ls.length; omega⟩
      have hl2 : l ∈ ls.take (ls.filter fun l => decide (l.1 ≤ n)).length := by
        have : ls.take ((runS x s ls n).2 + 1) = (ls.take (ls.filter fun l => decide (l.1 ≤ n)).length).take ((runS x s ls n).2 + 1) := by
          rw [List.take_take, Nat.min_eq_left (by omega)]
        have hl : l ∈ ls.take ((runS x s ls n).2 + 1) := hl
        rw [this] at hl
        exact List.mem_of_mem_take hl
      rw [← rises_filter hs] at hl2
      have := of_decide_eq_true (List.mem_filter.mp hl2).2
      omega
    · rw [if_neg hw]
      exact ⟨fun l hl => Nat.le_succ_of_le (ih l hl), ih2⟩
def restL (ls : List Let) (at_ used : Nat) : List Let := (ls.drop used).map fun l => (l.1 - at_, l.2)
theorem lie_rest {ls : List Let} {at_ used : Nat} (h : ∀ l ∈ ls.take used, l.1 ≤ at_) (hu : used ≤ ls.length) (n u : Nat) : lie (restL ls at_ used) n u = lie ls (at_ + n) (used + u) := by
  unfold lie restL
  have e1 : ((ls.drop used).map fun l => (l.1 - at_, l.2)).filter (fun l => decide (l.1 ≤ n)) = ((ls.drop used).filter fun l => decide (l.1 ≤ at_ + n)).map fun l => (l.1 - at_, l.2) := by
    rw [List.filter_map]
    congr 1
    congr 1
    funext l
    show decide (l.1 - at_ ≤ n) = decide (l.1 ≤ at_ + n)
    exact decide_eq_decide.mpr ⟨fun h => by omega, fun h => by omega⟩
  have e2 : ls.filter (fun l => decide (l.1 ≤ at_ + n)) = ls.take used ++ (ls.drop used).filter fun l => decide (l.1 ≤ at_ + n) := by
    conv => lhs; rw [← List.take_append_drop used ls]
    rw [List.filter_append, List.filter_eq_self.mpr]
    intro l hl
    exact decide_eq_true (Nat.le_trans (h l hl) (Nat.le_add_right _ _))
  rw [e1, e2, List.map_map, List.map_append, ← List.drop_drop]
  congr 1
  rw [List.drop_left' (by rw [List.length_map, List.length_take]; omega)]
  rfl
theorem runS_rest {x : Prog} {s : Stand} {ls : List Let} (hs : Rises ls) (at_ : Nat) : ∀ n, (runS x (runS x s ls at_).1 (restL ls at_ (runS x s ls at_).2) n).1 = (runS x s ls (at_ + n)).1 ∧ (runS x s ls at_).2 + (runS x (runS x s ls at_).1 (restL ls at_ (runS x s ls at_).2) n).2 = (runS x s ls (at_ + n)).2
  | 0 => ⟨rfl, rfl⟩
  | n + 1 => by
    obtain ⟨h1, h2⟩ := runS_rest (x := x) (s := s) hs at_ n
    obtain ⟨p1, p2⟩ := used_pre (x := x) (s := s) hs at_
    have e : toldAt x (runS x s ls at_).1 (restL ls at_ (runS x s ls at_).2) n = toldAt x s ls (at_ + n) := by
      unfold toldAt
      rw [h1, lie_rest p1 p2, h2]
    rw [runS_succ, ← Nat.add_assoc, runS_succ, e]
    exact ⟨rfl, by rw [← h2]; omega⟩
theorem told_rest {x : Prog} {s : Stand} {ls : List Let} (hs : Rises ls) (at_ n : Nat) : toldAt x (runS x s ls at_).1 (restL ls at_ (runS x s ls at_).2) n = toldAt x s ls (at_ + n) := by
  obtain ⟨h1, h2⟩ := runS_rest (x := x) (s := s) hs at_ n
  obtain ⟨p1, p2⟩ := used_pre (x := x) (s := s) hs at_
  unfold toldAt
  rw [h1, lie_rest p1 p2, h2]
theorem toldL_app {x : Prog} {s : Stand} {ls : List Let} (hs : Rises ls) (at_ n : Nat) : toldL x s ls at_ ++ toldL x (runS x s ls at_).1 (restL ls at_ (runS x s ls at_).2) n = toldL x s ls (at_ + n) := by
  unfold toldL
  rw [List.range_add, List.map_append, List.map_map]
  congr 1
  apply List.map_congr_left
  intro i _
  exact told_rest hs at_ i
theorem saidL_app {x : Prog} {s : Stand} {ls : List Let} (hs : Rises ls) (at_ n : Nat) : saidL x s ls at_ ++ (saidL x (runS x s ls at_).1 (restL ls at_ (runS x s ls at_).2) n).map (fun l => (l.1 + at_, l.2)) = saidL x s ls (at_ + n) := by
  unfold saidL
  rw [List.range_add, List.filterMap_append, List.filterMap_map, List.map_filterMap]
  congr 1
  congr 1
  funext i
  rw [told_rest hs at_ i]
  show _ = (if (toldAt x s ls (at_ + i)).word = "said" then some (at_ + i, (toldAt x s ls (at_ + i)).num) else none)
  by_cases h : (toldAt x s ls (at_ + i)).word = "said"
  · rw [if_pos h, if_pos h, Option.map_some, Nat.add_comm i at_]
  · rw [if_neg h, if_neg h]; rfl
theorem rest_rises {ls : List Let} (hs : Rises ls) (at_ used : Nat) : Rises (restL ls at_ used) := by
  unfold Rises restL
  rw [List.pairwise_map]
  exact (List.Pairwise.sublist (List.drop_sublist ..) hs).imp fun h => by show _ - _ ≤ _ - _; omega
/-- letters that come behind the last tick -/
def behL (ls : List Let) (many far : Nat) : List Let := (ls.filter fun l => decide (l.1 < many)) ++ [(far, 0)]
theorem lie_beh {ls : List Let} {many far now : Nat} (hf : many ≤ far) (hn : now < many) (u : Nat) : lie (behL ls many far) now u = lie ls now u := by
  unfold lie behL
  congr 2
  rw [List.filter_append, List.filter_filter]
  have e : ([(far, 0)] : List Let).filter (fun l => decide (l.1 ≤ now)) = [] := by
    rw [List.filter_eq_nil_iff]
    intro l hl hd
    rw [List.mem_singleton.mp hl] at hd
    have hd : far ≤ now := by simpa using hd
    omega
  rw [e, List.append_nil]
  congr 1
  funext l
  by_cases h : l.1 ≤ now
  · rw [decide_eq_true h, decide_eq_true (show l.1 < many by omega)]; rfl
  · rw [decide_eq_false h]; rfl
theorem runS_beh {x : Prog} {s : Stand} {ls : List Let} {many far : Nat} (hf : many ≤ far) : ∀ n, n ≤ many → runS x s (behL ls many far) n = runS x s ls n
  | 0, _ => rfl
  | n + 1, h => by
    have ih := runS_beh (x := x) (s := s) (ls := ls) hf n (by omega)
    rw [runS_succ, runS_succ]
    unfold toldAt
    rw [ih, lie_beh hf (by omega)]
theorem told_beh {x : Prog} {s : Stand} {ls : List Let} {many far : Nat} (hf : many ≤ far) {n : Nat} (h : n < many) : toldAt x s (behL ls many far) n = toldAt x s ls n := by
  unfold toldAt
  rw [runS_beh hf n (by omega), lie_beh hf h]
theorem saidL_beh {x : Prog} {s : Stand} {ls : List Let} {many far : Nat} (hf : many ≤ far) : saidL x s (behL ls many far) many = saidL x s ls many := by
  unfold saidL
  have gen : ∀ l : List Nat, (∀ i ∈ l, i < many) → (l.filterMap fun i => if (toldAt x s (behL ls many far) i).word = "said" then some (i, (toldAt x s (behL ls many far) i).num) else none) = l.filterMap fun i => if (toldAt x s ls i).word = "said" then some (i, (toldAt x s ls i).num) else none := fun l => by
    induction l with
    | nil => intro _; rfl
    | cons a r ih =>
      intro h
      rw [List.filterMap_cons, List.filterMap_cons, told_beh hf (h a (List.mem_cons_self ..)), ih fun i hi => h i (List.mem_cons_of_mem _ hi)]
  exact gen _ fun i hi => List.mem_range.mp hi
theorem beh_rises {ls : List Let} {many far : Nat} (hs : Rises ls) (hf : many ≤ far) : Rises (behL ls many far) := by
  unfold Rises behL
  rw [List.pairwise_append]
  refine ⟨List.Pairwise.sublist List.filter_sublist hs, List.pairwise_singleton .., fun a ha b hb => ?_⟩
  rw [List.mem_singleton.mp hb]
  have := of_decide_eq_true (List.mem_filter.mp ha).2
  show a.1 ≤ far
  omega
theorem toldL_take {x : Prog} {s : Stand} {ls : List Let} (n m : Nat) : (toldL x s ls (n + m)).take n = toldL x s ls n := by
  unfold toldL
  rw [← List.map_take, List.range_add, List.take_left' (List.length_range)]
/-- a take row behind which another row is next -/
def isTake : Row → Bool
  | .take _ => true
  | _ => false
theorem took_iff {x : Prog} {s : Stand} {ls : List Nat} : (tickF x s ls).word = "took" ↔ (isTake (rowAt x s.at_) = true ∧ (tickF x s ls).st.at_ ≠ s.at_) := by
  unfold tickF
  cases rowAt x s.at_ with
  | take p =>
    cases ls with
    | nil => exact ⟨fun h => absurd h (by dsimp only; decide +kernel), fun h => absurd rfl h.2⟩
    | cons l r => exact ⟨fun _ => ⟨rfl, by show s.at_ + 1 ≠ s.at_; omega⟩, fun _ => rfl⟩
  | _ => exact ⟨fun h => absurd h (by dsimp only; decide +kernel), fun h => nomatch h.1⟩
end Wm
set_option Elab.async false
set_option linter.all false
set_option maxRecDepth 100000
namespace K8
open PySem PySem.Spec PyProof.Rows L2 Dl Wm
def topS (i : Nat) : Stmt := PySem.Challenge.pw_warmove_k08_whole_runs_put_together.main.body.getD i (.Pass ⟨0, 0, 0, 0⟩)
abbrev s_row_at : Stmt := topS 1
theorem sc_row_at : FnScope ["program", "at", "rows"] ["program", "at"] (defScope s_row_at) := ⟨rfl, rfl, rfl, by decide +kernel, rfl, by decide +kernel, by decide +kernel⟩
abbrev s_rising : Stmt := topS 2
theorem sc_rising : FnScope ["p", "q"] ["p", "q"] (defScope s_rising) := ⟨rfl, rfl, rfl, by decide +kernel, rfl, by decide +kernel, by decide +kernel⟩
abbrev s_stand_behind_writing : Stmt := topS 3
theorem sc_stand_behind_writing : FnScope ["stand", "p", "number", "at", "sheets"] ["stand", "p", "number"] (defScope s_stand_behind_writing) := ⟨rfl, rfl, rfl, by decide +kernel, rfl, by decide +kernel, by decide +kernel⟩
abbrev s_nothing_done : Stmt := topS 4
theorem sc_nothing_done : FnScope ["stand", "word"] ["stand", "word"] (defScope s_nothing_done) := ⟨rfl, rfl, rfl, by decide +kernel, rfl, by decide +kernel, by decide +kernel⟩
abbrev s_do_set : Stmt := topS 5
theorem sc_do_set : FnScope ["stand", "p", "number"] ["stand", "p", "number"] (defScope s_do_set) := ⟨rfl, rfl, rfl, by decide +kernel, rfl, by decide +kernel, by decide +kernel⟩
abbrev s_do_add : Stmt := topS 6
theorem sc_do_add : FnScope ["stand", "w", "p", "q", "sheets", "total"] ["stand", "w", "p", "q"] (defScope s_do_add) := ⟨rfl, rfl, rfl, by decide +kernel, rfl, by decide +kernel, by decide +kernel⟩
abbrev s_do_jump : Stmt := topS 7
theorem sc_do_jump : FnScope ["stand", "p", "k", "at", "sheets", "to"] ["stand", "p", "k"] (defScope s_do_jump) := ⟨rfl, rfl, rfl, by decide +kernel, rfl, by decide +kernel, by decide +kernel⟩
abbrev s_do_say : Stmt := topS 8
theorem sc_do_say : FnScope ["stand", "p", "at", "sheets"] ["stand", "p"] (defScope s_do_say) := ⟨rfl, rfl, rfl, by decide +kernel, rfl, by decide +kernel, by decide +kernel⟩
abbrev s_do_take : Stmt := topS 9
theorem sc_do_take : FnScope ["stand", "p", "letters", "letter"] ["stand", "p", "letters"] (defScope s_do_take) := ⟨rfl, rfl, rfl, by decide +kernel, rfl, by decide +kernel, by decide +kernel⟩
abbrev s_tick : Stmt := topS 10
theorem sc_tick : FnScope ["program", "stand", "letters", "row", "word"] ["program", "stand", "letters"] (defScope s_tick) := ⟨rfl, rfl, rfl, by decide +kernel, rfl, by decide +kernel, by decide +kernel⟩
abbrev s_all_ticks : Stmt := topS 12
theorem sc_all_ticks : FnScope ["program", "stand", "letters", "many", "told", "lying", "came", "now", "done"] ["program", "stand", "letters", "many"] (defScope s_all_ticks) := ⟨rfl, rfl, rfl, by decide +kernel, rfl, by decide +kernel, by decide +kernel⟩
abbrev s_run : Stmt := topS 13
theorem sc_run : FnScope ["program", "stand", "letters", "many", "done", "said", "at", "behind", "word", "number", "reads", "writes"] ["program", "stand", "letters", "many"] (defScope s_run) := ⟨rfl, rfl, rfl, by decide +kernel, rfl, by decide +kernel, by decide +kernel⟩
abbrev s_touches : Stmt := topS 14
theorem sc_touches : FnScope ["program", "stand", "letters", "many", "done"] ["program", "stand", "letters", "many"] (defScope s_touches) := ⟨rfl, rfl, rfl, by decide +kernel, rfl, by decide +kernel, by decide +kernel⟩
abbrev s_trace : Stmt := topS 15
theorem sc_trace : FnScope ["program", "stand", "letters", "many", "done"] ["program", "stand", "letters", "many"] (defScope s_trace) := ⟨rfl, rfl, rfl, by decide +kernel, rfl, by decide +kernel, by decide +kernel⟩
abbrev s_law_pen : Stmt := topS 17
theorem sc_law_pen : FnScope ["script"] ["script"] (defScope s_law_pen) := ⟨rfl, rfl, rfl, by decide +kernel, rfl, by decide +kernel, by decide +kernel⟩
abbrev s_law_take : Stmt := topS 18
theorem sc_law_take : FnScope ["pen", "many", "at", "cell", "one", "two", "three", "found"] ["pen", "many"] (defScope s_law_take) := ⟨rfl, rfl, rfl, by decide +kernel, rfl, by decide +kernel, by decide +kernel⟩
abbrev s_law_row : Stmt := topS 19
theorem sc_law_row : FnScope ["pen", "n", "w", "many", "takes", "way", "p"] ["pen", "n", "w", "many", "takes"] (defScope s_law_row) := ⟨rfl, rfl, rfl, by decide +kernel, rfl, by decide +kernel, by decide +kernel⟩
abbrev s_law_program : Stmt := topS 20
theorem sc_law_program : FnScope ["pen", "takes", "n", "w", "many", "k"] ["pen", "takes"] (defScope s_law_program) := ⟨rfl, rfl, rfl, by decide +kernel, rfl, by decide +kernel, by decide +kernel⟩
abbrev s_law_sheets : Stmt := topS 21
theorem sc_law_sheets : FnScope ["pen", "program", "p"] ["pen", "program"] (defScope s_law_sheets) := ⟨rfl, rfl, rfl, by decide +kernel, rfl, by decide +kernel, by decide +kernel⟩
abbrev s_law_stand : Stmt := topS 22
theorem sc_law_stand : FnScope ["pen", "program", "at"] ["pen", "program"] (defScope s_law_stand) := ⟨rfl, rfl, rfl, by decide +kernel, rfl, by decide +kernel, by decide +kernel⟩
abbrev s_law_letters : Stmt := topS 23
theorem sc_law_letters : FnScope ["pen", "program", "most", "ticks", "now", "k"] ["pen", "program", "most"] (defScope s_law_letters) := ⟨rfl, rfl, rfl, by decide +kernel, rfl, by decide +kernel, by decide +kernel⟩
abbrev s_law_rest : Stmt := topS 24
theorem sc_law_rest : FnScope ["letters", "at", "used", "found", "come", "number"] ["letters", "at", "used"] (defScope s_law_rest) := ⟨rfl, rfl, rfl, by decide +kernel, rfl, by decide +kernel, by decide +kernel⟩
abbrev s_law_took : Stmt := topS 25
theorem sc_law_took : FnScope ["program", "stand", "letters", "many", "taken", "here", "now", "row", "there"] ["program", "stand", "letters", "many"] (defScope s_law_took) := ⟨rfl, rfl, rfl, by decide +kernel, rfl, by decide +kernel, by decide +kernel⟩
abbrev s_law : Stmt := topS 26
theorem sc_law : FnScope ["script", "pen", "turn", "program", "stand", "many", "at", "letters", "there", "said", "middle", "first", "rest", "last", "later", "both", "far", "behind", "now", "number", "reads", "writes", "one"] ["script"] (defScope s_law) := ⟨rfl, rfl, rfl, by decide +kernel, rfl, by decide +kernel, by decide +kernel⟩
structure Tx (K : PySem.W.Frag) (mg : Str → Option Value) (base : Heap) where
  ts : List Addr
  f_row_at : Addr
  d_row_at : FuncData
  F_row_at : Fun K "row_at" "row_at" s_row_at f_row_at d_row_at
  b_row_at : Binds K d_row_at ["program", "at"] []
  g_row_at : mg "row_at" = some (.ref f_row_at)
  f_rising : Addr
  d_rising : FuncData
  F_rising : Fun K "rising" "rising" s_rising f_rising d_rising
  b_rising : Binds K d_rising ["p", "q"] []
  g_rising : mg "rising" = some (.ref f_rising)
  f_stand_behind_writing : Addr
  d_stand_behind_writing : FuncData
  F_stand_behind_writing : Fun K "stand_behind_writing" "stand_behind_writing" s_stand_behind_writing f_stand_behind_writing d_stand_behind_writing
  b_stand_behind_writing : Binds K d_stand_behind_writing ["stand", "p", "number"] []
  g_stand_behind_writing : mg "stand_behind_writing" = some (.ref f_stand_behind_writing)
  f_nothing_done : Addr
  d_nothing_done : FuncData
  F_nothing_done : Fun K "nothing_done" "nothing_done" s_nothing_done f_nothing_done d_nothing_done
  b_nothing_done : Binds K d_nothing_done ["stand", "word"] []
  g_nothing_done : mg "nothing_done" = some (.ref f_nothing_done)
  f_do_set : Addr
  d_do_set : FuncData
  F_do_set : Fun K "do_set" "do_set" s_do_set f_do_set d_do_set
  b_do_set : Binds K d_do_set ["stand", "p", "number"] []
  g_do_set : mg "do_set" = some (.ref f_do_set)
  f_do_add : Addr
  d_do_add : FuncData
  F_do_add : Fun K "do_add" "do_add" s_do_add f_do_add d_do_add
  b_do_add : Binds K d_do_add ["stand", "w", "p", "q"] []
  g_do_add : mg "do_add" = some (.ref f_do_add)
  f_do_jump : Addr
  d_do_jump : FuncData
  F_do_jump : Fun K "do_jump" "do_jump" s_do_jump f_do_jump d_do_jump
  b_do_jump : Binds K d_do_jump ["stand", "p", "k"] []
  g_do_jump : mg "do_jump" = some (.ref f_do_jump)
  f_do_say : Addr
  d_do_say : FuncData
  F_do_say : Fun K "do_say" "do_say" s_do_say f_do_say d_do_say
  b_do_say : Binds K d_do_say ["stand", "p"] []
  g_do_say : mg "do_say" = some (.ref f_do_say)
  f_do_take : Addr
  d_do_take : FuncData
  F_do_take : Fun K "do_take" "do_take" s_do_take f_do_take d_do_take
  b_do_take : Binds K d_do_take ["stand", "p", "letters"] []
  g_do_take : mg "do_take" = some (.ref f_do_take)
  f_tick : Addr
  d_tick : FuncData
  F_tick : Fun K "tick" "tick" s_tick f_tick d_tick
  b_tick : Binds K d_tick ["program", "stand", "letters"] []
  g_tick : mg "tick" = some (.ref f_tick)
  f_all_ticks : Addr
  d_all_ticks : FuncData
  F_all_ticks : Fun K "all_ticks" "all_ticks" s_all_ticks f_all_ticks d_all_ticks
  b_all_ticks : Binds K d_all_ticks ["program", "stand", "letters", "many"] []
  g_all_ticks : mg "all_ticks" = some (.ref f_all_ticks)
  f_run : Addr
  d_run : FuncData
  F_run : Fun K "run" "run" s_run f_run d_run
  b_run : Binds K d_run ["program", "stand", "letters", "many"] []
  g_run : mg "run" = some (.ref f_run)
  f_touches : Addr
  d_touches : FuncData
  F_touches : Fun K "touches" "touches" s_touches f_touches d_touches
  b_touches : Binds K d_touches ["program", "stand", "letters", "many"] []
  g_touches : mg "touches" = some (.ref f_touches)
  f_trace : Addr
  d_trace : FuncData
  F_trace : Fun K "trace" "trace" s_trace f_trace d_trace
  b_trace : Binds K d_trace ["program", "stand", "letters", "many"] []
  g_trace : mg "trace" = some (.ref f_trace)
  f_law_pen : Addr
  d_law_pen : FuncData
  F_law_pen : Fun K "_law_pen" "_law_pen" s_law_pen f_law_pen d_law_pen
  b_law_pen : Binds K d_law_pen ["script"] []
  g_law_pen : mg "_law_pen" = some (.ref f_law_pen)
  f_law_take : Addr
  d_law_take : FuncData
  F_law_take : Fun K "_law_take" "_law_take" s_law_take f_law_take d_law_take
  b_law_take : Binds K d_law_take ["pen", "many"] []
  g_law_take : mg "_law_take" = some (.ref f_law_take)
  f_law_row : Addr
  d_law_row : FuncData
  F_law_row : Fun K "_law_row" "_law_row" s_law_row f_law_row d_law_row
  b_law_row : Binds K d_law_row ["pen", "n", "w", "many", "takes"] []
  g_law_row : mg "_law_row" = some (.ref f_law_row)
  f_law_program : Addr
  d_law_program : FuncData
  F_law_program : Fun K "_law_program" "_law_program" s_law_program f_law_program d_law_program
  b_law_program : Binds K d_law_program ["pen", "takes"] []
  g_law_program : mg "_law_program" = some (.ref f_law_program)
  f_law_sheets : Addr
  d_law_sheets : FuncData
  F_law_sheets : Fun K "_law_sheets" "_law_sheets" s_law_sheets f_law_sheets d_law_sheets
  b_law_sheets : Binds K d_law_sheets ["pen", "program"] []
  g_law_sheets : mg "_law_sheets" = some (.ref f_law_sheets)
  f_law_stand : Addr
  d_law_stand : FuncData
  F_law_stand : Fun K "_law_stand" "_law_stand" s_law_stand f_law_stand d_law_stand
  b_law_stand : Binds K d_law_stand ["pen", "program"] []
  g_law_stand : mg "_law_stand" = some (.ref f_law_stand)
  f_law_letters : Addr
  d_law_letters : FuncData
  F_law_letters : Fun K "_law_letters" "_law_letters" s_law_letters f_law_letters d_law_letters
  b_law_letters : Binds K d_law_letters ["pen", "program", "most"] []
  g_law_letters : mg "_law_letters" = some (.ref f_law_letters)
  f_law_rest : Addr
  d_law_rest : FuncData
  F_law_rest : Fun K "_law_rest" "_law_rest" s_law_rest f_law_rest d_law_rest
  b_law_rest : Binds K d_law_rest ["letters", "at", "used"] []
  g_law_rest : mg "_law_rest" = some (.ref f_law_rest)
  f_law_took : Addr
  d_law_took : FuncData
  F_law_took : Fun K "_law_took" "_law_took" s_law_took f_law_took d_law_took
  b_law_took : Binds K d_law_took ["program", "stand", "letters", "many"] []
  g_law_took : mg "_law_took" = some (.ref f_law_took)
  m_enumerate : mg "enumerate" = none
  m_int : mg "int" = none
  m_len : mg "len" = none
  m_list : mg "list" = none
  m_max : mg "max" = none
  m_min : mg "min" = none
  m_range : mg "range" = none
  m_sorted : mg "sorted" = none
  m_tuple : mg "tuple" = none

local macro_rules | `(tactic| walk_at "e") => `(tactic| first
  | ((with_reducible refine e_var (by with_unfolding_all exact rfl) ?_))
  | with_reducible refine e_int ?_
  | with_reducible refine e_str ?_
  | with_reducible refine e_bl ?_
  | with_reducible refine e_non ?_
  | ((with_reducible refine e_pen (by with_unfolding_all exact rfl) (Or.inr rfl) ?_); intro z hz)
  | ((with_reducible refine e_pen (by with_unfolding_all exact rfl) (Or.inl rfl) ?_); intro z hz)
  | ((with_reducible refine e_penIx (by with_unfolding_all exact rfl) ?_))
  | with_reducible refine e_op ?_
  | with_reducible refine e_tup ?_
  | with_reducible refine e_lst ?_
  | with_reducible refine ea_cons ?_
  | with_reducible refine ea_nil ?_
  | ((with_reducible refine e_penLen (by with_unfolding_all exact rfl) ?_))
  | ((with_reducible refine e_lenOwn (by with_unfolding_all exact rfl) ?_))
  | ((with_reducible refine e_tupOwn (by with_unfolding_all exact rfl) ?_))
  | ((with_reducible refine s_aug (by with_unfolding_all exact rfl) ?_); (try dsimp only [List.set]))
  | with_reducible refine e_callXF ?_
  | with_reducible refine r_ipI ?_
  | with_reducible refine e_un ?_
  | with_reducible refine r_neg ?_
  | with_reducible refine gws_cons ?_
  | with_reducible refine gws_nil ?_
  | with_reducible refine gw_tup rfl ?_
  | ((with_reducible refine gw_name (by decide) ?_); (try dsimp only [List.set]))
  | with_reducible refine e_isI ?_
  | with_reducible refine e_isB ?_
  | with_reducible refine e_isS ?_
  | with_reducible refine e_isTu ?_
  | with_reducible refine e_isL ?_
  | with_reducible refine e_cb ?_
  | with_reducible refine e_sl ?_
  | with_reducible refine eo_none ?_
  | with_reducible refine eo_some ?_
  | with_reducible refine et_test ?_
  | with_reducible refine et_B ?_
  | with_reducible refine et_and ?_
  | with_reducible refine et_or ?_
  | with_reducible refine et_not ?_
  | with_reducible refine et_yes ?_
  | with_reducible refine e_andV ?_
  | with_reducible refine e_orV ?_
  | with_reducible refine e_notV ?_
  | with_reducible refine e_if ?_
  | with_reducible refine e_chain ?_
  | with_reducible refine e_callX ?_
  | ((with_reducible refine e_callXP (by with_unfolding_all exact rfl) ?_ (by with_unfolding_all exact trivial)))
  | ((with_reducible refine s_seq ?_); (try dsimp only [List.set]))
  | with_reducible refine s_next ?_
  | with_reducible refine s_ret ?_
  | ((with_reducible refine s_pen (by with_unfolding_all exact rfl) (Or.inr rfl) ?_))
  | ((with_reducible refine s_pen (by with_unfolding_all exact rfl) (Or.inl rfl) ?_))
  | ((with_reducible refine s_putOwn (by with_unfolding_all exact rfl) ?_ (by with_unfolding_all exact rfl)))
  | with_reducible refine s_asg ?_
  | with_reducible refine s_asgG ?_
  | with_reducible refine s_if ?_
  | with_reducible refine g_name ?_
  | with_reducible refine g_tup rfl ?_
  | with_reducible refine gs_cons ?_
  | with_reducible refine gs_nil ?_
  | with_reducible refine r_lt ?_
  | with_reducible refine r_le ?_
  | with_reducible refine r_gt ?_
  | with_reducible refine r_ge ?_
  | with_reducible refine r_add ?_
  | with_reducible refine r_sub ?_
  | with_reducible refine r_eqI ?_
  | with_reducible refine r_eqS ?_
  | with_reducible refine r_eqB ?_
  | with_reducible refine r_neI ?_
  | with_reducible refine r_neB ?_
  | with_reducible refine c_min2 ?_
  | with_reducible refine c_max2 ?_
  | with_reducible refine c_intB ?_
  | with_reducible refine c_len (Or.inl rfl) ?_
  | with_reducible refine c_len (Or.inr rfl) ?_
  | with_reducible refine c_list (Or.inl rfl) ?_
  | with_reducible refine c_list (Or.inr rfl) ?_
  | with_reducible refine c_tuple (Or.inl rfl) ?_
  | with_reducible refine c_tuple (Or.inr rfl) ?_
  | with_reducible refine r_ixT (by with_unfolding_all exact rfl) ?_
  | with_reducible refine r_ixL (by with_unfolding_all exact rfl) ?_
  | with_reducible refine r_slT ?_
  | with_reducible refine r_slL ?_
  | with_reducible refine r_isNone ?_
  | with_reducible refine r_notBl ?_
  | with_reducible refine eps_cons ?_
  | with_reducible refine eps_nil ?_
  | with_reducible refine e_dget1 ?_
  | with_reducible refine ed_callX ?_
  | with_reducible refine ⟨_, rfl, ?_⟩
  | with_reducible refine And.intro (Nat.le_of_ble_eq_true rfl) ?_)
local macro_rules | `(tactic| walk_at "t") => `(tactic| first
  | walk_at "e"
  | refine r_modAny (by first | omega | decide) fun z z0 z1 => ?_
  | refine r_mul (by first | exact Or.inr ⟨by decide, by decide⟩ | exact Or.inl ⟨by decide, by decide⟩ | exact Or.inl ⟨by omega, by omega⟩) ?_
  | refine r_pow ⟨by decide, by decide, by decide⟩ ?_
  | refine r_fdivW (by first | assumption | (rename_i hw _; exact hw _) | exact wide_div (b := 200) (by decide) (by decide) (by decide) (by decide)) ?_
  | with_reducible refine And.intro (by omega) ?_)
local macro_rules | `(tactic| walk_at "k") => `(tactic| first
  | walk_at "e"
  | with_reducible refine ⟨fun hb => absurd hb (by decide +kernel), fun _ => ?_⟩
  | with_reducible refine ⟨fun _ => ?_, fun hb => absurd hb (by decide +kernel)⟩
  | refine ⟨fun hb => absurd hb Bool.false_ne_true, fun _ => ?_⟩
  | refine ⟨fun _ => ?_, fun hb => absurd hb.symm Bool.false_ne_true⟩)
local macro_rules | `(tactic| walk_at "d") => `(tactic| first
  | walk_at "k"
  | refine And.intro (show WfTake _ from ⟨by omega, by omega⟩) (take_all fun k hk => ?_))
local macro_rules | `(tactic| walk_at "o") => `(tactic| first
  | with_reducible refine s_ownList ?_
  | walk_at "d"
  | with_reducible refine ⟨_, Or.inl rfl, ?_⟩)

section
variable {P : Program} {w : World} {K : PySem.W.Frag} {mg : Str → Option Value} {base : Heap}
theorem ok_rising (T : Tx K mg base) : FnOk P w K mg base CX0 1 T.f_rising T.d_rising ["p", "q"] (SpX (α := Int × Int) K T.ts (fun _ => True) (fun x => [.int x.1, .int x.2]) (fun x d => d = .tuple (if x.1 = x.2 then [.int x.1] else [.int (min x.1 x.2), .int (max x.1 x.2)]))) := by
  refine fnX T.F_rising sc_rising (fun _ _ => rfl) (fun cdv A outer s H E hr => ⟨_, (pss_one (ps_ret (pe_ifExp (pt_cmpR op_eq (pv 0) (pv 1) (nomark _)) (pe_tup (pa_cons (pv 0) pa_nil)) (pe_tup (pa_cons (pe_callB (call_min2 rfl) (by rfl) T.m_min (by decide +kernel) (pa_cons (pv 0) (pa_cons (pv 1) pa_nil))) (pa_cons (pe_callB (call_max2 rfl) (by rfl) T.m_max (by decide +kernel) (pa_cons (pv 0) (pa_cons (pv 1) pa_nil))) pa_nil)))))), fun x _ => ?_⟩)
  repeat walk_at "e"
  refine ⟨fun hb => ?_, fun hb => ?_⟩
  · repeat walk_at "e"
    rw [if_pos (of_decide_eq_true hb)]
  · repeat walk_at "e"
    have hne := of_decide_eq_false hb
    rw [if_neg hne]
    rcases Int.lt_or_gt_of_ne hne with h | h
    · rw [if_neg (by omega), if_pos (by omega), Int.min_eq_left (by omega), Int.max_eq_right (by omega)]
    · rw [if_pos (by omega), if_neg (by omega), Int.min_eq_right (by omega), Int.max_eq_left (by omega)]
theorem ok_law_take (T : Tx K mg base) : FnOk P w K mg base CX0 1 T.f_law_take T.d_law_take ["pen", "many"] (spTake K T.ts) := by
  refine fnXP T.F_law_take sc_law_take ⟨_, _, rfl⟩ (fun _ _ => rfl) (fun cdv A outer s H E hr => ⟨_, (pss_cons (ps_if (pt_cmpR op_eq (pe_ix (kx_ixL K rfl) (pv 0) pe_int (fun _ _ => rfl)) pe_int (nomark _))
      (pss_cons (ps_set (i := 2) sc_law_take.nd rfl (.inl rfl) (pe_ix (kx_ixL K rfl) (pv 0) pe_int (fun _ _ => rfl)))
      (pss_cons (ps_asg (pe_op op_add (pv 2) pe_int) (pg_sub (pv 0) pe_int set_list))
      (pss_cons (ps_set (i := 3) sc_law_take.nd rfl (.inl rfl) pe_int)
      (pss_cons (ps_if (pt_cmpR op_lt (pv 2) (pe_callB (kx_len K rfl) (by rfl) T.m_len PySem.boot_len (pa_cons (pe_ix (kx_ixL K rfl) (pv 0) pe_int (fun _ _ => rfl)) pa_nil)) (nomark _))
      (pss_one (ps_set (i := 3) sc_law_take.nd rfl (.inl rfl) (pe_ix (kx_ixL K rfl) (pe_ix (kx_ixL K rfl) (pv 0) pe_int (fun _ _ => rfl)) (pv 2) (fun _ _ => rfl))))
      (pss_one (ps_if (pt_cmpR op_gt (pe_callB (kx_len K rfl) (by rfl) T.m_len PySem.boot_len (pa_cons (pe_ix (kx_ixL K rfl) (pv 0) pe_int (fun _ _ => rfl)) pa_nil)) pe_int (nomark _))
      (pss_one (ps_set (i := 3) sc_law_take.nd rfl (.inl rfl) (pe_op op_add (pe_op op_mod (pe_ix (kx_ixL K rfl) (pe_ix (kx_ixL K rfl) (pv 0) pe_int (fun _ _ => rfl)) (pe_op op_mod (pe_op op_mul (pv 2) pe_int) (pe_callB (kx_len K rfl) (by rfl) T.m_len PySem.boot_len (pa_cons (pe_ix (kx_ixL K rfl) (pv 0) pe_int (fun _ _ => rfl)) pa_nil))) (fun _ _ => rfl)) pe_int) (pe_op op_mul pe_int (pv 2)))))
      pss_nil)))
      (pss_cons (ps_set (i := 4) sc_law_take.nd rfl (.inl rfl) (pe_op op_mod (pe_op op_mul (pe_op op_add (pe_op op_add (pe_op op_mod (pv 3) pe_int) (pe_op op_mul pe_int (pv 2))) pe_int) pe_int) pe_int))
      (pss_cons (ps_set (i := 5) sc_law_take.nd rfl (.inl rfl) (pe_op op_mod (pe_op op_add (pe_op op_add (pe_op op_mul (pv 4) (pv 4)) (pe_op op_mul pe_int (pv 2))) pe_int) pe_int))
      (pss_cons (ps_set (i := 6) sc_law_take.nd rfl (.inl rfl) (pe_op op_mod (pe_op op_add (pe_op op_mul (pv 5) (pv 5)) (pv 4)) pe_int))
      (pss_cons (ps_asg (pe_op op_add (pe_op op_fdivW (pe_op op_add (pe_op op_mul (pv 5) pe_int) (pv 6)) pe_int) pe_int) (pg_sub (pv 0) pe_int set_list))
      (pss_one (ps_if (pt_cmpR op_ge (pv 3) (pe_op op_pow pe_int pe_int) (nomark _))
      (pss_one (ps_asg (pe_op op_fdivW (pv 3) (pe_op op_pow pe_int pe_int)) (pg_sub (pv 0) pe_int set_list)))
      pss_nil))))))))))
      pss_nil)
      (pss_cons (ps_set (i := 7) sc_law_take.nd rfl (.inl rfl) (pe_op op_mod (pe_ix (kx_ixL K rfl) (pv 0) pe_int (fun _ _ => rfl)) (pv 1)))
      (pss_cons (ps_asg (pe_op op_fdivW (pe_ix (kx_ixL K rfl) (pv 0) pe_int (fun _ _ => rfl)) (pv 1)) (pg_sub (pv 0) pe_int set_list))
      (pss_one (ps_ret (pv 7)))))), fun pa pc pn m hm => ?_⟩)
  try simp only [nox_K, blk_K, cx_K]
  obtain ⟨h0, h1⟩ := hm
  have hw : ∀ i : Int, CDivW i m := fun i => wide_div (b := 200) h0 (by omega) (by decide) (by decide)
  have h18 : (10 : Int) ^ (18 : Int).toNat = 1000000000000000000 := by decide
  have hw18 : ∀ i : Int, CDivW i (10 ^ (18 : Int).toNat) := fun i => by
    rw [h18]
    exact wide_div (b := 200) (by decide) (by decide) (by decide) (by decide)
  have hd : ∀ z : Int, 0 ≤ z → 0 ≤ z / m := fun z hz => Int.ediv_nonneg hz (by omega)
  repeat walk_at "e"
  refine ⟨fun _ => ?_, fun _ => ?_⟩
  · repeat walk_at "e"
    refine ⟨by omega, ?_⟩
    repeat walk_at "e"
    refine ⟨fun hb => ?_, fun hb => ?_⟩
    · have hb := of_decide_eq_true hb
      repeat walk_at "e"
      refine ⟨Int.toNat _, by rw [Int.toNat_of_nonneg (by assumption)], by omega, fun c => ?_⟩
      repeat walk_at "t"
      refine ⟨fun hc => ?_, fun hc => ?_⟩
      · have hc := of_decide_eq_true hc
        rw [h18] at hc
        repeat walk_at "t"
        refine ⟨by rw [h18]; omega, ?_⟩
        repeat walk_at "t"
        refine r_fdivW (hw _) ?_
        refine ⟨_, rfl, hd _ (by assumption), ?_⟩
        repeat walk_at "t"
        exact resTake_of (by assumption) (by assumption)
      · repeat walk_at "t"
        refine r_fdivW (hw _) ?_
        refine ⟨_, rfl, hd _ (by assumption), ?_⟩
        repeat walk_at "t"
        exact resTake_of (by assumption) (by assumption)
    · repeat walk_at "e"
      refine ⟨fun hn => ?_, fun hn => ?_⟩
      · have hn := of_decide_eq_true hn
        repeat walk_at "t"
        refine ⟨Int.toNat _, by rw [Int.toNat_of_nonneg (by assumption)], by omega, fun c => ?_⟩
        repeat walk_at "t"
        refine ⟨fun hc => ?_, fun hc => ?_⟩
        · have hc := of_decide_eq_true hc
          rw [h18] at hc
          repeat walk_at "t"
          refine ⟨by rw [h18]; omega, ?_⟩
          repeat walk_at "t"
          refine r_fdivW (hw _) ?_
          refine ⟨_, rfl, hd _ (by assumption), ?_⟩
          repeat walk_at "t"
          exact resTake_of (by assumption) (by assumption)
        · repeat walk_at "t"
          refine r_fdivW (hw _) ?_
          refine ⟨_, rfl, hd _ (by assumption), ?_⟩
          repeat walk_at "t"
          exact resTake_of (by assumption) (by assumption)
      · repeat walk_at "t"
        refine ⟨fun hc => ?_, fun hc => ?_⟩
        · have hc := of_decide_eq_true hc
          rw [h18] at hc
          omega
        · repeat walk_at "t"
          refine r_fdivW (hw _) ?_
          refine ⟨_, rfl, hd _ (by assumption), ?_⟩
          repeat walk_at "t"
          exact resTake_of (by assumption) (by assumption)
  · repeat walk_at "t"
    refine r_fdivW (hw _) ?_
    refine ⟨_, rfl, hd _ (by assumption), ?_⟩
    repeat walk_at "t"
    exact resTake_of (by assumption) (by assumption)
theorem ok_row_at (T : Tx K mg base) : FnOk P w K mg base CX0 1 T.f_row_at T.d_row_at ["program", "at"] (SpX (α := Prog × Nat) K T.ts (fun _ => True) (fun x => [x.1.D, .int x.2]) (fun x d => d = (rowAt x.1 x.2).D)) := by
  refine fnX T.F_row_at sc_row_at (fun _ _ => rfl) (fun cdv A outer s H E hr => ⟨_, (pss_cons (ps_set (i := 2) sc_row_at.nd rfl (.inl rfl) (pe_ix (kx_ixT K rfl) (pv 0) pe_int (fun _ _ => rfl)))
      (pss_one (ps_ret (pe_ifExp (pt_cmpR op_lt (pv 1) (pe_callB (kx_len K rfl) (by rfl) T.m_len PySem.boot_len (pa_cons (pv 2) pa_nil)) (nomark _)) (pe_ix (kx_ixT K rfl) (pv 2) (pv 1) (fun _ _ => rfl)) (pe_tup (pa_cons pe_str pa_nil)))))), fun x _ => ?_⟩)
  obtain ⟨x, a⟩ := x
  try simp only [nox_K, blk_K, cx_K]
  repeat walk_at "e"
  rw [List.length_map]
  refine ⟨fun hb => ?_, fun hb => ?_⟩
  · have hb : a < x.rows.length := by have := of_decide_eq_true hb; omega
    repeat walk_at "e"
    refine r_ixT (atI_nat (v := (rowAt x a).D) ?_) rfl
    unfold rowAt
    rw [List.getElem?_map, List.getElem?_eq_getElem hb, List.getD_eq_getElem?_getD, List.getElem?_eq_getElem hb]
    rfl
  · have hb : ¬ a < x.rows.length := by have := of_decide_eq_false hb; omega
    repeat walk_at "e"
    unfold rowAt
    rw [List.getD_eq_getElem?_getD, List.getElem?_eq_none (by omega)]
    rfl
theorem ok_stand_behind_writing (T : Tx K mg base) : FnOk P w K mg base CX0 1 T.f_stand_behind_writing T.d_stand_behind_writing ["stand", "p", "number"] (SpX (α := Stand × Nat × Nat) K T.ts (fun x => x.2.1 < x.1.sh.length ∧ x.1.sh.length ≤ 100) (fun x => [x.1.D, .int x.2.1, .int x.2.2]) (fun x d => d = (Stand.mk (x.1.at_ + 1) (x.1.sh.set x.2.1 x.2.2)).D)) := by
  refine fnX T.F_stand_behind_writing sc_stand_behind_writing (fun _ _ => rfl) (fun cdv A outer s H E hr => ⟨_, (pss_cons (ps_asg (pv 0) (kx_pgT K (n := 2) rfl rfl (pgs_cons (pg_name (i := 3) sc_stand_behind_writing.nd rfl (.inl rfl)) (pgs_cons (pg_name (i := 4) sc_stand_behind_writing.nd rfl (.inl rfl)) pgs_nil))))
      (pss_one (ps_ret (pe_tup (pa_cons (pe_op op_add (pv 3) pe_int) (pa_cons (pe_op (kx_catT K rfl) (pe_op (kx_catT K rfl) (pe_slice (kx_slT K rfl) (pv 4) po_none (po_some (pv 1))) (pe_tup (pa_cons (pv 2) pa_nil))) (pe_slice (kx_slT K rfl) (pv 4) (po_some (pe_op op_add (pv 1) pe_int)) po_none)) pa_nil)))))), fun x hx => ?_⟩)
  obtain ⟨s, p, v⟩ := x
  obtain ⟨h1, h2⟩ := hx
  dsimp only at h1 h2
  try simp only [nox_K, blk_K, cx_K]
  repeat walk_at "e"
  have l0 := natsD_len s.sh
  rw [cut_to]
  refine r_catT (by rw [List.length_take]; show _ + 1 ≤ _; omega) ?_
  repeat walk_at "e"
  rw [show ((p : Int) + 1) = ((p + 1 : Nat) : Int) from rfl, cut_from]
  refine r_catT (by rw [List.length_append, List.length_take, List.length_drop]; show _ + 1 + _ ≤ _; omega) ?_
  repeat walk_at "e"
  rw [set_parts h1]
  rfl
theorem ok_nothing_done (T : Tx K mg base) : FnOk P w K mg base CX0 1 T.f_nothing_done T.d_nothing_done ["stand", "word"] (SpX (α := Stand × Str) K T.ts (fun _ => True) (fun x => [x.1.D, .str x.2]) (fun x d => d = (Told.mk x.1 x.2 none [] []).D)) := by
  refine fnX T.F_nothing_done sc_nothing_done (fun _ _ => rfl) (fun cdv A outer s H E hr => ⟨_, (pss_one (ps_ret (pe_tup (pa_cons (pv 0) (pa_cons (pv 1) (pa_cons pe_non (pa_cons (pe_tup pa_nil) (pa_cons (pe_tup pa_nil) pa_nil)))))))), fun x hx => ?_⟩)
  obtain ⟨s, word⟩ := x
  try simp only [nox_K, blk_K, cx_K]
  repeat walk_at "e"
  rfl
theorem ok_do_set (T : Tx K mg base) : FnOk P w K mg base CX0 2 T.f_do_set T.d_do_set ["stand", "p", "number"] (SpX (α := Stand × Nat × Nat) K T.ts (fun x => x.2.1 < x.1.sh.length ∧ x.1.sh.length ≤ 100) (fun x => [x.1.D, .int x.2.1, .int x.2.2]) (fun x d => d = (Told.mk (Stand.mk (x.1.at_ + 1) (x.1.sh.set x.2.1 x.2.2)) "did" none [] [x.2.1]).D)) := by
  refine fnX T.F_do_set sc_do_set (fun _ _ => rfl) (fun cdv A outer s H E hr => ⟨_, (pss_one (ps_ret (pe_tup (pa_cons (pe_call (ok_stand_behind_writing T) (hr.mono (by decide)) (by rfl) T.g_stand_behind_writing T.F_stand_behind_writing.kp T.b_stand_behind_writing .nil pass0 (pa_cons (pv 0) (pa_cons (pv 1) (pa_cons (pv 2) pa_nil)))) (pa_cons pe_str (pa_cons pe_non (pa_cons (pe_tup pa_nil) (pa_cons (pe_tup (pa_cons (pv 1) pa_nil)) pa_nil)))))))), fun x hx => ?_⟩)
  obtain ⟨s, p, v⟩ := x
  try simp only [nox_K, blk_K, cx_K]
  repeat walk_at "e"
  refine ⟨⟨s, p, v⟩, rfl, hx, ?_⟩
  rintro d rfl
  repeat walk_at "e"
  rfl
theorem ok_do_add (T : Tx K mg base) : FnOk P w K mg base CX0 2 T.f_do_add T.d_do_add ["stand", "w", "p", "q"] (SpX (α := Stand × Nat × Nat × Nat) K T.ts (fun x => 0 < x.2.1 ∧ x.2.2.1 < x.1.sh.length ∧ x.2.2.2 < x.1.sh.length ∧ x.1.sh.length ≤ 100) (fun x => [x.1.D, .int x.2.1, .int x.2.2.1, .int x.2.2.2])
    (fun x d => d = (Told.mk (Stand.mk (x.1.at_ + 1) (x.1.sh.set x.2.2.1 ((x.1.sh.getD x.2.2.1 0 + x.1.sh.getD x.2.2.2 0) % x.2.1))) "did" none (rise x.2.2.1 x.2.2.2) [x.2.2.1]).D)) := by
  refine fnX T.F_do_add sc_do_add (fun _ _ => rfl) (fun cdv A outer s H E hr => ⟨_, (pss_cons (ps_set (i := 4) sc_do_add.nd rfl (.inl rfl) (pe_ix (kx_ixT K rfl) (pv 0) pe_int (fun _ _ => rfl)))
      (pss_cons (ps_set (i := 5) sc_do_add.nd rfl (.inl rfl) (pe_op op_mod (pe_op op_add (pe_ix (kx_ixT K rfl) (pv 4) (pv 2) (fun _ _ => rfl)) (pe_ix (kx_ixT K rfl) (pv 4) (pv 3) (fun _ _ => rfl))) (pv 1)))
      (pss_one (ps_ret (pe_tup (pa_cons (pe_call (ok_stand_behind_writing T) (hr.mono (by decide)) (by rfl) T.g_stand_behind_writing T.F_stand_behind_writing.kp T.b_stand_behind_writing .nil pass0 (pa_cons (pv 0) (pa_cons (pv 2) (pa_cons (pv 5) pa_nil)))) (pa_cons pe_str (pa_cons pe_non (pa_cons (pe_call (ok_rising T) (hr.mono (by decide)) (by rfl) T.g_rising T.F_rising.kp T.b_rising .nil pass0 (pa_cons (pv 2) (pa_cons (pv 3) pa_nil))) (pa_cons (pe_tup (pa_cons (pv 2) pa_nil)) pa_nil)))))))))), fun x hx => ?_⟩)
  obtain ⟨s, w', p, q⟩ := x
  obtain ⟨h0, h1, h2, h3⟩ := hx
  dsimp only at h0 h1 h2 h3
  try simp only [nox_K, blk_K, cx_K]
  repeat walk_at "e"
  refine r_ixT (natsD_at h1) ?_
  repeat walk_at "e"
  refine r_ixT (natsD_at h2) ?_
  repeat walk_at "e"
  refine r_mod (by omega) ?_
  repeat walk_at "e"
  refine ⟨⟨s, p, (s.sh.getD p 0 + s.sh.getD q 0) % w'⟩, rfl, ⟨h1, h3⟩, ?_⟩
  rintro d rfl
  repeat walk_at "e"
  refine ⟨⟨(p : Int), (q : Int)⟩, rfl, trivial, ?_⟩
  rintro d rfl
  repeat walk_at "e"
  unfold rise
  show _ = PyData.tuple [_, _, _, _, _]
  congr 5
  by_cases h : p = q
  · rw [if_pos (by omega), if_pos h]
    rfl
  · rw [if_neg (by omega), if_neg h]
    show PyData.tuple [PyData.int (min (p : Int) (q : Int)), PyData.int (max (p : Int) (q : Int))] = PyData.tuple [PyData.int ((min p q : Nat) : Int), PyData.int ((max p q : Nat) : Int)]
    rcases Nat.le_total p q with h2 | h2
    · rw [Int.min_eq_left (by omega), Int.max_eq_right (by omega), Nat.min_eq_left h2, Nat.max_eq_right h2]
    · rw [Int.min_eq_right (by omega), Int.max_eq_left (by omega), Nat.min_eq_right h2, Nat.max_eq_left h2]
theorem ok_do_jump (T : Tx K mg base) : FnOk P w K mg base CX0 1 T.f_do_jump T.d_do_jump ["stand", "p", "k"] (SpX (α := Stand × Nat × Nat) K T.ts (fun x => x.2.1 < x.1.sh.length) (fun x => [x.1.D, .int x.2.1, .int x.2.2]) (fun x d => d = (Told.mk (Stand.mk (if x.1.sh.getD x.2.1 0 = 0 then x.2.2 else x.1.at_ + 1) x.1.sh) "did" none [x.2.1] []).D)) := by
  refine fnX T.F_do_jump sc_do_jump (fun _ _ => rfl) (fun cdv A outer s H E hr => ⟨_, (pss_cons (ps_asg (pv 0) (kx_pgT K (n := 2) rfl rfl (pgs_cons (pg_name (i := 3) sc_do_jump.nd rfl (.inl rfl)) (pgs_cons (pg_name (i := 4) sc_do_jump.nd rfl (.inl rfl)) pgs_nil))))
      (pss_cons (ps_set (i := 5) sc_do_jump.nd rfl (.inl rfl) (pe_ifExp (pt_cmpR op_eq (pe_ix (kx_ixT K rfl) (pv 4) (pv 1) (fun _ _ => rfl)) pe_int (nomark _)) (pv 2) (pe_op op_add (pv 3) pe_int)))
      (pss_one (ps_ret (pe_tup (pa_cons (pe_tup (pa_cons (pv 5) (pa_cons (pv 4) pa_nil))) (pa_cons pe_str (pa_cons pe_non (pa_cons (pe_tup (pa_cons (pv 1) pa_nil)) (pa_cons (pe_tup pa_nil) pa_nil)))))))))), fun x hx => ?_⟩)
  obtain ⟨s, p, k⟩ := x
  dsimp only at hx
  try simp only [nox_K, blk_K, cx_K]
  repeat walk_at "e"
  refine r_ixT (natsD_at hx) ?_
  repeat walk_at "e"
  refine ⟨fun hb => ?_, fun hb => ?_⟩
  · have hb := of_decide_eq_true hb
    repeat walk_at "e"
    rw [if_pos (by omega)]
    rfl
  · have hb := of_decide_eq_false hb
    repeat walk_at "e"
    rw [if_neg (by omega)]
    rfl
theorem ok_do_say (T : Tx K mg base) : FnOk P w K mg base CX0 1 T.f_do_say T.d_do_say ["stand", "p"] (SpX (α := Stand × Nat) K T.ts (fun x => x.2 < x.1.sh.length) (fun x => [x.1.D, .int x.2]) (fun x d => d = (Told.mk (Stand.mk (x.1.at_ + 1) x.1.sh) "said" (some (x.1.sh.getD x.2 0)) [x.2] []).D)) := by
  refine fnX T.F_do_say sc_do_say (fun _ _ => rfl) (fun cdv A outer s H E hr => ⟨_, (pss_cons (ps_asg (pv 0) (kx_pgT K (n := 2) rfl rfl (pgs_cons (pg_name (i := 2) sc_do_say.nd rfl (.inl rfl)) (pgs_cons (pg_name (i := 3) sc_do_say.nd rfl (.inl rfl)) pgs_nil))))
      (pss_one (ps_ret (pe_tup (pa_cons (pe_tup (pa_cons (pe_op op_add (pv 2) pe_int) (pa_cons (pv 3) pa_nil))) (pa_cons pe_str (pa_cons (pe_ix (kx_ixT K rfl) (pv 3) (pv 1) (fun _ _ => rfl)) (pa_cons (pe_tup (pa_cons (pv 1) pa_nil)) (pa_cons (pe_tup pa_nil) pa_nil))))))))), fun x hx => ?_⟩)
  obtain ⟨s, p⟩ := x
  dsimp only at hx
  try simp only [nox_K, blk_K, cx_K]
  repeat walk_at "e"
  refine r_ixT (natsD_at hx) ?_
  repeat walk_at "e"
  rfl
theorem ok_do_take (T : Tx K mg base) : FnOk P w K mg base CX0 2 T.f_do_take T.d_do_take ["stand", "p", "letters"] (SpX (α := Stand × Nat × List Nat) K T.ts (fun x => x.2.1 < x.1.sh.length ∧ x.1.sh.length ≤ 100) (fun x => [x.1.D, .int x.2.1, .list (natsD x.2.2)])
    (fun x d => d = (match x.2.2 with | [] => Told.mk x.1 "waits" none [] [] | l :: _ => Told.mk (Stand.mk (x.1.at_ + 1) (x.1.sh.set x.2.1 l)) "took" (some l) [] [x.2.1]).D)) := by
  refine fnX T.F_do_take sc_do_take (fun _ _ => rfl) (fun cdv A outer s H E hr => ⟨_, (pss_cons (ps_if (pt_cmpR op_eq (pe_callB (kx_len K rfl) (by rfl) T.m_len PySem.boot_len (pa_cons (pv 2) pa_nil)) pe_int (nomark _))
      (pss_one (ps_ret (pe_call (ok_nothing_done T) (hr.mono (by decide)) (by rfl) T.g_nothing_done T.F_nothing_done.kp T.b_nothing_done .nil pass0 (pa_cons (pv 0) (pa_cons pe_str pa_nil)))))
      pss_nil)
      (pss_cons (ps_set (i := 3) sc_do_take.nd rfl (.inl rfl) (pe_ix (kx_ixL K rfl) (pv 2) pe_int (fun _ _ => rfl)))
      (pss_one (ps_ret (pe_tup (pa_cons (pe_call (ok_stand_behind_writing T) (hr.mono (by decide)) (by rfl) T.g_stand_behind_writing T.F_stand_behind_writing.kp T.b_stand_behind_writing .nil pass0 (pa_cons (pv 0) (pa_cons (pv 1) (pa_cons (pv 3) pa_nil)))) (pa_cons pe_str (pa_cons (pv 3) (pa_cons (pe_tup pa_nil) (pa_cons (pe_tup (pa_cons (pv 1) pa_nil)) pa_nil)))))))))), fun x hx => ?_⟩)
  obtain ⟨s, p, ls⟩ := x
  try simp only [nox_K, blk_K, cx_K]
  repeat walk_at "e"
  rw [natsD_len]
  cases ls with
  | nil =>
    refine ⟨fun _ => ?_, fun hb => absurd hb (by decide)⟩
    repeat walk_at "e"
    refine ⟨⟨s, "waits"⟩, rfl, trivial, ?_⟩
    rintro d rfl
    rfl
  | cons l r =>
    refine ⟨fun hb => ?_, fun hb => ?_⟩
    · have hb := of_decide_eq_true hb
      rw [List.length_cons] at hb
      omega
    · repeat walk_at "e"
      refine r_ixL (natsD_at (l := l :: r) (p := 0) (Nat.succ_pos _)) ?_
      repeat walk_at "e"
      refine ⟨⟨s, p, l⟩, rfl, hx, ?_⟩
      rintro d rfl
      repeat walk_at "e"
      rfl
abbrev tickA := Prog × Stand × List Nat
abbrev tickW (x : tickA) : Prop := x.1.Ok ∧ x.2.1.Ok x.1
abbrev tickE (x : tickA) : List PyData := [x.1.D, x.2.1.D, .list (natsD x.2.2)]
theorem ok_tick (T : Tx K mg base) : FnOk P w K mg base CX0 3 T.f_tick T.d_tick ["program", "stand", "letters"] (SpX (α := tickA) K T.ts tickW tickE (fun x d => d = (tickF x.1 x.2.1 x.2.2).D)) := by
  refine fnX T.F_tick sc_tick (fun _ _ => rfl) (fun cdv A outer s H E hr => ⟨_, (pss_cons (ps_set (i := 3) sc_tick.nd rfl (.inl rfl) (pe_call (ok_row_at T) (hr.mono (by decide)) (by rfl) T.g_row_at T.F_row_at.kp T.b_row_at .nil pass0 (pa_cons (pv 0) (pa_cons (pe_ix (kx_ixT K rfl) (pv 1) pe_int (fun _ _ => rfl)) pa_nil))))
      (pss_cons (ps_set (i := 4) sc_tick.nd rfl (.inl rfl) (pe_ix (kx_ixT K rfl) (pv 3) pe_int (fun _ _ => rfl)))
      (pss_cons (ps_if (pt_cmpR op_eq (pv 4) pe_str (nomark _))
      (pss_one (ps_ret (pe_call (ok_do_set T) (hr.mono (by decide)) (by rfl) T.g_do_set T.F_do_set.kp T.b_do_set .nil pass0 (pa_cons (pv 1) (pa_cons (pe_ix (kx_ixT K rfl) (pv 3) pe_int (fun _ _ => rfl)) (pa_cons (pe_ix (kx_ixT K rfl) (pv 3) pe_int (fun _ _ => rfl)) pa_nil))))))
      pss_nil)
      (pss_cons (ps_if (pt_cmpR op_eq (pv 4) pe_str (nomark _))
      (pss_one (ps_ret (pe_call (ok_do_add T) (hr.mono (by decide)) (by rfl) T.g_do_add T.F_do_add.kp T.b_do_add .nil pass0 (pa_cons (pv 1) (pa_cons (pe_ix (kx_ixT K rfl) (pv 0) pe_int (fun _ _ => rfl)) (pa_cons (pe_ix (kx_ixT K rfl) (pv 3) pe_int (fun _ _ => rfl)) (pa_cons (pe_ix (kx_ixT K rfl) (pv 3) pe_int (fun _ _ => rfl)) pa_nil)))))))
      pss_nil)
      (pss_cons (ps_if (pt_cmpR op_eq (pv 4) pe_str (nomark _))
      (pss_one (ps_ret (pe_call (ok_do_jump T) (hr.mono (by decide)) (by rfl) T.g_do_jump T.F_do_jump.kp T.b_do_jump .nil pass0 (pa_cons (pv 1) (pa_cons (pe_ix (kx_ixT K rfl) (pv 3) pe_int (fun _ _ => rfl)) (pa_cons (pe_ix (kx_ixT K rfl) (pv 3) pe_int (fun _ _ => rfl)) pa_nil))))))
      pss_nil)
      (pss_cons (ps_if (pt_cmpR op_eq (pv 4) pe_str (nomark _))
      (pss_one (ps_ret (pe_call (ok_do_say T) (hr.mono (by decide)) (by rfl) T.g_do_say T.F_do_say.kp T.b_do_say .nil pass0 (pa_cons (pv 1) (pa_cons (pe_ix (kx_ixT K rfl) (pv 3) pe_int (fun _ _ => rfl)) pa_nil)))))
      pss_nil)
      (pss_cons (ps_if (pt_cmpR op_eq (pv 4) pe_str (nomark _))
      (pss_one (ps_ret (pe_call (ok_do_take T) (hr.mono (by decide)) (by rfl) T.g_do_take T.F_do_take.kp T.b_do_take .nil pass0 (pa_cons (pv 1) (pa_cons (pe_ix (kx_ixT K rfl) (pv 3) pe_int (fun _ _ => rfl)) (pa_cons (pv 2) pa_nil))))))
      pss_nil)
      (pss_one (ps_ret (pe_call (ok_nothing_done T) (hr.mono (by decide)) (by rfl) T.g_nothing_done T.F_nothing_done.kp T.b_nothing_done .nil pass0 (pa_cons (pv 1) (pa_cons pe_str pa_nil)))))))))))), fun x hx => ?_⟩)
  obtain ⟨x, s, ls⟩ := x
  obtain ⟨hx, hs⟩ := hx
  dsimp only at hx hs
  try simp only [nox_K, blk_K, cx_K]
  have hr := row_ok hx s.at_
  have hl : s.sh.length ≤ 100 := by have := hs.s1; have := hx.n2; omega
  have hsl := hs.s1
  have hw := hx.w1
  repeat walk_at "e"
  refine ⟨⟨x, s.at_⟩, rfl, trivial, ?_⟩
  rintro d rfl
  unfold tickF
  dsimp only
  cases e : rowAt x s.at_ with
  | set p v =>
    rw [e] at hr
    dsimp only [Row.D, Row.Ok] at hr ⊢
    repeat walk_at "k"
    refine ⟨⟨s, p, v⟩, rfl, ⟨by show p < s.sh.length; omega, hl⟩, ?_⟩
    rintro d rfl
    rfl
  | add p q =>
    rw [e] at hr
    dsimp only [Row.D, Row.Ok] at hr ⊢
    repeat walk_at "k"
    refine ⟨⟨s, x.w, p, q⟩, rfl, ⟨by show 0 < x.w; omega, by show p < s.sh.length; omega, by show q < s.sh.length; omega, hl⟩, ?_⟩
    rintro d rfl
    rfl
  | jump p k =>
    rw [e] at hr
    dsimp only [Row.D, Row.Ok] at hr ⊢
    repeat walk_at "k"
    refine ⟨⟨s, p, k⟩, rfl, by show p < s.sh.length; omega, ?_⟩
    rintro d rfl
    rfl
  | say p =>
    rw [e] at hr
    dsimp only [Row.D, Row.Ok] at hr ⊢
    repeat walk_at "k"
    refine ⟨⟨s, p⟩, rfl, by show p < s.sh.length; omega, ?_⟩
    rintro d rfl
    rfl
  | take p =>
    rw [e] at hr
    dsimp only [Row.D, Row.Ok] at hr ⊢
    repeat walk_at "k"
    refine ⟨⟨s, p, ls⟩, rfl, ⟨by show p < s.sh.length; omega, hl⟩, ?_⟩
    rintro d rfl
    rfl
  | fin =>
    dsimp only [Row.D]
    repeat walk_at "k"
    refine ⟨⟨s, "ended"⟩, rfl, trivial, ?_⟩
    rintro d rfl
    rfl
end
end K8
set_option Elab.async false
set_option linter.all false
set_option maxRecDepth 100000
namespace K8
open PySem PySem.Spec PyProof.Rows L2 Dl Wm
local macro_rules | `(tactic| walk_at "e") => `(tactic| first
  | ((with_reducible refine e_var (by with_unfolding_all exact rfl) ?_))
  | with_reducible refine e_int ?_
  | with_reducible refine e_str ?_
  | with_reducible refine e_bl ?_
  | with_reducible refine e_non ?_
  | ((with_reducible refine e_pen (by with_unfolding_all exact rfl) (Or.inr rfl) ?_); intro z hz)
  | ((with_reducible refine e_pen (by with_unfolding_all exact rfl) (Or.inl rfl) ?_); intro z hz)
  | ((with_reducible refine e_penIx (by with_unfolding_all exact rfl) ?_))
  | with_reducible refine e_op ?_
  | with_reducible refine e_tup ?_
  | with_reducible refine e_lst ?_
  | with_reducible refine ea_cons ?_
  | with_reducible refine ea_nil ?_
  | ((with_reducible refine e_penLen (by with_unfolding_all exact rfl) ?_))
  | ((with_reducible refine e_lenOwn (by with_unfolding_all exact rfl) ?_))
  | ((with_reducible refine e_tupOwn (by with_unfolding_all exact rfl) ?_))
  | ((with_reducible refine s_aug (by with_unfolding_all exact rfl) ?_); (try dsimp only [List.set]))
  | with_reducible refine e_callXF ?_
  | with_reducible refine r_ipI ?_
  | with_reducible refine e_un ?_
  | with_reducible refine r_neg ?_
  | with_reducible refine gws_cons ?_
  | with_reducible refine gws_nil ?_
  | with_reducible refine gw_tup rfl ?_
  | ((with_reducible refine gw_name (by decide) ?_); (try dsimp only [List.set]))
  | with_reducible refine e_isI ?_
  | with_reducible refine e_isB ?_
  | with_reducible refine e_isS ?_
  | with_reducible refine e_isTu ?_
  | with_reducible refine e_isL ?_
  | with_reducible refine e_cb ?_
  | with_reducible refine e_sl ?_
  | with_reducible refine eo_none ?_
  | with_reducible refine eo_some ?_
  | with_reducible refine et_test ?_
  | with_reducible refine et_B ?_
  | with_reducible refine et_and ?_
  | with_reducible refine et_or ?_
  | with_reducible refine et_not ?_
  | with_reducible refine et_yes ?_
  | with_reducible refine e_andV ?_
  | with_reducible refine e_orV ?_
  | with_reducible refine e_notV ?_
  | with_reducible refine e_if ?_
  | with_reducible refine e_chain ?_
  | with_reducible refine e_callX ?_
  | ((with_reducible refine e_callXP (by with_unfolding_all exact rfl) ?_ (by with_unfolding_all exact trivial)))
  | ((with_reducible refine s_seq ?_); (try dsimp only [List.set]))
  | with_reducible refine s_next ?_
  | with_reducible refine s_ret ?_
  | ((with_reducible refine s_pen (by with_unfolding_all exact rfl) (Or.inr rfl) ?_))
  | ((with_reducible refine s_pen (by with_unfolding_all exact rfl) (Or.inl rfl) ?_))
  | ((with_reducible refine s_putOwn (by with_unfolding_all exact rfl) ?_ (by with_unfolding_all exact rfl)))
  | with_reducible refine s_asg ?_
  | with_reducible refine s_asgG ?_
  | with_reducible refine s_if ?_
  | with_reducible refine g_name ?_
  | with_reducible refine g_tup rfl ?_
  | with_reducible refine gs_cons ?_
  | with_reducible refine gs_nil ?_
  | with_reducible refine r_lt ?_
  | with_reducible refine r_le ?_
  | with_reducible refine r_gt ?_
  | with_reducible refine r_ge ?_
  | with_reducible refine r_add ?_
  | with_reducible refine r_sub ?_
  | with_reducible refine r_eqI ?_
  | with_reducible refine r_eqS ?_
  | with_reducible refine r_eqB ?_
  | with_reducible refine r_neI ?_
  | with_reducible refine r_neB ?_
  | with_reducible refine c_min2 ?_
  | with_reducible refine c_max2 ?_
  | with_reducible refine c_intB ?_
  | with_reducible refine c_len (Or.inl rfl) ?_
  | with_reducible refine c_len (Or.inr rfl) ?_
  | with_reducible refine c_list (Or.inl rfl) ?_
  | with_reducible refine c_list (Or.inr rfl) ?_
  | with_reducible refine c_tuple (Or.inl rfl) ?_
  | with_reducible refine c_tuple (Or.inr rfl) ?_
  | with_reducible refine r_ixT (by with_unfolding_all exact rfl) ?_
  | with_reducible refine r_ixL (by with_unfolding_all exact rfl) ?_
  | with_reducible refine r_slT ?_
  | with_reducible refine r_slL ?_
  | with_reducible refine r_isNone ?_
  | with_reducible refine r_notBl ?_
  | with_reducible refine eps_cons ?_
  | with_reducible refine eps_nil ?_
  | with_reducible refine e_dget1 ?_
  | with_reducible refine ed_callX ?_
  | with_reducible refine ⟨_, rfl, ?_⟩
  | with_reducible refine And.intro (Nat.le_of_ble_eq_true rfl) ?_)
local macro_rules | `(tactic| walk_at "t") => `(tactic| first
  | walk_at "e"
  | refine r_modAny (by first | omega | decide) fun z z0 z1 => ?_
  | refine r_mul (by first | exact Or.inr ⟨by decide, by decide⟩ | exact Or.inl ⟨by decide, by decide⟩ | exact Or.inl ⟨by omega, by omega⟩) ?_
  | refine r_pow ⟨by decide, by decide, by decide⟩ ?_
  | refine r_fdivW (by first | assumption | (rename_i hw _; exact hw _) | exact wide_div (b := 200) (by decide) (by decide) (by decide) (by decide)) ?_
  | with_reducible refine And.intro (by omega) ?_)
local macro_rules | `(tactic| walk_at "k") => `(tactic| first
  | walk_at "e"
  | with_reducible refine ⟨fun hb => absurd hb (by decide +kernel), fun _ => ?_⟩
  | with_reducible refine ⟨fun _ => ?_, fun hb => absurd hb (by decide +kernel)⟩
  | refine ⟨fun hb => absurd hb Bool.false_ne_true, fun _ => ?_⟩
  | refine ⟨fun _ => ?_, fun hb => absurd hb.symm Bool.false_ne_true⟩)
local macro_rules | `(tactic| walk_at "d") => `(tactic| first
  | walk_at "k"
  | refine And.intro (show WfTake _ from ⟨by omega, by omega⟩) (take_all fun k hk => ?_))
local macro_rules | `(tactic| walk_at "o") => `(tactic| first
  | with_reducible refine s_ownList ?_
  | walk_at "d"
  | with_reducible refine ⟨_, Or.inl rfl, ?_⟩)

section
variable {P : Program} {w : World} {K : PySem.W.Frag} {mg : Str → Option Value} {base : Heap}
abbrev spAll (K : PySem.W.Frag) (ts : List Addr) : Sp := SpX (α := RunA) K ts RunA.Ok (fun a => [a.x.D, a.s.D, .list (letsD a.ls), .int a.many]) (fun a d => d = .list ((toldL a.x a.s a.ls a.many).map Told.D))
abbrev LA (x : Prog) (s : Stand) (ls : List Let) (many : Nat) (told lying : List PyData) (came : Nat) : Lv := [some (.d x.D), some (.d s.D), some (.d (.list (letsD ls))), some (.d (.int many)), some (.own (.lst told)), some (.own (.lst lying)), some (.d (.int came)), none, none]
abbrev LAw (x : Prog) (s : Stand) (ls : List Let) (many : Nat) (told lying : List PyData) (came now : Nat) : Lv := [some (.d x.D), some (.d s.D), some (.d (.list (letsD ls))), some (.d (.int many)), some (.own (.lst told)), some (.own (.lst lying)), some (.d (.int came)), some (.d (.int now)), none]
theorem lets_at {ls : List Let} {i : Nat} {l : Let} (h : ls[i]? = some l) : atI (letsD ls) (i : Int) = some (letD l) := by
  refine atI_nat ?_
  unfold letsD
  rw [List.getElem?_map, h]
  rfl
theorem lying_app {ls : List Let} {came used : Nat} {l : Let} (h : ls[came]? = some l) (hu : used ≤ came) : natsD (((ls.take came).map (·.2)).drop used) ++ [.int (l.2 : Int)] = natsD (((ls.take (came + 1)).map (·.2)).drop used) := by
  obtain ⟨hlt, hg⟩ := List.getElem?_eq_some_iff.mp h
  rw [List.take_succ_eq_append_getElem hlt, List.map_append, List.drop_append_of_le_length (by rw [List.length_map, List.length_take]; omega), hg]
  unfold natsD
  rw [List.map_append]
  rfl
set_option maxHeartbeats 4000000 in
theorem ok_all_ticks (T : Tx K mg base) : FnOk P w K mg base CX0 4 T.f_all_ticks T.d_all_ticks ["program", "stand", "letters", "many"] (spAll K T.ts) := by
  refine fnX T.F_all_ticks sc_all_ticks (fun _ _ => rfl) (fun cdv A outer s H E hr => ⟨_, (pss_cons (ps_set (i := 4) sc_all_ticks.nd rfl (.inl rfl) (pe_lst pa_nil))
      (pss_cons (ps_set (i := 5) sc_all_ticks.nd rfl (.inl rfl) (pe_lst pa_nil))
      (pss_cons (ps_set (i := 6) sc_all_ticks.nd rfl (.inl rfl) pe_int)
      (pss_cons (ps_for PassesOwn.never rfl (pi_range1 rfl T.m_range (pa_cons (pv 3) pa_nil)) (pg_name (i := 7) sc_all_ticks.nd rfl (.inl rfl))
      (pss_cons (ps_while PassesOwn.never (PW.pt (pw_and (pt_cmpR op_lt (pv 6) (pe_callB (kx_len K rfl) (by rfl) T.m_len PySem.boot_len (pa_cons (pv 2) pa_nil)) (nomark _)) (pw_and1 (pt_cmpR op_le (pe_ix (kx_ixT K rfl) (pe_ix (kx_ixL K rfl) (pv 2) (pv 6) (fun _ _ => rfl)) pe_int (fun _ _ => rfl)) (pv 7) (nomark _)))))
      (pss_cons (ps_expr (pe_bm PySem.F.plainAttrs_list PySem.F.slot_list_append PySem.F.type_list_append mt_append (pv 5) (pa_cons (pe_ix (kx_ixT K rfl) (pe_ix (kx_ixL K rfl) (pv 2) (pv 6) (fun _ _ => rfl)) pe_int (fun _ _ => rfl)) pa_nil)))
      (pss_one (ps_aug (i := 6) sc_all_ticks.nd rfl (.inl rfl) pe_int ip_add))))
      (pss_cons (ps_set (i := 8) sc_all_ticks.nd rfl (.inl rfl) (pe_call (ok_tick T) (hr.mono (by decide)) (by rfl) T.g_tick T.F_tick.kp T.b_tick .nil pass0 (pa_cons (pv 0) (pa_cons (pv 1) (pa_cons (pv 5) pa_nil)))))
      (pss_cons (ps_if (pt_cmpR op_eq (pe_ix (kx_ixT K rfl) (pv 8) pe_int (fun _ _ => rfl)) pe_str (nomark _))
      (pss_one (ps_expr (pe_bm PySem.F.plainAttrs_list PySem.F.slot_list_pop PySem.F.type_list_pop mt_popAt (pv 5) (pa_cons pe_int pa_nil))))
      pss_nil)
      (pss_cons (ps_set (i := 1) sc_all_ticks.nd rfl (.inl rfl) (pe_ix (kx_ixT K rfl) (pv 8) pe_int (fun _ _ => rfl)))
      (pss_one (ps_expr (pe_bm PySem.F.plainAttrs_list PySem.F.slot_list_append PySem.F.type_list_append mt_append (pv 4) (pa_cons (pv 8) pa_nil)))))))))
      (pss_one (ps_ret (pv 4))))))), fun a ha => ?_⟩)
  obtain ⟨x, s, ls, many⟩ := a
  obtain ⟨hx, hs, hl, hr, hn, hm⟩ := ha
  dsimp only at hx hs hl hr hn hm
  try simp only [nox_K, blk_K, cx_K]
  show S K ⟨none, T.ts⟩ H _ [some (.d _), some (.d _), some (.d _), some (.d _), none, none, none, none, none] _
  refine s_seq (s_ownNil ?_)
  dsimp only [List.set]
  refine s_seq (s_ownNil ?_)
  dsimp only [List.set]
  repeat walk_at "e"
  refine s_forI (it_rng (ea_cons (e_var rfl (ea_nil ⟨(many : Int), rfl, by omega, by omega, fun now L => ∃ came, (runS x s ls now).2 ≤ came ∧ came ≤ ls.length ∧ (∀ l ∈ ls.take came, l.1 ≤ now) ∧ L = LA x (runS x s ls now).1 ls many ((toldL x s ls now).map Told.D) (natsD (((ls.take came).map (·.2)).drop (runS x s ls now).2)) came, ?_, fun now d L' hd ⟨came, h1, h2, h3, e⟩ => ?_, fun L' hI L4 s4 => ?_⟩))))
  · exact ⟨_, Sub.refl _, 0, Nat.le_refl _, Nat.zero_le _, fun l hl => (nomatch hl), rfl⟩
  · subst e
    obtain ⟨hnow, rfl⟩ := rngL_get hd
    rw [Int.zero_add]
    refine g_name ?_
    dsimp only [List.set]
    refine s_cut (fun L => ∃ came, (runS x s ls now).2 ≤ came ∧ came ≤ ls.length ∧ (∀ l ∈ ls.take came, l.1 ≤ now) ∧ (∀ l, ls[came]? = some l → now < l.1) ∧ L = LAw x (runS x s ls now).1 ls many ((toldL x s ls now).map Told.D) (natsD (((ls.take came).map (·.2)).drop (runS x s ls now).2)) came now) (s_while (fun m L => ∃ came, m = ls.length - came ∧ (runS x s ls now).2 ≤ came ∧ came ≤ ls.length ∧ (∀ l ∈ ls.take came, l.1 ≤ now) ∧ L = LAw x (runS x s ls now).1 ls many ((toldL x s ls now).map Told.D) (natsD (((ls.take came).map (·.2)).drop (runS x s ls now).2)) came now) ⟨_, came, rfl, h1, h2, h3, rfl⟩ fun m L' ⟨came, hm', h1, h2, h3, e⟩ => ?_) fun L' ⟨came, h1, h2, h3, h4, e⟩ => ?_
    · subst e
      repeat walk_at "e"
      have ll : (letsD ls).length = ls.length := List.length_map _
      rw [ll]
      refine ⟨fun hb => ?_, fun hb => ?_⟩
      · have hb := of_decide_eq_true hb
        have hc : came < ls.length := by omega
        have hg := List.getElem?_eq_getElem hc
        repeat walk_at "e"
        refine r_ixL (lets_at hg) ?_
        unfold letD
        repeat walk_at "e"
        refine ⟨fun hle => ?_, fun hle => ?_⟩
        · have hle := of_decide_eq_true hle
          refine s_seq (s_appOwn rfl (by rw [natsD_len, List.length_drop, List.length_map, List.length_take]; omega) ?_)
          repeat walk_at "e"
          refine r_ixL (lets_at hg) ?_
          unfold letD
          repeat walk_at "e"
          rw [lying_app hg h1]
          refine ⟨ls.length - (came + 1), by omega, came + 1, rfl, by omega, by omega, fun l hl => ?_, rfl⟩
          rw [List.take_succ_eq_append_getElem hc] at hl
          rcases List.mem_append.mp hl with hl | hl
          · exact h3 l hl
          · rw [List.mem_singleton.mp hl]; omega
        · have hle := of_decide_eq_false hle
          refine ⟨came, h1, h2, h3, fun l hl => ?_, rfl⟩
          rw [hg] at hl
          cases hl
          omega
      · have hb := of_decide_eq_false hb
        refine ⟨fun z => (by cases z), fun _ => ⟨came, h1, h2, h3, fun l hl => ?_, rfl⟩⟩
        have := (List.getElem?_eq_some_iff.mp hl).1
        omega
    · subst e
      have el : ((ls.take came).map (·.2)).drop (runS x s ls now).2 = lie ls now (runS x s ls now).2 := by
        unfold lie
        rw [filter_take hr h3 h4]
      rw [el]
      have ho := runS_ok hx hs hl now
      refine s_seq (s_asg (e_look ?_))
      dsimp only [lookL, lookA, List.map]
      repeat walk_at "e"
      refine ⟨⟨x, (runS x s ls now).1, lie ls now (runS x s ls now).2⟩, rfl, ⟨hx, ho⟩, ?_⟩
      rintro d rfl
      refine ⟨noL_told _, ?_⟩
      dsimp only [List.set]
      rw [show tickF x (runS x s ls now).1 (lie ls now (runS x s ls now).2) = toldAt x s ls now from rfl]
      have hsu := runS_succ x s ls now
      have tk := @took_ne x (runS x s ls now).1 (lie ls now (runS x s ls now).2)
      rw [show tickF x (runS x s ls now).1 (lie ls now (runS x s ls now).2) = toldAt x s ls now from rfl] at tk
      have end_ : ∀ (u : Nat) (lying : List PyData), (runS x s ls (now + 1)).2 = u → u ≤ came → lying = natsD (((ls.take came).map (·.2)).drop u) →
          Wk (fun now L => ∃ came, (runS x s ls now).2 ≤ came ∧ came ≤ ls.length ∧ (∀ l ∈ ls.take came, l.1 ≤ now) ∧ L = LA x (runS x s ls now).1 ls many ((toldL x s ls now).map Told.D) (natsD (((ls.take came).map (·.2)).drop (runS x s ls now).2)) came) (now + 1)
            [some (.d x.D), some (.d (toldAt x s ls now).st.D), some (.d (.list (letsD ls))), some (.d (.int many)), some (.own (.lst ((toldL x s ls now).map Told.D ++ [(toldAt x s ls now).D]))), some (.own (.lst lying)), some (.d (.int came)), some (.d (.int now)), some (.d (toldAt x s ls now).D)] := fun u lying hu hc hl => by
        subst hl
        refine ⟨LA x (runS x s ls (now + 1)).1 ls many ((toldL x s ls (now + 1)).map Told.D) (natsD (((ls.take came).map (·.2)).drop (runS x s ls (now + 1)).2)) came, ?_, came, by omega, h2, fun l hl => Nat.le_succ_of_le (h3 l hl), rfl⟩
        rw [hu, toldL_succ, List.map_append, hsu]
        repeat (first | exact Sub.nil | apply Sub.keep | apply Sub.drop)
      refine s_seq ?_
      repeat walk_at "e"
      by_cases hw : (toldAt x s ls now).word = "took"
      · rw [decide_eq_true hw]
        refine ⟨fun _ => ?_, fun z => (by cases z)⟩
        obtain ⟨v, r, ev⟩ : ∃ v r, lie ls now (runS x s ls now).2 = v :: r := by
          cases e : lie ls now (runS x s ls now).2 with
          | nil => exact absurd e (tk hw)
          | cons v r => exact ⟨v, r, rfl⟩
        rw [ev]
        refine s_pop0 (d0 := natD v) (ds := natsD r) rfl ?_
        dsimp only [List.set]
        repeat walk_at "e"
        refine s_appOwn rfl (by rw [List.length_map, toldL_len]; omega) ?_
        repeat walk_at "e"
        have hu : (runS x s ls (now + 1)).2 = (runS x s ls now).2 + 1 := by rw [hsu, if_pos hw]
        rw [← el] at ev
        refine end_ _ _ hu ?_ ?_
        · have := congrArg List.length ev
          rw [List.length_drop, List.length_map, List.length_take, List.length_cons] at this
          omega
        · have := congrArg List.tail ev
          rw [List.tail_drop] at this
          rw [this]
          rfl
      · rw [decide_eq_false hw]
        refine ⟨fun z => (by cases z), fun _ => ?_⟩
        repeat walk_at "e"
        refine s_appOwn rfl (by rw [List.length_map, toldL_len]; omega) ?_
        repeat walk_at "e"
        have hu : (runS x s ls (now + 1)).2 = (runS x s ls now).2 := by rw [hsu, if_neg hw]; rfl
        exact end_ _ _ hu h1 (by rw [el])
  · obtain ⟨came, h1, h2, h3, e⟩ := hI
    rw [rngL_len] at e h1
    subst e
    refine S.sub ?_ s4
    refine s_retL ?_
    dsimp only [lookL, lookA, List.map]
    repeat walk_at "e"
    rw [Int.toNat_natCast]
abbrev runRes (a : RunA) : PyData := .tuple [(runS a.x a.s a.ls a.many).1.D, .list ((saidL a.x a.s a.ls a.many).map saidD)]
abbrev spRun (K : PySem.W.Frag) (ts : List Addr) : Sp := SpXF (α := RunA) K ts RunA.Ok (fun a => [a.x.D, a.s.D, .list (letsD a.ls), .int a.many]) (fun a d => d = runRes a)
theorem mapIdx_range {α β : Type} (g : Nat → β) : ∀ (xs : List α), xs.mapIdx (fun i _ => g i) = (List.range xs.length).map g := fun xs => by
  apply List.ext_getElem?
  intro i
  rw [List.getElem?_mapIdx, List.getElem?_map]
  by_cases h : i < xs.length
  · rw [List.getElem?_eq_getElem h, List.getElem?_range h]; rfl
  · rw [List.getElem?_eq_none (by omega), List.getElem?_eq_none (by rw [List.length_range]; omega)]; rfl
theorem said_map (x : Prog) (s : Stand) (ls : List Let) (n : Nat) : ((List.range n).map fun i => if (toldAt x s ls i).word = "said" then some (saidD (i, (toldAt x s ls i).num)) else none).filterMap id = (saidL x s ls n).map saidD := by
  unfold saidL
  rw [List.filterMap_map, List.map_filterMap]
  congr 1
  funext i
  show (if (toldAt x s ls i).word = "said" then some (saidD (i, (toldAt x s ls i).num)) else none) = _
  by_cases h : (toldAt x s ls i).word = "said"
  · rw [if_pos h, if_pos h]; rfl
  · rw [if_neg h, if_neg h]; rfl
theorem told_last {x : Prog} {s : Stand} {ls : List Let} {n : Nat} : atI ((toldL x s ls (n + 1)).map Told.D) (-1) = some (toldAt x s ls n).D := by
  rw [toldL_succ, List.map_append]
  exact atI_last _ _
set_option maxHeartbeats 4000000 in
theorem ok_run (T : Tx K mg base) : FnOk P w K mg base CX0 5 T.f_run T.d_run ["program", "stand", "letters", "many"] (spRun K T.ts) := by
  refine fnXF T.F_run sc_run (fun _ _ => rfl) (fun cdv A outer s H E hr => ⟨_, (pss_cons (ps_set (i := 4) sc_run.nd rfl (.inl rfl) (pe_call (ok_all_ticks T) (hr.mono (by decide)) (by rfl) T.g_all_ticks T.F_all_ticks.kp T.b_all_ticks .nil pass0 (pa_cons (pv 0) (pa_cons (pv 1) (pa_cons (pv 2) (pa_cons (pv 3) pa_nil))))))
      (pss_cons (ps_setLc (i := 5) (own := [("at", 6), ("behind", 7), ("word", 8), ("number", 9), ("reads", 10), ("writes", 11)]) rfl sc_run.nd rfl rfl (sw_true rfl rfl rfl (by decide +kernel)) (kx_enum rfl rfl T.m_enumerate (pa_cons (pv 4) pa_nil)) (blkOk_by (own := [("at", 6), ("behind", 7), ("word", 8), ("number", 9), ("reads", 10), ("writes", 11)]) (N := ["program", "stand", "letters", "many", "done", "said", "at", "behind", "word", "number", "reads", "writes"]) (sc := defScope s_run) (by decide +kernel)) (fun _ _ _ _ _ => (kx_pgT K (n := 2) rfl rfl (pgs_cons (pg_name (i := 6) sc_run.nd rfl (.inl rfl)) (pgs_cons (kx_pgT K (n := 5) rfl rfl (pgs_cons (pg_name (i := 7) sc_run.nd rfl (.inl rfl)) (pgs_cons (pg_name (i := 8) sc_run.nd rfl (.inl rfl)) (pgs_cons (pg_name (i := 9) sc_run.nd rfl (.inl rfl)) (pgs_cons (pg_name (i := 10) sc_run.nd rfl (.inl rfl)) (pgs_cons (pg_name (i := 11) sc_run.nd rfl (.inl rfl)) pgs_nil)))))) pgs_nil)))) (fun _ _ _ _ _ => (pts_one (pt_cmpR op_eq (pv 8) pe_str (nomark _)))) (fun _ _ _ _ _ => (pe_tup (pa_cons (pv 6) (pa_cons (pv 9) pa_nil)))))
      (pss_one (ps_ret (pe_tup (pa_cons (pe_ifExp (kx_truth rfl (pv 4) (by intro _; rfl)) (pe_ix (kx_ixT K rfl) (pe_ix (kx_ixL K rfl) (pv 4) (pe_un un_neg pe_int) (fun _ _ => rfl)) pe_int (fun _ _ => rfl)) (pv 1)) (pa_cons (pv 5) pa_nil))))))), fun a ha => ?_⟩)
  obtain ⟨x, s, ls, many⟩ := a
  have hm := ha.mn
  dsimp only at hm
  try simp only [nox_K, blk_K, cx_K]
  show S K ⟨none, T.ts⟩ H _ [some (.d _), some (.d _), some (.d _), some (.d _), none, none, none, none, none, none, none, none] _
  repeat walk_at "e"
  refine ⟨⟨x, s, ls, many⟩, rfl, ha, ?_⟩
  rintro d rfl
  dsimp only [List.set]
  refine s_seq (s_ownL (el_lcF (fun i _ => if (toldAt x s ls i).word = "said" then some (saidD (i, (toldAt x s ls i).num)) else none) (it_enum (ea_cons (e_var rfl (ea_nil ⟨_, rfl, ?_, fun i d hd => ?_, ?_⟩))))))
  · rw [enumL_len, List.length_map, toldL_len]; omega
  · obtain ⟨y, hy, rfl⟩ := enumL_get hd
    have hi : i < many := by
      have := (List.getElem?_eq_some_iff.mp hy).1
      rw [List.length_map, toldL_len] at this; exact this
    have ey : y = (toldAt x s ls i).D := by
      unfold toldL at hy
      rw [List.map_map, List.getElem?_map, List.getElem?_range hi] at hy
      exact (Option.some.inj hy).symm
    subst ey
    dsimp only [List.map, wipeL, List.set]
    repeat walk_at "e"
    refine ⟨fun hb => ?_, fun hb => ?_⟩
    · repeat walk_at "e"
      rw [if_pos (of_decide_eq_true hb)]
      rfl
    · rw [if_neg (of_decide_eq_false hb)]
  · rw [mapIdx_range, enumL_len, List.length_map, toldL_len, said_map]
    dsimp only [List.set]
    refine s_retN (en_tup (ena_cons (en_e ?_)))
    refine e_if (et_truL (e_var rfl ⟨_, .inl rfl, ?_⟩))
    have rest : ∀ d : PyData, d = (runS x s ls many).1.D → noL d = true ∧ ENA K ⟨none, T.ts⟩ H (tCons (tVar 5) tNil) [some (.d x.D), some (.d s.D), some (.d (.list (letsD ls))), some (.d (.int many)), some (.d (.list ((toldL x s ls many).map Told.D))), some (.own (.lst ((saidL x s ls many).map saidD))), none, none, none, none, none, none] fun ds => (d :: ds).length ≤ 100000 ∧ PyData.tuple (d :: ds) = runRes ⟨x, s, ls, many⟩ := fun d hd => by
      subst hd
      refine ⟨noL_stand _, ena_cons (en_own rfl (noL_said _) (ena_nil ⟨?_, rfl⟩))⟩
      exact Nat.le_of_ble_eq_true rfl
    cases many with
    | zero =>
      refine ⟨fun z => (by cases z), fun _ => ?_⟩
      repeat walk_at "e"
      exact rest _ rfl
    | succ n =>
      have ne : (!((toldL x s ls (n + 1)).map Told.D).isEmpty) = true := by
        rw [toldL_succ, List.map_append]
        cases (toldL x s ls n).map Told.D <;> rfl
      rw [ne]
      refine ⟨fun _ => ?_, fun z => (by cases z)⟩
      repeat walk_at "e"
      refine r_ixL told_last ?_
      repeat walk_at "e"
      exact rest _ rfl
theorem told_get {x : Prog} {s : Stand} {ls : List Let} {many i : Nat} {d : PyData} (h : ((toldL x s ls many).map Told.D)[i]? = some d) : i < many ∧ d = (toldAt x s ls i).D := by
  have hi : i < many := by
    have := (List.getElem?_eq_some_iff.mp h).1
    rw [List.length_map, toldL_len] at this; exact this
  refine ⟨hi, ?_⟩
  unfold toldL at h
  rw [List.map_map, List.getElem?_map, List.getElem?_range hi] at h
  exact (Option.some.inj h).symm
theorem map_told {x : Prog} {s : Stand} {ls : List Let} {many : Nat} (f : Told → PyData) : (((toldL x s ls many).map Told.D).mapIdx fun i _ => some (f (toldAt x s ls i))).filterMap id = (toldL x s ls many).map f := by
  have e : (((toldL x s ls many).map Told.D).mapIdx fun i _ => some (f (toldAt x s ls i))) = ((toldL x s ls many).map f).map some := by
    apply List.ext_getElem?
    intro i
    unfold toldL
    rw [List.getElem?_mapIdx]
    simp only [List.getElem?_map]
    by_cases h : i < many
    · rw [List.getElem?_range h]; rfl
    · rw [List.getElem?_eq_none (by rw [List.length_range]; omega)]; rfl
  rw [e, List.filterMap_map]
  induction (toldL x s ls many).map f with
  | nil => rfl
  | cons a r ih => rw [List.filterMap_cons]; exact congrArg (a :: ·) ih
abbrev spTch (K : PySem.W.Frag) (ts : List Addr) : Sp := SpXF (α := RunA) K ts RunA.Ok (fun a => [a.x.D, a.s.D, .list (letsD a.ls), .int a.many]) (fun a d => d = .list ((toldL a.x a.s a.ls a.many).map touchD))
def writeD (t : Told) : PyData := .tuple (natsD t.writes)
abbrev spTrc (K : PySem.W.Frag) (ts : List Addr) : Sp := SpXF (α := RunA) K ts RunA.Ok (fun a => [a.x.D, a.s.D, .list (letsD a.ls), .int a.many]) (fun a d => d = .list ((toldL a.x a.s a.ls a.many).map writeD))
theorem noL_write (l : List Told) : noLs (l.map writeD) = true := by
  rw [noLs_iff]
  intro d hd
  obtain ⟨v, _, rfl⟩ := List.mem_map.mp hd
  exact noL_nat v.writes
set_option maxHeartbeats 4000000 in
theorem ok_touches (T : Tx K mg base) : FnOk P w K mg base CX0 5 T.f_touches T.d_touches ["program", "stand", "letters", "many"] (spTch K T.ts) := by
  refine fnXF T.F_touches sc_touches (fun _ _ => rfl) (fun cdv A outer s H E hr => ⟨_, (pss_one (ps_ret (pe_lc (own := [("done", 4)]) (g := gName 4) (tt := tYes) rfl sc_touches.nd (kx_piL K rfl (pe_call (ok_all_ticks T) (hr.mono (by decide)) (by rfl) T.g_all_ticks T.F_all_ticks.kp T.b_all_ticks .nil pass0 (pa_cons (pv 0) (pa_cons (pv 1) (pa_cons (pv 2) (pa_cons (pv 3) pa_nil)))))) (blkOk_by (own := [("done", 4)]) (N := ["program", "stand", "letters", "many", "done"]) (sc := defScope s_touches) (by decide +kernel)) (fun _ _ _ _ _ => (pg_name (i := 4) sc_touches.nd rfl (.inl rfl))) (fun _ _ _ _ _ => pts_nil) (fun _ _ _ _ _ => (pe_slice (kx_slT K rfl) (pv 4) (po_some pe_int) po_none))))), fun a ha => ?_⟩)
  obtain ⟨x, s, ls, many⟩ := a
  have hm := ha.mn
  dsimp only at hm
  try simp only [nox_K, blk_K, cx_K]
  show S K ⟨none, T.ts⟩ H _ [some (.d _), some (.d _), some (.d _), some (.d _), none] _
  refine s_retN (en_el (el_lcF (fun i _ => some (touchD (toldAt x s ls i))) (it_list ?_)))
  repeat walk_at "e"
  refine ⟨⟨x, s, ls, many⟩, rfl, ha, ?_⟩
  rintro d rfl
  refine ⟨_, rfl, ?_, fun i d hd => ?_, ?_⟩
  · rw [List.length_map, toldL_len]; show many ≤ 100000; omega
  · obtain ⟨hi, rfl⟩ := told_get hd
    refine gw_name (by decide) ?_
    dsimp only [List.map, wipeL, List.set]
    repeat walk_at "k"
    rw [show (3 : Int) = ((3 : Nat) : Int) from rfl, cut_from]
    rfl
  · rw [map_told touchD]
    exact ⟨noL_touch _, rfl⟩
set_option maxHeartbeats 4000000 in
theorem ok_trace (T : Tx K mg base) : FnOk P w K mg base CX0 5 T.f_trace T.d_trace ["program", "stand", "letters", "many"] (spTrc K T.ts) := by
  refine fnXF T.F_trace sc_trace (fun _ _ => rfl) (fun cdv A outer s H E hr => ⟨_, (pss_one (ps_ret (pe_lc (own := [("done", 4)]) (g := gName 4) (tt := tYes) rfl sc_trace.nd (kx_piL K rfl (pe_call (ok_all_ticks T) (hr.mono (by decide)) (by rfl) T.g_all_ticks T.F_all_ticks.kp T.b_all_ticks .nil pass0 (pa_cons (pv 0) (pa_cons (pv 1) (pa_cons (pv 2) (pa_cons (pv 3) pa_nil)))))) (blkOk_by (own := [("done", 4)]) (N := ["program", "stand", "letters", "many", "done"]) (sc := defScope s_trace) (by decide +kernel)) (fun _ _ _ _ _ => (pg_name (i := 4) sc_trace.nd rfl (.inl rfl))) (fun _ _ _ _ _ => pts_nil) (fun _ _ _ _ _ => (pe_ix (kx_ixT K rfl) (pv 4) pe_int (fun _ _ => rfl)))))), fun a ha => ?_⟩)
  obtain ⟨x, s, ls, many⟩ := a
  have hm := ha.mn
  dsimp only at hm
  try simp only [nox_K, blk_K, cx_K]
  show S K ⟨none, T.ts⟩ H _ [some (.d _), some (.d _), some (.d _), some (.d _), none] _
  refine s_retN (en_el (el_lcF (fun i _ => some (writeD (toldAt x s ls i))) (it_list ?_)))
  repeat walk_at "e"
  refine ⟨⟨x, s, ls, many⟩, rfl, ha, ?_⟩
  rintro d rfl
  refine ⟨_, rfl, ?_, fun i d hd => ?_, ?_⟩
  · rw [List.length_map, toldL_len]; show many ≤ 100000; omega
  · obtain ⟨hi, rfl⟩ := told_get hd
    refine gw_name (by decide) ?_
    dsimp only [List.map, wipeL, List.set]
    repeat walk_at "k"
    rfl
  · rw [map_told writeD]
    exact ⟨noL_write _, rfl⟩
end
end K8
set_option Elab.async false
set_option linter.all false
set_option maxRecDepth 100000
namespace K8
open PySem PySem.Spec PyProof.Rows L2 Dl Wm
local macro_rules | `(tactic| walk_at "e") => `(tactic| first
  | ((with_reducible refine e_var (by with_unfolding_all exact rfl) ?_))
  | with_reducible refine e_int ?_
  | with_reducible refine e_str ?_
  | with_reducible refine e_bl ?_
  | with_reducible refine e_non ?_
  | ((with_reducible refine e_pen (by with_unfolding_all exact rfl) (Or.inr rfl) ?_); intro z hz)
  | ((with_reducible refine e_pen (by with_unfolding_all exact rfl) (Or.inl rfl) ?_); intro z hz)
  | ((with_reducible refine e_penIx (by with_unfolding_all exact rfl) ?_))
  | with_reducible refine e_op ?_
  | with_reducible refine e_tup ?_
  | with_reducible refine e_lst ?_
  | with_reducible refine ea_cons ?_
  | with_reducible refine ea_nil ?_
  | ((with_reducible refine e_penLen (by with_unfolding_all exact rfl) ?_))
  | ((with_reducible refine e_lenOwn (by with_unfolding_all exact rfl) ?_))
  | ((with_reducible refine e_tupOwn (by with_unfolding_all exact rfl) ?_))
  | ((with_reducible refine s_aug (by with_unfolding_all exact rfl) ?_); (try dsimp only [List.set]))
  | with_reducible refine e_callXF ?_
  | with_reducible refine r_ipI ?_
  | with_reducible refine e_un ?_
  | with_reducible refine r_neg ?_
  | with_reducible refine gws_cons ?_
  | with_reducible refine gws_nil ?_
  | with_reducible refine gw_tup rfl ?_
  | ((with_reducible refine gw_name (by decide) ?_); (try dsimp only [List.set]))
  | with_reducible refine e_isI ?_
  | with_reducible refine e_isB ?_
  | with_reducible refine e_isS ?_
  | with_reducible refine e_isTu ?_
  | with_reducible refine e_isL ?_
  | with_reducible refine e_cb ?_
  | with_reducible refine e_sl ?_
  | with_reducible refine eo_none ?_
  | with_reducible refine eo_some ?_
  | with_reducible refine et_test ?_
  | with_reducible refine et_B ?_
  | with_reducible refine et_and ?_
  | with_reducible refine et_or ?_
  | with_reducible refine et_not ?_
  | with_reducible refine et_yes ?_
  | with_reducible refine e_andV ?_
  | with_reducible refine e_orV ?_
  | with_reducible refine e_notV ?_
  | with_reducible refine e_if ?_
  | with_reducible refine e_chain ?_
  | with_reducible refine e_callX ?_
  | ((with_reducible refine e_callXP (by with_unfolding_all exact rfl) ?_ (by with_unfolding_all exact trivial)))
  | ((with_reducible refine s_seq ?_); (try dsimp only [List.set]))
  | with_reducible refine s_next ?_
  | with_reducible refine s_ret ?_
  | ((with_reducible refine s_pen (by with_unfolding_all exact rfl) (Or.inr rfl) ?_))
  | ((with_reducible refine s_pen (by with_unfolding_all exact rfl) (Or.inl rfl) ?_))
  | ((with_reducible refine s_putOwn (by with_unfolding_all exact rfl) ?_ (by with_unfolding_all exact rfl)))
  | with_reducible refine s_asg ?_
  | with_reducible refine s_asgG ?_
  | with_reducible refine s_if ?_
  | with_reducible refine g_name ?_
  | with_reducible refine g_tup rfl ?_
  | with_reducible refine gs_cons ?_
  | with_reducible refine gs_nil ?_
  | with_reducible refine r_lt ?_
  | with_reducible refine r_le ?_
  | with_reducible refine r_gt ?_
  | with_reducible refine r_ge ?_
  | with_reducible refine r_add ?_
  | with_reducible refine r_sub ?_
  | with_reducible refine r_eqI ?_
  | with_reducible refine r_eqS ?_
  | with_reducible refine r_eqB ?_
  | with_reducible refine r_neI ?_
  | with_reducible refine r_neB ?_
  | with_reducible refine c_min2 ?_
  | with_reducible refine c_max2 ?_
  | with_reducible refine c_intB ?_
  | with_reducible refine c_len (Or.inl rfl) ?_
  | with_reducible refine c_len (Or.inr rfl) ?_
  | with_reducible refine c_list (Or.inl rfl) ?_
  | with_reducible refine c_list (Or.inr rfl) ?_
  | with_reducible refine c_tuple (Or.inl rfl) ?_
  | with_reducible refine c_tuple (Or.inr rfl) ?_
  | with_reducible refine r_ixT (by with_unfolding_all exact rfl) ?_
  | with_reducible refine r_ixL (by with_unfolding_all exact rfl) ?_
  | with_reducible refine r_slT ?_
  | with_reducible refine r_slL ?_
  | with_reducible refine r_isNone ?_
  | with_reducible refine r_notBl ?_
  | with_reducible refine eps_cons ?_
  | with_reducible refine eps_nil ?_
  | with_reducible refine e_dget1 ?_
  | with_reducible refine ed_callX ?_
  | with_reducible refine ⟨_, rfl, ?_⟩
  | with_reducible refine And.intro (Nat.le_of_ble_eq_true rfl) ?_)
local macro_rules | `(tactic| walk_at "t") => `(tactic| first
  | walk_at "e"
  | refine r_modAny (by first | omega | decide) fun z z0 z1 => ?_
  | refine r_mul (by first | exact Or.inr ⟨by decide, by decide⟩ | exact Or.inl ⟨by decide, by decide⟩ | exact Or.inl ⟨by omega, by omega⟩) ?_
  | refine r_pow ⟨by decide, by decide, by decide⟩ ?_
  | refine r_fdivW (by first | assumption | (rename_i hw _; exact hw _) | exact wide_div (b := 200) (by decide) (by decide) (by decide) (by decide)) ?_
  | with_reducible refine And.intro (by omega) ?_)
local macro_rules | `(tactic| walk_at "k") => `(tactic| first
  | walk_at "e"
  | with_reducible refine ⟨fun hb => absurd hb (by decide +kernel), fun _ => ?_⟩
  | with_reducible refine ⟨fun _ => ?_, fun hb => absurd hb (by decide +kernel)⟩
  | refine ⟨fun hb => absurd hb Bool.false_ne_true, fun _ => ?_⟩
  | refine ⟨fun _ => ?_, fun hb => absurd hb.symm Bool.false_ne_true⟩)
local macro_rules | `(tactic| walk_at "d") => `(tactic| first
  | walk_at "k"
  | refine And.intro (show WfTake _ from ⟨by omega, by omega⟩) (take_all fun k hk => ?_))
local macro_rules | `(tactic| walk_at "o") => `(tactic| first
  | with_reducible refine s_ownList ?_
  | walk_at "d"
  | with_reducible refine ⟨_, Or.inl rfl, ?_⟩)

section
variable {P : Program} {w : World} {K : PySem.W.Frag} {mg : Str → Option Value} {base : Heap}
structure RowA where
  n : Nat
  w : Nat
  many : Nat
  takes : Bool
def noTake : Wm.Row → Prop
  | .take _ => False
  | _ => True
abbrev spRow (K : PySem.W.Frag) (ts : List Addr) : Sp := SpXP (α := RowA) K ts (fun x => 1 ≤ x.n ∧ x.n ≤ 1000 ∧ 1 ≤ x.w ∧ x.w ≤ 1000 ∧ 1 ≤ x.many ∧ x.many ≤ 1000) (fun x => [.int x.n, .int x.w, .int x.many, .bool x.takes]) (fun x d => ∃ r : Wm.Row, d = r.D ∧ r.Ok x.n x.w x.many ∧ (x.takes = false → noTake r))
theorem ok_law_row (T : Tx K mg base) : FnOk P w K mg base CX0 2 T.f_law_row T.d_law_row ["pen", "n", "w", "many", "takes"] (spRow K T.ts) := by
  refine fnXP T.F_law_row sc_law_row ⟨_, _, rfl⟩ (fun _ _ => rfl) (fun cdv A outer s H E hr => ⟨_, (pss_cons (ps_set (i := 5) sc_law_row.nd rfl (.inl rfl) (pe_call (ok_law_take T) (hr.mono (by decide)) (by rfl) T.g_law_take T.F_law_take.kp T.b_law_take .nil pass0 (pa_cons (pv 0) (pa_cons pe_int pa_nil))))
      (pss_cons (ps_set (i := 6) sc_law_row.nd rfl (.inl rfl) (pe_call (ok_law_take T) (hr.mono (by decide)) (by rfl) T.g_law_take T.F_law_take.kp T.b_law_take .nil pass0 (pa_cons (pv 0) (pa_cons (pv 1) pa_nil))))
      (pss_cons (ps_if (pt_cmpR op_lt (pv 5) pe_int (nomark _))
      (pss_one (ps_ret (pe_tup (pa_cons pe_str (pa_cons (pv 6) (pa_cons (pe_call (ok_law_take T) (hr.mono (by decide)) (by rfl) T.g_law_take T.F_law_take.kp T.b_law_take .nil pass0 (pa_cons (pv 0) (pa_cons (pv 2) pa_nil))) pa_nil))))))
      pss_nil)
      (pss_cons (ps_if (pt_cmpR op_lt (pv 5) pe_int (nomark _))
      (pss_one (ps_ret (pe_tup (pa_cons pe_str (pa_cons (pv 6) (pa_cons (pe_call (ok_law_take T) (hr.mono (by decide)) (by rfl) T.g_law_take T.F_law_take.kp T.b_law_take .nil pass0 (pa_cons (pv 0) (pa_cons (pv 1) pa_nil))) pa_nil))))))
      pss_nil)
      (pss_cons (ps_if (pt_cmpR op_lt (pv 5) pe_int (nomark _))
      (pss_one (ps_ret (pe_tup (pa_cons pe_str (pa_cons (pv 6) (pa_cons (pe_call (ok_law_take T) (hr.mono (by decide)) (by rfl) T.g_law_take T.F_law_take.kp T.b_law_take .nil pass0 (pa_cons (pv 0) (pa_cons (pv 3) pa_nil))) pa_nil))))))
      pss_nil)
      (pss_cons (ps_if (pt_cmpR op_lt (pv 5) pe_int (nomark _))
      (pss_one (ps_ret (pe_tup (pa_cons pe_str (pa_cons (pv 6) pa_nil)))))
      pss_nil)
      (pss_cons (ps_if (PW.pt (pw_and (pt_cmpR op_lt (pv 5) pe_int (nomark _)) (pw_and1 (pt_val (pv 4)))))
      (pss_one (ps_ret (pe_tup (pa_cons pe_str (pa_cons (pv 6) pa_nil)))))
      pss_nil)
      (pss_cons (ps_if (pt_cmpR op_lt (pv 5) pe_int (nomark _))
      (pss_one (ps_ret (pe_tup (pa_cons pe_str (pa_cons (pv 6) (pa_cons (pv 6) pa_nil))))))
      pss_nil)
      (pss_one (ps_ret (pe_ix (kx_ixL K rfl) (pe_lst (pa_cons (pe_tup (pa_cons pe_str pa_nil)) (pa_cons (pe_tup (pa_cons pe_str (pa_cons (pv 6) (pa_cons (pe_call (ok_law_take T) (hr.mono (by decide)) (by rfl) T.g_law_take T.F_law_take.kp T.b_law_take .nil pass0 (pa_cons (pv 0) (pa_cons (pv 3) pa_nil))) pa_nil)))) (pa_cons (pe_tup (pa_cons pe_str (pa_cons (pv 6) pa_nil))) pa_nil)))) (pe_call (ok_law_take T) (hr.mono (by decide)) (by rfl) T.g_law_take T.F_law_take.kp T.b_law_take .nil pass0 (pa_cons (pv 0) (pa_cons pe_int pa_nil))) (fun _ _ => rfl)))))))))))), fun pa pc pn x hx => ?_⟩)
  obtain ⟨n, w', many, takes⟩ := x
  dsimp only at hx
  obtain ⟨h1, h2, h3, h4, h5, h6⟩ := hx
  try simp only [nox_K, blk_K, cx_K]
  repeat walk_at "d"
  rename_i way hway p' hp
  have hp' : p' < n := by omega
  refine ⟨fun hb => ?_, fun hb => ?_⟩
  · repeat walk_at "d"
    rename_i v hv
    exact ⟨.set p' v, rfl, ⟨hp', by omega⟩, fun _ => trivial⟩
  repeat walk_at "d"
  refine ⟨fun hb => ?_, fun hb => ?_⟩
  · repeat walk_at "d"
    rename_i v hv
    exact ⟨.add p' v, rfl, ⟨hp', by omega⟩, fun _ => trivial⟩
  repeat walk_at "d"
  refine ⟨fun hb => ?_, fun hb => ?_⟩
  · repeat walk_at "d"
    rename_i v hv
    exact ⟨.jump p' v, rfl, ⟨hp', by omega⟩, fun _ => trivial⟩
  repeat walk_at "d"
  refine ⟨fun hb => ?_, fun hb => ?_⟩
  · repeat walk_at "d"
    exact ⟨.say p', rfl, hp', fun _ => trivial⟩
  repeat walk_at "d"
  refine ⟨fun hb => ?_, fun hb => ?_⟩
  · repeat walk_at "d"
    refine ⟨fun ht => ?_, fun ht => ?_⟩
    · repeat walk_at "d"
      exact ⟨.take p', rfl, hp', fun h => by rw [ht] at h; cases h⟩
    · repeat walk_at "d"
      refine ⟨fun _ => ?_, fun hb2 => by rw [hb] at hb2; cases hb2⟩
      repeat walk_at "d"
      exact ⟨.add p' p', rfl, ⟨hp', hp'⟩, fun _ => trivial⟩
  · repeat walk_at "d"
    refine ⟨fun hb2 => absurd (hb.symm.trans hb2) (by decide), fun _ => ?_⟩
    repeat walk_at "d"
    rename_i v hv k hk
    rcases (by omega : k = 0 ∨ k = 1 ∨ k = 2) with rfl | rfl | rfl
    · exact r_ixL rfl ⟨.fin, rfl, trivial, fun _ => trivial⟩
    · exact r_ixL rfl ⟨.jump p' v, rfl, ⟨hp', by omega⟩, fun _ => trivial⟩
    · exact r_ixL rfl ⟨.say p', rfl, hp', fun _ => trivial⟩
structure ProgR (takes : Bool) (x : Prog) : Prop where
  ok : x.Ok
  nt : takes = false → ∀ r ∈ x.rows, noTake r
abbrev spProgram (K : PySem.W.Frag) (ts : List Addr) : Sp := SpXP (α := Bool) K ts (fun _ => True) (fun b => [.bool b]) (fun b d => ∃ x : Prog, d = x.D ∧ ProgR b x)
theorem ok_law_program (T : Tx K mg base) : FnOk P w K mg base CX0 3 T.f_law_program T.d_law_program ["pen", "takes"] (spProgram K T.ts) := by
  refine fnXP T.F_law_program sc_law_program ⟨_, _, rfl⟩ (fun _ _ => rfl) (fun cdv A outer s H E hr => ⟨_, (pss_cons (ps_set (i := 2) sc_law_program.nd rfl (.inr rfl) (pe_op op_add pe_int (pe_call (ok_law_take T) (hr.mono (by decide)) (by rfl) T.g_law_take T.F_law_take.kp T.b_law_take .nil pass0 (pa_cons (pv 0) (pa_cons (pe_ix (kx_ixL K rfl) (pe_lst (pa_cons pe_int (pa_cons pe_int pa_nil))) (pe_call (ok_law_take T) (hr.mono (by decide)) (by rfl) T.g_law_take T.F_law_take.kp T.b_law_take .nil pass0 (pa_cons (pv 0) (pa_cons pe_int pa_nil))) (fun _ _ => rfl)) pa_nil)))))
      (pss_cons (ps_set (i := 3) sc_law_program.nd rfl (.inr rfl) (pe_ix (kx_ixL K rfl) (pe_lst (pa_cons pe_int (pa_cons pe_int (pa_cons pe_int (pa_cons pe_int (pa_cons (pe_op op_add pe_int (pe_call (ok_law_take T) (hr.mono (by decide)) (by rfl) T.g_law_take T.F_law_take.kp T.b_law_take .nil pass0 (pa_cons (pv 0) (pa_cons pe_int pa_nil)))) pa_nil)))))) (pe_call (ok_law_take T) (hr.mono (by decide)) (by rfl) T.g_law_take T.F_law_take.kp T.b_law_take .nil pass0 (pa_cons (pv 0) (pa_cons pe_int pa_nil))) (fun _ _ => rfl)))
      (pss_cons (ps_set (i := 4) sc_law_program.nd rfl (.inr rfl) (pe_op op_add pe_int (pe_call (ok_law_take T) (hr.mono (by decide)) (by rfl) T.g_law_take T.F_law_take.kp T.b_law_take .nil pass0 (pa_cons (pv 0) (pa_cons (pe_ix (kx_ixL K rfl) (pe_lst (pa_cons pe_int (pa_cons pe_int (pa_cons pe_int pa_nil)))) (pe_call (ok_law_take T) (hr.mono (by decide)) (by rfl) T.g_law_take T.F_law_take.kp T.b_law_take .nil pass0 (pa_cons (pv 0) (pa_cons pe_int pa_nil))) (fun _ _ => rfl)) pa_nil)))))
      (pss_one (ps_ret (pe_tup (pa_cons (pv 2) (pa_cons (pv 3) (pa_cons (pe_callTy (kx_tuple K rfl) (by rfl) T.m_tuple (by decide +kernel) (pa_cons (pe_lc (own := [("k", 5)]) (g := gName 5) (tt := tYes) rfl sc_law_program.nd (pi_range1 rfl T.m_range (pa_cons (pv 4) pa_nil)) (blkOk_by (own := [("k", 5)]) (N := ["pen", "takes", "n", "w", "many", "k"]) (sc := defScope s_law_program) (by decide +kernel)) (fun _ _ _ _ _ => (pg_name (i := 5) sc_law_program.nd rfl (.inl rfl))) (fun _ _ _ _ _ => pts_nil) (fun _ _ _ _ _ => (pe_call (ok_law_row T) (hr.mono (by decide)) (by rfl) T.g_law_row T.F_law_row.kp T.b_law_row .nil pass0 (pa_cons (pv 0) (pa_cons (pv 2) (pa_cons (pv 3) (pa_cons (pv 4) (pa_cons (pv 1) pa_nil)))))))) pa_nil)) pa_nil))))))))), fun pa pc pn takes hx => ?_⟩)
  try simp only [nox_K, blk_K, cx_K]
  repeat walk_at "d"
  rename_i k0 hk0
  have hn : ∃ m : Nat, atI [PyData.int 3, .int 12] (k0 : Int) = some (.int m) ∧ 1 ≤ m ∧ m ≤ 12 := by
    rcases (by omega : k0 = 0 ∨ k0 = 1) with rfl | rfl
    · exact ⟨3, rfl, by decide, by decide⟩
    · exact ⟨12, rfl, by decide, by decide⟩
  obtain ⟨m0, e0, hm1, hm2⟩ := hn
  refine r_ixL e0 ?_
  repeat walk_at "d"
  rename_i n0 hn0 k1 hk1 k2 hk2
  have hw : ∃ m : Nat, atI [PyData.int 2, .int 3, .int 10, .int 100, .int (2 + (k1 : Int))] (k2 : Int) = some (.int m) ∧ 2 ≤ m ∧ m ≤ 100 := by
    rcases (by omega : k2 = 0 ∨ k2 = 1 ∨ k2 = 2 ∨ k2 = 3 ∨ k2 = 4) with rfl | rfl | rfl | rfl | rfl
    · exact ⟨2, rfl, by decide, by decide⟩
    · exact ⟨3, rfl, by decide, by decide⟩
    · exact ⟨10, rfl, by decide, by decide⟩
    · exact ⟨100, rfl, by decide, by decide⟩
    · exact ⟨2 + k1, rfl, by omega, by omega⟩
  obtain ⟨w', e1, hw1, hw2⟩ := hw
  refine r_ixL e1 ?_
  repeat walk_at "d"
  rename_i k3 hk3
  have hm : ∃ m : Nat, atI [PyData.int 6, .int 12, .int 20] (k3 : Int) = some (.int m) ∧ 1 ≤ m ∧ m ≤ 20 := by
    rcases (by omega : k3 = 0 ∨ k3 = 1 ∨ k3 = 2) with rfl | rfl | rfl
    · exact ⟨6, rfl, by decide, by decide⟩
    · exact ⟨12, rfl, by decide, by decide⟩
    · exact ⟨20, rfl, by decide, by decide⟩
  obtain ⟨m3, e3, hm3, hm4⟩ := hm
  refine r_ixL e3 ?_
  repeat walk_at "d"
  rename_i k4 hk4
  refine e_lcR (j := 5) (ea_cons (e_var rfl (ea_nil ?_)))
  refine ⟨1 + k4, rfl, by omega, fun i acc => ∃ rows : List Wm.Row, acc = rows.map Row.D ∧ rows.length = i ∧ (∀ r ∈ rows, r.Ok (1 + n0) w' (1 + k4)) ∧ (takes = false → ∀ r ∈ rows, noTake r), ⟨[], rfl, rfl, fun r hr => (nomatch hr), fun _ r hr => (nomatch hr)⟩, fun i acc hi ⟨rows, ea, el, eo, en⟩ => ?_, fun acc ⟨rows, ea, el, eo, en⟩ => ?_⟩
  · repeat walk_at "d"
    refine ⟨⟨1 + n0, w', 1 + k4, takes⟩, rfl, ⟨by show 1 ≤ 1 + n0; omega, by show 1 + n0 ≤ 1000; omega, by show 1 ≤ w'; omega, by show w' ≤ 1000; omega, by show 1 ≤ 1 + k4; omega, by show 1 + k4 ≤ 1000; omega⟩, ?_⟩
    rintro d ⟨r, rfl, hr1, hr2⟩
    subst ea
    refine ⟨rows ++ [r], by rw [List.map_append]; rfl, by rw [List.length_append, el]; rfl, fun r' h' => ?_, fun ht r' h' => ?_⟩
    · rcases List.mem_append.mp h' with h' | h'
      · exact eo r' h'
      · rw [List.mem_singleton.mp h']; exact hr1
    · rcases List.mem_append.mp h' with h' | h'
      · exact en ht r' h'
      · rw [List.mem_singleton.mp h']; exact hr2 ht
  · subst ea
    repeat walk_at "d"
    refine ⟨⟨1 + n0, w', rows⟩, rfl, ⟨by show 1 ≤ 1 + n0; omega, by show 1 + n0 ≤ 12; omega, hw1, hw2, by show 1 ≤ rows.length; omega, by show rows.length ≤ 20; omega, ?_⟩, en⟩
    rw [show (Prog.mk (1 + n0) w' rows).rows.length = 1 + k4 from el]
    exact eo
abbrev spSheets (K : PySem.W.Frag) (ts : List Addr) : Sp := SpXP (α := Prog) K ts Prog.Ok (fun x => [x.D]) (fun x d => ∃ sh : List Nat, d = .tuple (natsD sh) ∧ sh.length = x.n ∧ ∀ v ∈ sh, v < x.w)
theorem ok_law_sheets (T : Tx K mg base) : FnOk P w K mg base CX0 2 T.f_law_sheets T.d_law_sheets ["pen", "program"] (spSheets K T.ts) := by
  refine fnXP T.F_law_sheets sc_law_sheets ⟨_, _, rfl⟩ (fun _ _ => rfl) (fun cdv A outer s H E hr => ⟨_, (pss_one (ps_ret (pe_callTy (kx_tuple K rfl) (by rfl) T.m_tuple (by decide +kernel) (pa_cons (pe_lc (own := [("p", 2)]) (g := gName 2) (tt := tYes) rfl sc_law_sheets.nd (pi_range1 rfl T.m_range (pa_cons (pe_ix (kx_ixT K rfl) (pv 1) pe_int (fun _ _ => rfl)) pa_nil)) (blkOk_by (own := [("p", 2)]) (N := ["pen", "program", "p"]) (sc := defScope s_law_sheets) (by decide +kernel)) (fun _ _ _ _ _ => (pg_name (i := 2) sc_law_sheets.nd rfl (.inl rfl))) (fun _ _ _ _ _ => pts_nil) (fun _ _ _ _ _ => (pe_call (ok_law_take T) (hr.mono (by decide)) (by rfl) T.g_law_take T.F_law_take.kp T.b_law_take .nil pass0 (pa_cons (pv 0) (pa_cons (pe_ix (kx_ixL K rfl) (pe_lst (pa_cons (pe_ix (kx_ixT K rfl) (pv 1) pe_int (fun _ _ => rfl)) (pa_cons pe_int pa_nil))) (pe_callTy call_int1 (by rfl) T.m_int (by decide +kernel) (pa_cons (pe_cmpR op_eq (pe_call (ok_law_take T) (hr.mono (by decide)) (by rfl) T.g_law_take T.F_law_take.kp T.b_law_take .nil pass0 (pa_cons (pv 0) (pa_cons pe_int pa_nil))) pe_int (nomark _)) pa_nil)) (fun _ _ => rfl)) pa_nil))))) pa_nil)))), fun pa pc pn x hx => ?_⟩)
  have hn1 := hx.n1
  have hn2 := hx.n2
  have hw1 := hx.w1
  have hw2 := hx.w2
  try simp only [nox_K, blk_K, cx_K]
  repeat walk_at "d"
  refine e_lcR (j := 2) ?_
  repeat walk_at "d"
  refine ⟨by omega, fun i acc => ∃ sh : List Nat, acc = natsD sh ∧ sh.length = i ∧ ∀ v ∈ sh, v < x.w, ⟨[], rfl, rfl, fun r hr => (nomatch hr)⟩, fun i acc hi ⟨sh, ea, el, eo⟩ => ?_, fun acc ⟨sh, ea, el, eo⟩ => ?_⟩
  · repeat walk_at "d"
    rename_i k hk
    have hm : ∃ m : Nat, atI [PyData.int x.w, .int 1] (if decide ((k : Int) = 0) = true then (1 : Int) else 0) = some (.int m) ∧ 1 ≤ m ∧ m ≤ x.w := by
      by_cases h : (k : Int) = 0
      · rw [if_pos (decide_eq_true h)]
        exact ⟨1, rfl, by decide, by omega⟩
      · rw [if_neg (by rw [decide_eq_true_eq]; exact h)]
        exact ⟨x.w, rfl, by omega, by omega⟩
    obtain ⟨m, e1, hm1, hm2⟩ := hm
    refine r_ixL e1 ?_
    repeat walk_at "d"
    rename_i v hv
    subst ea
    refine ⟨sh ++ [v], by unfold natsD; rw [List.map_append]; rfl, by rw [List.length_append, el]; rfl, fun r' h' => ?_⟩
    rcases List.mem_append.mp h' with h' | h'
    · exact eo r' h'
    · rw [List.mem_singleton.mp h']; omega
  · subst ea
    repeat walk_at "d"
    exact ⟨el, eo⟩
abbrev spStand (K : PySem.W.Frag) (ts : List Addr) : Sp := SpXP (α := Prog) K ts Prog.Ok (fun x => [x.D]) (fun x d => ∃ s : Stand, d = s.D ∧ s.Ok x)
theorem ok_law_stand (T : Tx K mg base) : FnOk P w K mg base CX0 3 T.f_law_stand T.d_law_stand ["pen", "program"] (spStand K T.ts) := by
  refine fnXP T.F_law_stand sc_law_stand ⟨_, _, rfl⟩ (fun _ _ => rfl) (fun cdv A outer s H E hr => ⟨_, (pss_cons (ps_set (i := 2) sc_law_stand.nd rfl (.inl rfl) (pe_op op_mul (pe_call (ok_law_take T) (hr.mono (by decide)) (by rfl) T.g_law_take T.F_law_take.kp T.b_law_take .nil pass0 (pa_cons (pv 0) (pa_cons (pe_op op_add (pe_callB (kx_len K rfl) (by rfl) T.m_len PySem.boot_len (pa_cons (pe_ix (kx_ixT K rfl) (pv 1) pe_int (fun _ _ => rfl)) pa_nil)) pe_int) pa_nil))) (pe_callTy call_int1 (by rfl) T.m_int (by decide +kernel) (pa_cons (pe_cmpR op_eq (pe_call (ok_law_take T) (hr.mono (by decide)) (by rfl) T.g_law_take T.F_law_take.kp T.b_law_take .nil pass0 (pa_cons (pv 0) (pa_cons pe_int pa_nil))) pe_int (nomark _)) pa_nil))))
      (pss_one (ps_ret (pe_tup (pa_cons (pv 2) (pa_cons (pe_call (ok_law_sheets T) (hr.mono (by decide)) (by rfl) T.g_law_sheets T.F_law_sheets.kp T.b_law_sheets .nil pass0 (pa_cons (pv 0) (pa_cons (pv 1) pa_nil))) pa_nil)))))), fun pa pc pn x hx => ?_⟩)
  have hr1 := hx.r1
  have hr2 := hx.r2
  try simp only [nox_K, blk_K, cx_K]
  repeat walk_at "d"
  rw [List.length_map]
  repeat walk_at "d"
  rename_i a ha k hk
  refine r_mul (.inr ⟨by split <;> decide, by split <;> decide⟩) ?_
  have e1 : ∃ m : Nat, (a : Int) * (if decide ((k : Int) = 0) = true then (1 : Int) else 0) = m ∧ m ≤ x.rows.length := by
    split
    · exact ⟨a, by rw [Int.mul_one], by omega⟩
    · exact ⟨0, by rw [Int.mul_zero]; rfl, by omega⟩
  obtain ⟨m, e1, hm⟩ := e1
  rw [e1]
  repeat walk_at "d"
  refine ⟨hx, ?_⟩
  rintro d ⟨sh, rfl, hl, ho⟩
  repeat walk_at "d"
  exact ⟨⟨m, sh⟩, rfl, hm, hl, ho⟩
theorem ok_law_pen (T : Tx K mg base) : FnOk P w K mg base CX0 1 T.f_law_pen T.d_law_pen ["script"] (spPenS K) := by
  refine T.F_law_pen.ok sc_law_pen (fun vs H Q E h => ?_) (fun cdv A outer s H vs Q E hr h => ?_)
  · obtain ⟨a, ns, rfl, _⟩ := h
    rfl
  · obtain ⟨a, ns, rfl, hS, q⟩ := h
    obtain ⟨ms, hms⟩ := cut_ints ns none (some 63)
    refine ⟨_, (pss_one (ps_ret (pe_lst (pa_cons (pe_callTy (kx_list K rfl) (by rfl) T.m_list (by decide +kernel) (pa_cons (pe_slice (kx_slL K rfl) (pv 0) po_none (po_some pe_int)) pa_nil)) (pa_cons pe_int (pa_cons pe_int pa_nil)))))), ?_⟩
    refine ⟨.ref a, rfl, 63, rfl, a, _, rfl, hS, fun l hl => ⟨l, _, rfl, .inl (.inl (.inl upd_same)), fun c hc => ⟨by show 3 ≤ sizeLine; decide, fun p hp => ?_⟩⟩⟩
    have s1 : ∀ (H : Hp) (b : Addr) (o : HO), H b = none → Same H (upd H b o) := fun H b o hb a u e => by rw [upd_ne (ne_of_none e hb)]; exact e
    refine q p c ms _ (((s1 _ _ _ hl).trans (s1 _ _ _ hc)).trans (s1 _ _ _ hp)) ?_ upd_same ?_
    · cases z : H p with
      | none => rfl
      | some o => rw [(s1 _ _ _ hc) _ _ ((s1 _ _ _ hl) _ _ z)] at hp; cases hp
    · rw [upd_ne (fun z => by rw [z, upd_same] at hp; cases hp), upd_same, hms]
abbrev spLetters (K : PySem.W.Frag) (ts : List Addr) : Sp := SpXP (α := Prog × Nat) K ts (fun x => x.1.Ok ∧ x.2 ≤ 10000) (fun x => [x.1.D, .int x.2]) (fun x d => ∃ ls : List Let, d = .list (letsD ls) ∧ Rises ls ∧ (∀ l ∈ ls, l.2 < x.1.w) ∧ ls.length ≤ 6)
theorem ints_nats : ∀ (ms : List Int), (∀ m ∈ ms, 0 ≤ m) → ∃ l : List Nat, intsL ms = natsD l ∧ ms = l.map (fun n : Nat => (n : Int))
  | [], _ => ⟨[], rfl, rfl⟩
  | m :: ms, h => by
    obtain ⟨l, e1, e2⟩ := ints_nats ms fun x hx => h x (List.mem_cons_of_mem _ hx)
    have h0 := h m (List.mem_cons_self ..)
    refine ⟨m.toNat :: l, ?_, ?_⟩
    · show PyData.int m :: intsL ms = PyData.int (m.toNat : Int) :: natsD l
      rw [e1, Int.toNat_of_nonneg h0]
    · rw [List.map_cons, ← e2, Int.toNat_of_nonneg h0]
set_option maxHeartbeats 4000000 in
theorem ok_law_letters (T : Tx K mg base) : FnOk P w K mg base CX0 2 T.f_law_letters T.d_law_letters ["pen", "program", "most"] (spLetters K T.ts) := by
  refine fnXP T.F_law_letters sc_law_letters ⟨_, _, rfl⟩ (fun _ _ => rfl) (fun cdv A outer s H E hr => ⟨_, (pss_cons (ps_set (i := 3) sc_law_letters.nd rfl (.inl rfl) (pe_callB (kx_sortI (K := K) rfl) (by rfl) T.m_sorted (by decide +kernel) (pa_cons (pe_lc (own := [("k", 5)]) (g := gName 5) (tt := tYes) rfl sc_law_letters.nd (pi_range1 rfl T.m_range (pa_cons (pe_call (ok_law_take T) (hr.mono (by decide)) (by rfl) T.g_law_take T.F_law_take.kp T.b_law_take .nil pass0 (pa_cons (pv 0) (pa_cons pe_int pa_nil))) pa_nil)) (blkOk_by (own := [("k", 5)]) (N := ["pen", "program", "most", "ticks", "now", "k"]) (sc := defScope s_law_letters) (by decide +kernel)) (fun _ _ _ _ _ => (pg_name (i := 5) sc_law_letters.nd rfl (.inl rfl))) (fun _ _ _ _ _ => pts_nil) (fun _ _ _ _ _ => (pe_call (ok_law_take T) (hr.mono (by decide)) (by rfl) T.g_law_take T.F_law_take.kp T.b_law_take .nil pass0 (pa_cons (pv 0) (pa_cons (pe_ix (kx_ixL K rfl) (pe_lst (pa_cons pe_int (pa_cons (pe_op op_add (pv 2) pe_int) pa_nil))) (pe_call (ok_law_take T) (hr.mono (by decide)) (by rfl) T.g_law_take T.F_law_take.kp T.b_law_take .nil pass0 (pa_cons (pv 0) (pa_cons pe_int pa_nil))) (fun _ _ => rfl)) pa_nil))))) pa_nil)))
      (pss_one (ps_ret (pe_lc (own := [("now", 4)]) (g := gName 4) (tt := tYes) rfl sc_law_letters.nd (kx_piL K rfl (pv 3)) (blkOk_by (own := [("now", 4)]) (N := ["pen", "program", "most", "ticks", "now", "k"]) (sc := defScope s_law_letters) (by decide +kernel)) (fun _ _ _ _ _ => (pg_name (i := 4) sc_law_letters.nd rfl (.inl rfl))) (fun _ _ _ _ _ => pts_nil) (fun _ _ _ _ _ => (pe_tup (pa_cons (pv 4) (pa_cons (pe_call (ok_law_take T) (hr.mono (by decide)) (by rfl) T.g_law_take T.F_law_take.kp T.b_law_take .nil pass0 (pa_cons (pv 0) (pa_cons (pe_ix (kx_ixT K rfl) (pv 1) pe_int (fun _ _ => rfl)) pa_nil))) pa_nil)))))))), fun pa pc pn a ha => ?_⟩)
  obtain ⟨x, most⟩ := a
  obtain ⟨hx, hm⟩ := ha
  dsimp only at hx hm
  have hw1 := hx.w1
  have hw2 := hx.w2
  try simp only [nox_K, blk_K, cx_K]
  show S K ⟨some ⟨pa, .pen pc pn⟩, T.ts⟩ H _ [some .pen, some (.d _), some (.d _), none, none, none] _
  refine s_seq (s_asg (e_ofL (el_sortI ?_)))
  refine e_lcI (it_rng ?_)
  repeat walk_at "d"
  rename_i many hmany
  refine ⟨by omega, by omega, by rw [rngL_len]; omega, fun i acc => ∃ ns : List Int, acc = intsL ns ∧ ns.length = i ∧ ∀ v ∈ ns, (0 : Int) ≤ v, ⟨[], rfl, rfl, fun v hv => (nomatch hv)⟩, fun i d acc hd ⟨ns, ea, el, eo⟩ => ?_, fun acc ⟨ns, ea, el, eo⟩ => ?_⟩
  · subst ea
    refine gw_name (by decide) ?_
    dsimp only [List.map, wipeL, List.set]
    repeat walk_at "d"
    rename_i k hk
    have hmm : ∃ m : Nat, atI [PyData.int 3, .int ((most : Int) + 2)] (k : Int) = some (.int m) ∧ 1 ≤ m ∧ m ≤ 20000 := by
      rcases (by omega : k = 0 ∨ k = 1) with rfl | rfl
      · exact ⟨3, rfl, by decide, by decide⟩
      · exact ⟨most + 2, rfl, by omega, by omega⟩
    obtain ⟨m0, e0, hm1, hm2⟩ := hmm
    refine r_ixL e0 ?_
    repeat walk_at "d"
    rename_i v hv
    refine ⟨ns ++ [(v : Int)], by unfold intsL; rw [List.map_append]; rfl, by rw [List.length_append, el]; rfl, fun u hu => ?_⟩
    rcases List.mem_append.mp hu with hu | hu
    · exact eo u hu
    · rw [List.mem_singleton.mp hu]; omega
  · subst ea
    rw [rngL_len] at el
    refine ⟨ns, rfl, fun ms hp hw => ?_⟩
    obtain ⟨l, e1, e2⟩ := ints_nats ms fun m hm => eo m (hp.mem_iff.mp hm)
    rw [e1]
    have hlen : l.length = many := by
      have := congrArg List.length e2
      rw [List.length_map, hp.length_eq, el] at this
      omega
    have hs : l.Pairwise (· ≤ ·) := by
      rw [e2] at hw
      rw [List.pairwise_map] at hw
      exact hw.imp fun h => by omega
    dsimp only [List.set]
    refine s_ret (e_lcI (it_list (e_var rfl ⟨_, rfl, ?_, fun i acc => ∃ ls : List Let, acc = letsD ls ∧ ls.map (·.1) = l.take i ∧ ∀ u ∈ ls, u.2 < x.w, ⟨[], rfl, rfl, fun v hv => (nomatch hv)⟩, fun i d acc hd ⟨ls, ea, el, eo⟩ => ?_, fun acc ⟨ls, ea, el, eo⟩ => ?_⟩)))
    · rw [natsD_len]; omega
    · subst ea
      unfold natsD at hd
      rw [List.getElem?_map] at hd
      cases hl : l[i]? with
      | none => rw [hl] at hd; cases hd
      | some t =>
        rw [hl] at hd
        cases hd
        refine gw_name (by decide) ?_
        dsimp only [List.map, wipeL, List.set]
        repeat walk_at "d"
        rename_i v hv
        obtain ⟨hlt, hg⟩ := List.getElem?_eq_some_iff.mp hl
        refine ⟨ls ++ [(t, v)], by unfold letsD; rw [List.map_append]; rfl, by rw [List.map_append, el, List.take_succ_eq_append_getElem hlt, hg]; rfl, fun u hu => ?_⟩
        rcases List.mem_append.mp hu with hu | hu
        · exact eo u hu
        · rw [List.mem_singleton.mp hu]; show v < x.w; omega
    · subst ea
      rw [natsD_len, List.take_length] at el
      refine ⟨ls, rfl, ?_, eo, ?_⟩
      · unfold Rises
        rw [← el, List.pairwise_map] at hs
        exact hs
      · have := congrArg List.length el
        rw [List.length_map] at this
        omega
structure RestA where
  ls : List Let
  at_ : Nat
  used : Nat
abbrev spRest (K : PySem.W.Frag) (ts : List Addr) : Sp := SpX (α := RestA) K ts (fun a => a.ls.length ≤ 1000) (fun a => [.list (letsD a.ls), .int a.at_, .int a.used]) (fun a d => d = .list (letsD (restL a.ls a.at_ a.used)))
theorem rest_take (ls : List Let) (at_ used i : Nat) {l : Let} (h : (ls.drop used)[i]? = some l) : letsD ((restL ls at_ used).take i) ++ [.tuple [.int (if ((l.1 : Int) - at_) > 0 then (l.1 : Int) - at_ else 0), .int l.2]] = letsD ((restL ls at_ used).take (i + 1)) := by
  have hg : (restL ls at_ used)[i]? = some (l.1 - at_, l.2) := by
    unfold restL
    rw [List.getElem?_map, h]
    rfl
  obtain ⟨hlt, he⟩ := List.getElem?_eq_some_iff.mp hg
  rw [List.take_succ_eq_append_getElem hlt, he]
  unfold letsD
  rw [List.map_append]
  congr 1
  show [PyData.tuple _] = [PyData.tuple [.int ((l.1 - at_ : Nat) : Int), .int l.2]]
  congr 4
  split <;> omega
set_option maxHeartbeats 4000000 in
theorem ok_law_rest (T : Tx K mg base) : FnOk P w K mg base CX0 1 T.f_law_rest T.d_law_rest ["letters", "at", "used"] (spRest K T.ts) := by
  refine fnX T.F_law_rest sc_law_rest (fun _ _ => rfl) (fun cdv A outer s H E hr => ⟨_, (pss_cons (ps_set (i := 3) sc_law_rest.nd rfl (.inl rfl) (pe_lst pa_nil))
      (pss_cons (ps_for PassesOwn.never rfl (kx_piL K rfl (pe_slice (kx_slL K rfl) (pv 0) (po_some (pv 2)) po_none)) (kx_pgT K (n := 2) rfl rfl (pgs_cons (pg_name (i := 4) sc_law_rest.nd rfl (.inl rfl)) (pgs_cons (pg_name (i := 5) sc_law_rest.nd rfl (.inl rfl)) pgs_nil)))
      (pss_one (ps_expr (pe_bm PySem.F.plainAttrs_list PySem.F.slot_list_append PySem.F.type_list_append mt_append (pv 3) (pa_cons (pe_tup (pa_cons (pe_callB (call_max2 rfl) (by rfl) T.m_max (by decide +kernel) (pa_cons pe_int (pa_cons (pe_op op_sub (pv 4) (pv 1)) pa_nil))) (pa_cons (pv 5) pa_nil))) pa_nil)))))
      (pss_one (ps_ret (pv 3))))), fun a ha => ?_⟩)
  obtain ⟨ls, at_, used⟩ := a
  dsimp only at ha
  try simp only [nox_K, blk_K, cx_K]
  show S K ⟨none, T.ts⟩ H _ [some (.d _), some (.d _), some (.d _), none, none, none] _
  refine s_seq (s_ownNil ?_)
  dsimp only [List.set]
  have hrl : (restL ls at_ used).length = ls.length - used := by unfold restL; rw [List.length_map, List.length_drop]
  refine s_seq (s_forI (it_list (e_sl (e_var rfl (eo_some (e_var rfl ⟨_, rfl, eo_none (r_slL ⟨_, rfl, ?_⟩)⟩))))))
  rw [cut_from, show (letsD ls).drop used = letsD (ls.drop used) from by unfold letsD; rw [List.map_drop]]
  refine ⟨fun i L => L = [some (.d (.list (letsD ls))), some (.d (.int at_)), some (.d (.int used)), some (.own (.lst (letsD ((restL ls at_ used).take i)))), none, none], ⟨_, Sub.refl _, rfl⟩, fun i d L' hd e => ?_, fun L' e L4 s4 => ?_⟩
  · subst e
    unfold letsD at hd
    rw [List.getElem?_map] at hd
    cases hg : (ls.drop used)[i]? with
    | none => rw [hg] at hd; cases hd
    | some l =>
      rw [hg] at hd
      cases hd
      unfold letD
      repeat walk_at "e"
      dsimp only [List.set]
      have hl : ((restL ls at_ used).take i).length < 100000 := by rw [List.length_take]; omega
      refine s_appOwn rfl (by unfold letsD; rw [List.length_map]; exact hl) ?_
      repeat walk_at "e"
      rw [rest_take ls at_ used i hg]
      exact ⟨_, by repeat (first | exact Sub.nil | apply Sub.keep | apply Sub.drop), rfl⟩
  · subst e
    refine S.sub ?_ s4
    refine s_retL ?_
    dsimp only [lookL, lookA, List.map]
    repeat walk_at "e"
    rw [show (letsD (ls.drop used)).length = (restL ls at_ used).length from by unfold letsD; rw [List.length_map, List.length_drop, hrl], List.take_length]
end
end K8
set_option Elab.async false
set_option linter.all false
set_option maxRecDepth 100000
namespace K8
open PySem PySem.Spec PyProof.Rows L2 Dl Wm
local macro_rules | `(tactic| walk_at "e") => `(tactic| first
  | ((with_reducible refine e_var (by with_unfolding_all exact rfl) ?_))
  | with_reducible refine e_int ?_
  | with_reducible refine e_str ?_
  | with_reducible refine e_bl ?_
  | with_reducible refine e_non ?_
  | ((with_reducible refine e_pen (by with_unfolding_all exact rfl) (Or.inr rfl) ?_); intro z hz)
  | ((with_reducible refine e_pen (by with_unfolding_all exact rfl) (Or.inl rfl) ?_); intro z hz)
  | ((with_reducible refine e_penIx (by with_unfolding_all exact rfl) ?_))
  | with_reducible refine e_op ?_
  | with_reducible refine e_tup ?_
  | with_reducible refine e_lst ?_
  | with_reducible refine ea_cons ?_
  | with_reducible refine ea_nil ?_
  | ((with_reducible refine e_penLen (by with_unfolding_all exact rfl) ?_))
  | ((with_reducible refine e_lenOwn (by with_unfolding_all exact rfl) ?_))
  | ((with_reducible refine e_tupOwn (by with_unfolding_all exact rfl) ?_))
  | ((with_reducible refine s_aug (by with_unfolding_all exact rfl) ?_); (try dsimp only [List.set]))
  | with_reducible refine e_callXF ?_
  | with_reducible refine r_ipI ?_
  | with_reducible refine e_un ?_
  | with_reducible refine r_neg ?_
  | with_reducible refine gws_cons ?_
  | with_reducible refine gws_nil ?_
  | with_reducible refine gw_tup rfl ?_
  | ((with_reducible refine gw_name (by decide) ?_); (try dsimp only [List.set]))
  | with_reducible refine e_isI ?_
  | with_reducible refine e_isB ?_
  | with_reducible refine e_isS ?_
  | with_reducible refine e_isTu ?_
  | with_reducible refine e_isL ?_
  | with_reducible refine e_cb ?_
  | with_reducible refine e_sl ?_
  | with_reducible refine eo_none ?_
  | with_reducible refine eo_some ?_
  | with_reducible refine et_test ?_
  | with_reducible refine et_B ?_
  | with_reducible refine et_and ?_
  | with_reducible refine et_or ?_
  | with_reducible refine et_not ?_
  | with_reducible refine et_yes ?_
  | with_reducible refine e_andV ?_
  | with_reducible refine e_orV ?_
  | with_reducible refine e_notV ?_
  | with_reducible refine e_if ?_
  | with_reducible refine e_chain ?_
  | with_reducible refine e_callX ?_
  | ((with_reducible refine e_callXP (by with_unfolding_all exact rfl) ?_ (by with_unfolding_all exact trivial)))
  | ((with_reducible refine s_seq ?_); (try dsimp only [List.set]))
  | with_reducible refine s_next ?_
  | with_reducible refine s_ret ?_
  | ((with_reducible refine s_pen (by with_unfolding_all exact rfl) (Or.inr rfl) ?_))
  | ((with_reducible refine s_pen (by with_unfolding_all exact rfl) (Or.inl rfl) ?_))
  | ((with_reducible refine s_putOwn (by with_unfolding_all exact rfl) ?_ (by with_unfolding_all exact rfl)))
  | with_reducible refine s_asg ?_
  | with_reducible refine s_asgG ?_
  | with_reducible refine s_if ?_
  | with_reducible refine g_name ?_
  | with_reducible refine g_tup rfl ?_
  | with_reducible refine gs_cons ?_
  | with_reducible refine gs_nil ?_
  | with_reducible refine r_lt ?_
  | with_reducible refine r_le ?_
  | with_reducible refine r_gt ?_
  | with_reducible refine r_ge ?_
  | with_reducible refine r_add ?_
  | with_reducible refine r_sub ?_
  | with_reducible refine r_eqI ?_
  | with_reducible refine r_eqS ?_
  | with_reducible refine r_eqB ?_
  | with_reducible refine r_neI ?_
  | with_reducible refine r_neB ?_
  | with_reducible refine c_min2 ?_
  | with_reducible refine c_max2 ?_
  | with_reducible refine c_intB ?_
  | with_reducible refine c_len (Or.inl rfl) ?_
  | with_reducible refine c_len (Or.inr rfl) ?_
  | with_reducible refine c_list (Or.inl rfl) ?_
  | with_reducible refine c_list (Or.inr rfl) ?_
  | with_reducible refine c_tuple (Or.inl rfl) ?_
  | with_reducible refine c_tuple (Or.inr rfl) ?_
  | with_reducible refine r_ixT (by with_unfolding_all exact rfl) ?_
  | with_reducible refine r_ixL (by with_unfolding_all exact rfl) ?_
  | with_reducible refine r_slT ?_
  | with_reducible refine r_slL ?_
  | with_reducible refine r_isNone ?_
  | with_reducible refine r_notBl ?_
  | with_reducible refine eps_cons ?_
  | with_reducible refine eps_nil ?_
  | with_reducible refine e_dget1 ?_
  | with_reducible refine ed_callX ?_
  | with_reducible refine ⟨_, rfl, ?_⟩
  | with_reducible refine And.intro (Nat.le_of_ble_eq_true rfl) ?_)
local macro_rules | `(tactic| walk_at "t") => `(tactic| first
  | walk_at "e"
  | refine r_modAny (by first | omega | decide) fun z z0 z1 => ?_
  | refine r_mul (by first | exact Or.inr ⟨by decide, by decide⟩ | exact Or.inl ⟨by decide, by decide⟩ | exact Or.inl ⟨by omega, by omega⟩) ?_
  | refine r_pow ⟨by decide, by decide, by decide⟩ ?_
  | refine r_fdivW (by first | assumption | (rename_i hw _; exact hw _) | exact wide_div (b := 200) (by decide) (by decide) (by decide) (by decide)) ?_
  | with_reducible refine And.intro (by omega) ?_)
local macro_rules | `(tactic| walk_at "k") => `(tactic| first
  | walk_at "e"
  | with_reducible refine ⟨fun hb => absurd hb (by decide +kernel), fun _ => ?_⟩
  | with_reducible refine ⟨fun _ => ?_, fun hb => absurd hb (by decide +kernel)⟩
  | refine ⟨fun hb => absurd hb Bool.false_ne_true, fun _ => ?_⟩
  | refine ⟨fun _ => ?_, fun hb => absurd hb.symm Bool.false_ne_true⟩)
local macro_rules | `(tactic| walk_at "d") => `(tactic| first
  | walk_at "k"
  | refine And.intro (show WfTake _ from ⟨by omega, by omega⟩) (take_all fun k hk => ?_))
local macro_rules | `(tactic| walk_at "o") => `(tactic| first
  | with_reducible refine s_ownList ?_
  | walk_at "d"
  | with_reducible refine ⟨_, Or.inl rfl, ?_⟩)

section
variable {P : Program} {w : World} {K : PySem.W.Frag} {mg : Str → Option Value} {base : Heap}
abbrev spTook (K : PySem.W.Frag) (ts : List Addr) : Sp := SpX (α := RunA) K ts RunA.Ok (fun a => [a.x.D, a.s.D, .list (letsD a.ls), .int a.many]) (fun a d => d = .int ((runS a.x a.s a.ls a.many).2 : Nat))
def rowW : Wm.Row → Str
  | .set _ _ => "set"
  | .add _ _ => "add"
  | .jump _ _ => "jump"
  | .say _ => "say"
  | .take _ => "take"
  | .fin => "end"
def rowRest : Wm.Row → List PyData
  | .set p v => [.int p, .int v]
  | .add p q => [.int p, .int q]
  | .jump p k => [.int p, .int k]
  | .say p => [.int p]
  | .take p => [.int p]
  | .fin => []
theorem rowD_eq (r : Wm.Row) : r.D = .tuple (.str (rowW r) :: rowRest r) := by cases r <;> rfl
theorem rowW_take (r : Wm.Row) : decide (rowW r = "take") = isTake r := by
  cases r with
  | set _ _ => exact decide_eq_false (show ¬ (Str.ofString "set" = Str.ofString "take") by decide +kernel)
  | add _ _ => exact decide_eq_false (show ¬ (Str.ofString "add" = Str.ofString "take") by decide +kernel)
  | jump _ _ => exact decide_eq_false (show ¬ (Str.ofString "jump" = Str.ofString "take") by decide +kernel)
  | say _ => exact decide_eq_false (show ¬ (Str.ofString "say" = Str.ofString "take") by decide +kernel)
  | take _ => exact decide_eq_true (show Str.ofString "take" = Str.ofString "take" from rfl)
  | fin => exact decide_eq_false (show ¬ (Str.ofString "end" = Str.ofString "take") by decide +kernel)
theorem row_get' {x : Prog} {a : Nat} (h : a < x.rows.length) : atI (x.rows.map Row.D) (a : Int) = some (rowAt x a).D := by
  refine atI_nat ?_
  unfold rowAt
  rw [List.getElem?_map, List.getElem?_eq_getElem h, List.getD_eq_getElem?_getD, List.getElem?_eq_getElem h]
  rfl
abbrev LT (x : Prog) (s : Stand) (ls : List Let) (many taken : Nat) (here : Stand) : Lv := [some (.d x.D), some (.d s.D), some (.d (.list (letsD ls))), some (.d (.int many)), some (.d (.int taken)), some (.d here.D), none, none, none]
set_option maxHeartbeats 4000000 in
theorem ok_law_took (T : Tx K mg base) : FnOk P w K mg base CX0 6 T.f_law_took T.d_law_took ["program", "stand", "letters", "many"] (spTook K T.ts) := by
  refine fnX T.F_law_took sc_law_took (fun _ _ => rfl) (fun cdv A outer s H E hr => ⟨_, (pss_cons (ps_set (i := 4) sc_law_took.nd rfl (.inl rfl) pe_int)
      (pss_cons (ps_set (i := 5) sc_law_took.nd rfl (.inl rfl) (pv 1))
      (pss_cons (ps_for PassesOwn.never rfl (pi_range1 rfl T.m_range (pa_cons (pv 3) pa_nil)) (pg_name (i := 6) sc_law_took.nd rfl (.inl rfl))
      (pss_cons (ps_set (i := 7) sc_law_took.nd rfl (.inl rfl) (pe_tup (pa_cons pe_str pa_nil)))
      (pss_cons (ps_if (pt_cmpR op_lt (pe_ix (kx_ixT K rfl) (pv 5) pe_int (fun _ _ => rfl)) (pe_callB (kx_len K rfl) (by rfl) T.m_len PySem.boot_len (pa_cons (pe_ix (kx_ixT K rfl) (pv 0) pe_int (fun _ _ => rfl)) pa_nil)) (nomark _))
      (pss_one (ps_set (i := 7) sc_law_took.nd rfl (.inl rfl) (pe_ix (kx_ixT K rfl) (pe_ix (kx_ixT K rfl) (pv 0) pe_int (fun _ _ => rfl)) (pe_ix (kx_ixT K rfl) (pv 5) pe_int (fun _ _ => rfl)) (fun _ _ => rfl))))
      pss_nil)
      (pss_cons (ps_set (i := 8) sc_law_took.nd rfl (.inl rfl) (pe_ix (kx_ixT K rfl) (pe_call (ok_run T) (hr.mono (by decide)) (by rfl) T.g_run T.F_run.kp T.b_run .nil pass0 (pa_cons (pv 0) (pa_cons (pv 1) (pa_cons (pv 2) (pa_cons (pe_op op_add (pv 6) pe_int) pa_nil))))) pe_int (fun _ _ => rfl)))
      (pss_cons (ps_if (PW.pt (pw_and (pt_cmpR op_eq (pe_ix (kx_ixT K rfl) (pv 7) pe_int (fun _ _ => rfl)) pe_str (nomark _)) (pw_and1 (pt_cmpR op_ne (pe_ix (kx_ixT K rfl) (pv 8) pe_int (fun _ _ => rfl)) (pe_ix (kx_ixT K rfl) (pv 5) pe_int (fun _ _ => rfl)) (nomark _)))))
      (pss_one (ps_set (i := 4) sc_law_took.nd rfl (.inl rfl) (pe_op op_add (pv 4) pe_int)))
      pss_nil)
      (pss_one (ps_set (i := 5) sc_law_took.nd rfl (.inl rfl) (pv 8))))))))
      (pss_one (ps_ret (pv 4)))))), fun a ha => ?_⟩)
  obtain ⟨x, s, ls, many⟩ := a
  have hmn := ha.mn
  dsimp only at hmn
  try simp only [nox_K, blk_K, cx_K]
  show S K ⟨none, T.ts⟩ H _ [some (.d _), some (.d _), some (.d _), some (.d _), none, none, none, none, none] _
  refine s_seq (s_asg (e_int ?_))
  dsimp only [List.set]
  refine s_seq (s_asg (e_var rfl ?_))
  dsimp only [List.set]
  refine s_seq (s_forI (it_rng (ea_cons (e_var rfl (ea_nil ⟨(many : Int), rfl, by omega, by omega, fun now L => L = LT x s ls many (runS x s ls now).2 (runS x s ls now).1, ⟨_, Sub.refl _, rfl⟩, fun now d L' hd e => ?_, fun L' e L4 s4 => ?_⟩)))))
  · subst e
    obtain ⟨hnow, rfl⟩ := rngL_get hd
    rw [Int.zero_add]
    rw [Int.toNat_natCast] at hnow
    have ho := runS_ok ha.hx ha.hs ha.hl now
    have hsu := runS_succ x s ls now
    refine g_name ?_
    dsimp only [List.set]
    refine s_seq (s_asg ?_)
    refine e_tup (ea_cons (e_str (ea_nil ⟨Nat.le_of_ble_eq_true rfl, ?_⟩)))
    dsimp only [List.set]
    refine s_cut (fun L => L = [some (.d x.D), some (.d s.D), some (.d (.list (letsD ls))), some (.d (.int many)), some (.d (.int (runS x s ls now).2)), some (.d (runS x s ls now).1.D), some (.d (.int now)), some (.d (rowAt x (runS x s ls now).1.at_).D), none]) (s_if ?_) fun L' e => ?_
    · repeat walk_at "e"
      rw [List.length_map]
      refine ⟨fun hb => ?_, fun hb => ?_⟩
      · have hb := of_decide_eq_true hb
        have hlt : (runS x s ls now).1.at_ < x.rows.length := by omega
        repeat walk_at "e"
        refine r_ixT (row_get' hlt) ?_
        rfl
      · have hb := of_decide_eq_false hb
        refine s_next ?_
        have e : rowAt x (runS x s ls now).1.at_ = .fin := by
          unfold rowAt
          rw [List.getD_eq_getElem?_getD, List.getElem?_eq_none (by omega)]
          rfl
        rw [e]
        rfl
    · subst e
      refine s_seq (s_asg ?_)
      repeat walk_at "e"
      refine ⟨⟨x, s, ls, now + 1⟩, rfl, ⟨ha.hx, ha.hs, ha.hl, ha.hr, ha.ln, by show now + 1 ≤ 10000; omega⟩, ?_⟩
      rintro d rfl
      dsimp only
      repeat walk_at "e"
      rw [rowD_eq]
      have ti := @took_iff x (runS x s ls now).1 (lie ls now (runS x s ls now).2)
      rw [show tickF x (runS x s ls now).1 (lie ls now (runS x s ls now).2) = toldAt x s ls now from rfl] at ti
      have est : (toldAt x s ls now).st = (runS x s ls (now + 1)).1 := by rw [hsu]
      rw [est] at ti
      have fin : ∀ k : Nat, k = (runS x s ls (now + 1)).2 → Wk (fun now L => L = LT x s ls many (runS x s ls now).2 (runS x s ls now).1) (now + 1) [some (.d x.D), some (.d s.D), some (.d (.list (letsD ls))), some (.d (.int many)), some (.d (.int (k : Int))), some (.d (runS x s ls (now + 1)).1.D), some (.d (.int now)), some (.d (.tuple (.str (rowW (rowAt x (runS x s ls now).1.at_)) :: rowRest (rowAt x (runS x s ls now).1.at_)))), some (.d (runS x s ls (now + 1)).1.D)] := fun k hk => by
        subst hk
        exact ⟨LT x s ls many (runS x s ls (now + 1)).2 (runS x s ls (now + 1)).1, by repeat (first | exact Sub.nil | apply Sub.keep | apply Sub.drop), rfl⟩
      repeat walk_at "e"
      refine r_ixT (d := .str (rowW (rowAt x (runS x s ls now).1.at_))) (atI_nat (j := 0) rfl) ?_
      repeat walk_at "e"
      rw [rowW_take]
      cases ht : isTake (rowAt x (runS x s ls now).1.at_) with
      | false =>
        refine ⟨fun z => (by cases z), fun _ => ⟨fun z => (by cases z), fun _ => ?_⟩⟩
        repeat walk_at "e"
        refine fin _ ?_
        rw [hsu, if_neg (fun z => by rw [ht] at ti; exact absurd (ti.mp z).1 Bool.false_ne_true)]
        rfl
      | true =>
        refine ⟨fun _ => ?_, fun z => (by cases z)⟩
        repeat walk_at "e"
        by_cases hne : (runS x s ls (now + 1)).1.at_ = (runS x s ls now).1.at_
        · rw [decide_eq_true (show ((runS x s ls (now + 1)).1.at_ : Int) = (runS x s ls now).1.at_ by omega)]
          refine ⟨fun z => (by cases z), fun _ => ?_⟩
          repeat walk_at "e"
          refine fin _ ?_
          rw [hsu, if_neg (fun z => (ti.mp z).2 hne)]
          rfl
        · rw [decide_eq_false (show ¬ ((runS x s ls (now + 1)).1.at_ : Int) = (runS x s ls now).1.at_ by omega)]
          refine ⟨fun _ => ?_, fun z => (by cases z)⟩
          repeat walk_at "e"
          have := fin ((runS x s ls now).2 + 1) (by rw [hsu, if_pos (ti.mpr ⟨ht, hne⟩)])
          exact this
  · rw [rngL_len, Int.toNat_natCast] at e
    subst e
    refine S.sub ?_ s4
    repeat walk_at "e"
    rfl
end
end K8
set_option Elab.async false
set_option linter.all false
set_option maxRecDepth 100000
namespace K8
open PySem PySem.Spec PyProof.Rows L2 Dl Wm
local macro_rules | `(tactic| walk_at "e") => `(tactic| first
  | ((with_reducible refine e_var (by with_unfolding_all exact rfl) ?_))
  | with_reducible refine e_int ?_
  | with_reducible refine e_str ?_
  | with_reducible refine e_bl ?_
  | with_reducible refine e_non ?_
  | ((with_reducible refine e_pen (by with_unfolding_all exact rfl) (Or.inr rfl) ?_); intro z hz)
  | ((with_reducible refine e_pen (by with_unfolding_all exact rfl) (Or.inl rfl) ?_); intro z hz)
  | ((with_reducible refine e_penIx (by with_unfolding_all exact rfl) ?_))
  | with_reducible refine e_op ?_
  | with_reducible refine e_tup ?_
  | with_reducible refine e_lst ?_
  | with_reducible refine ea_cons ?_
  | with_reducible refine ea_nil ?_
  | ((with_reducible refine e_penLen (by with_unfolding_all exact rfl) ?_))
  | ((with_reducible refine e_lenOwn (by with_unfolding_all exact rfl) ?_))
  | ((with_reducible refine e_tupOwn (by with_unfolding_all exact rfl) ?_))
  | ((with_reducible refine s_aug (by with_unfolding_all exact rfl) ?_); (try dsimp only [List.set]))
  | with_reducible refine e_callXF ?_
  | with_reducible refine r_ipI ?_
  | with_reducible refine e_un ?_
  | with_reducible refine r_neg ?_
  | with_reducible refine gws_cons ?_
  | with_reducible refine gws_nil ?_
  | with_reducible refine gw_tup rfl ?_
  | ((with_reducible refine gw_name (by decide) ?_); (try dsimp only [List.set]))
  | with_reducible refine e_isI ?_
  | with_reducible refine e_isB ?_
  | with_reducible refine e_isS ?_
  | with_reducible refine e_isTu ?_
  | with_reducible refine e_isL ?_
  | with_reducible refine e_cb ?_
  | with_reducible refine e_sl ?_
  | with_reducible refine eo_none ?_
  | with_reducible refine eo_some ?_
  | with_reducible refine et_test ?_
  | with_reducible refine et_B ?_
  | with_reducible refine et_and ?_
  | with_reducible refine et_or ?_
  | with_reducible refine et_not ?_
  | with_reducible refine et_yes ?_
  | with_reducible refine e_andV ?_
  | with_reducible refine e_orV ?_
  | with_reducible refine e_notV ?_
  | with_reducible refine e_if ?_
  | with_reducible refine e_chain ?_
  | with_reducible refine e_callX ?_
  | ((with_reducible refine e_callXP (by with_unfolding_all exact rfl) ?_ (by with_unfolding_all exact trivial)))
  | ((with_reducible refine s_seq ?_); (try dsimp only [List.set]))
  | with_reducible refine s_next ?_
  | with_reducible refine s_ret ?_
  | ((with_reducible refine s_pen (by with_unfolding_all exact rfl) (Or.inr rfl) ?_))
  | ((with_reducible refine s_pen (by with_unfolding_all exact rfl) (Or.inl rfl) ?_))
  | ((with_reducible refine s_putOwn (by with_unfolding_all exact rfl) ?_ (by with_unfolding_all exact rfl)))
  | with_reducible refine s_asg ?_
  | with_reducible refine s_asgG ?_
  | with_reducible refine s_if ?_
  | with_reducible refine g_name ?_
  | with_reducible refine g_tup rfl ?_
  | with_reducible refine gs_cons ?_
  | with_reducible refine gs_nil ?_
  | with_reducible refine r_lt ?_
  | with_reducible refine r_le ?_
  | with_reducible refine r_gt ?_
  | with_reducible refine r_ge ?_
  | with_reducible refine r_add ?_
  | with_reducible refine r_sub ?_
  | with_reducible refine r_eqI ?_
  | with_reducible refine r_eqS ?_
  | with_reducible refine r_eqB ?_
  | with_reducible refine r_neI ?_
  | with_reducible refine r_neB ?_
  | with_reducible refine c_min2 ?_
  | with_reducible refine c_max2 ?_
  | with_reducible refine c_intB ?_
  | with_reducible refine c_len (Or.inl rfl) ?_
  | with_reducible refine c_len (Or.inr rfl) ?_
  | with_reducible refine c_list (Or.inl rfl) ?_
  | with_reducible refine c_list (Or.inr rfl) ?_
  | with_reducible refine c_tuple (Or.inl rfl) ?_
  | with_reducible refine c_tuple (Or.inr rfl) ?_
  | with_reducible refine r_ixT (by with_unfolding_all exact rfl) ?_
  | with_reducible refine r_ixL (by with_unfolding_all exact rfl) ?_
  | with_reducible refine r_slT ?_
  | with_reducible refine r_slL ?_
  | with_reducible refine r_isNone ?_
  | with_reducible refine r_notBl ?_
  | with_reducible refine eps_cons ?_
  | with_reducible refine eps_nil ?_
  | with_reducible refine e_dget1 ?_
  | with_reducible refine ed_callX ?_
  | with_reducible refine ⟨_, rfl, ?_⟩
  | with_reducible refine And.intro (Nat.le_of_ble_eq_true rfl) ?_)
local macro_rules | `(tactic| walk_at "t") => `(tactic| first
  | walk_at "e"
  | refine r_modAny (by first | omega | decide) fun z z0 z1 => ?_
  | refine r_mul (by first | exact Or.inr ⟨by decide, by decide⟩ | exact Or.inl ⟨by decide, by decide⟩ | exact Or.inl ⟨by omega, by omega⟩) ?_
  | refine r_pow ⟨by decide, by decide, by decide⟩ ?_
  | refine r_fdivW (by first | assumption | (rename_i hw _; exact hw _) | exact wide_div (b := 200) (by decide) (by decide) (by decide) (by decide)) ?_
  | with_reducible refine And.intro (by omega) ?_)
local macro_rules | `(tactic| walk_at "k") => `(tactic| first
  | walk_at "e"
  | with_reducible refine ⟨fun hb => absurd hb (by decide +kernel), fun _ => ?_⟩
  | with_reducible refine ⟨fun _ => ?_, fun hb => absurd hb (by decide +kernel)⟩
  | refine ⟨fun hb => absurd hb Bool.false_ne_true, fun _ => ?_⟩
  | refine ⟨fun _ => ?_, fun hb => absurd hb.symm Bool.false_ne_true⟩)
local macro_rules | `(tactic| walk_at "d") => `(tactic| first
  | walk_at "k"
  | refine And.intro (show WfTake _ from ⟨by omega, by omega⟩) (take_all fun k hk => ?_))
local macro_rules | `(tactic| walk_at "o") => `(tactic| first
  | with_reducible refine s_ownList ?_
  | walk_at "d"
  | with_reducible refine ⟨_, Or.inl rfl, ?_⟩)

section
variable {P : Program} {w : World} {K : PySem.W.Frag} {mg : Str → Option Value} {base : Heap}
theorem mem3 {α : Type} {a b d : α} (h : d ∈ [a, b]) : d = a ∨ d = b := by
  rcases List.mem_cons.mp h with h | h
  · exact .inl h
  · exact .inr (List.mem_singleton.mp h)
abbrev PyData.Lay (k : Nat) (d : PyData) : Prop := d.canLay0 = true ∧ d.depth ≤ k
theorem lay_all {k : Nat} : ∀ {ds : List PyData}, (∀ d ∈ ds, PyData.Lay k d) → PyData.canLayAll0 ds = true ∧ PyData.depthAll ds ≤ k
  | [], _ => ⟨rfl, Nat.zero_le _⟩
  | d :: ds, h => by
    obtain ⟨h1, h2⟩ := lay_all fun x hx => h x (List.mem_cons_of_mem _ hx)
    obtain ⟨h3, h4⟩ := h d (List.mem_cons_self ..)
    rw [PyData.canLayAll0, PyData.depthAll, h1, h3]
    exact ⟨rfl, Nat.max_le.mpr ⟨h4, h2⟩⟩
theorem lay_tup {k : Nat} {ds : List PyData} (h : ∀ d ∈ ds, PyData.Lay k d) : PyData.Lay (k + 1) (.tuple ds) := by
  obtain ⟨h1, h2⟩ := lay_all h
  exact ⟨by rw [PyData.canLay0]; exact h1, by rw [PyData.depth]; omega⟩
theorem lay_lst {k : Nat} {ds : List PyData} (h : ∀ d ∈ ds, PyData.Lay k d) : PyData.Lay (k + 1) (.list ds) := by
  obtain ⟨h1, h2⟩ := lay_all h
  exact ⟨by rw [PyData.canLay0]; exact h1, by rw [PyData.depth]; omega⟩
theorem lay_int {k : Nat} (i : Int) : PyData.Lay k (.int i) := ⟨rfl, Nat.zero_le _⟩
theorem shaped_lay {k : Nat} {d : PyData} (h : PyData.Lay k d) (hk : k ≤ 64) : SeqAt.shaped d = true := by
  unfold SeqAt.shaped
  rw [h.1, decide_eq_true (Nat.le_trans h.2 hk)]
  rfl
theorem lay_lets (ls : List Let) : PyData.Lay 2 (.list (letsD ls)) := lay_lst fun d hd => by
  obtain ⟨l, _, rfl⟩ := List.mem_map.mp hd
  exact lay_tup fun d hd => by
    rcases mem3 hd with rfl | rfl <;> exact lay_int _
theorem lay_num (o : Option Nat) : PyData.Lay 0 (numD o) := by cases o <;> exact ⟨rfl, Nat.zero_le _⟩
theorem lay_mono {k m : Nat} {d : PyData} (h : PyData.Lay k d) (hk : k ≤ m) : PyData.Lay m d := ⟨h.1, Nat.le_trans h.2 hk⟩
theorem lay_nat (l : List Nat) : PyData.Lay 1 (.tuple (natsD l)) := lay_tup fun d hd => by
  obtain ⟨v, _, rfl⟩ := List.mem_map.mp hd
  exact lay_int _
theorem lay_stand (s : Stand) : PyData.Lay 2 s.D := lay_tup fun d hd => by
  rcases mem3 hd with rfl | rfl
  · exact lay_int _
  · exact lay_nat _
theorem lay_said (l : List (Nat × Option Nat)) : PyData.Lay 2 (.list (l.map saidD)) := lay_lst fun d hd => by
  obtain ⟨v, _, rfl⟩ := List.mem_map.mp hd
  refine lay_tup fun d hd => ?_
  rcases mem3 hd with rfl | rfl
  · exact lay_int _
  · exact lay_num _
theorem lay_touch (l : List Told) : PyData.Lay 3 (.list (l.map touchD)) := lay_lst fun d hd => by
  obtain ⟨v, _, rfl⟩ := List.mem_map.mp hd
  refine lay_tup fun d hd => ?_
  rcases mem3 hd with rfl | rfl <;> exact lay_nat _
theorem lay_write (l : List Told) : PyData.Lay 2 (.list (l.map writeD)) := lay_lst fun d hd => by
  obtain ⟨v, _, rfl⟩ := List.mem_map.mp hd
  exact lay_nat _
theorem lay_run (a : RunA) : PyData.Lay 3 (runRes a) := lay_tup fun d hd => by
  rcases mem3 hd with rfl | rfl
  · exact lay_stand _
  · exact lay_said _
theorem said_get {l : List (Nat × Option Nat)} {i : Nat} {d : PyData} (h : (l.map saidD)[i]? = some d) : ∃ e, l[i]? = some e ∧ d = saidD e := by
  rw [List.getElem?_map] at h
  cases hl : l[i]? with
  | none => rw [hl] at h; cases h
  | some e => rw [hl] at h; exact ⟨e, rfl, (Option.some.inj h).symm⟩
theorem map_idx {α : Type} (l : List α) (f : α → PyData) (g : α → PyData) : ((l.map f).mapIdx fun i _ => (l[i]?).map g).filterMap id = l.map g := by
  have e : ((l.map f).mapIdx fun i _ => (l[i]?).map g) = (l.map g).map some := by
    apply List.ext_getElem?
    intro i
    rw [List.getElem?_mapIdx]
    simp only [List.getElem?_map]
    cases l[i]? <;> rfl
  rw [e, List.filterMap_map]
  induction l.map g with
  | nil => rfl
  | cons a r ih => rw [List.filterMap_cons]; exact congrArg (a :: ·) ih
theorem touch_get2 {l : List Told} {i : Nat} {d : PyData} (h : (l.map touchD)[i]? = some d) : ∃ e, l[i]? = some e ∧ d = touchD e := by
  rw [List.getElem?_map] at h
  cases hl : l[i]? with
  | none => rw [hl] at h; cases h
  | some e => rw [hl] at h; exact ⟨e, rfl, (Option.some.inj h).symm⟩
theorem lets_filter (ls : List Let) (many : Nat) : ((letsD ls).mapIdx fun i _ => (ls[i]?).bind fun l => if l.1 < many then some (letD l) else none).filterMap id = letsD (ls.filter fun l => decide (l.1 < many)) := by
  have e : ((letsD ls).mapIdx fun i _ => (ls[i]?).bind fun l => if l.1 < many then some (letD l) else none) = ls.map fun l => if l.1 < many then some (letD l) else none := by
    apply List.ext_getElem?
    intro i
    unfold letsD
    rw [List.getElem?_mapIdx, List.getElem?_map, List.getElem?_map]
    cases ls[i]? <;> rfl
  rw [e, List.filterMap_map]
  clear e
  unfold letsD
  induction ls with
  | nil => rfl
  | cons l r ih =>
    rw [List.filterMap_cons, List.filter_cons]
    by_cases h : l.1 < many
    · rw [show (id ∘ fun l : Let => if l.1 < many then some (letD l) else none) l = some (letD l) from if_pos h, if_pos (decide_eq_true h), List.map_cons]
      dsimp only
      rw [ih]
    · rw [show (id ∘ fun l : Let => if l.1 < many then some (letD l) else none) l = none from if_neg h, if_neg (by rw [decide_eq_true_eq]; exact h)]
      exact ih
abbrev L0 (ns : List Int) : Lv := [some (.d (.list (intsL ns))), some .pen, none, none, none, none, none, none, none, none, none, none, none, none, none, none, none, none, none, none, none, none, none]
set_option maxHeartbeats 4000000 in
theorem ok_law {f : Addr} {fd : FuncData} (F : Fun K "law" "law" s_law f fd) (T : Tx K mg base) : FnOk P w K mg base CX0 7 f fd ["script"] (spLawT K T.ts) := by
  refine F.ok sc_law (fun vs H Q E h => ?_) (fun cdv A outer s H vs Q E hr h => ?_)
  · obtain ⟨a, ns, rfl, _⟩ := h
    rfl
  · obtain ⟨a, ns, rfl, hS, hlen, hT, q⟩ := h
    refine ⟨_, (pss_cons (ps_set (i := 1) sc_law.nd rfl (.inl rfl) (pe_call (ok_law_pen T) (hr.mono (by decide)) (by rfl) T.g_law_pen T.F_law_pen.kp T.b_law_pen .nil pass0 (pa_cons (pv 0) pa_nil)))
      (pss_cons (ps_for PassesOwn.never rfl (pi_range1 rfl T.m_range (pa_cons pe_int pa_nil)) (pg_name (i := 2) sc_law.nd rfl (.inl rfl))
      (pss_cons (ps_set (i := 3) sc_law.nd rfl (.inl rfl) (pe_call (ok_law_program T) (hr.mono (by decide)) (by rfl) T.g_law_program T.F_law_program.kp T.b_law_program .nil pass0 (pa_cons (pv 1) (pa_cons pe_bl pa_nil))))
      (pss_cons (ps_set (i := 4) sc_law.nd rfl (.inl rfl) (pe_call (ok_law_stand T) (hr.mono (by decide)) (by rfl) T.g_law_stand T.F_law_stand.kp T.b_law_stand .nil pass0 (pa_cons (pv 1) (pa_cons (pv 3) pa_nil))))
      (pss_cons (ps_set (i := 5) sc_law.nd rfl (.inr rfl) (pe_call (ok_law_take T) (hr.mono (by decide)) (by rfl) T.g_law_take T.F_law_take.kp T.b_law_take .nil pass0 (pa_cons (pv 1) (pa_cons pe_int pa_nil))))
      (pss_cons (ps_set (i := 6) sc_law.nd rfl (.inr rfl) (pe_call (ok_law_take T) (hr.mono (by decide)) (by rfl) T.g_law_take T.F_law_take.kp T.b_law_take .nil pass0 (pa_cons (pv 1) (pa_cons (pe_op op_add (pv 5) pe_int) pa_nil))))
      (pss_cons (ps_set (i := 7) sc_law.nd rfl (.inl rfl) (pe_call (ok_law_letters T) (hr.mono (by decide)) (by rfl) T.g_law_letters T.F_law_letters.kp T.b_law_letters .nil pass0 (pa_cons (pv 1) (pa_cons (pv 3) (pa_cons (pv 5) pa_nil)))))
      (pss_cons (ps_asg (pe_call (ok_run T) (hr.mono (by decide)) (by rfl) T.g_run T.F_run.kp T.b_run .nil pass0 (pa_cons (pv 3) (pa_cons (pv 4) (pa_cons (pv 7) (pa_cons (pv 5) pa_nil))))) (kx_pgT K (n := 2) rfl rfl (pgs_cons (pg_name (i := 8) sc_law.nd rfl (.inl rfl)) (pgs_cons (pg_name (i := 9) sc_law.nd rfl (.inl rfl)) pgs_nil))))
      (pss_cons (ps_asg (pe_call (ok_run T) (hr.mono (by decide)) (by rfl) T.g_run T.F_run.kp T.b_run .nil pass0 (pa_cons (pv 3) (pa_cons (pv 4) (pa_cons (pv 7) (pa_cons (pv 6) pa_nil))))) (kx_pgT K (n := 2) rfl rfl (pgs_cons (pg_name (i := 10) sc_law.nd rfl (.inl rfl)) (pgs_cons (pg_name (i := 11) sc_law.nd rfl (.inl rfl)) pgs_nil))))
      (pss_cons (ps_set (i := 12) sc_law.nd rfl (.inl rfl) (pe_call (ok_law_rest T) (hr.mono (by decide)) (by rfl) T.g_law_rest T.F_law_rest.kp T.b_law_rest .nil pass0 (pa_cons (pv 7) (pa_cons (pv 6) (pa_cons (pe_call (ok_law_took T) (hr.mono (by decide)) (by rfl) T.g_law_took T.F_law_took.kp T.b_law_took .nil pass0 (pa_cons (pv 3) (pa_cons (pv 4) (pa_cons (pv 7) (pa_cons (pv 6) pa_nil))))) pa_nil)))))
      (pss_cons (ps_asg (pe_call (ok_run T) (hr.mono (by decide)) (by rfl) T.g_run T.F_run.kp T.b_run .nil pass0 (pa_cons (pv 3) (pa_cons (pv 10) (pa_cons (pv 12) (pa_cons (pe_op op_sub (pv 5) (pv 6)) pa_nil))))) (kx_pgT K (n := 2) rfl rfl (pgs_cons (pg_name (i := 13) sc_law.nd rfl (.inl rfl)) (pgs_cons (pg_name (i := 14) sc_law.nd rfl (.inl rfl)) pgs_nil))))
      (pss_cons (ps_setLc (i := 14) (own := [("now", 18), ("number", 19)]) (tt := tYes) rfl sc_law.nd rfl rfl (sw_true rfl rfl rfl (by decide +kernel)) (kx_piL K rfl (pv 14)) (blkOk_by (own := [("now", 18), ("number", 19)]) (N := ["script", "pen", "turn", "program", "stand", "many", "at", "letters", "there", "said", "middle", "first", "rest", "last", "later", "both", "far", "behind", "now", "number", "reads", "writes", "one"]) (sc := defScope s_law) (by decide +kernel)) (fun _ _ _ _ _ => (kx_pgT K (n := 2) rfl rfl (pgs_cons (pg_name (i := 18) sc_law.nd rfl (.inl rfl)) (pgs_cons (pg_name (i := 19) sc_law.nd rfl (.inl rfl)) pgs_nil)))) (fun _ _ _ _ _ => pts_nil) (fun _ _ _ _ _ => (pe_tup (pa_cons (pe_op op_add (pv 18) (pv 6)) (pa_cons (pv 19) pa_nil)))))
      (pss_cons (ps_if (PW.pt (pw_or (pt_cmpR (kx_neD K rfl hr.units) (pv 13) (pv 8) (nomark _)) (pw_or1 (pt_cmpR (kx_neD K rfl hr.units) (pe_op (kx_catL (K := K) rfl) (pv 11) (pv 14)) (pv 9) (nomark _)))))
      (pss_one (ps_ret pe_bl))
      pss_nil)
      (pss_cons (ps_set (i := 15) sc_law.nd rfl (.inl rfl) (pe_op (kx_catL (K := K) rfl) (pe_call (ok_touches T) (hr.mono (by decide)) (by rfl) T.g_touches T.F_touches.kp T.b_touches .nil pass0 (pa_cons (pv 3) (pa_cons (pv 4) (pa_cons (pv 7) (pa_cons (pv 6) pa_nil))))) (pe_call (ok_touches T) (hr.mono (by decide)) (by rfl) T.g_touches T.F_touches.kp T.b_touches .nil pass0 (pa_cons (pv 3) (pa_cons (pv 10) (pa_cons (pv 12) (pa_cons (pe_op op_sub (pv 5) (pv 6)) pa_nil)))))))
      (pss_cons (ps_if (pt_cmpR (kx_neD K rfl hr.units) (pe_call (ok_touches T) (hr.mono (by decide)) (by rfl) T.g_touches T.F_touches.kp T.b_touches .nil pass0 (pa_cons (pv 3) (pa_cons (pv 4) (pa_cons (pv 7) (pa_cons (pv 5) pa_nil))))) (pv 15) (nomark _))
      (pss_one (ps_ret pe_bl))
      pss_nil)
      (pss_cons (ps_if (pt_cmpR (kx_neD K rfl hr.units) (pe_call (ok_trace T) (hr.mono (by decide)) (by rfl) T.g_trace T.F_trace.kp T.b_trace .nil pass0 (pa_cons (pv 3) (pa_cons (pv 4) (pa_cons (pv 7) (pa_cons (pv 5) pa_nil))))) (pe_lc (own := [("reads", 20), ("writes", 21)]) (tt := tYes) rfl sc_law.nd (kx_piL K rfl (pv 15)) (blkOk_by (own := [("reads", 20), ("writes", 21)]) (N := ["script", "pen", "turn", "program", "stand", "many", "at", "letters", "there", "said", "middle", "first", "rest", "last", "later", "both", "far", "behind", "now", "number", "reads", "writes", "one"]) (sc := defScope s_law) (by decide +kernel)) (fun _ _ _ _ _ => (kx_pgT K (n := 2) rfl rfl (pgs_cons (pg_name (i := 20) sc_law.nd rfl (.inl rfl)) (pgs_cons (pg_name (i := 21) sc_law.nd rfl (.inl rfl)) pgs_nil)))) (fun _ _ _ _ _ => pts_nil) (fun _ _ _ _ _ => (pv 21))) (nomark _))
      (pss_one (ps_ret pe_bl))
      pss_nil)
      (pss_cons (ps_set (i := 16) sc_law.nd rfl (.inl rfl) (pe_op op_add (pv 5) (pe_ix (kx_ixL K rfl) (pe_lst (pa_cons pe_int (pa_cons (pe_op op_pow pe_int pe_int) pa_nil))) (pe_call (ok_law_take T) (hr.mono (by decide)) (by rfl) T.g_law_take T.F_law_take.kp T.b_law_take .nil pass0 (pa_cons (pv 1) (pa_cons pe_int pa_nil))) (fun _ _ => rfl))))
      (pss_cons (ps_set (i := 17) sc_law.nd rfl (.inl rfl) (pe_op (kx_catL (K := K) rfl) (pe_lc (own := [("one", 22)]) (g := gName 22) rfl sc_law.nd (kx_piL K rfl (pv 7)) (blkOk_by (own := [("one", 22)]) (N := ["script", "pen", "turn", "program", "stand", "many", "at", "letters", "there", "said", "middle", "first", "rest", "last", "later", "both", "far", "behind", "now", "number", "reads", "writes", "one"]) (sc := defScope s_law) (by decide +kernel)) (fun _ _ _ _ _ => (pg_name (i := 22) sc_law.nd rfl (.inl rfl))) (fun _ _ _ _ _ => (pts_one (pt_cmpR op_lt (pe_ix (kx_ixT K rfl) (pv 22) pe_int (fun _ _ => rfl)) (pv 5) (nomark _)))) (fun _ _ _ _ _ => (pv 22))) (pe_lst (pa_cons (pe_tup (pa_cons (pv 16) (pa_cons pe_int pa_nil))) pa_nil))))
      (pss_cons (ps_if (pt_cmpR (kx_neD K rfl hr.units) (pe_call (ok_run T) (hr.mono (by decide)) (by rfl) T.g_run T.F_run.kp T.b_run .nil pass0 (pa_cons (pv 3) (pa_cons (pv 4) (pa_cons (pv 17) (pa_cons (pv 5) pa_nil))))) (pe_tup (pa_cons (pv 8) (pa_cons (pv 9) pa_nil))) (nomark _))
      (pss_one (ps_ret pe_bl))
      pss_nil)
      (pss_one (ps_if (pt_cmpR (kx_neD K rfl hr.units) (pe_slice (kx_slL K rfl) (pe_call (ok_touches T) (hr.mono (by decide)) (by rfl) T.g_touches T.F_touches.kp T.b_touches .nil pass0 (pa_cons (pv 3) (pa_cons (pv 4) (pa_cons (pv 7) (pa_cons (pe_op op_add (pv 5) pe_int) pa_nil))))) po_none (po_some (pv 5))) (pv 15) (nomark _))
      (pss_one (ps_ret pe_bl))
      pss_nil))))))))))))))))))))
      (pss_one (ps_ret pe_bl)))), ?_⟩
    refine ⟨.ref a, rfl, a, ns, rfl, hS, fun p c cells H1 hsame hpn hp hc => ?_⟩
    dsimp only [gName]
    refine pen_startS (K := K) (ts := T.ts) (L := L0 ns) hp hc (hsame.seq hS) rfl (fun i av hi => ?_) (fun P hP => ?_) ?_ q
    · rcases i with _ | _ | i
      · cases hi
        exact .inr ⟨rfl, rfl⟩
      · cases hi
        exact .inl ⟨rfl, rfl⟩
      · iterate 21 (rcases i with _ | i; (· cases hi))
        cases hi
    · obtain ⟨ps, e, t⟩ := hT P hP
      exact ⟨ps, hsame _ _ e, t⟩
    · refine s_seq (s_forRw (ea_cons (e_int (ea_nil ⟨2, rfl, by decide, fun _ L => L = L0 ns, ⟨L0 ns, Sub.refl _, rfl⟩, fun i L' hi e => ?_, fun L' e L4 s4 => ?_⟩))))
      · subst e
        refine g_name ?_
        dsimp only [List.set]
        repeat walk_at "d"
        refine ⟨trivial, ?_⟩
        rintro d ⟨x, rfl, hx⟩
        have hxo := hx.ok
        repeat walk_at "d"
        refine ⟨hxo, ?_⟩
        rintro d ⟨s0, rfl, hs0⟩
        repeat walk_at "d"
        rename_i many hmany at_ hat
        refine ⟨⟨x, many⟩, rfl, ⟨hxo, by show many ≤ 10000; omega⟩, ?_⟩
        rintro d ⟨ls, rfl, hl1, hl2, hl3⟩
        have hok : ∀ m, m ≤ 1000 → RunA.Ok ⟨x, s0, ls, m⟩ := fun m hm => ⟨hxo, hs0, hl2, hl1, by show ls.length ≤ 1000; omega, by show m ≤ 10000; omega⟩
        repeat walk_at "d"
        refine ⟨⟨x, s0, ls, many⟩, rfl, hok _ (by omega), ?_⟩
        rintro d rfl
        repeat walk_at "d"
        refine ⟨⟨x, s0, ls, at_⟩, rfl, hok _ (by omega), ?_⟩
        rintro d rfl
        repeat walk_at "d"
        refine ⟨⟨x, s0, ls, at_⟩, rfl, hok _ (by omega), ?_⟩
        rintro d rfl
        dsimp only
        have hu := used_pre (x := x) (s := s0) hl1 at_
        repeat walk_at "d"
        refine ⟨⟨ls, at_, (runS x s0 ls at_).2⟩, rfl, by show ls.length ≤ 1000; omega, ?_⟩
        rintro d rfl
        dsimp only
        have hok2 : RunA.Ok ⟨x, (runS x s0 ls at_).1, restL ls at_ (runS x s0 ls at_).2, many - at_⟩ := ⟨hxo, runS_ok hxo hs0 hl2 at_, fun l hl => by
          obtain ⟨m, hm, rfl⟩ := List.mem_map.mp hl
          exact hl2 m (List.mem_of_mem_drop hm), rest_rises hl1 _ _, by show ((ls.drop _).map _).length ≤ 1000; rw [List.length_map, List.length_drop]; omega, by show many - at_ ≤ 10000; omega⟩
        have em : at_ + (many - at_) = many := by omega
        have r1 := (runS_rest (x := x) (s := s0) hl1 at_ (many - at_)).1
        have r2 := toldL_app (x := x) (s := s0) hl1 at_ (many - at_)
        have r3 := saidL_app (x := x) (s := s0) hl1 at_ (many - at_)
        rw [em] at r1 r2 r3
        repeat walk_at "d"
        rw [show (many : Int) - at_ = ((many - at_ : Nat) : Int) by omega]
        repeat walk_at "d"
        refine ⟨⟨x, (runS x s0 ls at_).1, restL ls at_ (runS x s0 ls at_).2, many - at_⟩, rfl, hok2, ?_⟩
        rintro d rfl
        generalize restL ls at_ (runS x s0 ls at_).2 = rest at hok2 r1 r2 r3 ⊢
        generalize (runS x s0 ls at_).1 = mid at hok2 r1 r2 r3 ⊢
        repeat walk_at "d"
        have lsa := saidL_len x s0 ls at_
        have lsb := saidL_len x mid rest (many - at_)
        refine e_ofL (el_lcF (fun i _ => ((saidL x mid rest (many - at_))[i]?).map fun l => saidD (l.1 + at_, l.2)) (it_list (e_var rfl ⟨_, rfl, ?_, fun i d hd => ?_, ?_⟩)))
        · rw [List.length_map]; show (saidL x mid rest (many - at_)).length ≤ 100000; omega
        · obtain ⟨e, he, rfl⟩ := said_get hd
          unfold saidD
          dsimp only [List.map, wipeL, List.set]
          repeat walk_at "d"
          rw [he]
          rfl
        · rw [map_idx]
          dsimp only
          rw [show ((saidL x mid rest (many - at_)).map fun l => saidD (l.1 + at_, l.2)) = ((saidL x mid rest (many - at_)).map fun l => (l.1 + at_, l.2)).map saidD from by rw [List.map_map]; rfl]
          repeat walk_at "d"
          refine r_neD (shaped_lay (lay_stand _) (by decide)) (shaped_lay (lay_stand _) (by decide)) ?_
          rw [r1, SeqAt.eqv_refl _ (lay_stand _).1]
          repeat walk_at "d"
          refine r_catL (by rw [List.length_map, List.length_map, List.length_map]; omega) ?_
          rw [← List.map_append, r3]
          repeat walk_at "d"
          refine r_neD (shaped_lay (lay_said _) (by decide)) (shaped_lay (lay_said _) (by decide)) ?_
          rw [SeqAt.eqv_refl _ (lay_said _).1]
          repeat walk_at "d"
          refine ⟨⟨x, s0, ls, at_⟩, rfl, hok _ (by omega), ?_⟩
          rintro d rfl
          repeat walk_at "d"
          rw [show (many : Int) - at_ = ((many - at_ : Nat) : Int) by omega]
          repeat walk_at "d"
          refine ⟨⟨x, mid, rest, many - at_⟩, rfl, hok2, ?_⟩
          rintro d rfl
          refine r_catL (by rw [List.length_map, List.length_map, toldL_len, toldL_len]; show at_ + (many - at_) ≤ 100000; omega) ?_
          dsimp only
          rw [← List.map_append, r2]
          repeat walk_at "d"
          refine ⟨⟨x, s0, ls, many⟩, rfl, hok _ (by omega), ?_⟩
          rintro d rfl
          repeat walk_at "d"
          refine r_neD (shaped_lay (lay_touch _) (by decide)) (shaped_lay (lay_touch _) (by decide)) ?_
          rw [SeqAt.eqv_refl _ (lay_touch _).1]
          repeat walk_at "d"
          refine ⟨⟨x, s0, ls, many⟩, rfl, hok _ (by omega), ?_⟩
          rintro d rfl
          dsimp only
          refine e_ofL (el_lcF (fun i _ => ((toldL x s0 ls many)[i]?).map writeD) (it_list (e_var rfl ⟨_, rfl, ?_, fun i d hd => ?_, ?_⟩)))
          · rw [List.length_map, toldL_len]; omega
          · obtain ⟨e, he, rfl⟩ := touch_get2 hd
            unfold touchD
            dsimp only [List.map, wipeL, List.set]
            repeat walk_at "d"
            rw [he]
            rfl
          rw [map_idx]
          refine r_neD (shaped_lay (lay_write _) (by decide)) (shaped_lay (lay_write _) (by decide)) ?_
          rw [SeqAt.eqv_refl _ (lay_write _).1]
          repeat walk_at "d"
          refine r_pow ⟨by decide, by decide, by decide⟩ ?_
          repeat walk_at "d"
          rename_i k hk
          have hf : ∃ f : Nat, atI [PyData.int 3, .int (10 ^ (59 : Int).toNat)] (k : Int) = some (.int (f : Int)) := by
            rcases (by omega : k = 0 ∨ k = 1) with rfl | rfl
            · exact ⟨3, rfl⟩
            · exact ⟨10 ^ 59, by show some (PyData.int (10 ^ (59 : Int).toNat)) = some (PyData.int ((10 ^ 59 : Nat) : Int)); rw [Int.natCast_pow]; rfl⟩
          obtain ⟨f, ef⟩ := hf
          refine r_ixL ef ?_
          repeat walk_at "d"
          rw [show (many : Int) + f = ((many + f : Nat) : Int) by omega]
          have ll : (letsD ls).length = ls.length := List.length_map _
          refine e_ofL (el_lcF (fun i _ => (ls[i]?).bind fun l => if l.1 < many then some (letD l) else none) (it_list (e_var rfl ⟨_, rfl, ?_, fun i d hd => ?_, ?_⟩)))
          · rw [ll]; omega
          · unfold letsD at hd
            rw [List.getElem?_map] at hd
            cases hg : ls[i]? with
            | none => rw [hg] at hd; cases hd
            | some l =>
              rw [hg] at hd
              cases hd
              unfold letD
              dsimp only [List.map, wipeL, List.set]
              repeat walk_at "d"
              refine ⟨fun hb => ?_, fun hb => ?_⟩
              · have hb := of_decide_eq_true hb
                repeat walk_at "d"
                rw [Option.bind_some, if_pos (by omega)]
              · have hb := of_decide_eq_false hb
                rw [Option.bind_some, if_neg (by omega)]
          rw [lets_filter]
          repeat walk_at "d"
          have hfl := List.length_filter_le (fun l : Let => decide (l.1 < many)) ls
          refine r_catL (by unfold letsD; rw [List.length_map]; show _ + 1 ≤ 100000; omega) ?_
          rw [show letsD (ls.filter fun l => decide (l.1 < many)) ++ [PyData.tuple [.int ((many + f : Nat) : Int), .int 0]] = letsD (behL ls many (many + f)) from by unfold behL letsD; rw [List.map_append]; rfl]
          repeat walk_at "d"
          refine ⟨⟨x, s0, behL ls many (many + f), many⟩, rfl, ⟨hxo, hs0, fun l hl => ?_, beh_rises hl1 (by omega), ?_, by show many ≤ 10000; omega⟩, ?_⟩
          · rcases List.mem_append.mp hl with hl | hl
            · exact hl2 l (List.mem_filter.mp hl).1
            · rw [List.mem_singleton.mp hl]
              have := hxo.w1
              show 0 < x.w
              omega
          · show (behL ls many (many + f)).length ≤ 1000
            unfold behL
            rw [List.length_append]
            show _ + 1 ≤ 1000
            omega
          rintro d rfl
          repeat walk_at "d"
          rw [show runRes ⟨x, s0, behL ls many (many + f), many⟩ = runRes ⟨x, s0, ls, many⟩ from by dsimp only [runRes]; rw [runS_beh (by omega) many (Nat.le_refl _), saidL_beh (by omega)]]
          refine r_neD (shaped_lay (lay_run _) (by decide)) (shaped_lay (lay_run ⟨x, s0, ls, many⟩) (by decide)) ?_
          rw [SeqAt.eqv_refl _ (lay_run ⟨x, s0, ls, many⟩).1]
          repeat walk_at "d"
          refine ⟨⟨x, s0, ls, many + 5⟩, rfl, hok _ (by omega), ?_⟩
          rintro d rfl
          repeat walk_at "d"
          dsimp only
          rw [cut_to, ← List.map_take, toldL_take]
          repeat walk_at "d"
          refine r_neD (shaped_lay (lay_touch _) (by decide)) (shaped_lay (lay_touch _) (by decide)) ?_
          rw [SeqAt.eqv_refl _ (lay_touch _).1]
          repeat walk_at "d"
          exact ⟨L0 ns, by repeat (first | exact Sub.nil | apply Sub.keep | apply Sub.drop), rfl⟩
      · subst e
        refine S.sub ?_ s4
        repeat walk_at "d"
        rfl
end
end K8
set_option Elab.async false
set_option linter.all false
set_option maxRecDepth 100000
namespace K8
open PySem PySem.Spec PyProof.Rows L2 Dl
set_option maxHeartbeats 0 in
theorem all_mk {l : PySem.W.OpenLaw} {q : Program} {w : World} {K : PySem.W.Frag} {h : Heap} {mg : Str → Option Value} {fa f1 f2 f3 f4 f5 f6 f7 f8 f9 f10 f11 f12 f13 f14 f15 f16 f17 f18 f19 f20 f21 f22 f23 f24  : Addr} (X : K.In h) (G : h.Ns mainGlobals mg) (hfa : mg "law" = some (.ref fa)) (AT : Dl.AllTabs q K mg h)
    {od1 an1 od2 an2 od3 an3 od4 an4 od5 an5 od6 an6 od7 an7 od8 an8 od9 an9 od10 an10 od11 an11 od12 an12 od13 an13 od14 an14 od15 an15 od16 an16 od17 an17 od18 an18 od19 an19 od20 an20 od21 an21 od22 an22 od23 an23 od24 an24 : Option Addr} {sl1 sl2 sl3 sl4 sl5 sl6 sl7 sl8 sl9 sl10 sl11 sl12 sl13 sl14 sl15 sl16 sl17 sl18 sl19 sl20 sl21 sl22 sl23 sl24 : Array (Option Value)} {oc1 kV1 dc1 pm1 ct1 cd1 oc2 kV2 dc2 pm2 ct2 cd2 oc3 kV3 dc3 pm3 ct3 cd3 oc4 kV4 dc4 pm4 ct4 cd4 oc5 kV5 dc5 pm5 ct5 cd5 oc6 kV6 dc6 pm6 ct6 cd6 oc7 kV7 dc7 pm7 ct7 cd7 oc8 kV8 dc8 pm8 ct8 cd8 oc9 kV9 dc9 pm9 ct9 cd9 oc10 kV10 dc10 pm10 ct10 cd10 oc11 kV11 dc11 pm11 ct11 cd11 oc12 kV12 dc12 pm12 ct12 cd12 oc13 kV13 dc13 pm13 ct13 cd13 oc14 kV14 dc14 pm14 ct14 cd14 oc15 kV15 dc15 pm15 ct15 cd15 oc16 kV16 dc16 pm16 ct16 cd16 oc17 kV17 dc17 pm17 ct17 cd17 oc18 kV18 dc18 pm18 ct18 cd18 oc19 kV19 dc19 pm19 ct19 cd19 oc20 kV20 dc20 pm20 ct20 cd20 oc21 kV21 dc21 pm21 ct21 cd21 oc22 kV22 dc22 pm22 ct22 cd22 oc23 kV23 dc23 pm23 ct23 cd23 oc24 kV24 dc24 pm24 ct24 cd24 : Value}
    (a1 : PySem.W.nsIn K mainGlobals "row_at" = some (some (.ref f1))) (l1 : K.lookup f1 = some ⟨oc1, od1, .func (PySem.W.fnOf "row_at" "row_at" (defArgs s_row_at) (defBody s_row_at) (defScope s_row_at) .none kV1 dc1 pm1 an1 cd1 ct1), sl1⟩) (c1 : PySem.W.codeIn K cd1 "row_at" = true) (k1 : PySem.W.keepIn K (.ref f1) = true)
    (a2 : PySem.W.nsIn K mainGlobals "rising" = some (some (.ref f2))) (l2 : K.lookup f2 = some ⟨oc2, od2, .func (PySem.W.fnOf "rising" "rising" (defArgs s_rising) (defBody s_rising) (defScope s_rising) .none kV2 dc2 pm2 an2 cd2 ct2), sl2⟩) (c2 : PySem.W.codeIn K cd2 "rising" = true) (k2 : PySem.W.keepIn K (.ref f2) = true)
    (a3 : PySem.W.nsIn K mainGlobals "stand_behind_writing" = some (some (.ref f3))) (l3 : K.lookup f3 = some ⟨oc3, od3, .func (PySem.W.fnOf "stand_behind_writing" "stand_behind_writing" (defArgs s_stand_behind_writing) (defBody s_stand_behind_writing) (defScope s_stand_behind_writing) .none kV3 dc3 pm3 an3 cd3 ct3), sl3⟩) (c3 : PySem.W.codeIn K cd3 "stand_behind_writing" = true) (k3 : PySem.W.keepIn K (.ref f3) = true)
    (a4 : PySem.W.nsIn K mainGlobals "nothing_done" = some (some (.ref f4))) (l4 : K.lookup f4 = some ⟨oc4, od4, .func (PySem.W.fnOf "nothing_done" "nothing_done" (defArgs s_nothing_done) (defBody s_nothing_done) (defScope s_nothing_done) .none kV4 dc4 pm4 an4 cd4 ct4), sl4⟩) (c4 : PySem.W.codeIn K cd4 "nothing_done" = true) (k4 : PySem.W.keepIn K (.ref f4) = true)
    (a5 : PySem.W.nsIn K mainGlobals "do_set" = some (some (.ref f5))) (l5 : K.lookup f5 = some ⟨oc5, od5, .func (PySem.W.fnOf "do_set" "do_set" (defArgs s_do_set) (defBody s_do_set) (defScope s_do_set) .none kV5 dc5 pm5 an5 cd5 ct5), sl5⟩) (c5 : PySem.W.codeIn K cd5 "do_set" = true) (k5 : PySem.W.keepIn K (.ref f5) = true)
    (a6 : PySem.W.nsIn K mainGlobals "do_add" = some (some (.ref f6))) (l6 : K.lookup f6 = some ⟨oc6, od6, .func (PySem.W.fnOf "do_add" "do_add" (defArgs s_do_add) (defBody s_do_add) (defScope s_do_add) .none kV6 dc6 pm6 an6 cd6 ct6), sl6⟩) (c6 : PySem.W.codeIn K cd6 "do_add" = true) (k6 : PySem.W.keepIn K (.ref f6) = true)
    (a7 : PySem.W.nsIn K mainGlobals "do_jump" = some (some (.ref f7))) (l7 : K.lookup f7 = some ⟨oc7, od7, .func (PySem.W.fnOf "do_jump" "do_jump" (defArgs s_do_jump) (defBody s_do_jump) (defScope s_do_jump) .none kV7 dc7 pm7 an7 cd7 ct7), sl7⟩) (c7 : PySem.W.codeIn K cd7 "do_jump" = true) (k7 : PySem.W.keepIn K (.ref f7) = true)
    (a8 : PySem.W.nsIn K mainGlobals "do_say" = some (some (.ref f8))) (l8 : K.lookup f8 = some ⟨oc8, od8, .func (PySem.W.fnOf "do_say" "do_say" (defArgs s_do_say) (defBody s_do_say) (defScope s_do_say) .none kV8 dc8 pm8 an8 cd8 ct8), sl8⟩) (c8 : PySem.W.codeIn K cd8 "do_say" = true) (k8 : PySem.W.keepIn K (.ref f8) = true)
    (a9 : PySem.W.nsIn K mainGlobals "do_take" = some (some (.ref f9))) (l9 : K.lookup f9 = some ⟨oc9, od9, .func (PySem.W.fnOf "do_take" "do_take" (defArgs s_do_take) (defBody s_do_take) (defScope s_do_take) .none kV9 dc9 pm9 an9 cd9 ct9), sl9⟩) (c9 : PySem.W.codeIn K cd9 "do_take" = true) (k9 : PySem.W.keepIn K (.ref f9) = true)
    (a10 : PySem.W.nsIn K mainGlobals "tick" = some (some (.ref f10))) (l10 : K.lookup f10 = some ⟨oc10, od10, .func (PySem.W.fnOf "tick" "tick" (defArgs s_tick) (defBody s_tick) (defScope s_tick) .none kV10 dc10 pm10 an10 cd10 ct10), sl10⟩) (c10 : PySem.W.codeIn K cd10 "tick" = true) (k10 : PySem.W.keepIn K (.ref f10) = true)
    (a11 : PySem.W.nsIn K mainGlobals "all_ticks" = some (some (.ref f11))) (l11 : K.lookup f11 = some ⟨oc11, od11, .func (PySem.W.fnOf "all_ticks" "all_ticks" (defArgs s_all_ticks) (defBody s_all_ticks) (defScope s_all_ticks) .none kV11 dc11 pm11 an11 cd11 ct11), sl11⟩) (c11 : PySem.W.codeIn K cd11 "all_ticks" = true) (k11 : PySem.W.keepIn K (.ref f11) = true)
    (a12 : PySem.W.nsIn K mainGlobals "run" = some (some (.ref f12))) (l12 : K.lookup f12 = some ⟨oc12, od12, .func (PySem.W.fnOf "run" "run" (defArgs s_run) (defBody s_run) (defScope s_run) .none kV12 dc12 pm12 an12 cd12 ct12), sl12⟩) (c12 : PySem.W.codeIn K cd12 "run" = true) (k12 : PySem.W.keepIn K (.ref f12) = true)
    (a13 : PySem.W.nsIn K mainGlobals "touches" = some (some (.ref f13))) (l13 : K.lookup f13 = some ⟨oc13, od13, .func (PySem.W.fnOf "touches" "touches" (defArgs s_touches) (defBody s_touches) (defScope s_touches) .none kV13 dc13 pm13 an13 cd13 ct13), sl13⟩) (c13 : PySem.W.codeIn K cd13 "touches" = true) (k13 : PySem.W.keepIn K (.ref f13) = true)
    (a14 : PySem.W.nsIn K mainGlobals "trace" = some (some (.ref f14))) (l14 : K.lookup f14 = some ⟨oc14, od14, .func (PySem.W.fnOf "trace" "trace" (defArgs s_trace) (defBody s_trace) (defScope s_trace) .none kV14 dc14 pm14 an14 cd14 ct14), sl14⟩) (c14 : PySem.W.codeIn K cd14 "trace" = true) (k14 : PySem.W.keepIn K (.ref f14) = true)
    (a15 : PySem.W.nsIn K mainGlobals "_law_pen" = some (some (.ref f15))) (l15 : K.lookup f15 = some ⟨oc15, od15, .func (PySem.W.fnOf "_law_pen" "_law_pen" (defArgs s_law_pen) (defBody s_law_pen) (defScope s_law_pen) .none kV15 dc15 pm15 an15 cd15 ct15), sl15⟩) (c15 : PySem.W.codeIn K cd15 "_law_pen" = true) (k15 : PySem.W.keepIn K (.ref f15) = true)
    (a16 : PySem.W.nsIn K mainGlobals "_law_take" = some (some (.ref f16))) (l16 : K.lookup f16 = some ⟨oc16, od16, .func (PySem.W.fnOf "_law_take" "_law_take" (defArgs s_law_take) (defBody s_law_take) (defScope s_law_take) .none kV16 dc16 pm16 an16 cd16 ct16), sl16⟩) (c16 : PySem.W.codeIn K cd16 "_law_take" = true) (k16 : PySem.W.keepIn K (.ref f16) = true)
    (a17 : PySem.W.nsIn K mainGlobals "_law_row" = some (some (.ref f17))) (l17 : K.lookup f17 = some ⟨oc17, od17, .func (PySem.W.fnOf "_law_row" "_law_row" (defArgs s_law_row) (defBody s_law_row) (defScope s_law_row) .none kV17 dc17 pm17 an17 cd17 ct17), sl17⟩) (c17 : PySem.W.codeIn K cd17 "_law_row" = true) (k17 : PySem.W.keepIn K (.ref f17) = true)
    (a18 : PySem.W.nsIn K mainGlobals "_law_program" = some (some (.ref f18))) (l18 : K.lookup f18 = some ⟨oc18, od18, .func (PySem.W.fnOf "_law_program" "_law_program" (defArgs s_law_program) (defBody s_law_program) (defScope s_law_program) .none kV18 dc18 pm18 an18 cd18 ct18), sl18⟩) (c18 : PySem.W.codeIn K cd18 "_law_program" = true) (k18 : PySem.W.keepIn K (.ref f18) = true)
    (a19 : PySem.W.nsIn K mainGlobals "_law_sheets" = some (some (.ref f19))) (l19 : K.lookup f19 = some ⟨oc19, od19, .func (PySem.W.fnOf "_law_sheets" "_law_sheets" (defArgs s_law_sheets) (defBody s_law_sheets) (defScope s_law_sheets) .none kV19 dc19 pm19 an19 cd19 ct19), sl19⟩) (c19 : PySem.W.codeIn K cd19 "_law_sheets" = true) (k19 : PySem.W.keepIn K (.ref f19) = true)
    (a20 : PySem.W.nsIn K mainGlobals "_law_stand" = some (some (.ref f20))) (l20 : K.lookup f20 = some ⟨oc20, od20, .func (PySem.W.fnOf "_law_stand" "_law_stand" (defArgs s_law_stand) (defBody s_law_stand) (defScope s_law_stand) .none kV20 dc20 pm20 an20 cd20 ct20), sl20⟩) (c20 : PySem.W.codeIn K cd20 "_law_stand" = true) (k20 : PySem.W.keepIn K (.ref f20) = true)
    (a21 : PySem.W.nsIn K mainGlobals "_law_letters" = some (some (.ref f21))) (l21 : K.lookup f21 = some ⟨oc21, od21, .func (PySem.W.fnOf "_law_letters" "_law_letters" (defArgs s_law_letters) (defBody s_law_letters) (defScope s_law_letters) .none kV21 dc21 pm21 an21 cd21 ct21), sl21⟩) (c21 : PySem.W.codeIn K cd21 "_law_letters" = true) (k21 : PySem.W.keepIn K (.ref f21) = true)
    (a22 : PySem.W.nsIn K mainGlobals "_law_rest" = some (some (.ref f22))) (l22 : K.lookup f22 = some ⟨oc22, od22, .func (PySem.W.fnOf "_law_rest" "_law_rest" (defArgs s_law_rest) (defBody s_law_rest) (defScope s_law_rest) .none kV22 dc22 pm22 an22 cd22 ct22), sl22⟩) (c22 : PySem.W.codeIn K cd22 "_law_rest" = true) (k22 : PySem.W.keepIn K (.ref f22) = true)
    (a23 : PySem.W.nsIn K mainGlobals "_law_took" = some (some (.ref f23))) (l23 : K.lookup f23 = some ⟨oc23, od23, .func (PySem.W.fnOf "_law_took" "_law_took" (defArgs s_law_took) (defBody s_law_took) (defScope s_law_took) .none kV23 dc23 pm23 an23 cd23 ct23), sl23⟩) (c23 : PySem.W.codeIn K cd23 "_law_took" = true) (k23 : PySem.W.keepIn K (.ref f23) = true)
    (a24 : PySem.W.nsIn K mainGlobals "law" = some (some (.ref f24))) (l24 : K.lookup f24 = some ⟨oc24, od24, .func (PySem.W.fnOf "law" "law" (defArgs s_law) (defBody s_law) (defScope s_law) .none kV24 dc24 pm24 an24 cd24 ct24), sl24⟩) (c24 : PySem.W.codeIn K cd24 "law" = true) (k24 : PySem.W.keepIn K (.ref f24) = true)
    (z_enumerate : PySem.W.nsIn K mainGlobals "enumerate" = some none)
    (z_int : PySem.W.nsIn K mainGlobals "int" = some none)
    (z_len : PySem.W.nsIn K mainGlobals "len" = some none)
    (z_list : PySem.W.nsIn K mainGlobals "list" = some none)
    (z_max : PySem.W.nsIn K mainGlobals "max" = some none)
    (z_min : PySem.W.nsIn K mainGlobals "min" = some none)
    (z_range : PySem.W.nsIn K mainGlobals "range" = some none)
    (z_sorted : PySem.W.nsIn K mainGlobals "sorted" = some none)
    (z_tuple : PySem.W.nsIn K mainGlobals "tuple" = some none)
    : LamX.LawAtS l w K CX0 7 63 "script" mg fa h := by
  have e := hfa.symm.trans (PySem.W.mg_of X G a24)
  cases e
  have F1 := fun_mk (st := s_row_at) l1 c1 k1
  have F2 := fun_mk (st := s_rising) l2 c2 k2
  have F3 := fun_mk (st := s_stand_behind_writing) l3 c3 k3
  have F4 := fun_mk (st := s_nothing_done) l4 c4 k4
  have F5 := fun_mk (st := s_do_set) l5 c5 k5
  have F6 := fun_mk (st := s_do_add) l6 c6 k6
  have F7 := fun_mk (st := s_do_jump) l7 c7 k7
  have F8 := fun_mk (st := s_do_say) l8 c8 k8
  have F9 := fun_mk (st := s_do_take) l9 c9 k9
  have F10 := fun_mk (st := s_tick) l10 c10 k10
  have F11 := fun_mk (st := s_all_ticks) l11 c11 k11
  have F12 := fun_mk (st := s_run) l12 c12 k12
  have F13 := fun_mk (st := s_touches) l13 c13 k13
  have F14 := fun_mk (st := s_trace) l14 c14 k14
  have F15 := fun_mk (st := s_law_pen) l15 c15 k15
  have F16 := fun_mk (st := s_law_take) l16 c16 k16
  have F17 := fun_mk (st := s_law_row) l17 c17 k17
  have F18 := fun_mk (st := s_law_program) l18 c18 k18
  have F19 := fun_mk (st := s_law_sheets) l19 c19 k19
  have F20 := fun_mk (st := s_law_stand) l20 c20 k20
  have F21 := fun_mk (st := s_law_letters) l21 c21 k21
  have F22 := fun_mk (st := s_law_rest) l22 c22 k22
  have F23 := fun_mk (st := s_law_took) l23 c23 k23
  have F24 := fun_mk (st := s_law) l24 c24 k24
  have b1 := F1.binds (ps := ["program", "at"]) fun _ _ _ _ _ _ us hl => match us, hl with | [_, _], _ => rfl
  have b2 := F2.binds (ps := ["p", "q"]) fun _ _ _ _ _ _ us hl => match us, hl with | [_, _], _ => rfl
  have b3 := F3.binds (ps := ["stand", "p", "number"]) fun _ _ _ _ _ _ us hl => match us, hl with | [_, _, _], _ => rfl
  have b4 := F4.binds (ps := ["stand", "word"]) fun _ _ _ _ _ _ us hl => match us, hl with | [_, _], _ => rfl
  have b5 := F5.binds (ps := ["stand", "p", "number"]) fun _ _ _ _ _ _ us hl => match us, hl with | [_, _, _], _ => rfl
  have b6 := F6.binds (ps := ["stand", "w", "p", "q"]) fun _ _ _ _ _ _ us hl => match us, hl with | [_, _, _, _], _ => rfl
  have b7 := F7.binds (ps := ["stand", "p", "k"]) fun _ _ _ _ _ _ us hl => match us, hl with | [_, _, _], _ => rfl
  have b8 := F8.binds (ps := ["stand", "p"]) fun _ _ _ _ _ _ us hl => match us, hl with | [_, _], _ => rfl
  have b9 := F9.binds (ps := ["stand", "p", "letters"]) fun _ _ _ _ _ _ us hl => match us, hl with | [_, _, _], _ => rfl
  have b10 := F10.binds (ps := ["program", "stand", "letters"]) fun _ _ _ _ _ _ us hl => match us, hl with | [_, _, _], _ => rfl
  have b11 := F11.binds (ps := ["program", "stand", "letters", "many"]) fun _ _ _ _ _ _ us hl => match us, hl with | [_, _, _, _], _ => rfl
  have b12 := F12.binds (ps := ["program", "stand", "letters", "many"]) fun _ _ _ _ _ _ us hl => match us, hl with | [_, _, _, _], _ => rfl
  have b13 := F13.binds (ps := ["program", "stand", "letters", "many"]) fun _ _ _ _ _ _ us hl => match us, hl with | [_, _, _, _], _ => rfl
  have b14 := F14.binds (ps := ["program", "stand", "letters", "many"]) fun _ _ _ _ _ _ us hl => match us, hl with | [_, _, _, _], _ => rfl
  have b15 := F15.binds (ps := ["script"]) fun _ _ _ _ _ _ us hl => match us, hl with | [_], _ => rfl
  have b16 := F16.binds (ps := ["pen", "many"]) fun _ _ _ _ _ _ us hl => match us, hl with | [_, _], _ => rfl
  have b17 := F17.binds (ps := ["pen", "n", "w", "many", "takes"]) fun _ _ _ _ _ _ us hl => match us, hl with | [_, _, _, _, _], _ => rfl
  have b18 := F18.binds (ps := ["pen", "takes"]) fun _ _ _ _ _ _ us hl => match us, hl with | [_, _], _ => rfl
  have b19 := F19.binds (ps := ["pen", "program"]) fun _ _ _ _ _ _ us hl => match us, hl with | [_, _], _ => rfl
  have b20 := F20.binds (ps := ["pen", "program"]) fun _ _ _ _ _ _ us hl => match us, hl with | [_, _], _ => rfl
  have b21 := F21.binds (ps := ["pen", "program", "most"]) fun _ _ _ _ _ _ us hl => match us, hl with | [_, _, _], _ => rfl
  have b22 := F22.binds (ps := ["letters", "at", "used"]) fun _ _ _ _ _ _ us hl => match us, hl with | [_, _, _], _ => rfl
  have b23 := F23.binds (ps := ["program", "stand", "letters", "many"]) fun _ _ _ _ _ _ us hl => match us, hl with | [_, _, _, _], _ => rfl
  refine ⟨PySem.W.fnOf "law" "law" (defArgs s_law) (defBody s_law) (defScope s_law) .none kV24 dc24 pm24 an24 cd24 ct24, [], Dl.spLawT K [], (fun _ h => nomatch h), (fun _ h => nomatch h), (fun _ h => nomatch h), fun s v => .of_eq rfl, fun H a ns hl _ hH hS => ⟨a, ns, rfl, hS, hl, ?_, fun _ => rfl⟩, fun base _ _ TB => ?_⟩
  · intro P hP
    have hP : P ∈ ([] : List (Addr × Addr)).map (·.2) := hP
    obtain ⟨p, hp, rfl⟩ := List.mem_map.mp hP
    exact Dl.tabG_nil (hH p hp)
  · exact ok_law (base := base) F24 { ts := [], f_row_at := f1, d_row_at := _, F_row_at := F1, b_row_at := b1, g_row_at := PySem.W.mg_of X G a1, f_rising := f2, d_rising := _, F_rising := F2, b_rising := b2, g_rising := PySem.W.mg_of X G a2, f_stand_behind_writing := f3, d_stand_behind_writing := _, F_stand_behind_writing := F3, b_stand_behind_writing := b3, g_stand_behind_writing := PySem.W.mg_of X G a3, f_nothing_done := f4, d_nothing_done := _, F_nothing_done := F4, b_nothing_done := b4, g_nothing_done := PySem.W.mg_of X G a4, f_do_set := f5, d_do_set := _, F_do_set := F5, b_do_set := b5, g_do_set := PySem.W.mg_of X G a5, f_do_add := f6, d_do_add := _, F_do_add := F6, b_do_add := b6, g_do_add := PySem.W.mg_of X G a6, f_do_jump := f7, d_do_jump := _, F_do_jump := F7, b_do_jump := b7, g_do_jump := PySem.W.mg_of X G a7, f_do_say := f8, d_do_say := _, F_do_say := F8, b_do_say := b8, g_do_say := PySem.W.mg_of X G a8, f_do_take := f9, d_do_take := _, F_do_take := F9, b_do_take := b9, g_do_take := PySem.W.mg_of X G a9, f_tick := f10, d_tick := _, F_tick := F10, b_tick := b10, g_tick := PySem.W.mg_of X G a10, f_all_ticks := f11, d_all_ticks := _, F_all_ticks := F11, b_all_ticks := b11, g_all_ticks := PySem.W.mg_of X G a11, f_run := f12, d_run := _, F_run := F12, b_run := b12, g_run := PySem.W.mg_of X G a12, f_touches := f13, d_touches := _, F_touches := F13, b_touches := b13, g_touches := PySem.W.mg_of X G a13, f_trace := f14, d_trace := _, F_trace := F14, b_trace := b14, g_trace := PySem.W.mg_of X G a14, f_law_pen := f15, d_law_pen := _, F_law_pen := F15, b_law_pen := b15, g_law_pen := PySem.W.mg_of X G a15, f_law_take := f16, d_law_take := _, F_law_take := F16, b_law_take := b16, g_law_take := PySem.W.mg_of X G a16, f_law_row := f17, d_law_row := _, F_law_row := F17, b_law_row := b17, g_law_row := PySem.W.mg_of X G a17, f_law_program := f18, d_law_program := _, F_law_program := F18, b_law_program := b18, g_law_program := PySem.W.mg_of X G a18, f_law_sheets := f19, d_law_sheets := _, F_law_sheets := F19, b_law_sheets := b19, g_law_sheets := PySem.W.mg_of X G a19, f_law_stand := f20, d_law_stand := _, F_law_stand := F20, b_law_stand := b20, g_law_stand := PySem.W.mg_of X G a20, f_law_letters := f21, d_law_letters := _, F_law_letters := F21, b_law_letters := b21, g_law_letters := PySem.W.mg_of X G a21, f_law_rest := f22, d_law_rest := _, F_law_rest := F22, b_law_rest := b22, g_law_rest := PySem.W.mg_of X G a22, f_law_took := f23, d_law_took := _, F_law_took := F23, b_law_took := b23, g_law_took := PySem.W.mg_of X G a23, m_enumerate := PySem.W.mg_none_of X G z_enumerate, m_int := PySem.W.mg_none_of X G z_int, m_len := PySem.W.mg_none_of X G z_len, m_list := PySem.W.mg_none_of X G z_list, m_max := PySem.W.mg_none_of X G z_max, m_min := PySem.W.mg_none_of X G z_min, m_range := PySem.W.mg_none_of X G z_range, m_sorted := PySem.W.mg_none_of X G z_sorted, m_tuple := PySem.W.mg_none_of X G z_tuple }
end K8
open PySem PySem.W PyProof.Rows
set_option maxHeartbeats 0 in
theorem PySem.Challenge.cw_warmove_k08_whole_runs_put_together_holds : PySem.Challenge.rw_warmove_k08_whole_runs_put_together.Holds := by
  w_on; o_law; k_head; (case hw => w_witness2)
  k_fill
  refine Dl.walk_ofTabs (l := PySem.Challenge.rw_warmove_k08_whole_runs_put_together) (n := 63) (k := 7) (x := "script") (CX := fun _ => L2.CX0) rfl (by decide) rfl ⟨rfl, by decide, by decide⟩ (fun w h Y => PySem.W.kIn_of Y) ?F (fun _ _ _ _ _ h => h)
  case F =>
    intro w mg fa h KX G hmg AT
    refine' K8.all_mk KX G hmg AT ?a1 ?l1 ?c1 ?k1 ?a2 ?l2 ?c2 ?k2 ?a3 ?l3 ?c3 ?k3 ?a4 ?l4 ?c4 ?k4 ?a5 ?l5 ?c5 ?k5 ?a6 ?l6 ?c6 ?k6 ?a7 ?l7 ?c7 ?k7 ?a8 ?l8 ?c8 ?k8 ?a9 ?l9 ?c9 ?k9 ?a10 ?l10 ?c10 ?k10 ?a11 ?l11 ?c11 ?k11 ?a12 ?l12 ?c12 ?k12 ?a13 ?l13 ?c13 ?k13 ?a14 ?l14 ?c14 ?k14 ?a15 ?l15 ?c15 ?k15 ?a16 ?l16 ?c16 ?k16 ?a17 ?l17 ?c17 ?k17 ?a18 ?l18 ?c18 ?k18 ?a19 ?l19 ?c19 ?k19 ?a20 ?l20 ?c20 ?k20 ?a21 ?l21 ?c21 ?k21 ?a22 ?l22 ?c22 ?k22 ?a23 ?l23 ?c23 ?k23 ?a24 ?l24 ?c24 ?k24 ?z_enumerate ?z_int ?z_len ?z_list ?z_max ?z_min ?z_range ?z_sorted ?z_tuple
    (case a1 => k_is); (case l1 => k_is); (case c1 => k_is); (case k1 => k_is); (case a2 => k_is); (case l2 => k_is); (case c2 => k_is); (case k2 => k_is); (case a3 => k_is); (case l3 => k_is); (case c3 => k_is); (case k3 => k_is); (case a4 => k_is); (case l4 => k_is); (case c4 => k_is); (case k4 => k_is); (case a5 => k_is); (case l5 => k_is); (case c5 => k_is); (case k5 => k_is); (case a6 => k_is); (case l6 => k_is); (case c6 => k_is); (case k6 => k_is); (case a7 => k_is); (case l7 => k_is); (case c7 => k_is); (case k7 => k_is); (case a8 => k_is); (case l8 => k_is); (case c8 => k_is); (case k8 => k_is); (case a9 => k_is); (case l9 => k_is); (case c9 => k_is); (case k9 => k_is); (case a10 => k_is); (case l10 => k_is); (case c10 => k_is); (case k10 => k_is); (case a11 => k_is); (case l11 => k_is); (case c11 => k_is); (case k11 => k_is); (case a12 => k_is); (case l12 => k_is); (case c12 => k_is); (case k12 => k_is); (case a13 => k_is); (case l13 => k_is); (case c13 => k_is); (case k13 => k_is); (case a14 => k_is); (case l14 => k_is); (case c14 => k_is); (case k14 => k_is); (case a15 => k_is); (case l15 => k_is); (case c15 => k_is); (case k15 => k_is); (case a16 => k_is); (case l16 => k_is); (case c16 => k_is); (case k16 => k_is); (case a17 => k_is); (case l17 => k_is); (case c17 => k_is); (case k17 => k_is); (case a18 => k_is); (case l18 => k_is); (case c18 => k_is); (case k18 => k_is); (case a19 => k_is); (case l19 => k_is); (case c19 => k_is); (case k19 => k_is); (case a20 => k_is); (case l20 => k_is); (case c20 => k_is); (case k20 => k_is); (case a21 => k_is); (case l21 => k_is); (case c21 => k_is); (case k21 => k_is); (case a22 => k_is); (case l22 => k_is); (case c22 => k_is); (case k22 => k_is); (case a23 => k_is); (case l23 => k_is); (case c23 => k_is); (case k23 => k_is); (case a24 => k_is); (case l24 => k_is); (case c24 => k_is); (case k24 => k_is); (case z_enumerate => k_is); (case z_int => k_is); (case z_len => k_is); (case z_list => k_is); (case z_max => k_is); (case z_min => k_is); (case z_range => k_is); (case z_sorted => k_is); (case z_tuple => k_is)
