import PyProof.Rows.All
import Wide.All
import OpenK.AllK
import Wide.FinOn
import HandS.Base
import HandS.Call
import HandS.List
import HandS.Comp
import HandS.Ends
import HandS.Words
import HandS.GenList
import HandS.AnyAll
import PyProof.SumAny
import HandS.WordsList
import HandS.TupAny
import HandS.Zip
import HandS.Wide
import HandS.IsInst
import HandS.Dict
import HandS.TupMul
import HandS.Style
import HandS.EndOwn
import KE.KNestM
import HandS.SetFor
import HandS.Strs
import HandS.Text
import HandS.Iter
import HandS.SortInts
import HandS.More
import HandS.Sort
import HandS.Conv
import KE.GoesEnum
import PySem.Challenge.RW_warmove_k32_what_is_a_rulebook
set_option Elab.async false
set_option linter.all false
set_option maxRecDepth 100000
/-! a generator expression whose element calls defs: all(..), any(..) -/
namespace Gx
open PySem PySem.Spec PyProof.Rows L2 GenW GxR
/-- the context of a generator expression's frame -/
abbrev gcx (X : Cx) (A' : Around) (s : Shared) (H : Hp) (cenv : Env) (fp : List Addr) (pn : List (Addr × Obj)) : Cx :=
  { X with A := A', s_0 := s, H_0 := H, env := cenv, outer := X.stack, stack := cenv :: X.stack, ex := fp, fn := fun _ => false, pn := pn, xe := fun _ _ => False }
section
variable {X : Cx} {pins : List (Addr × Obj)} {σ : L2.St} {H : Hp} {s : Shared}
theorem inv_woke {s' : Shared} (I : Inv X pins σ H s) (hh : s'.heap = s.heap) (ho : s'.os = s.os) (hb : AllBare s'.gens) : Inv X pins σ H s' :=
  ⟨I.ok, ho.trans I.os, hb, by rw [hh]; exact I.base, by rw [hh]; exact I.loc, by rw [hh]; exact I.cell, I.free, I.freeC, by rw [hh]; exact I.pin, by rw [hh]; exact I.hok, I.len⟩
theorem gen_start {scope : Scope} {own : List (Str × Nat)} {fp : List Addr} {A' : Around} {code : Value} {s5 : Shared} {m : Str → Option Value} {pn : List (Addr × Obj)} {cenv : Env}
    (I : Inv X pins σ H s) (ok : BlkOk X.N X.env.scope scope own) (hN : X.N.Nodup) (hcell : ∀ y ∈ scope.names, y.2 ≠ .cell) (hfp : ∀ b ∈ fp, FpOk X pins H b ∧ b < s.heap.objs.size) (hA : A'.handled = none)
    (hcenv : cenv = genEnv scope (cloFrom X.env.cells scope.names []) s.heap.objs.size code builtinsNs X.env) (hfr : A'.frames = some (cenv :: X.stack)) (hos : s5.os = s.os) (hb : AllBare s5.gens)
    (kp : ∀ b o, s.heap.get? b = some o → s5.heap.get? b = some o) (ns : s5.heap.Ns s.heap.objs.size m) (hpn : ∀ p ∈ pn, s5.heap.get? p.1 = some p.2 ∧ s.heap.objs.size < p.1 ∧ ∀ v, p.2.data ≠ .cell v) :
    Inv (gcx X A' s H cenv fp pn) [] (wipe σ (own.map (·.2))) H s5 := by
  have hfree : ∀ y ∈ scope.names, y.2 = .free → ∃ c, X.env.cells.lookup y.1 = some c := fun y hy e => by
    rcases ok.free y hy e with k | k
    · exact I.ok.has _ (.inl k)
    · exact I.ok.has _ (.inr k)
  have hL : cenv.locals = s.heap.objs.size := by rw [hcenv]; rfl
  have hcl : cenv.cells = cloFrom X.env.cells scope.names [] := by rw [hcenv]; rfl
  have hsc : cenv.scope = scope := by rw [hcenv]; rfl
  have cm : ∀ {y c}, (y, c) ∈ cloFrom X.env.cells scope.names [] → X.env.cells.lookup y = some c ∧ c < s.heap.objs.size := fun {y c} hm => by
    rcases cloFrom_mem hm with hm | ⟨h1, rfl⟩
    · cases hm
    · obtain ⟨c, hc⟩ := hfree _ h1 rfl
      rw [hc]
      obtain ⟨w, z⟩ := I.cell _ _ hc
      exact ⟨rfl, z.lt⟩
  have mem : ∀ {y c}, cenv.cells.lookup y = some c → X.env.cells.lookup y = some c ∧ c < s.heap.objs.size := fun {y c} e => by
    rw [hcl] at e
    exact cm (PySem.mem_of_lookup e)
  have look : ∀ {y}, scope.names.lookup y = some .free → ∃ c, cenv.cells.lookup y = some c ∧ X.env.cells.lookup y = some c := fun {y} hl => by
    have hy : (y, NameKind.free) ∈ scope.names := PySem.mem_of_lookup hl
    obtain ⟨c', e'⟩ := mem_lookup (cloFrom_has (cells := X.env.cells) (acc := []) hy)
    rw [← hcl] at e'
    exact ⟨c', e', (mem e').1⟩
  have okB : (gcx X A' s H cenv fp pn).Ok := by
    refine ⟨I.ok.mod, by show cenv.scope.kind = _; rw [hsc]; exact ok.kind, by show cenv.globals = _; rw [hcenv]; exact I.ok.glob, by show cenv.builtins = _; rw [hcenv]; rfl, by show s.heap.objs.size ≤ cenv.locals; rw [hL]; exact Nat.le_refl _,
      fun y z c e1 e2 => I.ok.inj y z c (mem e1).1 (mem e2).1, fun y hy => ?_, fun y c z e => (by cases z), fun _ => hA, hfr, .inr ⟨rfl, by show cenv.frame = some cenv.locals; rw [hcenv]; rfl⟩, fun b hb => ⟨?_, fun y c e z => ?_⟩, I.bs, Nat.le_trans I.ok.bsz I.sz, fun b o e hb => ?_, fun b hb z => ?_, I.stack, I.stkFree⟩
    · show ∃ c, cenv.cells.lookup y = some c
      have key : ∀ k, cenv.kindOf y = some k → (k = .cell ∨ k = .free) → ∃ c, cenv.cells.lookup y = some c := fun k hk hk' => by
        unfold Env.kindOf at hk
        rw [hsc] at hk
        rcases hk' with rfl | rfl
        · exact absurd rfl (hcell _ (PySem.mem_of_lookup hk))
        · obtain ⟨c, h1, _⟩ := look hk
          exact ⟨c, h1⟩
      rcases hy with hy | hy
      · exact key _ hy (.inl rfl)
      · exact key _ hy (.inr rfl)
    · show b ≠ cenv.locals
      rw [hL]; exact Nat.ne_of_lt (hfp b hb).2
    · exact (hfp b hb).1.2.2.2.2.1 y c (mem e).1 z
    · rcases (hfp b hb).1.2.2.2.1 with z | z
      · exact I.ok.noex b o e z
      · exact absurd (Nat.lt_of_lt_of_le (Heap.lt_size e) (Nat.le_trans I.ok.bsz z)) (Nat.lt_irrefl _)
    · rcases List.mem_cons.mp (I.stkSub b z) with z | z
      · exact (hfp b hb).1.2.1 z
      · exact (hfp b hb).1.2.2.1 z
  refine ⟨okB, hos, hb, Un.kept kp, ⟨m, by show s5.heap.Ns cenv.locals m; rw [hL]; exact ns, fun i y av e1 e2 e3 => ?_⟩, fun y c e => ?_, ?_, fun y c e => I.freeC y c (mem e).1, fun p hp => ?_, I.hok.kept kp, by rw [wipe_length]; exact I.len⟩
  · obtain ⟨e2, hne⟩ := wipe_some e2
    have hfr : scope.names.lookup y = some .free := by
      have key : ∀ k, scope.names.lookup y = some k → k = .local ∨ k = .cell ∨ k = .free → scope.names.lookup y = some .free := fun k hk hk' => by
        have no : ¬ (k = .local ∨ k = .cell) := fun hh => by
          rcases ok.own _ (PySem.mem_of_lookup hk) hh with e' | e'
          · obtain ⟨p, hp, hpy⟩ := List.mem_map.mp e'
            have e3 := ok.ix p hp
            have : p.1 = y := hpy
            rw [this] at e3
            exact hne (List.mem_map.mpr ⟨p, hp, nodup_ix hN e3 e1⟩)
          · exact e' (List.mem_of_getElem? e1)
        rcases hk' with rfl | rfl | rfl
        · exact absurd (.inl rfl) no
        · exact absurd (.inr rfl) no
        · exact hk
      have e3 : Vis cenv.scope y := e3
      rw [hsc] at e3
      rcases e3 with e3 | e3 | e3
      · exact key _ e3 (.inl rfl)
      · exact key _ e3 (.inr (.inl rfl))
      · exact key _ e3 (.inr (.inr rfl))
    obtain ⟨m', hn, hl⟩ := I.loc
    have hvis : Vis X.env.scope y := (ok.free _ (PySem.mem_of_lookup hfr) rfl).elim (fun k => .inr (.inl k)) (fun k => .inr (.inr k))
    obtain ⟨w, r, q⟩ := hl i y av e1 e2 hvis
    refine ⟨w, r, .inr ⟨.inr (by show cenv.kindOf y = some .free; unfold Env.kindOf; rw [hsc]; exact hfr), ?_⟩⟩
    obtain ⟨c, h1, h2⟩ := look hfr
    rcases q with ⟨k, _⟩ | ⟨_, c', e', z⟩
    · have k : X.env.scope.names.lookup y = some .local := k
      rcases ok.free _ (PySem.mem_of_lookup hfr) rfl with k' | k' <;> rw [show X.env.scope.names.lookup y = _ from k'] at k <;> cases k
    · rw [h2] at e'; cases e'
      exact ⟨c, h1, z.keeps kp⟩
  · obtain ⟨w, z⟩ := I.cell y c (mem e).1
    exact ⟨w, z.keeps kp⟩
  · show H cenv.locals = none
    rw [hL]; exact I.hok.fresh (Nat.le_refl _)
  · have hp : p ∈ pn := by simpa using hp
    obtain ⟨h1, h2, h3⟩ := hpn p hp
    refine ⟨h1, I.hok.fresh (Nat.le_of_lt h2), ?_, fun z => ?_, h3⟩
    · show p.1 ≠ cenv.locals
      rw [hL]; exact Nat.ne_of_gt h2
    · have z : p.1 ∈ frs X.stack := z
      obtain ⟨_, o, ho, _⟩ := I.stack.mem z
      exact absurd (Nat.lt_trans h2 (Heap.lt_size ho)) (Nat.lt_irrefl _)
end
end Gx
set_option Elab.async false
set_option linter.all false
set_option maxRecDepth 100000
set_option maxHeartbeats 1000000
namespace Gx
open PySem PySem.Spec PyProof.Rows L2 GenW GxR
/-- slept: nothing but the table of generators has changed -/
structure Woke (s s' : Shared) : Prop where
  heap : s'.heap = s.heap
  os : s'.os = s.os
  bare : AllBare s'.gens
/-- what a turn asks: W a word of the turn, a measure and the heap; Qt behind the last turn, D at each value handed out -/
def Turns (J : It) (g : TG) (tt : TT) (te : TE) (vs : List Nat) (σ0 : L2.St) (W : Nat → Nat → Hp → Prop) (Qt : Hp → Prop) (Yd : V → Hp → (Hp → Prop) → Prop) : Prop :=
  ∀ i m H, W i m H → (J.stop i H ∧ Qt H) ∨ (J.go i H ∧ ∃ Nx : Hp → Prop, (∀ H', Nx H' → ∃ m', m' < m ∧ W (i + 1) m' H') ∧ ∀ x H', J.yld i H x H' → g x σ0 H' fun σ2 H2 => wipe σ2 vs = σ0 ∧ tt σ2 H2 fun b H3 => if b = true then te σ2 H3 fun y H4 => Yd y H4 Nx else Nx H3)
/-- a truth is handed out: one way goes on, the other ends -/
def YdB (go : Bool) (Qf : Hp → Prop) : V → Hp → (Hp → Prop) → Prop := fun y H Nx => ∃ b, y = .bl b ∧ (if b = go then Nx H else Qf H)
abbrev RG (Y : Cx) (σ0 : L2.St) (Qt : Hp → Prop) : GenEnd := fun n s₀ r s₁ => ((r = .ok (.ret .none) ∨ r = .ok .next) ∧ (∃ H, Inv Y [] σ0 H s₁ ∧ Qt H)) ∨ ∃ e, r = .error e ∧ False
abbrev YG (Y : Cx) (go : Bool) (Qf : Hp → Prop) : Protocol := fun n s₀ v s kap => ∃ b H σ2, v = .bool b ∧ Inv Y [] σ2 H s ∧ (b ≠ go → Qf H) ∧ (b = go → ∀ s', Woke s s' → kap (.send .none) s')
section
variable {X : Cx} {A' B : Around} {s4 : Shared} {H4 : Hp} {cenv : Env} {fp : List Addr} {pn : List (Addr × Obj)} {it : Addr} {tn : Nat → Heap → Prop} {J : It} {elt tg iter : Expr} {ifs : List Expr} {scope : Scope} {pos : Pos} {g : TG} {tt : TT} {te : TE} {vs : List Nat} {σ0 : L2.St} {W : Nat → Nat → Hp → Prop} {Qt Qf : Hp → Prop} {go : Bool}
theorem seg_gx (hA : B.over (.compLoop (.GeneratorExp elt [⟨tg, iter, ifs, 0⟩] scope pos) 0 (.ref it) .none cenv) [] = A') (hc : X.calm = true) (hco : cenv.scope.isCoroutine = false) (T : Turn X.prog X.w X.K tg J fp it tn)
    (hst : ∀ H : Hp, (∀ b ∈ fp, H b = none) → ∀ b ∈ fp, FpOk (gcx X A' s4 H4 cenv fp pn) [] H b) (hσ : wipe σ0 vs = σ0)
    (hg : PG (gcx X A' s4 H4 cenv fp pn) tg g) (ht : PTs (gcx X A' s4 H4 cenv fp pn) ifs tt) (he : PE (gcx X A' s4 H4 cenv fp pn) elt te) (hturn : Turns J g tt te vs σ0 W Qt (YdB go Qf)) :
    ∀ (m n i : Nat) (H : Hp) (s₀ s : Shared), m + 1 ≤ n → Inv (gcx X A' s4 H4 cenv fp pn) [] σ0 H s → tn i s.heap → (∀ b ∈ fp, H b = none) → W i m H →
      Seg (model X.prog X.w) B (RG (gcx X A' s4 H4 cenv fp pn) σ0 Qt) (YG (gcx X A' s4 H4 cenv fp pn) go Qf) n s₀ (.compLoop (.GeneratorExp elt [⟨tg, iter, ifs, 0⟩] scope pos) 0 (.ref it) .none cenv)
        ((model X.prog X.w).den (.compLoop (.GeneratorExp elt [⟨tg, iter, ifs, 0⟩] scope pos) 0 (.ref it) .none cenv)) [] s := by
  intro m
  induction m using Nat.strongRecOn with
  | _ m ih =>
  intro n i H s₀ s hmn I st fr w
  show Seg _ B _ _ _ s₀ _ ((compTurn (.GeneratorExp elt [⟨tg, iter, ifs, 0⟩] scope pos) 0 (.ref it) .none cenv).onRaise (leaving cenv)) [] s
  rw [compTurn_gen, Sem.onRaise_eq_wrap]
  refine seg_bind_wrap (wpAny_standAt ?_)
  rcases hturn i m H w with ⟨stop, qn⟩ | ⟨goes, Nx, hN, step⟩
  · refine seg_bind_wrap ?_
    rw [hA]
    refine wpAny_mono (T.done (gcx X A' s4 H4 cenv fp pn) rfl rfl rfl hc i [] s σ0 H _ I (hst H fr) st stop) (fun r s1 hr => ?_) fun _ _ e => e
    obtain ⟨rfl, I1⟩ := hr
    exact seg_end (.ok .next) (.inl ⟨.inr rfl, H, I1, qn⟩)
  · refine seg_bind_wrap ?_
    rw [hA]
    refine wpAny_mono (T.item (gcx X A' s4 H4 cenv fp pn) rfl rfl rfl hc i [] s σ0 H _ I (hst H fr) st goes) (fun r s1 hr => ?_) fun _ _ e => e
    obtain ⟨u, rfl, h1⟩ := hr
    refine seg_bind_wrap ?_
    rw [hA]
    refine wpAny_mono h1 (fun _ s2 h2 => ?_) fun _ _ e => e
    obtain ⟨x, H2, I2, rx, yl, st2, fr2⟩ := h2
    have I2' := I2.pinned (hst H2 fr2) (T.obj _ _ st2)
    refine seg_bind_wrap ?_
    rw [hA]
    refine wpAny_mono (hg.run _ s2 σ0 H2 x u _ I2' rx (step x H2 yl)) (fun _ s3 h3 => ?_) fun _ _ e => e.elim
    obtain ⟨σ3, H3, I3, hw3, q3⟩ := h3
    -- the records of the iterator stand
    have keeps : ∀ {σ' : L2.St} {H' : Hp} {s' : Shared}, Inv (gcx X A' s4 H4 cenv fp pn) ([] ++ pinsAt fp s2.heap) σ' H' s' → tn (i + 1) s'.heap ∧ ∀ b ∈ fp, H' b = none := fun {σ' H' s'} I' =>
      ⟨T.keep _ _ _ st2 fun b hb o e => (I'.pin (b, o) (List.mem_append_right _ (List.mem_append_right _ (mem_pinsAt hb e)))).1, fun b hb => by
        obtain ⟨o, e, _⟩ := T.obj _ _ st2 b hb
        exact (I'.pin (b, o) (List.mem_append_right _ (List.mem_append_right _ (mem_pinsAt hb e)))).2.1⟩
    have back : ∀ {H' : Hp} {s' : Shared}, Inv (gcx X A' s4 H4 cenv fp pn) ([] ++ pinsAt fp s2.heap) σ3 H' s' → Inv (gcx X A' s4 H4 cenv fp pn) [] σ0 H' s' := fun {H' s'} I' => by
      refine I'.unpinned.weak ?_ fun j v e => ?_
      · rw [← hw3, wipe_length]
      · rw [← hw3] at e
        exact (wipe_some e).1
    refine seg_bind_wrap ?_
    rw [hA]
    refine wpAny_mono (ht.run _ s3 σ3 H3 _ I3 q3) (fun b s5 h5 => ?_) fun _ _ e => e.elim
    obtain ⟨H5, I5, q5⟩ := h5
    cases b with
    | false =>
      simp only [Bool.false_eq_true, if_false]
      obtain ⟨m', hm, w'⟩ := hN H5 q5
      obtain ⟨k1, k2⟩ := keeps I5
      exact seg_again rfl (ih m' hm n (i + 1) H5 s₀ s5 (by omega) (back I5) k1 k2 w')
    | true =>
      simp only [if_true]
      have hy : ∀ v, yieldOut cenv v = yieldValue v := fun v => by simp only [yieldOut, hco, Bool.false_eq_true, if_false]
      simp only [hy]
      rw [Sem.bind_eq_wrap', Sem.bind_eq_wrap', Sem.wrap_wrap, Sem.wrap_wrap]
      refine seg_wrap ?_
      rw [hA]
      refine wpAny_mono (he.run _ s5 σ3 H5 _ I5 q5) (fun v s6 h6 => ?_) fun _ _ e => e.elim
      obtain ⟨y, H6, I6, ry, b, rfl, q6⟩ := h6
      have ev : v = .bool b := ry
      subst ev
      obtain ⟨n', rfl⟩ : ∃ n', n = n' + 1 := ⟨n - 1, by omega⟩
      refine seg_at (seg_yield rfl rfl rfl ⟨b, H6, σ3, rfl, I6.unpinned, fun hb => ?_, fun hb s' wk => ?_⟩)
      · rw [if_neg hb] at q6; exact q6
      · rw [if_pos hb] at q6
        obtain ⟨m', hm, w'⟩ := hN H6 q6
        obtain ⟨k1, k2⟩ := keeps I6
        exact seg_again rfl (ih m' hm n' (i + 1) H6 s' s' (by omega) (inv_woke (back I6) wk.heap wk.os wk.bare) (by rw [wk.heap]; exact k1) k2 w')
/-- from its start -/
theorem seg_gx0 (hA : B.over (.compLoop (.GeneratorExp elt [⟨tg, iter, ifs, 0⟩] scope pos) 0 (.ref it) .none cenv) [] = A') (hc : X.calm = true) (hco : cenv.scope.isCoroutine = false) (T : Turn X.prog X.w X.K tg J fp it tn)
    (hst : ∀ H : Hp, (∀ b ∈ fp, H b = none) → ∀ b ∈ fp, FpOk (gcx X A' s4 H4 cenv fp pn) [] H b) (hσ : wipe σ0 vs = σ0)
    (hg : PG (gcx X A' s4 H4 cenv fp pn) tg g) (ht : PTs (gcx X A' s4 H4 cenv fp pn) ifs tt) (he : PE (gcx X A' s4 H4 cenv fp pn) elt te) (hturn : Turns J g tt te vs σ0 W Qt (YdB go Qf))
    (m : Nat) (H : Hp) (s₀ s : Shared) (I : Inv (gcx X A' s4 H4 cenv fp pn) [] σ0 H s) (st : tn 0 s.heap) (fr : ∀ b ∈ fp, H b = none) (w : W 0 m H) :
      Seg (model X.prog X.w) B (RG (gcx X A' s4 H4 cenv fp pn) σ0 Qt) (YG (gcx X A' s4 H4 cenv fp pn) go Qf) (m + 1) s₀ (.compStart (.GeneratorExp elt [⟨tg, iter, ifs, 0⟩] scope pos) 0 (.ref it) .none cenv)
        ((model X.prog X.w).den (.compStart (.GeneratorExp elt [⟨tg, iter, ifs, 0⟩] scope pos) 0 (.ref it) .none cenv)) [] s := by
  have loop := seg_gx hA hc hco T hst hσ hg ht he hturn m (m + 1) 0 H s₀ s (Nat.le_refl _) I st fr w
  show Seg _ B _ _ _ s₀ _ ((compStart (.GeneratorExp elt [⟨tg, iter, ifs, 0⟩] scope pos) 0 (.ref it) .none cenv).onRaise (leaving cenv)) [] s
  unfold compStart
  rw [Sem.onRaise_eq_wrap]
  show Seg _ B _ _ _ s₀ _ ((ask >>= _).wrap _ _ _ _) [] s
  refine seg_bind_wrap (wpAny_askSetting ?_)
  split
  · exact seg_again rfl loop
  · first
      | exact seg_bind_wrap (wpAny_rule (seg_bind_wrap (wpAny_standAt (seg_bind_wrap (T.self _ 0 s _ _ st (seg_again rfl loop))))))
      | (refine seg_bind_wrap (wpAny_rule ?_); show Seg _ B _ _ _ s₀ _ ((standAt iter.pos >>= _).wrap _ _ _ _) [] s; exact seg_bind_wrap (wpAny_standAt (seg_bind_wrap (T.self _ 0 s _ _ st (seg_again rfl loop)))))
end
/-! ### the consumer -/
section
variable {P : Program} {w : World} {Y : Cx} {σ0 : L2.St} {Qt Qf : Hp → Prop} {A : Around} {R : Result → Shared → Prop} {a : Addr} {g : Nat} {gobj : Obj}
theorem all_loop (hY : Y.prog = P ∧ Y.w = w) (hh : A.handled = none) (hd : A.depth < recursionLimit) (hp : (a, gobj) ∈ Y.pn) (hgo : ∀ s : Shared, s.heap.get? a = some gobj → s.heap.IsGen a g)
    (hT : ∀ s₁ H s', Inv Y [] σ0 H s₁ → Qt H → (∀ b o, s₁.heap.get? b = some o → s'.heap.get? b = some o) → s'.os = s₁.os → AllBare s'.gens → R (.ok (.ret (.bool true))) s')
    (hF : ∀ s₁ H σ2 s', Inv Y [] σ2 H s₁ → Qf H → (∀ b o, s₁.heap.get? b = some o → s'.heap.get? b = some o) → s'.os = s₁.os → AllBare s'.gens → R (.ok (.ret (.bool false))) s') :
    ∀ (n : Nat) (s : Shared), s.heap.IsGen a g → s.heap.NoLimit → (∃ gs, s.gens[g]? = some gs ∧ gs.Goes (model P w) A.in1.in1 (RG Y σ0 Qt) (YG Y true Qf) n (.send .none) (s.setGen g .running)) →
      codeAny (model P w) A (.builtin "all.loop" ⟨[.ref a], []⟩) R s := by
  intro n
  induction n with
  | zero =>
    intro s hg hl ⟨gs, hgs, hgoes⟩
    refine codeAny_builtin F.entry_all_loop ?_
    rw [Around.under_plainId F.plain_all_loop _]
    show wpAny _ A.in1 (pyNext (.ref a) >>= _) _ _ s
    refine wpAny_bind (next_genG (A := A.in1) hh hl hd hg hgs hgoes (fun v s₁ gs' hbare hv => ?_) (fun s₁ hq h' hk => ?_) fun e s₁ he => he.elim)
    · obtain ⟨b, H, σ2, rfl, I, h1, h2⟩ := hv
      cases b with
      | true => exact (h2 rfl _ ⟨rfl, rfl, I.bare⟩).elim
      | false =>
        refine wpAny_bind (wpAny_holding (wpAny_truthy_bool ?_))
        refine wpAny_bind (wpAny_letGo ?_)
        simp only [Bool.false_eq_true, if_false]
        refine wpAny_bind (wpAny_rule (wpAny_pure ?_))
        exact hF s₁ H σ2 _ I (h1 (by decide)) (fun _ _ e => e) rfl (allBare_setGen I.bare hbare)
    · obtain ⟨H, I, q⟩ := hq
      refine wpAny_bind (wpAny_rule (wpAny_pure ?_))
      exact hT s₁ H _ I q hk rfl (allBare_setGen I.bare rfl)
  | succ n ih =>
    intro s hg hl ⟨gs, hgs, hgoes⟩
    have hgl : g < s.gens.size := (Array.getElem?_eq_some_iff.mp hgs).1
    refine codeAny_builtin F.entry_all_loop ?_
    rw [Around.under_plainId F.plain_all_loop _]
    show wpAny _ A.in1 (pyNext (.ref a) >>= _) _ _ s
    refine wpAny_bind (wpAny_gsz (n := g + 1) hgl (next_genG (A := A.in1) hh hl hd hg hgs hgoes (fun v s₁ gs' hbare hv => ?_) (fun s₁ hq h' hk => ?_) fun e s₁ he => he.elim))
    · intro hsz
      obtain ⟨b, H, σ2, rfl, I, h1, h2⟩ := hv
      have hsz1 : g < s₁.gens.size := by
        have q : (s₁.setGen g gs').gens.size = s₁.gens.size := setGen_size _ _ _
        have hsz' : g + 1 ≤ (s₁.setGen g gs').gens.size := hsz
        omega
      refine wpAny_bind (wpAny_holding (wpAny_truthy_bool ?_))
      refine wpAny_bind (wpAny_letGo ?_)
      cases b with
      | true =>
        simp only [if_true]
        refine wpAny_pure ⟨plainId_quiet F.plain_all_loop _, ih (s₁.setGen g gs') (hgo _ (I.pin (a, gobj) (List.mem_append_left _ hp)).1) I.nolimit ⟨gs', setGen_at hsz1, ?_⟩⟩
        exact h2 rfl _ ⟨rfl, rfl, allBare_setGen (s := s₁.setGen g gs') (allBare_setGen I.bare hbare) rfl⟩
      | false =>
        simp only [Bool.false_eq_true, if_false]
        refine wpAny_bind (wpAny_rule (wpAny_pure ?_))
        exact hF s₁ H σ2 _ I (h1 (by decide)) (fun _ _ e => e) rfl (allBare_setGen I.bare hbare)
    · intro hsz
      obtain ⟨H, I, q⟩ := hq
      refine wpAny_bind (wpAny_rule (wpAny_pure ?_))
      exact hT s₁ H _ I q hk rfl (allBare_setGen I.bare rfl)
theorem any_loop (hY : Y.prog = P ∧ Y.w = w) (hh : A.handled = none) (hd : A.depth < recursionLimit) (hp : (a, gobj) ∈ Y.pn) (hgo : ∀ s : Shared, s.heap.get? a = some gobj → s.heap.IsGen a g)
    (hT : ∀ s₁ H s', Inv Y [] σ0 H s₁ → Qt H → (∀ b o, s₁.heap.get? b = some o → s'.heap.get? b = some o) → s'.os = s₁.os → AllBare s'.gens → R (.ok (.ret (.bool false))) s')
    (hF : ∀ s₁ H σ2 s', Inv Y [] σ2 H s₁ → Qf H → (∀ b o, s₁.heap.get? b = some o → s'.heap.get? b = some o) → s'.os = s₁.os → AllBare s'.gens → R (.ok (.ret (.bool true))) s') :
    ∀ (n : Nat) (s : Shared), s.heap.IsGen a g → s.heap.NoLimit → (∃ gs, s.gens[g]? = some gs ∧ gs.Goes (model P w) A.in1.in1 (RG Y σ0 Qt) (YG Y false Qf) n (.send .none) (s.setGen g .running)) →
      codeAny (model P w) A (.builtin "any.loop" ⟨[.ref a], []⟩) R s := by
  intro n
  induction n with
  | zero =>
    intro s hg hl ⟨gs, hgs, hgoes⟩
    refine codeAny_builtin F.entry_any_loop ?_
    rw [Around.under_plainId F.plain_any_loop _]
    show wpAny _ A.in1 (pyNext (.ref a) >>= _) _ _ s
    refine wpAny_bind (next_genG (A := A.in1) hh hl hd hg hgs hgoes (fun v s₁ gs' hbare hv => ?_) (fun s₁ hq h' hk => ?_) fun e s₁ he => he.elim)
    · obtain ⟨b, H, σ2, rfl, I, h1, h2⟩ := hv
      cases b with
      | false => exact (h2 rfl _ ⟨rfl, rfl, I.bare⟩).elim
      | true =>
        refine wpAny_bind (wpAny_holding (wpAny_truthy_bool ?_))
        refine wpAny_bind (wpAny_letGo ?_)
        simp only [if_true]
        refine wpAny_bind (wpAny_rule (wpAny_pure ?_))
        exact hF s₁ H σ2 _ I (h1 (by decide)) (fun _ _ e => e) rfl (allBare_setGen I.bare hbare)
    · obtain ⟨H, I, q⟩ := hq
      refine wpAny_bind (wpAny_rule (wpAny_pure ?_))
      exact hT s₁ H _ I q hk rfl (allBare_setGen I.bare rfl)
  | succ n ih =>
    intro s hg hl ⟨gs, hgs, hgoes⟩
    have hgl : g < s.gens.size := (Array.getElem?_eq_some_iff.mp hgs).1
    refine codeAny_builtin F.entry_any_loop ?_
    rw [Around.under_plainId F.plain_any_loop _]
    show wpAny _ A.in1 (pyNext (.ref a) >>= _) _ _ s
    refine wpAny_bind (wpAny_gsz (n := g + 1) hgl (next_genG (A := A.in1) hh hl hd hg hgs hgoes (fun v s₁ gs' hbare hv => ?_) (fun s₁ hq h' hk => ?_) fun e s₁ he => he.elim))
    · intro hsz
      obtain ⟨b, H, σ2, rfl, I, h1, h2⟩ := hv
      have hsz1 : g < s₁.gens.size := by
        have q : (s₁.setGen g gs').gens.size = s₁.gens.size := setGen_size _ _ _
        have hsz' : g + 1 ≤ (s₁.setGen g gs').gens.size := hsz
        omega
      refine wpAny_bind (wpAny_holding (wpAny_truthy_bool ?_))
      refine wpAny_bind (wpAny_letGo ?_)
      cases b with
      | false =>
        simp only [Bool.false_eq_true, if_false]
        refine wpAny_pure ⟨plainId_quiet F.plain_any_loop _, ih (s₁.setGen g gs') (hgo _ (I.pin (a, gobj) (List.mem_append_left _ hp)).1) I.nolimit ⟨gs', setGen_at hsz1, ?_⟩⟩
        exact h2 rfl _ ⟨rfl, rfl, allBare_setGen (s := s₁.setGen g gs') (allBare_setGen I.bare hbare) rfl⟩
      | true =>
        simp only [if_true]
        refine wpAny_bind (wpAny_rule (wpAny_pure ?_))
        exact hF s₁ H σ2 _ I (h1 (by decide)) (fun _ _ e => e) rfl (allBare_setGen I.bare hbare)
    · intro hsz
      obtain ⟨H, I, q⟩ := hq
      refine wpAny_bind (wpAny_rule (wpAny_pure ?_))
      exact hT s₁ H _ I q hk rfl (allBare_setGen I.bare rfl)
end
end Gx
set_option Elab.async false
set_option linter.all false
set_option maxRecDepth 100000
set_option maxHeartbeats 2000000
namespace Gx
open PySem PySem.Spec PyProof.Rows L2 GenW GxR
/-- a generator expression's own scope -/
structure GenOk (env : Env) (N : List Str) (scope : Scope) (own : List (Str × Nat)) : Prop where
  blk : BlkOk N env.scope scope own
  co : scope.isCoroutine = false
  cell : ∀ y ∈ scope.names, y.2 ≠ .cell
  dot : scope.names.lookup (".0" : Str) = some NameKind.local
section
variable {X : Cx} {pins : List (Addr × Obj)} {σ : L2.St} {H : Hp} {s : Shared}
theorem wipe_wipe (σ : L2.St) : ∀ vs : List Nat, wipe (wipe σ vs) vs = wipe σ vs := fun vs => by
  apply List.ext_getElem?
  intro i
  by_cases h : i ∈ vs
  · have z : ∀ σ' : L2.St, ∀ ws : List Nat, i ∈ ws → (wipe σ' ws)[i]? = if i < σ'.length then some none else none := fun σ' ws => by
      induction ws with
      | nil => intro h; cases h
      | cons w ws ih =>
        intro h
        show ((wipe σ' ws).set w none)[i]? = _
        rw [List.getElem?_set]
        by_cases e : w = i
        · rw [if_pos e, wipe_length, e]
        · rw [if_neg e]
          rcases List.mem_cons.mp h with h | h
          · exact absurd h.symm e
          · exact ih h
    rw [z _ _ h, z _ _ h, wipe_length]
  · rw [wipe_out h]
theorem room_gen {k : Nat} {A : Around} {elt tg iter : Expr} {ifs : List Expr} {scope : Scope} {pos : Pos} {it : Value} {cenv : Env} (hr : Room (k + 1) A) : Room k (A.in1.in1.over (.compLoop (.GeneratorExp elt [⟨tg, iter, ifs, 0⟩] scope pos) 0 it .none cenv) []) :=
  ⟨hr.hd, by have := hr.dp; show A.depth + 1 + 3 * k + 5 < _; omega, by have := hr.un; show A.units + 1 + 1 + 3 + 16 * k + 200 < _; omega⟩
theorem gen_ready {c P : Addr} {elt tg iter : Expr} {ifs : List Expr} {scope : Scope} {own : List (Str × Nat)} {gpos : Pos} {wi : TI} {g : TG} {tt : TT} {te : TE} {k : Nat} {Q' : Value → Shared → Prop} {Qt Qf : Hp → Prop} {go : Bool}
    (hc : X.calm = true) (hr : Room (k + 1) X.A) (hN : X.N.Nodup) (TB : TabB X.base X.mg c P) (hcode : X.env.code = .ref c) (S : GenOk X.env X.N scope own) (hi : PI X tg iter wi)
    (hg : ∀ (A' : Around) (s : Shared) (H : Hp) (cl : List (Str × Addr)) (C : Addr) (code : Value) (fp : List Addr) (pn : List (Addr × Obj)), Room k A' → PG (gcx X A' s H (genEnv scope cl C code builtinsNs X.env) fp pn) tg g)
    (ht : ∀ (A' : Around) (s : Shared) (H : Hp) (cl : List (Str × Addr)) (C : Addr) (code : Value) (fp : List Addr) (pn : List (Addr × Obj)), Room k A' → PTs (gcx X A' s H (genEnv scope cl C code builtinsNs X.env) fp pn) ifs tt)
    (he : ∀ (A' : Around) (s : Shared) (H : Hp) (cl : List (Str × Addr)) (C : Addr) (code : Value) (fp : List Addr) (pn : List (Addr × Obj)), Room k A' → PE (gcx X A' s H (genEnv scope cl C code builtinsNs X.env) fp pn) elt te)
    (hs : ∀ v, genFold iter X.env v = pure v) (I : Inv X pins σ H s)
    (h : wi σ H fun J H1 => TabG H1 P ∧ ∀ H2, Tabbed P H1 H2 → ∃ W : Nat → Nat → Hp → Prop, (∃ m, W 0 m H2) ∧ Turns J g tt te (own.map (·.2)) (wipe σ (own.map (·.2))) W Qt (YdB go Qf))
    (hQ : ∀ (a : Addr) (gi n : Nat) (s5 : Shared) (Y : Cx) (gobj : Obj), Y.prog = X.prog ∧ Y.w = X.w → (a, gobj) ∈ Y.pn → (∀ s : Shared, s.heap.get? a = some gobj → s.heap.IsGen a gi) → s5.heap.IsGen a gi → s5.heap.NoLimit →
      (∃ gs, s5.gens[gi]? = some gs ∧ gs.Goes (model X.prog X.w) X.A.in1.in1 (RG Y (wipe σ (own.map (·.2))) Qt) (YG Y go Qf) n (.send .none) (s5.setGen gi .running)) →
      (∀ s₁ H σ2 s', Inv Y [] σ2 H s₁ → (∀ b o, s₁.heap.get? b = some o → s'.heap.get? b = some o) → s'.os = s₁.os → AllBare s'.gens → Inv X pins σ H s') → Q' (.ref a) s5) :
    wpAny (model X.prog X.w) X.A (eval (.GeneratorExp elt [⟨tg, iter, ifs, 0⟩] scope gpos) X.env) Q' X.xe s := by
  have hfree : ∀ y ∈ scope.names, y.2 = .free → ∃ c, X.env.cells.lookup y.1 = some c := fun y hy e => by
    rcases S.blk.free y hy e with k | k
    · exact I.ok.has _ (.inl k)
    · exact I.ok.has _ (.inr k)
  refine wpAny_GeneratorExp_make S.co (closure_ok hfree) S.cell S.dot S.blk.kind (by have := hr.dp; omega) ?_ hs
  refine thn (hi.run pins s σ H _ I h) fun v s1 h1 => thn h1 fun itv s2 h2 => ?_
  obtain ⟨it, fp, tn, J, H1, rfl, I1, T, st1, f1, ⟨ps, hP, htr⟩, q1⟩ := h2
  have hPs : s2.heap.get? P = some { cls := .none, data := .fields ps } := I1.hok P _ hP
  have cd : PySem.W.CodeHd s2.heap c P := TB.code.keeps fun b u e => I1.bk b u e
  refine ⟨I1.nolimit, ?_⟩
  have nfP : ∀ b ∈ fp, b ≠ P := fun b hb z => by
    have := (f1 b hb).1
    rw [z, hP] at this
    cases this
  have cont : ∀ (code : Value) (h3 : Heap) (tk : Nat) (more : Array Value), Heap.ExtBut P s2.heap h3 → s2.heap.objs.size ≤ h3.objs.size → h3.get? P = some { cls := .none, data := .fields (ps ++ more) } → TriplesOk (ps ++ more).toList →
      wpAny (model X.prog X.w) X.A (builtinsFor X.env.globals X.env.builtins) (fun bi s₄ =>
        ∀ h', h'.Ns s₄.heap.objs.size (fun y => if y = ".0" then some (.ref it) else none) → Heap.SameBut s₄.heap.objs.size (s₄.heap.push { cls := .type "frame", data := .dict #[] }) h' →
          Q' (.ref h'.objs.size) { s₄ with
            gens := s₄.gens.push (.fresh (.compStart (.GeneratorExp elt [⟨tg, iter, ifs, 0⟩] scope gpos) 0 (.ref it) .none (genEnv scope (cloFrom X.env.cells scope.names []) s₄.heap.objs.size code bi X.env))),
            toks := s₄.toks + 1 + 1 + 1,
            heap := h'.push { cls := .type "generator", data := .fields #[.int s₄.gens.size 0, .str "<genexpr>" (s₄.toks + 1), .str (X.env.qual ++ "<genexpr>") (s₄.toks + 1 + 1)] } }) X.xe { s2 with heap := h3, toks := tk } := by
    intro code h3 tk more hx hsz hP3 ht3
    obtain ⟨bm, ob, e1, e2, e3, e4, e5, e6, e7, e8⟩ := TB.bm
    refine wpAny_builtinsFor (m := X.mg) (by rw [I1.ok.glob]; exact (I1.mod.glob.keeps I1.bk).extBut hx TB.gP) e1 e2 (hx _ _ e4 (I1.bk _ _ e5)) e6 e7 e8 ?_
    intro h' hns hsb
    have J2 : Inv X pins σ (upd H1 P (.tbl (ps ++ more))) { s2 with heap := h3, toks := tk } := inv_tab (more := more) (g' := s2.gens) (d' := s2.drawn) I1 hP (fun b u hb e => hx b u hb e) hP3 I1.bare
    obtain ⟨W, ⟨m, w0⟩, hturn⟩ := q1 _ ⟨⟨ps ++ more, upd_same, ht3⟩, fun b hb => upd_ne hb⟩
    -- the new objects
    have szp : (h3.push { cls := .type "frame", data := .dict #[] }).objs.size = h3.objs.size + 1 := Heap.size_push ..
    have sz' : h'.objs.size = h3.objs.size + 1 := by rw [← szp]; exact hsb.1
    have kp : ∀ b o, h3.get? b = some o → (h'.push { cls := .type "generator", data := .fields #[.int s2.gens.size 0, .str "<genexpr>" (tk + 1), .str (X.env.qual ++ "<genexpr>") (tk + 1 + 1)] }).get? b = some o := fun b o e =>
      Heap.get?_push_of_some _ ((hsb.2 b (Nat.ne_of_lt (Heap.lt_size e))).trans (Heap.get?_push_of_some _ e))
    have f2 : ∀ b ∈ fp, FpOk X pins (upd H1 P (.tbl (ps ++ more))) b ∧ b < h3.objs.size := fun b hb => by
      obtain ⟨o, e, _⟩ := T.obj _ _ st1 b hb
      refine ⟨⟨by rw [upd_ne (nfP b hb)]; exact (f1 b hb).1, (f1 b hb).2⟩, Nat.lt_of_lt_of_le (Heap.lt_size e) hsz⟩
    have st3 : tn 0 h3 := T.keep _ _ _ st1 fun b hb o e => hx b o (nfP b hb) e
    obtain ⟨A', hA'⟩ : ∃ A', X.A.in1.in1.over (.compLoop (.GeneratorExp elt [⟨tg, iter, ifs, 0⟩] scope gpos) 0 (.ref it) .none (genEnv scope (cloFrom X.env.cells scope.names []) h3.objs.size code builtinsNs X.env)) [] = A' := ⟨_, rfl⟩
    have hroom : Room k A' := by rw [← hA']; exact room_gen hr
    have hfrm : A'.frames = some (genEnv scope (cloFrom X.env.cells scope.names []) h3.objs.size code builtinsNs X.env :: X.stack) := by
      have e : X.A.frames = some X.stack := I1.ok.frames
      rw [← hA']
      unfold Around.over
      dsimp only
      rw [e]
      rfl
    have start : ∀ gens' : Array GenState, AllBare gens' → ∀ tk', Inv (gcx X A' { s2 with heap := h3, toks := tk } (upd H1 P (.tbl (ps ++ more))) (genEnv scope (cloFrom X.env.cells scope.names []) h3.objs.size code builtinsNs X.env) fp [(h'.objs.size, _)]) [] (wipe σ (own.map (·.2))) (upd H1 P (.tbl (ps ++ more)))
        { s2 with gens := gens', toks := tk', heap := h'.push { cls := .type "generator", data := .fields #[.int s2.gens.size 0, .str "<genexpr>" (tk + 1), .str (X.env.qual ++ "<genexpr>") (tk + 1 + 1)] } } := fun gens' hb tk' =>
      gen_start (code := code) J2 S.blk hN S.cell f2 hroom.hd rfl hfrm rfl hb kp (Heap.Ns.keeps hns fun b o e => Heap.get?_push_of_some _ e) (fun p hp => by
        rw [List.mem_singleton.mp hp]
        exact ⟨Heap.get?_push_size _ rfl, by show h3.objs.size < h'.objs.size; rw [sz']; exact Nat.lt_succ_self _, fun v z => by cases z⟩)
    have hgen : ∀ s : Shared, s.heap.get? h'.objs.size = some { cls := .type "generator", data := .fields #[.int s2.gens.size 0, .str "<genexpr>" (tk + 1), .str (X.env.qual ++ "<genexpr>") (tk + 1 + 1)] } → s.heap.IsGen h'.objs.size s2.gens.size := fun s e => ⟨_, _, _, e, rfl, rfl, rfl⟩
    refine hQ h'.objs.size s2.gens.size (m + 1) _ (gcx X A' { s2 with heap := h3, toks := tk } (upd H1 P (.tbl (ps ++ more))) (genEnv scope (cloFrom X.env.cells scope.names []) h3.objs.size code builtinsNs X.env) fp [(h'.objs.size, _)]) _ ⟨rfl, rfl⟩ (List.mem_singleton.mpr rfl) hgen (hgen _ (Heap.get?_push_size _ rfl)) (start #[] (fun _ z => by simp at z) 0).nolimit ⟨_, Array.getElem?_push_size, rfl, ?_⟩ fun s₁ Hz σ2 s' Iz ext hos hbz => ?_
    · have bare5 : AllBare (s2.gens.push (.fresh (.compStart (.GeneratorExp elt [⟨tg, iter, ifs, 0⟩] scope gpos) 0 (.ref it) .none (genEnv scope (cloFrom X.env.cells scope.names []) h3.objs.size code builtinsNs X.env)))) := I1.bare.push rfl
      have hst : ∀ H : Hp, (∀ b ∈ fp, H b = none) → ∀ b ∈ fp, FpOk (gcx X A' { s2 with heap := h3, toks := tk } (upd H1 P (.tbl (ps ++ more))) (genEnv scope (cloFrom X.env.cells scope.names []) h3.objs.size code builtinsNs X.env) fp [(h'.objs.size, _)]) [] H b := fun Hq hq b hb => by
        have ok := (start s2.gens I1.bare 0).ok
        refine ⟨hq b hb, (ok.exf b hb).1, ok.exfs b hb, .inl hb, (ok.exf b hb).2, fun p hp => ?_⟩
        rw [List.append_nil] at hp
        rw [List.mem_singleton.mp hp]
        show h'.objs.size ≠ b
        have := (f2 b hb).2
        rw [sz']
        exact Nat.ne_of_gt (Nat.lt_succ_of_lt this)
      have wf : wipe (wipe σ (own.map (·.2))) (own.map (·.2)) = wipe σ (own.map (·.2)) := wipe_wipe _ _
      exact seg_gx0 hA' hc S.co T hst wf (hg _ _ _ _ _ _ _ _ hroom) (ht _ _ _ _ _ _ _ _ hroom) (he _ _ _ _ _ _ _ _ hroom) hturn m _ _ _ (start _ (allBare_setGen (s := { s2 with gens := _ }) bare5 rfl) _) (T.keep _ _ _ st3 fun b hb o e => kp b o e) (fun b hb => (f2 b hb).1.1) w0
    · have u : Un (frs X.stack) fp (upd H1 P (.tbl (ps ++ more))) Hz h3 s'.heap := Iz.base.trans (Un.kept ext)
      refine J2.call' (s' := s') (hos.trans Iz.os) u (Iz.hok.kept ext) hbz fun b hb => ?_
      obtain ⟨⟨_, a1, _, a3, a4, a5⟩, _⟩ := f2 b hb
      exact ⟨a3, a1, a4, a5⟩
  cases hf : codeAmong gpos ps.toList with
  | none =>
    refine wpAny_genexprCodeX hcode (cd.code hPs htr) (cd.tab hPs) hf fun c' h' tk hx hge hlt hco' _ htab' _ => ?_
    obtain ⟨o1, vs, f1, tf, fl, tg, inF, tx, tt, op, _, _, _, _, _, _, _, _, _, htr', _⟩ := hco'
    exact cont _ h' tk _ hx (Nat.le_trans hge (Nat.le_of_lt hlt)) htab'.2 htr'
  | some cv =>
    refine wpAny_genexprCode_hit hcode (cd.code hPs htr) hf ?_
    exact cont cv s2.heap s2.toks #[] (Heap.ExtBut.refl _ _) (Nat.le_refl _) (by rw [Array.append_empty]; exact hPs) (by rw [Array.append_empty]; exact htr)
end
end Gx
set_option Elab.async false
set_option linter.all false
set_option maxRecDepth 100000
set_option maxHeartbeats 2000000
namespace Gx
open PySem PySem.Spec PyProof.Rows L2 GenW GxR
/-- all(e for x in ..) (go true), any(..) (go false) -/
def tGen (P : Addr) (go : Bool) (wi : TI) (g : TG) (tt : TT) (te : TE) (vs : List Nat) : TE := fun σ H Q => wi σ H fun J H1 => TabG H1 P ∧ ∀ H2, Tabbed P H1 H2 →
  ∃ W : Nat → Nat → Hp → Prop, (∃ m, W 0 m H2) ∧ Turns J g tt te vs (wipe σ vs) W (fun H => Q (.bl go) H) (YdB go fun H => Q (.bl (!go)) H)
section
variable {X : Cx} {c P : Addr} {elt tg iter : Expr} {ifs : List Expr} {scope : Scope} {own : List (Str × Nat)} {p pos gpos : Pos} {wi : TI} {g : TG} {tt : TT} {te : TE} {k : Nat}
theorem pe_allG (hc : X.calm = true) (hr : Room (k + 1) X.A) (hN : X.N.Nodup) (hgl : Gl X "all") (hm : X.mg "all" = none) (hb : bootBuiltins "all" = some (.builtin "all")) (TB : TabB X.base X.mg c P) (hcode : X.env.code = .ref c) (S : GenOk X.env X.N scope own) (hi : PI X tg iter wi)
    (hg : ∀ (A' : Around) (s : Shared) (H : Hp) (cl : List (Str × Addr)) (C : Addr) (code : Value) (fp : List Addr) (pn : List (Addr × Obj)), Room k A' → PG (gcx X A' s H (genEnv scope cl C code builtinsNs X.env) fp pn) tg g)
    (ht : ∀ (A' : Around) (s : Shared) (H : Hp) (cl : List (Str × Addr)) (C : Addr) (code : Value) (fp : List Addr) (pn : List (Addr × Obj)), Room k A' → PTs (gcx X A' s H (genEnv scope cl C code builtinsNs X.env) fp pn) ifs tt)
    (he : ∀ (A' : Around) (s : Shared) (H : Hp) (cl : List (Str × Addr)) (C : Addr) (code : Value) (fp : List Addr) (pn : List (Addr × Obj)), Room k A' → PE (gcx X A' s H (genEnv scope cl C code builtinsNs X.env) fp pn) elt te)
    (hs : ∀ v, genFold iter X.env v = pure v := by intro _; rfl)
    (hst : starEach [.GeneratorExp elt [⟨tg, iter, ifs, 0⟩] scope gpos] X.env = (false, eval (.GeneratorExp elt [⟨tg, iter, ifs, 0⟩] scope gpos) X.env) :: starEach [] X.env := by rfl) :
    PE X (.Call (.Name "all" p) [.GeneratorExp elt [⟨tg, iter, ifs, 0⟩] scope gpos] [] pos) (tGen P true wi g tt te (own.map (·.2))) := by
  refine ⟨fun pins s σ H Q I h => ?_⟩
  refine wpAny_Call_Name_kw (ld_blt I hgl hm hb ?_)
  refine PyProof.Rows.callWith_builtin1 ?_ hst (by rfl)
  rw [hst]
  show wpAny _ _ (spliced ((false, eval (.GeneratorExp elt [⟨tg, iter, ifs, 0⟩] scope gpos) X.env) :: backTo pos (starEach [] X.env))) _ _ s
  refine Calls.spliced_cons (gen_ready hc hr hN TB hcode S hi hg ht he hs I h fun a gi n s5 Y gobj hY hpn hgo hg5 hl5 hgoes back => ?_)
  refine Calls.spliced_nil ?_
  refine call_function_tree F.kind_all F.plain_all F.entry_all (F.args_all1 _) ?_
  unfold Builtin.«all»
  refine wpAny_bind (m := oneArg "all" _) (wpAny_pure ?_)
  refine wpAny_bind (wpAny_pyIter_gen hg5 ?_)
  exact wpAny_pure ⟨plainId_quiet F.plain_all_loop _, all_loop hY hr.hd hr.depth hpn hgo (fun s₁ Hz s' Iz q ext hos hb => ⟨.bl true, Hz, back s₁ Hz _ s' Iz ext hos hb, rfl, q⟩) (fun s₁ Hz σ2 s' Iz q ext hos hb => ⟨.bl false, Hz, back s₁ Hz σ2 s' Iz ext hos hb, rfl, q⟩) n s5 hg5 hl5 hgoes⟩
theorem pe_anyG (hc : X.calm = true) (hr : Room (k + 1) X.A) (hN : X.N.Nodup) (hgl : Gl X "any") (hm : X.mg "any" = none) (hb : bootBuiltins "any" = some (.builtin "any")) (TB : TabB X.base X.mg c P) (hcode : X.env.code = .ref c) (S : GenOk X.env X.N scope own) (hi : PI X tg iter wi)
    (hg : ∀ (A' : Around) (s : Shared) (H : Hp) (cl : List (Str × Addr)) (C : Addr) (code : Value) (fp : List Addr) (pn : List (Addr × Obj)), Room k A' → PG (gcx X A' s H (genEnv scope cl C code builtinsNs X.env) fp pn) tg g)
    (ht : ∀ (A' : Around) (s : Shared) (H : Hp) (cl : List (Str × Addr)) (C : Addr) (code : Value) (fp : List Addr) (pn : List (Addr × Obj)), Room k A' → PTs (gcx X A' s H (genEnv scope cl C code builtinsNs X.env) fp pn) ifs tt)
    (he : ∀ (A' : Around) (s : Shared) (H : Hp) (cl : List (Str × Addr)) (C : Addr) (code : Value) (fp : List Addr) (pn : List (Addr × Obj)), Room k A' → PE (gcx X A' s H (genEnv scope cl C code builtinsNs X.env) fp pn) elt te)
    (hs : ∀ v, genFold iter X.env v = pure v := by intro _; rfl)
    (hst : starEach [.GeneratorExp elt [⟨tg, iter, ifs, 0⟩] scope gpos] X.env = (false, eval (.GeneratorExp elt [⟨tg, iter, ifs, 0⟩] scope gpos) X.env) :: starEach [] X.env := by rfl) :
    PE X (.Call (.Name "any" p) [.GeneratorExp elt [⟨tg, iter, ifs, 0⟩] scope gpos] [] pos) (tGen P false wi g tt te (own.map (·.2))) := by
  refine ⟨fun pins s σ H Q I h => ?_⟩
  refine wpAny_Call_Name_kw (ld_blt I hgl hm hb ?_)
  refine PyProof.Rows.callWith_builtin1 ?_ hst (by rfl)
  rw [hst]
  show wpAny _ _ (spliced ((false, eval (.GeneratorExp elt [⟨tg, iter, ifs, 0⟩] scope gpos) X.env) :: backTo pos (starEach [] X.env))) _ _ s
  refine Calls.spliced_cons (gen_ready hc hr hN TB hcode S hi hg ht he hs I h fun a gi n s5 Y gobj hY hpn hgo hg5 hl5 hgoes back => ?_)
  refine Calls.spliced_nil ?_
  refine call_function_tree F.kind_any F.plain_any F.entry_any (F.args_any1 _) ?_
  unfold Builtin.«any»
  refine wpAny_bind (m := oneArg "any" _) (wpAny_pure ?_)
  refine wpAny_bind (wpAny_pyIter_gen hg5 ?_)
  exact wpAny_pure ⟨plainId_quiet F.plain_any_loop _, any_loop hY hr.hd hr.depth hpn hgo (fun s₁ Hz s' Iz q ext hos hb => ⟨.bl false, Hz, back s₁ Hz _ s' Iz ext hos hb, rfl, q⟩) (fun s₁ Hz σ2 s' Iz q ext hos hb => ⟨.bl true, Hz, back s₁ Hz σ2 s' Iz ext hos hb, rfl, q⟩) n s5 hg5 hl5 hgoes⟩
end
end Gx
set_option Elab.async false
set_option linter.all false
set_option maxRecDepth 100000
set_option maxHeartbeats 2000000
/-! sum(1 for .. in .. if ..) -/
namespace Gx
open PySem PySem.Spec PyProof.Rows L2 GenW GxR
/-- slept while the adder wrote its own list at Sa -/
structure WokeS (Sa : Addr) (s s' : Shared) : Prop where
  keep : ∀ b o, b ≠ Sa → s.heap.get? b = some o → s'.heap.get? b = some o
  at_ : ∃ o, s'.heap.get? Sa = some o ∧ ∀ v, o.data ≠ .cell v
  os : s'.os = s.os
  bare : AllBare s'.gens
def TurnsS (J : It) (g : TG) (tt : TT) (te : TE) (vs : List Nat) (σ0 : L2.St) (W : Nat → Nat → Nat → Hp → Prop) (Qt : Nat → Hp → Prop) : Prop :=
  ∀ i m n H, W i m n H → (J.stop i H ∧ Qt n H) ∨ (J.go i H ∧ ∃ Nx : Nat → Hp → Prop, (∀ n' H', Nx n' H' → ∃ m', m' < m ∧ W (i + 1) m' n' H') ∧ ∀ x H', J.yld i H x H' → g x σ0 H' fun σ2 H2 => wipe σ2 vs = σ0 ∧ tt σ2 H2 fun b H3 => if b = true then te σ2 H3 fun y H4 => y = .int 1 ∧ ∃ n', n = n' + 1 ∧ Nx n' H4 else Nx n H3)
abbrev RS (Y : Cx) (σ0 : L2.St) (Sa : Addr) (Qt : Nat → Hp → Prop) : GenEnd := fun n s₀ r s₁ => ((r = .ok (.ret .none) ∨ r = .ok .next) ∧ (s₁.heap.get? Sa = s₀.heap.get? Sa ∧ ∃ H, Inv Y [] σ0 H s₁ ∧ H Sa = none ∧ Qt n H)) ∨ ∃ e, r = .error e ∧ False
abbrev YS (Y : Cx) (Sa : Addr) : Protocol := fun n s₀ v s kap => ∃ H σ2 t, v = .int 1 t ∧ Inv Y [] σ2 H s ∧ H Sa = none ∧ s.heap.get? Sa = s₀.heap.get? Sa ∧ (∃ o, s.heap.get? Sa = some o ∧ ∀ v, o.data ≠ .cell v) ∧ ∀ s', WokeS Sa s s' → kap (.send .none) s'
theorem hok_but {P : Program} {w : World} {H : Hp} {h h' : Heap} {Sa : Addr} (x : HOk P w H h) (hS : H Sa = none) (k : ∀ b o, b ≠ Sa → h.get? b = some o → h'.get? b = some o) : HOk P w H h' := fun a o e =>
  (x a o e).stay (fun b u hb q => k b u (fun z => by
    rcases hb with hb | hb
    · rw [← hb, z, hS] at e; cases e
    · rw [z, hS] at hb; cases hb) q) (fun _ q => q) fun _ _ q => q
theorem inv_wokeS {Y : Cx} {σ : L2.St} {H : Hp} {s s' : Shared} {Sa : Addr} (I : Inv Y [] σ H s) (hS : H Sa = none) (hf : FpOk Y [] H Sa) (wk : WokeS Sa s s') : Inv Y [] σ H s' := by
  refine I.call' (ch := [Sa]) wk.os ⟨fun b o e _ _ hb => wk.keep b o (fun z => hb (List.mem_singleton.mpr z)) e, fun b o e _ _ hb => ⟨o.slots, wk.keep b o (fun z => hb (List.mem_singleton.mpr z)) e⟩, fun b o _ h _ => h, fun b o e hb => ⟨o, wk.keep b o (fun z => hb (List.mem_singleton.mpr z)) e⟩, fun _ _ h => h, fun _ _ _ h => h, fun b ps h => ⟨#[], by rw [Array.append_empty]; exact h⟩⟩ (hok_but I.hok hS wk.keep) wk.bare fun b hb => ?_
  rw [List.mem_singleton.mp hb]
  obtain ⟨_, a1, _, a3, a4, a5⟩ := hf
  exact ⟨a3, a1, a4, a5⟩
section
variable {X : Cx} {A' B : Around} {s4 : Shared} {H4 : Hp} {cenv : Env} {fp : List Addr} {pn : List (Addr × Obj)} {it Sa : Addr} {tn : Nat → Heap → Prop} {J : It} {elt tg iter : Expr} {ifs : List Expr} {scope : Scope} {pos : Pos} {g : TG} {tt : TT} {te : TE} {vs : List Nat} {σ0 : L2.St} {W : Nat → Nat → Nat → Hp → Prop} {Qt : Nat → Hp → Prop}
theorem seg_sx (hA : B.over (.compLoop (.GeneratorExp elt [⟨tg, iter, ifs, 0⟩] scope pos) 0 (.ref it) .none cenv) [] = A') (hc : X.calm = true) (hco : cenv.scope.isCoroutine = false) (T : Turn X.prog X.w X.K tg J fp it tn)
    (hst : ∀ (pl : List (Addr × Obj)) (H : Hp), (∀ p ∈ pl, p.1 = Sa) → (∀ b ∈ fp, H b = none) → ∀ b ∈ fp, FpOk (gcx X A' s4 H4 cenv fp pn) pl H b) (hSf : Sa ∉ fp) (hSo : ∀ H : Hp, H Sa = none → FpOk (gcx X A' s4 H4 cenv fp pn) [] H Sa) (hσ : wipe σ0 vs = σ0)
    (hg : PG (gcx X A' s4 H4 cenv fp pn) tg g) (ht : PTs (gcx X A' s4 H4 cenv fp pn) ifs tt) (he : PE (gcx X A' s4 H4 cenv fp pn) elt te) (hturn : TurnsS J g tt te vs σ0 W Qt) :
    ∀ (m n i : Nat) (H : Hp) (s₀ s : Shared), Inv (gcx X A' s4 H4 cenv fp pn) [] σ0 H s → H Sa = none → (∃ o, s.heap.get? Sa = some o ∧ ∀ v, o.data ≠ .cell v) → s.heap.get? Sa = s₀.heap.get? Sa → tn i s.heap → (∀ b ∈ fp, H b = none) → W i m n H →
      Seg (model X.prog X.w) B (RS (gcx X A' s4 H4 cenv fp pn) σ0 Sa Qt) (YS (gcx X A' s4 H4 cenv fp pn) Sa) n s₀ (.compLoop (.GeneratorExp elt [⟨tg, iter, ifs, 0⟩] scope pos) 0 (.ref it) .none cenv)
        ((model X.prog X.w).den (.compLoop (.GeneratorExp elt [⟨tg, iter, ifs, 0⟩] scope pos) 0 (.ref it) .none cenv)) [] s := by
  intro m
  induction m using Nat.strongRecOn with
  | _ m ih =>
  intro n i H s₀ s I hSn hSe hS0 st fr w
  show Seg _ B _ _ _ s₀ _ ((compTurn (.GeneratorExp elt [⟨tg, iter, ifs, 0⟩] scope pos) 0 (.ref it) .none cenv).onRaise (leaving cenv)) [] s
  rw [compTurn_gen, Sem.onRaise_eq_wrap]
  refine seg_bind_wrap (wpAny_standAt ?_)
  obtain ⟨o, ho, hoc⟩ := hSe
  have I0 : Inv (gcx X A' s4 H4 cenv fp pn) ([] ++ pinsAt [Sa] s.heap) σ0 H s := I.pinned (fun b hb => by rw [List.mem_singleton.mp hb]; exact hSo H hSn) (fun b hb => by rw [List.mem_singleton.mp hb]; exact ⟨o, ho, hoc⟩)
  have pl : ∀ p ∈ ([] ++ pinsAt [Sa] s.heap : List (Addr × Obj)), p.1 = Sa := fun p hp => by
    rw [List.nil_append] at hp
    exact List.mem_singleton.mp (of_pinsAt hp).1
  have mS : (Sa, o) ∈ ([] ++ pinsAt [Sa] s.heap : List (Addr × Obj)) := by
    rw [List.nil_append]
    exact mem_pinsAt (List.mem_singleton.mpr rfl) ho
  rcases hturn i m n H w with ⟨stop, qn⟩ | ⟨goes, Nx, hN, step⟩
  · refine seg_bind_wrap ?_
    rw [hA]
    refine wpAny_mono (T.done (gcx X A' s4 H4 cenv fp pn) rfl rfl rfl hc i _ s σ0 H _ I0 (hst _ H pl fr) st stop) (fun r s1 hr => ?_) fun _ _ e => e
    obtain ⟨rfl, I1⟩ := hr
    have q := I1.pin (Sa, o) (List.mem_append_right _ mS)
    exact seg_end (.ok .next) (.inl ⟨.inr rfl, by rw [q.1, ← hS0, ho], H, I1.unpinned, hSn, qn⟩)
  · refine seg_bind_wrap ?_
    rw [hA]
    refine wpAny_mono (T.item (gcx X A' s4 H4 cenv fp pn) rfl rfl rfl hc i _ s σ0 H _ I0 (hst _ H pl fr) st goes) (fun r s1 hr => ?_) fun _ _ e => e
    obtain ⟨u, rfl, h1⟩ := hr
    refine seg_bind_wrap ?_
    rw [hA]
    refine wpAny_mono h1 (fun _ s2 h2 => ?_) fun _ _ e => e
    obtain ⟨x, H2, I2, rx, yl, st2, fr2⟩ := h2
    have I2' := I2.pinned (hst _ H2 pl fr2) (T.obj _ _ st2)
    refine seg_bind_wrap ?_
    rw [hA]
    refine wpAny_mono (hg.run _ s2 σ0 H2 x u _ I2' rx (step x H2 yl)) (fun _ s3 h3 => ?_) fun _ _ e => e.elim
    obtain ⟨σ3, H3, I3, hw3, q3⟩ := h3
    have keeps : ∀ {σ' : L2.St} {H' : Hp} {s' : Shared}, Inv (gcx X A' s4 H4 cenv fp pn) (([] ++ pinsAt [Sa] s.heap) ++ pinsAt fp s2.heap) σ' H' s' → (tn (i + 1) s'.heap ∧ ∀ b ∈ fp, H' b = none) ∧ s'.heap.get? Sa = some o ∧ H' Sa = none := fun {σ' H' s'} I' =>
      ⟨⟨T.keep _ _ _ st2 fun b hb o e => (I'.pin (b, o) (List.mem_append_right _ (List.mem_append_right _ (mem_pinsAt hb e)))).1, fun b hb => by
        obtain ⟨o, e, _⟩ := T.obj _ _ st2 b hb
        exact (I'.pin (b, o) (List.mem_append_right _ (List.mem_append_right _ (mem_pinsAt hb e)))).2.1⟩, by
        have q := I'.pin (Sa, o) (List.mem_append_right _ (List.mem_append_left _ mS))
        exact ⟨q.1, q.2.1⟩⟩
    have back : ∀ {H' : Hp} {s' : Shared}, Inv (gcx X A' s4 H4 cenv fp pn) (([] ++ pinsAt [Sa] s.heap) ++ pinsAt fp s2.heap) σ3 H' s' → Inv (gcx X A' s4 H4 cenv fp pn) [] σ0 H' s' := fun {H' s'} I' => by
      refine (I'.unpinned).unpinned.weak ?_ fun j v e => ?_
      · rw [← hw3, wipe_length]
      · rw [← hw3] at e
        exact (wipe_some e).1
    refine seg_bind_wrap ?_
    rw [hA]
    refine wpAny_mono (ht.run _ s3 σ3 H3 _ I3 q3) (fun b s5 h5 => ?_) fun _ _ e => e.elim
    obtain ⟨H5, I5, q5⟩ := h5
    cases b with
    | false =>
      simp only [Bool.false_eq_true, if_false]
      obtain ⟨m', hm, w'⟩ := hN n H5 q5
      obtain ⟨⟨k1, k2⟩, k3, k4⟩ := keeps I5
      exact seg_again rfl (ih m' hm n (i + 1) H5 s₀ s5 (back I5) k4 ⟨o, k3, hoc⟩ (by rw [k3, ← hS0, ho]) k1 k2 w')
    | true =>
      simp only [if_true]
      have hy : ∀ v, yieldOut cenv v = yieldValue v := fun v => by simp only [yieldOut, hco, Bool.false_eq_true, if_false]
      simp only [hy]
      rw [Sem.bind_eq_wrap', Sem.bind_eq_wrap', Sem.wrap_wrap, Sem.wrap_wrap]
      refine seg_wrap ?_
      rw [hA]
      refine wpAny_mono (he.run _ s5 σ3 H5 _ I5 q5) (fun v s6 h6 => ?_) fun _ _ e => e.elim
      obtain ⟨y, H6, I6, ry, rfl, n', rfl, q6⟩ := h6
      obtain ⟨t, rfl⟩ := ry
      obtain ⟨⟨k1, k2⟩, k3, k4⟩ := keeps I6
      obtain ⟨m', hm, w'⟩ := hN n' H6 q6
      refine seg_at (seg_yield rfl rfl rfl ⟨H6, σ3, t, rfl, I6.unpinned.unpinned, k4, by rw [k3, ← hS0, ho], ⟨o, k3, hoc⟩, fun s' wk => ?_⟩)
      exact seg_again rfl (ih m' hm n' (i + 1) H6 s' s' (inv_wokeS (back I6) k4 (hSo H6 k4) wk) k4 wk.at_ rfl (T.keep _ _ _ k1 fun b hb o e => wk.keep b o (fun z => hSf (z ▸ hb)) e) k2 w')
theorem seg_sx0 (hA : B.over (.compLoop (.GeneratorExp elt [⟨tg, iter, ifs, 0⟩] scope pos) 0 (.ref it) .none cenv) [] = A') (hc : X.calm = true) (hco : cenv.scope.isCoroutine = false) (T : Turn X.prog X.w X.K tg J fp it tn)
    (hst : ∀ (pl : List (Addr × Obj)) (H : Hp), (∀ p ∈ pl, p.1 = Sa) → (∀ b ∈ fp, H b = none) → ∀ b ∈ fp, FpOk (gcx X A' s4 H4 cenv fp pn) pl H b) (hSf : Sa ∉ fp) (hSo : ∀ H : Hp, H Sa = none → FpOk (gcx X A' s4 H4 cenv fp pn) [] H Sa) (hσ : wipe σ0 vs = σ0)
    (hg : PG (gcx X A' s4 H4 cenv fp pn) tg g) (ht : PTs (gcx X A' s4 H4 cenv fp pn) ifs tt) (he : PE (gcx X A' s4 H4 cenv fp pn) elt te) (hturn : TurnsS J g tt te vs σ0 W Qt)
    (m n : Nat) (H : Hp) (s : Shared) (I : Inv (gcx X A' s4 H4 cenv fp pn) [] σ0 H s) (hSn : H Sa = none) (hSe : ∃ o, s.heap.get? Sa = some o ∧ ∀ v, o.data ≠ .cell v) (st : tn 0 s.heap) (fr : ∀ b ∈ fp, H b = none) (w : W 0 m n H) :
      Seg (model X.prog X.w) B (RS (gcx X A' s4 H4 cenv fp pn) σ0 Sa Qt) (YS (gcx X A' s4 H4 cenv fp pn) Sa) n s (.compStart (.GeneratorExp elt [⟨tg, iter, ifs, 0⟩] scope pos) 0 (.ref it) .none cenv)
        ((model X.prog X.w).den (.compStart (.GeneratorExp elt [⟨tg, iter, ifs, 0⟩] scope pos) 0 (.ref it) .none cenv)) [] s := by
  have loop := seg_sx hA hc hco T hst hSf hSo hσ hg ht he hturn m n 0 H s s I hSn hSe rfl st fr w
  show Seg _ B _ _ _ s _ ((compStart (.GeneratorExp elt [⟨tg, iter, ifs, 0⟩] scope pos) 0 (.ref it) .none cenv).onRaise (leaving cenv)) [] s
  unfold compStart
  rw [Sem.onRaise_eq_wrap]
  show Seg _ B _ _ _ s _ ((ask >>= _).wrap _ _ _ _) [] s
  refine seg_bind_wrap (wpAny_askSetting ?_)
  split
  · exact seg_again rfl loop
  · first
      | exact seg_bind_wrap (wpAny_rule (seg_bind_wrap (wpAny_standAt (seg_bind_wrap (T.self _ 0 s _ _ st (seg_again rfl loop))))))
      | (refine seg_bind_wrap (wpAny_rule ?_); show Seg _ B _ _ _ s _ ((standAt iter.pos >>= _).wrap _ _ _ _) [] s; exact seg_bind_wrap (wpAny_standAt (seg_bind_wrap (T.self _ 0 s _ _ st (seg_again rfl loop)))))
end
end Gx
set_option Elab.async false
set_option linter.all false
set_option maxRecDepth 100000
set_option maxHeartbeats 2000000
namespace Gx
open PySem PySem.Spec PyProof.Rows L2 GenW GxR
theorem fits_small (a : Int) (h1 : 0 ≤ a) (h2 : a ≤ 1000000) : ((decide (-(2 ^ 63) ≤ (1 : Int)) && decide ((1 : Int) < 2 ^ 63)) && (decide (-(2 ^ 63) ≤ a + 1) && decide (a + 1 < 2 ^ 63))) = true := by
  rw [decide_eq_true (by omega : -(2 ^ 63) ≤ a + 1), decide_eq_true (by omega : a + 1 < 2 ^ 63)]
  decide
section
variable {P : Program} {w : World} {Y : Cx} {σ0 : L2.St} {Qt : Nat → Hp → Prop} {A : Around} {R : Result → Shared → Prop} {a Sa : Addr} {g N : Nat} {gobj : Obj}
theorem sum_loop (hh : A.handled = none) (hd : A.depth < recursionLimit) (hp : (a, gobj) ∈ Y.pn) (hgo : ∀ s : Shared, s.heap.get? a = some gobj → s.heap.IsGen a g) (haS : a ≠ Sa) (hN : N ≤ 100000) (hSb : Y.base.get? Sa = none)
    (hT : ∀ s₁ H s' n t, Inv Y [] σ0 H s₁ → H Sa = none → Qt n H → (∀ b o, s₁.heap.get? b = some o → s'.heap.get? b = some o) → s'.os = s₁.os → AllBare s'.gens → R (.ok (.ret (.int ((N : Int) - (n : Int)) t))) s') :
    ∀ (n : Nat) (s : Shared) (t : Tok) (c : Nat), n ≤ N → s.heap.IsGen a g → s.heap.NoLimit → s.heap.get? Sa = some { cls := .type "list", dict := none, data := .seq #[.int ((N : Int) - (n : Int)) t] c, slots := #[] } →
      (∃ gs, s.gens[g]? = some gs ∧ gs.Goes (model P w) A.in1.in1 (RS Y σ0 Sa Qt) (YS Y Sa) n (.send .none) (s.setGen g .running)) →
      codeAny (model P w) A (.builtin "sum.loop" ⟨[.ref a, .ref Sa, rawInt 0, rawInt 0], []⟩) R s := by
  intro n
  induction n with
  | zero =>
    intro s t c hnN hg hl hS ⟨gs, hgs, hgoes⟩
    refine codeAny_builtin F.entry_sum_loop ?_
    rw [Around.under_plainId F.plain_sum_loop _]
    show wpAny _ A.in1 (seqItems? (.ref Sa) >>= _) _ _ s
    refine wpAny_bind (wpAny_seqItems hS rfl ?_)
    show wpAny _ A.in1 (tryCatch (pyNext (.ref a)) _ >>= _) _ _ s
    refine wpAny_bind (wpAny_tryCatch (next_genG (A := A.in1) hh hl hd hg hgs hgoes (fun v s₁ gs' hbare hv => ?_) (fun s₁ hq h' hk => ?_) fun e s₁ he => he.elim))
    · obtain ⟨H, σ2, t2, rfl, I, hSn, hS0, hSe, h2⟩ := hv
      exact (h2 s₁ ⟨fun _ _ _ e => e, hSe, rfl, I.bare⟩).elim
    · obtain ⟨hS0, H, I, hSn, q⟩ := hq
      exact wpAny_pure (hT s₁ H _ 0 t I hSn q hk rfl (allBare_setGen I.bare rfl))
  | succ n ih =>
    intro s t c hnN hg hl hS ⟨gs, hgs, hgoes⟩
    have hgl : g < s.gens.size := (Array.getElem?_eq_some_iff.mp hgs).1
    refine codeAny_builtin F.entry_sum_loop ?_
    rw [Around.under_plainId F.plain_sum_loop _]
    show wpAny _ A.in1 (seqItems? (.ref Sa) >>= _) _ _ s
    refine wpAny_bind (wpAny_seqItems hS rfl ?_)
    show wpAny _ A.in1 (tryCatch (pyNext (.ref a)) _ >>= _) _ _ s
    refine wpAny_bind (wpAny_tryCatch (wpAny_gsz (n := g + 1) hgl (next_genG (A := A.in1) hh hl hd hg hgs hgoes (fun v s₁ gs' hbare hv => ?_) (fun s₁ hq h' hk => ?_) fun e s₁ he => he.elim)))
    · intro hsz
      obtain ⟨H, σ2, t2, rfl, I, hSn, hS0, hSe, h2⟩ := hv
      have hsz1 : g < s₁.gens.size := by
        have q : (s₁.setGen g gs').gens.size = s₁.gens.size := setGen_size _ _ _
        have hsz' : g + 1 ≤ (s₁.setGen g gs').gens.size := hsz
        omega
      have hS1 : (s₁.setGen g gs').heap.get? Sa = some { cls := .type "list", dict := none, data := .seq #[.int ((N : Int) - ((n + 1 : Nat) : Int)) t] c, slots := #[] } := hS0.trans hS
      show wpAny _ A.in1 (if (_ : Bool) = true then (mkInt (((N : Int) - ((n + 1 : Nat) : Int)) + 1) >>= _) else _) _ _ _
      split
      · rw [show ((N : Int) - ((n + 1 : Nat) : Int)) + 1 = (N : Int) - (n : Int) by omega]
        refine wpAny_bind (wpAny_mkInt ?_)
        show wpAny _ A.in1 (updateSeq Sa (fun _ => #[.int ((N : Int) - (n : Int)) s₁.toks]) >>= _) _ _ _
        refine wpAny_bind ?_
        have kb : ∀ b o, b ≠ Sa → (s₁.setGen g gs').heap.get? b = some o → ((s₁.setGen g gs').heap.update Sa (Obj.mapSeq fun _ => #[Value.int ((N : Int) - (n : Int)) s₁.toks])).get? b = some o := fun b o hb e => (Heap.get?_update_other _ _ (fun h : Sa = b => hb h.symm)).trans e
        refine wpAny_updateSeq hS1 rfl (wpAny_pure ⟨plainId_quiet F.plain_sum_loop _, ih _ s₁.toks _ (by omega) ?_ ?_ (Heap.get?_update_self _ hS1 rfl) ⟨gs', setGen_at hsz1, ?_⟩⟩)
        · have q := hgo _ (I.pin (a, gobj) (List.mem_append_left _ hp)).1
          exact hgo _ (kb a gobj haS (I.pin (a, gobj) (List.mem_append_left _ hp)).1)
        · exact I.ok.mod.nolimit.keeps fun b o e => kb b o (fun z => by rw [z, hSb] at e; cases e) (I.bk b o e)
        · refine h2 _ ⟨fun b o hb e => kb b o hb e, ⟨_, Heap.get?_update_self _ hS1 rfl, fun v z => by cases z⟩, rfl, ?_⟩
          exact allBare_setGen (s := s₁.setGen g gs') (allBare_setGen I.bare hbare) rfl
      · rename_i hno
        exact absurd (fits_small ((N : Int) - ((n + 1 : Nat) : Int)) (by omega) (by omega)) hno
    · intro hsz
      obtain ⟨hS0, H, I, hSn, q⟩ := hq
      exact wpAny_pure (hT s₁ H _ (n + 1) t I hSn q hk rfl (allBare_setGen I.bare rfl))
end
end Gx
set_option Elab.async false
set_option linter.all false
set_option maxRecDepth 100000
set_option maxHeartbeats 2000000
namespace Gx
open PySem PySem.Spec PyProof.Rows L2 GenW GxR
theorem inv_more {Y : Cx} {σ : L2.St} {H : Hp} {s s' : Shared} (I : Inv Y [] σ H s) (k : ∀ b o, s.heap.get? b = some o → s'.heap.get? b = some o) (ho : s'.os = s.os) (hb : AllBare s'.gens) : Inv Y [] σ H s' :=
  I.call' (ch := []) ho (Un.kept k) (I.hok.kept k) hb fun b hb => nomatch hb
section
variable {X : Cx} {pins : List (Addr × Obj)} {σ : L2.St} {H : Hp} {s : Shared}
theorem gen_readyS {c P : Addr} {elt tg iter : Expr} {ifs : List Expr} {scope : Scope} {own : List (Str × Nat)} {gpos : Pos} {wi : TI} {g : TG} {tt : TT} {te : TE} {k : Nat} {Q' : Value → Shared → Prop} {Qt : Nat → Nat → Hp → Prop}
    (hc : X.calm = true) (hr : Room (k + 1) X.A) (hN : X.N.Nodup) (TB : TabB X.base X.mg c P) (hcode : X.env.code = .ref c) (S : GenOk X.env X.N scope own) (hi : PI X tg iter wi)
    (hg : ∀ (A' : Around) (s : Shared) (H : Hp) (cl : List (Str × Addr)) (C : Addr) (code : Value) (fp : List Addr) (pn : List (Addr × Obj)), Room k A' → PG (gcx X A' s H (genEnv scope cl C code builtinsNs X.env) fp pn) tg g)
    (ht : ∀ (A' : Around) (s : Shared) (H : Hp) (cl : List (Str × Addr)) (C : Addr) (code : Value) (fp : List Addr) (pn : List (Addr × Obj)), Room k A' → PTs (gcx X A' s H (genEnv scope cl C code builtinsNs X.env) fp pn) ifs tt)
    (he : ∀ (A' : Around) (s : Shared) (H : Hp) (cl : List (Str × Addr)) (C : Addr) (code : Value) (fp : List Addr) (pn : List (Addr × Obj)), Room k A' → PE (gcx X A' s H (genEnv scope cl C code builtinsNs X.env) fp pn) elt te)
    (hs : ∀ v, genFold iter X.env v = pure v) (I : Inv X pins σ H s)
    (h : wi σ H fun J H1 => TabG H1 P ∧ ∀ H2, Tabbed P H1 H2 → ∃ (W : Nat → Nat → Nat → Hp → Prop) (N : Nat), N ≤ 100000 ∧ (∃ m, W 0 m N H2) ∧ TurnsS J g tt te (own.map (·.2)) (wipe σ (own.map (·.2))) W (Qt N))
    (hQ : ∀ (a : Addr) (gi N : Nat) (s5 : Shared) (Y : Cx) (gobj : Obj), N ≤ 100000 → (a, gobj) ∈ Y.pn → (∀ s : Shared, s.heap.get? a = some gobj → s.heap.IsGen a gi) → s5.heap.get? a = some gobj → s5.heap.NoLimit → Y.base.get? s5.heap.objs.size = none →
      (∀ (s6 : Shared) (o : Obj), s6.gens = s5.gens → s6.os = s5.os → (∀ b o, s5.heap.get? b = some o → s6.heap.get? b = some o) → s6.heap.get? s5.heap.objs.size = some o → (∀ v, o.data ≠ .cell v) →
        ∃ gs, s6.gens[gi]? = some gs ∧ gs.Goes (model X.prog X.w) X.A.in1.in1 (RS Y (wipe σ (own.map (·.2))) s5.heap.objs.size (Qt N)) (YS Y s5.heap.objs.size) N (.send .none) (s6.setGen gi .running)) →
      (∀ s₁ H σ2 s', Inv Y [] σ2 H s₁ → (∀ b o, s₁.heap.get? b = some o → s'.heap.get? b = some o) → s'.os = s₁.os → AllBare s'.gens → Inv X pins σ H s') → Q' (.ref a) s5) :
    wpAny (model X.prog X.w) X.A (eval (.GeneratorExp elt [⟨tg, iter, ifs, 0⟩] scope gpos) X.env) Q' X.xe s := by
  have hfree : ∀ y ∈ scope.names, y.2 = .free → ∃ c, X.env.cells.lookup y.1 = some c := fun y hy e => by
    rcases S.blk.free y hy e with k | k
    · exact I.ok.has _ (.inl k)
    · exact I.ok.has _ (.inr k)
  refine wpAny_GeneratorExp_make S.co (closure_ok hfree) S.cell S.dot S.blk.kind (by have := hr.dp; omega) ?_ hs
  refine thn (hi.run pins s σ H _ I h) fun v s1 h1 => thn h1 fun itv s2 h2 => ?_
  obtain ⟨it, fp, tn, J, H1, rfl, I1, T, st1, f1, ⟨ps, hP, htr⟩, q1⟩ := h2
  have hPs : s2.heap.get? P = some { cls := .none, data := .fields ps } := I1.hok P _ hP
  have cd : PySem.W.CodeHd s2.heap c P := TB.code.keeps fun b u e => I1.bk b u e
  refine ⟨I1.nolimit, ?_⟩
  have nfP : ∀ b ∈ fp, b ≠ P := fun b hb z => by
    have := (f1 b hb).1
    rw [z, hP] at this
    cases this
  have cont : ∀ (code : Value) (h3 : Heap) (tk : Nat) (more : Array Value), Heap.ExtBut P s2.heap h3 → s2.heap.objs.size ≤ h3.objs.size → h3.get? P = some { cls := .none, data := .fields (ps ++ more) } → TriplesOk (ps ++ more).toList →
      wpAny (model X.prog X.w) X.A (builtinsFor X.env.globals X.env.builtins) (fun bi s₄ =>
        ∀ h', h'.Ns s₄.heap.objs.size (fun y => if y = ".0" then some (.ref it) else none) → Heap.SameBut s₄.heap.objs.size (s₄.heap.push { cls := .type "frame", data := .dict #[] }) h' →
          Q' (.ref h'.objs.size) { s₄ with
            gens := s₄.gens.push (.fresh (.compStart (.GeneratorExp elt [⟨tg, iter, ifs, 0⟩] scope gpos) 0 (.ref it) .none (genEnv scope (cloFrom X.env.cells scope.names []) s₄.heap.objs.size code bi X.env))),
            toks := s₄.toks + 1 + 1 + 1,
            heap := h'.push { cls := .type "generator", data := .fields #[.int s₄.gens.size 0, .str "<genexpr>" (s₄.toks + 1), .str (X.env.qual ++ "<genexpr>") (s₄.toks + 1 + 1)] } }) X.xe { s2 with heap := h3, toks := tk } := by
    intro code h3 tk more hx hsz hP3 ht3
    obtain ⟨bm, ob, e1, e2, e3, e4, e5, e6, e7, e8⟩ := TB.bm
    refine wpAny_builtinsFor (m := X.mg) (by rw [I1.ok.glob]; exact (I1.mod.glob.keeps I1.bk).extBut hx TB.gP) e1 e2 (hx _ _ e4 (I1.bk _ _ e5)) e6 e7 e8 ?_
    intro h' hns hsb
    have J2 : Inv X pins σ (upd H1 P (.tbl (ps ++ more))) { s2 with heap := h3, toks := tk } := inv_tab (more := more) (g' := s2.gens) (d' := s2.drawn) I1 hP (fun b u hb e => hx b u hb e) hP3 I1.bare
    obtain ⟨W, N, hN5, ⟨m, w0⟩, hturn⟩ := q1 _ ⟨⟨ps ++ more, upd_same, ht3⟩, fun b hb => upd_ne hb⟩
    -- the new objects
    have szp : (h3.push { cls := .type "frame", data := .dict #[] }).objs.size = h3.objs.size + 1 := Heap.size_push ..
    have sz' : h'.objs.size = h3.objs.size + 1 := by rw [← szp]; exact hsb.1
    have kp : ∀ b o, h3.get? b = some o → (h'.push { cls := .type "generator", data := .fields #[.int s2.gens.size 0, .str "<genexpr>" (tk + 1), .str (X.env.qual ++ "<genexpr>") (tk + 1 + 1)] }).get? b = some o := fun b o e =>
      Heap.get?_push_of_some _ ((hsb.2 b (Nat.ne_of_lt (Heap.lt_size e))).trans (Heap.get?_push_of_some _ e))
    have f2 : ∀ b ∈ fp, FpOk X pins (upd H1 P (.tbl (ps ++ more))) b ∧ b < h3.objs.size := fun b hb => by
      obtain ⟨o, e, _⟩ := T.obj _ _ st1 b hb
      refine ⟨⟨by rw [upd_ne (nfP b hb)]; exact (f1 b hb).1, (f1 b hb).2⟩, Nat.lt_of_lt_of_le (Heap.lt_size e) hsz⟩
    have st3 : tn 0 h3 := T.keep _ _ _ st1 fun b hb o e => hx b o (nfP b hb) e
    obtain ⟨A', hA'⟩ : ∃ A', X.A.in1.in1.over (.compLoop (.GeneratorExp elt [⟨tg, iter, ifs, 0⟩] scope gpos) 0 (.ref it) .none (genEnv scope (cloFrom X.env.cells scope.names []) h3.objs.size code builtinsNs X.env)) [] = A' := ⟨_, rfl⟩
    have hroom : Room k A' := by rw [← hA']; exact room_gen hr
    have hfrm : A'.frames = some (genEnv scope (cloFrom X.env.cells scope.names []) h3.objs.size code builtinsNs X.env :: X.stack) := by
      have e : X.A.frames = some X.stack := I1.ok.frames
      rw [← hA']
      unfold Around.over
      dsimp only
      rw [e]
      rfl
    have start : ∀ gens' : Array GenState, AllBare gens' → ∀ tk', Inv (gcx X A' { s2 with heap := h3, toks := tk } (upd H1 P (.tbl (ps ++ more))) (genEnv scope (cloFrom X.env.cells scope.names []) h3.objs.size code builtinsNs X.env) fp [(h'.objs.size, _)]) [] (wipe σ (own.map (·.2))) (upd H1 P (.tbl (ps ++ more)))
        { s2 with gens := gens', toks := tk', heap := h'.push { cls := .type "generator", data := .fields #[.int s2.gens.size 0, .str "<genexpr>" (tk + 1), .str (X.env.qual ++ "<genexpr>") (tk + 1 + 1)] } } := fun gens' hb tk' =>
      gen_start (code := code) J2 S.blk hN S.cell f2 hroom.hd rfl hfrm rfl hb kp (Heap.Ns.keeps hns fun b o e => Heap.get?_push_of_some _ e) (fun p hp => by
        rw [List.mem_singleton.mp hp]
        exact ⟨Heap.get?_push_size _ rfl, by show h3.objs.size < h'.objs.size; rw [sz']; exact Nat.lt_succ_self _, fun v z => by cases z⟩)
    have hgen : ∀ s : Shared, s.heap.get? h'.objs.size = some { cls := .type "generator", data := .fields #[.int s2.gens.size 0, .str "<genexpr>" (tk + 1), .str (X.env.qual ++ "<genexpr>") (tk + 1 + 1)] } → s.heap.IsGen h'.objs.size s2.gens.size := fun s e => ⟨_, _, _, e, rfl, rfl, rfl⟩
    have sz5 : (h'.push { cls := .type "generator", data := .fields #[.int s2.gens.size 0, .str "<genexpr>" (tk + 1), .str (X.env.qual ++ "<genexpr>") (tk + 1 + 1)] }).objs.size = h3.objs.size + 2 := by rw [Heap.size_push, sz']
    have I5 := start s2.gens I1.bare 0
    have hb5 : X.base.get? (h3.objs.size + 2) = none := by
      cases q : X.base.get? (h3.objs.size + 2) with
      | none => rfl
      | some o =>
        exact absurd (Nat.lt_of_lt_of_eq (Heap.lt_size (I5.bk _ o q)) sz5) (Nat.lt_irrefl _)
    refine hQ h'.objs.size s2.gens.size N _ (gcx X A' { s2 with heap := h3, toks := tk } (upd H1 P (.tbl (ps ++ more))) (genEnv scope (cloFrom X.env.cells scope.names []) h3.objs.size code builtinsNs X.env) fp [(h'.objs.size, _)]) _ hN5 (List.mem_singleton.mpr rfl) hgen (Heap.get?_push_size _ rfl) I5.nolimit (by dsimp only; rw [sz5]; exact hb5) (fun s6 o6 hg6 ho6 kp6 hS6 hoc6 => ⟨.fresh (.compStart (.GeneratorExp elt [⟨tg, iter, ifs, 0⟩] scope gpos) 0 (.ref it) .none (genEnv scope (cloFrom X.env.cells scope.names []) h3.objs.size code builtinsNs X.env)), by rw [hg6]; exact Array.getElem?_push_size, rfl, ?_⟩) fun s₁ Hz σ2 s' Iz ext hos hbz => ?_
    · have bare5 : AllBare (s2.gens.push (.fresh (.compStart (.GeneratorExp elt [⟨tg, iter, ifs, 0⟩] scope gpos) 0 (.ref it) .none (genEnv scope (cloFrom X.env.cells scope.names []) h3.objs.size code builtinsNs X.env)))) := I1.bare.push rfl
      have hst : ∀ (pl : List (Addr × Obj)) (H : Hp), (∀ p ∈ pl, p.1 = (h'.push { cls := .type "generator", data := .fields #[.int s2.gens.size 0, .str "<genexpr>" (tk + 1), .str (X.env.qual ++ "<genexpr>") (tk + 1 + 1)] }).objs.size) → (∀ b ∈ fp, H b = none) → ∀ b ∈ fp, FpOk (gcx X A' { s2 with heap := h3, toks := tk } (upd H1 P (.tbl (ps ++ more))) (genEnv scope (cloFrom X.env.cells scope.names []) h3.objs.size code builtinsNs X.env) fp [(h'.objs.size, _)]) pl H b := fun pl Hq hpl hq b hb => by
        have ok := I5.ok
        refine ⟨hq b hb, (ok.exf b hb).1, ok.exfs b hb, .inl hb, (ok.exf b hb).2, fun p hp => ?_⟩
        have := (f2 b hb).2
        rcases List.mem_append.mp hp with hp | hp
        · rw [List.mem_singleton.mp hp]
          show h'.objs.size ≠ b
          rw [sz']
          exact Nat.ne_of_gt (Nat.lt_succ_of_lt this)
        · rw [hpl p hp, sz5]
          exact Nat.ne_of_gt (Nat.lt_of_lt_of_le this (Nat.le_add_right _ 2))
      have wf : wipe (wipe σ (own.map (·.2))) (own.map (·.2)) = wipe σ (own.map (·.2)) := wipe_wipe _ _
      have fS : upd H1 P (.tbl (ps ++ more)) (h'.push { cls := .type "generator", data := .fields #[.int s2.gens.size 0, .str "<genexpr>" (tk + 1), .str (X.env.qual ++ "<genexpr>") (tk + 1 + 1)] }).objs.size = none := I5.hok.fresh (Nat.le_refl _)
      have I6 := inv_more (s' := s6.setGen s2.gens.size .running) I5 (fun b o e => kp6 b o e) (ho6.trans rfl) (allBare_setGen (s := s6) (by rw [hg6]; exact bare5) rfl)
      exact seg_sx0 hA' hc S.co T hst (fun z => Nat.lt_irrefl _ (Nat.lt_of_lt_of_eq (Nat.lt_of_lt_of_le (f2 _ z).2 (Nat.le_add_right _ 2)) sz5.symm)) (fun Hq hq => I5.fpOk (Nat.le_refl _) hq) wf (hg _ _ _ _ _ _ _ _ hroom) (ht _ _ _ _ _ _ _ _ hroom) (he _ _ _ _ _ _ _ _ hroom) hturn m N _ _ I6 fS ⟨o6, hS6, hoc6⟩ (T.keep _ _ _ st3 fun b hb o e => kp6 b o (kp b o e)) (fun b hb => (f2 b hb).1.1) w0
    · have u : Un (frs X.stack) fp (upd H1 P (.tbl (ps ++ more))) Hz h3 s'.heap := Iz.base.trans (Un.kept ext)
      refine J2.call' (s' := s') (hos.trans Iz.os) u (Iz.hok.kept ext) hbz fun b hb => ?_
      obtain ⟨⟨_, a1, _, a3, a4, a5⟩, _⟩ := f2 b hb
      exact ⟨a3, a1, a4, a5⟩
  cases hf : codeAmong gpos ps.toList with
  | none =>
    refine wpAny_genexprCodeX hcode (cd.code hPs htr) (cd.tab hPs) hf fun c' h' tk hx hge hlt hco' _ htab' _ => ?_
    obtain ⟨o1, vs, f1, tf, fl, tg, inF, tx, tt, op, _, _, _, _, _, _, _, _, _, htr', _⟩ := hco'
    exact cont _ h' tk _ hx (Nat.le_trans hge (Nat.le_of_lt hlt)) htab'.2 htr'
  | some cv =>
    refine wpAny_genexprCode_hit hcode (cd.code hPs htr) hf ?_
    exact cont cv s2.heap s2.toks #[] (Heap.ExtBut.refl _ _) (Nat.le_refl _) (by rw [Array.append_empty]; exact hPs) (by rw [Array.append_empty]; exact htr)
end
/-- sum(1 for x in .. if ..) -/
def tSum (P : Addr) (wi : TI) (g : TG) (tt : TT) (te : TE) (vs : List Nat) : TE := fun σ H Q => wi σ H fun J H1 => TabG H1 P ∧ ∀ H2, Tabbed P H1 H2 →
  ∃ (W : Nat → Nat → Nat → Hp → Prop) (N : Nat), N ≤ 100000 ∧ (∃ m, W 0 m N H2) ∧ TurnsS J g tt te vs (wipe σ vs) W fun n H => Q (.int ((N : Int) - (n : Int))) H
section
variable {X : Cx} {c P : Addr} {elt tg iter : Expr} {ifs : List Expr} {scope : Scope} {own : List (Str × Nat)} {p pos gpos : Pos} {wi : TI} {g : TG} {tt : TT} {te : TE} {k : Nat}
theorem pe_sumG (hc : X.calm = true) (hr : Room (k + 1) X.A) (hN : X.N.Nodup) (hgl : Gl X "sum") (hm : X.mg "sum" = none) (hb : bootBuiltins "sum" = some (.builtin "sum")) (TB : TabB X.base X.mg c P) (hcode : X.env.code = .ref c) (S : GenOk X.env X.N scope own) (hi : PI X tg iter wi)
    (hg : ∀ (A' : Around) (s : Shared) (H : Hp) (cl : List (Str × Addr)) (C : Addr) (code : Value) (fp : List Addr) (pn : List (Addr × Obj)), Room k A' → PG (gcx X A' s H (genEnv scope cl C code builtinsNs X.env) fp pn) tg g)
    (ht : ∀ (A' : Around) (s : Shared) (H : Hp) (cl : List (Str × Addr)) (C : Addr) (code : Value) (fp : List Addr) (pn : List (Addr × Obj)), Room k A' → PTs (gcx X A' s H (genEnv scope cl C code builtinsNs X.env) fp pn) ifs tt)
    (he : ∀ (A' : Around) (s : Shared) (H : Hp) (cl : List (Str × Addr)) (C : Addr) (code : Value) (fp : List Addr) (pn : List (Addr × Obj)), Room k A' → PE (gcx X A' s H (genEnv scope cl C code builtinsNs X.env) fp pn) elt te)
    (hs : ∀ v, genFold iter X.env v = pure v := by intro _; rfl)
    (hst : starEach [.GeneratorExp elt [⟨tg, iter, ifs, 0⟩] scope gpos] X.env = (false, eval (.GeneratorExp elt [⟨tg, iter, ifs, 0⟩] scope gpos) X.env) :: starEach [] X.env := by rfl) :
    PE X (.Call (.Name "sum" p) [.GeneratorExp elt [⟨tg, iter, ifs, 0⟩] scope gpos] [] pos) (tSum P wi g tt te (own.map (·.2))) := by
  refine ⟨fun pins s σ H Q I h => ?_⟩
  refine wpAny_Call_Name_kw (ld_blt I hgl hm hb ?_)
  refine PyProof.Rows.callWith_builtin1 ?_ hst (by rfl)
  rw [hst]
  show wpAny _ _ (spliced ((false, eval (.GeneratorExp elt [⟨tg, iter, ifs, 0⟩] scope gpos) X.env) :: backTo pos (starEach [] X.env))) _ _ s
  refine Calls.spliced_cons (gen_readyS (Qt := fun N n H => Q (.int ((N : Int) - (n : Int))) H) hc hr hN TB hcode S hi hg ht he hs I h fun a gi N s5 Y gobj hN5 hpn hgo hg5 hl5 hb5 hgoes back => ?_)
  refine Calls.spliced_nil ?_
  refine call_function_tree F.kind_sum F.plain_sum F.entry_sum (F.args_sum1 _) ?_
  unfold Builtin.«sum»
  simp only [List.length_cons, List.length_nil]
  rw [if_neg (by decide)]
  refine wpAny_bind (wpAny_of_eq (show Builtin.Builtins.bindParams "sum" ["start"] 0 { } = pure [none] from rfl) ?_)
  refine wpAny_bind (wpAny_pyIter_gen (hgo _ hg5) ?_)
  refine wpAny_bind (wpAny_mkInt ?_)
  refine wpAny_bind (wpAny_pure ?_)
  simp only [List.forIn_cons, List.forIn_nil]
  refine wpAny_bind (wpAny_bind (wpAny_bind (wpAny_isInstance (T := "int") (b := false) (typeIs_int _ _ _) PySem.sub_int_str ?_)))
  simp only [Bool.false_eq_true, if_false]
  refine wpAny_pure (wpAny_bind (wpAny_bind (wpAny_isInstance (T := "int") (b := false) (typeIs_int _ _ _) PySem.sub_int_bytes ?_)))
  simp only [Bool.false_eq_true, if_false]
  refine wpAny_pure (wpAny_bind (wpAny_bind (wpAny_isInstance (T := "int") (b := false) (typeIs_int _ _ _) PySem.sub_int_bytearray ?_)))
  simp only [Bool.false_eq_true, if_false]
  refine wpAny_pure (wpAny_pure ?_)
  refine wpAny_bind (wpAny_newObj_type ?_)
  have ext : ∀ b o, s5.heap.get? b = some o → (s5.heap.push { cls := .type "list", data := .seq #[.int 0 s5.toks] 0 }).get? b = some o := fun b o e => Heap.get?_push_of_some _ e
  refine wpAny_pure ⟨plainId_quiet F.plain_sum_loop _, sum_loop (Sa := s5.heap.objs.size) (σ0 := wipe σ (own.map (·.2))) (Qt := fun n H => Q (.int ((N : Int) - (n : Int))) H) hr.hd hr.depth hpn hgo (Nat.ne_of_lt (Heap.lt_size hg5)) hN5 hb5 (fun s₁ Hz s' n t Iz hz q ext hos hb => ⟨.int ((N : Int) - (n : Int)), Hz, back s₁ Hz _ s' Iz ext hos hb, ⟨t, rfl⟩, q⟩) N _ s5.toks 0 (Nat.le_refl _) (hgo _ (ext _ _ hg5)) ?_ ?_ ?_⟩
  · exact hl5.keeps ext
  · rw [Int.sub_self]
    exact Heap.get?_push_size _ rfl
  · exact hgoes _ _ rfl rfl ext (Heap.get?_push_size _ rfl) (fun v z => by cases z)
end
end Gx
set_option Elab.async false
set_option linter.all false
set_option maxRecDepth 100000
/-! Data layer: what readings ask, said of data (PyData) and of a list of slots. -/
namespace Dl
open PySem PySem.Spec PyProof.Rows L2

/-! ### data stand where the heap only grows -/
theorem rd_mono {G G' : Hp} (e : Same G G') {a : Addr} {u : HO} (h : Rd G a u) : Rd G' a u := by
  rcases h with h | ⟨o, h⟩
  · exact .inl (e _ _ h)
  · exact .inr ⟨o, e _ _ h⟩
theorem sqT_mono {K : PySem.W.Frag} {G G' : Hp} (e : Same G G') {a : Addr} {xs : List V} (h : SqT K G a xs) : SqT K G' a xs := by
  rcases h with h | h
  · exact .inl (rd_mono e h)
  · exact .inr h
theorem sqL_mono {K : PySem.W.Frag} {G G' : Hp} (e : Same G G') {a : Addr} {xs : List V} (h : SqL K G a xs) : SqL K G' a xs := e.seq h
mutual
theorem dp_mono {K : PySem.W.Frag} {G G' : Hp} (e : Same G G') : ∀ (d : PyData) (v : V), Dp K G v d → Dp K G' v d
  | .none, _, h => by cases h; exact .non
  | .bool b, _, h => by cases h; exact .bl b
  | .int i, _, h => by cases h; exact .int i
  | .str x, _, h => by cases h; exact .str x
  | .list ds, _, h => by
    cases h with
    | lst hs ha => exact .lst (sqL_mono e hs) (dpa_mono e ds _ ha)
  | .tuple ds, _, h => by
    cases h with
    | tup hs ha => exact .tup (sqT_mono e hs) (dpa_mono e ds _ ha)
  | .dict _, _, h => by cases h
theorem dpa_mono {K : PySem.W.Frag} {G G' : Hp} (e : Same G G') : ∀ (ds : List PyData) (vs : List V), DpAll K G vs ds → DpAll K G' vs ds
  | [], _, h => by cases h; exact .nil
  | d :: ds, _, h => by
    cases h with
    | cons h1 h2 => exact .cons (dp_mono e d _ h1) (dpa_mono e ds _ h2)
end
theorem dpa_len {K : PySem.W.Frag} {G : Hp} : ∀ {vs : List V} {ds : List PyData}, DpAll K G vs ds → vs.length = ds.length
  | _, _, .nil => rfl
  | _, _, .cons _ h => by rw [List.length_cons, List.length_cons, dpa_len h]
theorem dpa_get {K : PySem.W.Frag} {G : Hp} : ∀ {vs : List V} {ds : List PyData} {i : Nat} {d : PyData}, DpAll K G vs ds → ds[i]? = some d → ∃ v, vs[i]? = some v ∧ Dp K G v d
  | _, _, _, _, .nil, e => by simp at e
  | _, _, 0, _, .cons (v := v) h _, e => by
    have e' := Option.some.inj e
    subst e'
    exact ⟨v, rfl, h⟩
  | _, _, i + 1, d, .cons _ t, e => dpa_get (i := i) (d := d) t e
theorem dpa_getV {K : PySem.W.Frag} {G : Hp} : ∀ {vs : List V} {ds : List PyData} {i : Nat} {v : V}, DpAll K G vs ds → vs[i]? = some v → ∃ d, ds[i]? = some d ∧ Dp K G v d
  | _, _, _, _, .nil, e => by simp at e
  | _, _, 0, _, .cons (d := d) h _, e => by
    have e' := Option.some.inj e
    subst e'
    exact ⟨d, rfl, h⟩
  | _, _, i + 1, v, .cons _ t, e => dpa_getV (i := i) (v := v) t e
theorem dpa_app {K : PySem.W.Frag} {G : Hp} : ∀ {vs ws : List V} {ds es : List PyData}, DpAll K G vs ds → DpAll K G ws es → DpAll K G (vs ++ ws) (ds ++ es)
  | _, _, _, _, .nil, h => h
  | _, _, _, _, .cons h t, h' => .cons h (dpa_app t h')
theorem dpa_take {K : PySem.W.Frag} {G : Hp} : ∀ (n : Nat) {vs : List V} {ds : List PyData}, DpAll K G vs ds → DpAll K G (vs.take n) (ds.take n)
  | 0, _, _, _ => .nil
  | _ + 1, _, _, .nil => .nil
  | n + 1, _, _, .cons h t => .cons h (dpa_take n t)
theorem dpa_drop {K : PySem.W.Frag} {G : Hp} : ∀ (n : Nat) {vs : List V} {ds : List PyData}, DpAll K G vs ds → DpAll K G (vs.drop n) (ds.drop n)
  | 0, _, _, h => h
  | _ + 1, _, _, .nil => .nil
  | n + 1, _, _, .cons _ t => dpa_drop n t
theorem dpa_set {K : PySem.W.Frag} {G : Hp} {v : V} {d : PyData} (hd : Dp K G v d) : ∀ (n : Nat) {vs : List V} {ds : List PyData}, DpAll K G vs ds → DpAll K G (vs.set n v) (ds.set n d)
  | _, _, _, .nil => .nil
  | 0, _, _, .cons _ t => .cons hd t
  | n + 1, _, _, .cons h t => .cons h (dpa_set hd n t)

/-! ### the pen, the spring -/
inductive PK where
  | pen (c : Addr) (n : Nat)
  | spr
structure Pn where
  a : Addr
  k : PK
def Pn.on (p : Pn) (a : Addr) : Prop := a = p.a ∨ ∃ c n, p.k = .pen c n ∧ a = c
def PkOk (H : Hp) (a : Addr) : PK → Prop
  | .pen c n => ∃ (cells : List Int) (at_ rest : Int), H a = some (.lst [.ref c, .int at_, .int rest]) ∧ H c = some (.lst (cells.map V.int)) ∧ 0 ≤ at_ ∧ 0 ≤ rest ∧ cells.length = n
  | .spr => ∃ z : Int, H a = some (.lst [.int z])
def PenOk (p : Pn) (H : Hp) : Prop := PkOk H p.a p.k
/-- what may change: the pen, the tables of code objects -/
structure Pc where
  pen : Option Pn
  ts : List Addr
def POk (c : Pc) (H : Hp) : Prop := (∀ p, c.pen = some p → PenOk p H) ∧ ∀ P ∈ c.ts, GxR.TabG H P
/-- a is the pen's own list or a table -/
def IsPn (c : Pc) (a : Addr) : Prop := (∃ p, c.pen = some p ∧ a = p.a) ∨ a ∈ c.ts
theorem PenOk.mono {p : Pn} {H H' : Hp} (h : PenOk p H) (k : ∀ a o, p.on a → H a = some o → H' a = some o) : PenOk p H' := by
  obtain ⟨a, kk⟩ := p
  cases kk with
  | pen c n =>
    obtain ⟨cells, at_, rest, h1, h2, h3⟩ := h
    exact ⟨cells, at_, rest, k _ _ (.inl rfl) h1, k _ _ (.inr ⟨c, n, rfl, rfl⟩) h2, h3⟩
  | spr =>
    obtain ⟨z, h1⟩ := h
    exact ⟨z, k _ _ (.inl rfl) h1⟩
theorem PenOk.lst {p : Pn} {H : Hp} (h : PenOk p H) {a : Addr} (o : p.on a) : ∃ xs, H a = some (.lst xs) := by
  obtain ⟨b, kk⟩ := p
  cases kk with
  | pen c n =>
    obtain ⟨cells, at_, rest, h1, h2, h3⟩ := h
    rcases o with rfl | ⟨c', n', e, rfl⟩
    · exact ⟨_, h1⟩
    · cases e; exact ⟨_, h2⟩
  | spr =>
    obtain ⟨z, h1⟩ := h
    rcases o with rfl | ⟨c', n', e, rfl⟩
    · exact ⟨_, h1⟩
    · cases e
theorem POk.keep {pen : Pc} {H H' : Hp} (h : POk pen H) (k : ∀ a o, H a = some o → H' a = some o) : POk pen H' := by
  refine ⟨fun p hp => (h.1 p hp).mono fun a o _ e => k a o e, fun P hP => ?_⟩
  obtain ⟨ps, e, t⟩ := h.2 P hP
  exact ⟨ps, k _ _ e, t⟩
/-- tables and the pen stand apart -/
theorem POk.apart {pen : Pc} {H : Hp} (h : POk pen H) {p : Pn} (hp : pen.pen = some p) {P : Addr} (hP : P ∈ pen.ts) : ¬ p.on P := fun z => by
  obtain ⟨xs, h1⟩ := (h.1 p hp).lst z
  obtain ⟨ps, e, t⟩ := h.2 P hP
  rw [h1] at e; cases e

structure Vw (pen : Pc) (G H : Hp) : Prop where
  vw : Same G H
  no : ∀ a, IsPn pen a → G a = none
  ok : POk pen H
structure Go (pen : Pc) (G H G' H' : Hp) : Prop where
  gg : Same G G'
  nw : ∀ a, H a ≠ none → G' a = G a
  od : ∀ a o, ¬ IsPn pen a → H a = some o → H' a = some o
  vw : Vw pen G' H'
theorem POk.there {pen : Pc} {H : Hp} {a : Addr} (h : POk pen H) (p : IsPn pen a) : H a ≠ none := by
  rcases p with ⟨q, hq, rfl⟩ | hP
  · obtain ⟨xs, h1⟩ := (h.1 q hq).lst (.inl rfl)
    rw [h1]
    exact fun z => by cases z
  · obtain ⟨ps, e, t⟩ := h.2 a hP
    rw [e]
    exact fun z => by cases z
theorem Go.dom {pen : Pc} {G H G' H' : Hp} (g : Go pen G H G' H') {a : Addr} (h : H a ≠ none) : H' a ≠ none := by
  by_cases p : IsPn pen a
  · exact g.vw.ok.there p
  · cases e : H a with
    | none => exact absurd e h
    | some o =>
      rw [g.od a o p e]
      exact fun z => by cases z
theorem Go.refl {pen : Pc} {G H : Hp} (v : Vw pen G H) : Go pen G H G H := ⟨Same.refl _, fun _ _ => rfl, fun _ _ _ e => e, v⟩
theorem Go.trans {pen : Pc} {G H G1 H1 G2 H2 : Hp} (a : Go pen G H G1 H1) (b : Go pen G1 H1 G2 H2) : Go pen G H G2 H2 :=
  ⟨a.gg.trans b.gg, fun x h => (b.nw x (a.dom h)).trans (a.nw x h), fun x o p e => b.od x o p (a.od x o p e), b.vw⟩
/-- a new object that never changes -/
theorem Go.new {pen : Pc} {G H : Hp} (v : Vw pen G H) {p : Addr} {o : HO} (h : H p = none) : Go pen G H (upd G p o) (upd H p o) := by
  have np : ∀ a, IsPn pen a → a ≠ p := fun a q e => v.ok.there q (e ▸ h)
  have kH : ∀ a u, H a = some u → upd H p o a = some u := fun a u e => by rw [upd_ne (ne_of_none e h)]; exact e
  refine ⟨fun a u e => ?_, fun a e => ?_, fun a u _ e => kH a u e, ⟨fun a u e => ?_, fun a q => ?_, v.ok.keep kH⟩⟩
  · have h' : G p = none := by
      cases q : G p with
      | none => rfl
      | some u => rw [v.vw _ _ q] at h; cases h
    rw [upd_ne (ne_of_none e h')]; exact e
  · rw [upd_ne (fun (z : a = p) => e (by rw [z]; exact h))]
  · by_cases q : a = p
    · subst q; rw [upd_same] at e ⊢; exact e
    · rw [upd_ne q] at e ⊢; exact v.vw _ _ e
  · rw [upd_ne (np a q)]; exact v.no a q
/-- a new object that is not looked at as data -/
theorem Go.hid {pen : Pc} {G H : Hp} (v : Vw pen G H) {p : Addr} {o : HO} (h : H p = none) : Go pen G H G (upd H p o) := by
  have kH : ∀ a u, H a = some u → upd H p o a = some u := fun a u e => by rw [upd_ne (ne_of_none e h)]; exact e
  exact ⟨Same.refl _, fun _ _ => rfl, fun a u _ e => kH a u e, ⟨fun a u e => kH a u (v.vw a u e), v.no, v.ok.keep kH⟩⟩
/-- what a def without the pen does, seen by one who has it -/
theorem Go.lift {pn : Option Pn} {ts : List Addr} {G H G' H' : Hp} (v : Vw ⟨pn, ts⟩ G H) (g : Go ⟨none, ts⟩ G H G' H') : Go ⟨pn, ts⟩ G H G' H' := by
  have k : ∀ a o, a ∉ ts → H a = some o → H' a = some o := fun a o n e => g.od a o (fun z => by
    rcases z with ⟨p, z, _⟩ | z
    · cases z
    · exact n z) e
  refine ⟨g.gg, g.nw, fun a o n e => k a o (fun z => n (.inr z)) e, ⟨g.vw.vw, fun a q => (g.nw a (v.ok.there q)).trans (v.no a q), fun p hp => ?_, g.vw.ok.2⟩⟩
  exact (v.ok.1 p hp).mono fun a o ho e => k a o (fun z => v.ok.apart hp z ho) e
theorem Vw.plain {pn : Option Pn} {ts : List Addr} {G H : Hp} (v : Vw ⟨pn, ts⟩ G H) : Vw ⟨none, ts⟩ G H := by
  refine ⟨v.vw, fun a q => ?_, fun p z => (nomatch z), v.ok.2⟩
  rcases q with ⟨p, z, _⟩ | z
  · cases z
  · exact v.no a (.inr z)

/-! ### objects of one's own -/
def isLO : HO → Bool
  | .lst _ => true
  | .frz _ (.tup _) => false
  | .frz _ _ => true
  | _ => false
def newL (H0 H : Hp) (a : Addr) : Option HO := match H0 a with
  | some _ => none
  | none => match H a with
    | some (.lst xs) => some (.lst xs)
    | _ => none
/-- all that may be looked at: data, and the new lists -/
def vmax (H0 G H : Hp) : Hp := fun a => match G a with
  | some o => some o
  | none => newL H0 H a
/-- the new lists alone -/
def vnew (H0 G H : Hp) : Hp := fun a => match G a with
  | some o => if isLO o then none else some o
  | none => newL H0 H a
theorem newL_some {H0 H : Hp} {a : Addr} {o : HO} (h : newL H0 H a = some o) : H0 a = none ∧ H a = some o ∧ ∃ xs, o = .lst xs := by
  unfold newL at h
  cases h0 : H0 a with
  | some u => rw [h0] at h; cases h
  | none =>
    rw [h0] at h
    cases h1 : H a with
    | none => rw [h1] at h; cases h
    | some u =>
      rw [h1] at h
      cases u with
      | lst xs => cases h; exact ⟨rfl, rfl, xs, rfl⟩
      | _ => cases h
theorem newL_of {H0 H : Hp} {a : Addr} {xs : List V} (h0 : H0 a = none) (h : H a = some (.lst xs)) : newL H0 H a = some (.lst xs) := by
  unfold newL
  rw [h0, h]
theorem vmax_G {H0 G H : Hp} {a : Addr} {o : HO} (h : G a = some o) : vmax H0 G H a = some o := by
  unfold vmax; rw [h]
theorem vmax_new {H0 G H : Hp} {a : Addr} (h : G a = none) : vmax H0 G H a = newL H0 H a := by
  unfold vmax; rw [h]
theorem vmax_cases {H0 G H : Hp} {a : Addr} {o : HO} (h : vmax H0 G H a = some o) : G a = some o ∨ (G a = none ∧ H0 a = none ∧ H a = some o ∧ ∃ xs, o = .lst xs) := by
  cases g : G a with
  | some u => rw [vmax_G g] at h; exact .inl h
  | none => rw [vmax_new g] at h; exact .inr ⟨rfl, newL_some h⟩
theorem vnew_cases {H0 G H : Hp} {a : Addr} {o : HO} (h : vnew H0 G H a = some o) : (G a = some o ∧ isLO o = false) ∨ (G a = none ∧ H0 a = none ∧ H a = some o ∧ ∃ xs, o = .lst xs) := by
  unfold vnew at h
  cases g : G a with
  | some u =>
    rw [g] at h
    have h : (if isLO u = true then none else some u) = some o := h
    by_cases z : isLO u = true
    · rw [show (if isLO u = true then none else some u) = none from if_pos z] at h; cases h
    · rw [show (if isLO u = true then none else some u) = some u from if_neg z] at h
      cases h
      exact .inl ⟨rfl, by simpa using z⟩
  | none => rw [g] at h; exact .inr ⟨rfl, newL_some h⟩
theorem vnew_max {H0 G H : Hp} : Same (vnew H0 G H) (vmax H0 G H) := fun a o h => by
  rcases vnew_cases h with ⟨g, _⟩ | ⟨g, h0, h1, xs, rfl⟩
  · exact vmax_G g
  · rw [vmax_new g, newL_of h0 h1]
theorem vnew_of {H0 G H : Hp} {a : Addr} {xs : List V} (g : G a = none) (h0 : H0 a = none) (h : H a = some (.lst xs)) : vnew H0 G H a = some (.lst xs) := by
  unfold vnew; rw [g]; exact newL_of h0 h
theorem vnew_G {H0 G H : Hp} {a : Addr} {o : HO} (g : G a = some o) (h : isLO o = false) : vnew H0 G H a = some o := by
  unfold vnew; rw [g]; simp [h]
theorem vw_max {pen : Pc} {H0 G H : Hp} (v : Vw pen G H) (h0 : POk pen H0) : Vw pen (vmax H0 G H) H := by
  refine ⟨fun a o h => ?_, fun a p => ?_, v.ok⟩
  · rcases vmax_cases h with g | ⟨_, _, h1, _⟩
    · exact v.vw _ _ g
    · exact h1
  · rw [vmax_new (v.no a p)]
    cases e : newL H0 H a with
    | none => rfl
    | some o => exact absurd (newL_some e).1 (h0.there p)
mutual
/-- without a list -/
def noL : PyData → Bool
  | .list _ => false
  | .dict _ => false
  | .tuple ds => noLs ds
  | _ => true
def noLs : List PyData → Bool
  | [] => true
  | d :: ds => noL d && noLs ds
end
mutual
/-- new data: each list of it stands in W by itself -/
inductive Nd (K : PySem.W.Frag) (W : Hp) : V → PyData → Prop
  | non : Nd K W .non .none
  | bl (b : Bool) : Nd K W (.bl b) (.bool b)
  | int (i : Int) : Nd K W (.int i) (.int i)
  | str (x : Str) : Nd K W (.str x) (.str x)
  | lst {a : Addr} {xs : List V} {ds : List PyData} : W a = some (.lst xs) → NdAll K W xs ds → Nd K W (.ref a) (.list ds)
  | tup {a : Addr} {xs : List V} {ds : List PyData} : SqT K W a xs → NdAll K W xs ds → Nd K W (.ref a) (.tuple ds)
inductive NdAll (K : PySem.W.Frag) (W : Hp) : List V → List PyData → Prop
  | nil : NdAll K W [] []
  | cons {v : V} {vs : List V} {d : PyData} {ds : List PyData} : Nd K W v d → NdAll K W vs ds → NdAll K W (v :: vs) (d :: ds)
end
mutual
theorem nd_dp {K : PySem.W.Frag} {W : Hp} : ∀ (d : PyData) (v : V), Nd K W v d → Dp K W v d
  | .none, _, h => by cases h; exact .non
  | .bool b, _, h => by cases h; exact .bl b
  | .int i, _, h => by cases h; exact .int i
  | .str x, _, h => by cases h; exact .str x
  | .list ds, _, h => by
    cases h with
    | lst hs ha => exact .lst (.inl (.inl hs)) (nda_dpa ds _ ha)
  | .tuple ds, _, h => by
    cases h with
    | tup hs ha => exact .tup hs (nda_dpa ds _ ha)
  | .dict _, _, h => by cases h
theorem nda_dpa {K : PySem.W.Frag} {W : Hp} : ∀ (ds : List PyData) (vs : List V), NdAll K W vs ds → DpAll K W vs ds
  | [], _, h => by cases h; exact .nil
  | d :: ds, _, h => by
    cases h with
    | cons h1 h2 => exact .cons (nd_dp d _ h1) (nda_dpa ds _ h2)
end
mutual
theorem nd_mono {K : PySem.W.Frag} {G G' : Hp} (e : Same G G') : ∀ (d : PyData) (v : V), Nd K G v d → Nd K G' v d
  | .none, _, h => by cases h; exact .non
  | .bool b, _, h => by cases h; exact .bl b
  | .int i, _, h => by cases h; exact .int i
  | .str x, _, h => by cases h; exact .str x
  | .list ds, _, h => by
    cases h with
    | lst hs ha => exact .lst (e _ _ hs) (nda_mono e ds _ ha)
  | .tuple ds, _, h => by
    cases h with
    | tup hs ha => exact .tup (sqT_mono e hs) (nda_mono e ds _ ha)
  | .dict _, _, h => by cases h
theorem nda_mono {K : PySem.W.Frag} {G G' : Hp} (e : Same G G') : ∀ (ds : List PyData) (vs : List V), NdAll K G vs ds → NdAll K G' vs ds
  | [], _, h => by cases h; exact .nil
  | d :: ds, _, h => by
    cases h with
    | cons h1 h2 => exact .cons (nd_mono e d _ h1) (nda_mono e ds _ h2)
end
mutual
/-- data without a list, in a view that has the same tuples -/
theorem dp_nol {K : PySem.W.Frag} {G G' : Hp} (k : ∀ a xs, Rd G a (.tup xs) → Rd G' a (.tup xs)) : ∀ (d : PyData) (v : V), noL d = true → Dp K G v d → Dp K G' v d
  | .none, _, _, h => by cases h; exact .non
  | .bool b, _, _, h => by cases h; exact .bl b
  | .int i, _, _, h => by cases h; exact .int i
  | .str x, _, _, h => by cases h; exact .str x
  | .list ds, _, n, h => by rw [noL] at n; cases n
  | .tuple ds, _, n, h => by
    rw [noL] at n
    cases h with
    | tup hs ha =>
      refine .tup ?_ (dpa_nol k ds _ n ha)
      rcases hs with hs | hs
      · exact .inl (k _ _ hs)
      · exact .inr hs
  | .dict _, _, _, h => by cases h
theorem dpa_nol {K : PySem.W.Frag} {G G' : Hp} (k : ∀ a xs, Rd G a (.tup xs) → Rd G' a (.tup xs)) : ∀ (ds : List PyData) (vs : List V), noLs ds = true → DpAll K G vs ds → DpAll K G' vs ds
  | [], _, _, h => by cases h; exact .nil
  | d :: ds, _, n, h => by
    rw [noLs, Bool.and_eq_true] at n
    cases h with
    | cons h1 h2 => exact .cons (dp_nol k d _ n.1 h1) (dpa_nol k ds _ n.2 h2)
end
mutual
theorem dp_nd {K : PySem.W.Frag} {G : Hp} : ∀ (d : PyData) (v : V), noL d = true → Dp K G v d → Nd K G v d
  | .none, _, _, h => by cases h; exact .non
  | .bool b, _, _, h => by cases h; exact .bl b
  | .int i, _, _, h => by cases h; exact .int i
  | .str x, _, _, h => by cases h; exact .str x
  | .list ds, _, n, h => by rw [noL] at n; cases n
  | .tuple ds, _, n, h => by
    rw [noL] at n
    cases h with
    | tup hs ha => exact .tup hs (dpa_nda ds _ n ha)
  | .dict _, _, _, h => by cases h
theorem dpa_nda {K : PySem.W.Frag} {G : Hp} : ∀ (ds : List PyData) (vs : List V), noLs ds = true → DpAll K G vs ds → NdAll K G vs ds
  | [], _, _, h => by cases h; exact .nil
  | d :: ds, _, n, h => by
    rw [noLs, Bool.and_eq_true] at n
    cases h with
    | cons h1 h2 => exact .cons (dp_nd d _ n.1 h1) (dpa_nda ds _ n.2 h2)
end
theorem noLs_app : ∀ (a b : List PyData), noLs (a ++ b) = (noLs a && noLs b)
  | [], b => by rw [noLs]; rfl
  | x :: a, b => by rw [List.cons_append, noLs, noLs, noLs_app a b, Bool.and_assoc]
theorem noLs_iff : ∀ (a : List PyData), noLs a = true ↔ ∀ d ∈ a, noL d = true
  | [] => by rw [noLs]; exact ⟨fun _ d h => (nomatch h), fun _ => rfl⟩
  | x :: a => by
    rw [noLs, Bool.and_eq_true, noLs_iff a]
    exact ⟨fun h d hd => by rcases List.mem_cons.mp hd with rfl | hd; exact h.1; exact h.2 d hd, fun h => ⟨h x (List.mem_cons_self ..), fun d hd => h d (List.mem_cons_of_mem _ hd)⟩⟩
inductive OO where
  | lst (ds : List PyData)
  | dK (m : List (Key × PyData))
  | dT (m : List (List Key × PyData))
def KvOk {κ : Type} (K : PySem.W.Frag) (G : Hp) (kvs : List (κ × V)) (m : List (κ × PyData)) : Prop := Paired (fun (kv : κ × V) (xd : κ × PyData) => kv.1 = xd.1 ∧ Dp K G kv.2 xd.2) kvs m
def OwnOk (K : PySem.W.Frag) (G : Hp) : HO → OO → Prop
  | .lst vs, .lst ds => DpAll K G vs ds
  | .dK kvs, .dK m => KvOk K G kvs m
  | .dT kvs, .dT m => KvOk K G kvs m
  | _, _ => False
theorem KvOk.mono {κ : Type} {K : PySem.W.Frag} {G G' : Hp} (e : Same G G') {kvs : List (κ × V)} {m : List (κ × PyData)} (h : KvOk K G kvs m) : KvOk K G' kvs m := Paired.mapP h fun _ _ z => ⟨z.1, dp_mono e _ _ z.2⟩
theorem OwnOk.mono {K : PySem.W.Frag} {G G' : Hp} (e : Same G G') {ho : HO} {o : OO} (h : OwnOk K G ho o) : OwnOk K G' ho o := by
  cases ho <;> cases o <;> first | exact h.elim | exact dpa_mono e _ _ h | exact KvOk.mono e h
theorem OwnOk.lst {K : PySem.W.Frag} {G : Hp} {ho : HO} {ds : List PyData} (h : OwnOk K G ho (.lst ds)) : ∃ vs, ho = .lst vs ∧ DpAll K G vs ds := by
  cases ho <;> first | exact h.elim | exact ⟨_, rfl, h⟩
theorem OwnOk.dK {K : PySem.W.Frag} {G : Hp} {ho : HO} {m : List (Key × PyData)} (h : OwnOk K G ho (.dK m)) : ∃ vs, ho = .dK vs ∧ KvOk K G vs m := by
  cases ho <;> first | exact h.elim | exact ⟨_, rfl, h⟩
theorem OwnOk.dT {K : PySem.W.Frag} {G : Hp} {ho : HO} {m : List (List Key × PyData)} (h : OwnOk K G ho (.dT m)) : ∃ vs, ho = .dT vs ∧ KvOk K G vs m := by
  cases ho <;> first | exact h.elim | exact ⟨_, rfl, h⟩

/-! ### slots -/
inductive AV where
  | d (x : PyData)
  | pen
  | own (o : OO)
  | bor (o : OO)
  | fr (x : PyData)
abbrev Lv := List (Option AV)
def AvOk (K : PySem.W.Frag) (pen : Pc) (H0 G H : Hp) (v : V) : AV → Prop
  | .d x => Dp K G v x
  | .pen => ∃ p, pen.pen = some p ∧ v = .ref p.a
  | .own o => ∃ l ho, v = .ref l ∧ H l = some ho ∧ H0 l = none ∧ G l = none ∧ OwnOk K G ho o
  | .bor o => ∃ l ho, v = .ref l ∧ H l = some ho ∧ H0 l = some ho ∧ ¬ IsPn pen l ∧ OwnOk K G ho o
  | .fr x => Nd K (vnew H0 G H) v x
theorem vnew_go {pen : Pc} {H0 G H G' H' : Hp} (h0 : POk pen H0) (g : Go pen G H G' H') (vw : Same G H) : Same (vnew H0 G H) (vnew H0 G' H') := fun a o h => by
  rcases vnew_cases h with ⟨k, z⟩ | ⟨k, k0, k1, xs, rfl⟩
  · exact vnew_G (g.gg _ _ k) z
  · exact vnew_of ((g.nw a (by rw [k1]; exact fun z => by cases z)).trans k) k0 (g.od _ _ (fun q => h0.there q k0) k1)
structure Ev (K : PySem.W.Frag) (pen : Pc) (H0 G H : Hp) (σ : L2.St) (L : Lv) : Prop where
  vw : Vw pen G H
  h0 : POk pen H0
  dom : ∀ a, H0 a ≠ none → H a ≠ none
  len : σ.length = L.length
  sl : ∀ (i : Nat) av, L[i]? = some (some av) → ∃ v, σ[i]? = some (some v) ∧ AvOk K pen H0 G H v av
  ow : ∀ (i j : Nat) (ds es : OO) l, L[i]? = some (some (.own ds)) → L[j]? = some (some (.own es)) → σ[i]? = some (some (.ref l)) → σ[j]? = some (some (.ref l)) → i = j
section
variable {K : PySem.W.Frag} {pen : Pc} {H0 G H G' H' : Hp} {σ : L2.St} {L : Lv}
theorem POk.dom0 {a : Addr} (h : POk pen H0) (p : IsPn pen a) : H0 a ≠ none := h.there p
theorem AvOk.go {v : V} {av : AV} (h : AvOk K pen H0 G H v av) (h0 : POk pen H0) (vw : Same G H) (g : Go pen G H G' H') : AvOk K pen H0 G' H' v av := by
  cases av with
  | d x => exact dp_mono g.gg _ _ h
  | pen => exact h
  | own ds =>
    obtain ⟨l, vs, e, h1, h2, h3, h4⟩ := h
    have np : ¬ IsPn pen l := fun q => h0.there q h2
    refine ⟨l, vs, e, g.od _ _ np h1, h2, ?_, h4.mono g.gg⟩
    rw [g.nw l (by rw [h1]; exact fun z => by cases z)]
    exact h3
  | bor ds =>
    obtain ⟨l, vs, e, h1, h2, h3, h4⟩ := h
    exact ⟨l, vs, e, g.od _ _ h3 h1, h2, h3, h4.mono g.gg⟩
  | fr x => exact nd_mono (vnew_go h0 g vw) _ _ h
theorem Ev.go (e : Ev K pen H0 G H σ L) (g : Go pen G H G' H') : Ev K pen H0 G' H' σ L :=
  ⟨g.vw, e.h0, fun a h => g.dom (e.dom a h), e.len, fun i av h => by
    obtain ⟨v, h1, h2⟩ := e.sl i av h
    exact ⟨v, h1, h2.go e.h0 e.vw.vw g⟩, e.ow⟩
/-- a slot stored with data -/
theorem Ev.set (e : Ev K pen H0 G H σ L) {i : Nat} {v : V} {x : PyData} (h : Dp K G v x) : Ev K pen H0 G H (σ.set i (some v)) (L.set i (some (.d x))) := by
  refine ⟨e.vw, e.h0, e.dom, by rw [List.length_set, List.length_set]; exact e.len, fun j av hj => ?_, fun j k ds es l h1 h2 h3 h4 => ?_⟩
  · by_cases q : i = j
    · subst q
      have hl : i < L.length := by
        have := (List.getElem?_eq_some_iff.mp hj).1
        rw [List.length_set] at this; exact this
      rw [List.getElem?_set_self hl] at hj
      have := Option.some.inj (Option.some.inj hj)
      subst this
      exact ⟨v, List.getElem?_set_self (by rw [e.len]; exact hl), h⟩
    · rw [List.getElem?_set_ne q] at hj
      obtain ⟨w, h1, h2⟩ := e.sl j av hj
      exact ⟨w, by rw [List.getElem?_set_ne q]; exact h1, h2⟩
  · have nj : ∀ (j : Nat) (ds : OO), (L.set i (some (.d x)))[j]? = some (some (.own ds)) → i ≠ j := fun j ds hj q => by
      subst q
      have hl : i < L.length := by
        have := (List.getElem?_eq_some_iff.mp hj).1
        rw [List.length_set] at this; exact this
      rw [List.getElem?_set_self hl] at hj
      cases hj
    have q1 := nj j ds h1
    have q2 := nj k es h2
    rw [List.getElem?_set_ne q1] at h1 h3
    rw [List.getElem?_set_ne q2] at h2 h4
    exact e.ow j k ds es l h1 h2 h3 h4
end

/-! ### expressions -/
section
variable (K : PySem.W.Frag) (pen : Pc) (H0 : Hp)
def E (te : TE) (L : Lv) (P : PyData → Prop) : Prop := ∀ (σ : L2.St) (G H : Hp), Ev K pen H0 G H σ L → ∀ Q : VK, (∀ v d G' H', Go pen G H G' H' → Dp K G' v d → P d → Q v H') → te σ H Q
def EA (ta : TA) (L : Lv) (P : List PyData → Prop) : Prop := ∀ (σ : L2.St) (G H : Hp), Ev K pen H0 G H σ L → ∀ Q : List V → Hp → Prop, (∀ vs ds G' H', Go pen G H G' H' → DpAll K G' vs ds → P ds → Q vs H') → ta σ H Q
def ET (tt : TT) (L : Lv) (P : Bool → Prop) : Prop := ∀ (σ : L2.St) (G H : Hp), Ev K pen H0 G H σ L → ∀ Q : Bool → Hp → Prop, (∀ b G' H', Go pen G H G' H' → P b → Q b H') → tt σ H Q
def EO (to : TO) (L : Lv) (P : Option Int → Prop) : Prop := ∀ (σ : L2.St) (G H : Hp), Ev K pen H0 G H σ L → ∀ Q : Option Int → Hp → Prop, (∀ b G' H', Go pen G H G' H' → P b → Q b H') → to σ H Q
/-- an operation by values -/
def R2d (r : R2) (a b : PyData) (P : PyData → Prop) : Prop := ∀ (x y : V) (G H : Hp), Vw pen G H → Dp K G x a → Dp K G y b → ∀ Q : VK, (∀ v d G' H', Go pen G H G' H' → Dp K G' v d → P d → Q v H') → r x y H Q
def RCd (r : List V → Hp → VK → Prop) (ds : List PyData) (P : PyData → Prop) : Prop := ∀ (vs : List V) (G H : Hp), Vw pen G H → DpAll K G vs ds → ∀ Q : VK, (∀ v d G' H', Go pen G H G' H' → Dp K G' v d → P d → Q v H') → r vs H Q
def RSd (r : V → Option Int → Option Int → Hp → VK → Prop) (a : PyData) (lo hi : Option Int) (P : PyData → Prop) : Prop := ∀ (x : V) (G H : Hp), Vw pen G H → Dp K G x a → ∀ Q : VK, (∀ v d G' H', Go pen G H G' H' → Dp K G' v d → P d → Q v H') → r x lo hi H Q
def RUd (r : V → Hp → VK → Prop) (a : PyData) (P : PyData → Prop) : Prop := ∀ (x : V) (G H : Hp), Vw pen G H → Dp K G x a → ∀ Q : VK, (∀ v d G' H', Go pen G H G' H' → Dp K G' v d → P d → Q v H') → r x H Q
end
section
variable {K : PySem.W.Frag} {pen : Pc} {H0 : Hp} {L : Lv} {P P' : PyData → Prop} {ta tb tc te : TE} {tl tr : TA} {t u : TT} {Pb : Bool → Prop}
theorem E.mono (h : E K pen H0 te L P) (k : ∀ d, P d → P' d) : E K pen H0 te L P' := fun σ G H e Q q => h σ G H e Q fun v d G' H' g hd p => q v d G' H' g hd (k d p)
theorem ET.mono {Pb' : Bool → Prop} (h : ET K pen H0 t L Pb) (k : ∀ d, Pb d → Pb' d) : ET K pen H0 t L Pb' := fun σ G H e Q q => h σ G H e Q fun v G' H' g p => q v G' H' g (k v p)
theorem e_var {i : Nat} {x : PyData} (h : L[i]? = some (some (.d x))) (p : P x) : E K pen H0 (tVar i) L P := fun σ G H e Q q => by
  obtain ⟨v, h1, h2⟩ := e.sl i _ h
  exact ⟨v, h1, q v x G H (.refl e.vw) h2 p⟩
theorem e_int {i : Int} (p : P (.int i)) : E K pen H0 (tC (.int i)) L P := fun σ G H e Q q => q _ _ G H (.refl e.vw) (.int i) p
theorem e_str {i : Str} (p : P (.str i)) : E K pen H0 (tC (.str i)) L P := fun σ G H e Q q => q _ _ G H (.refl e.vw) (.str i) p
theorem e_bl {i : Bool} (p : P (.bool i)) : E K pen H0 (tC (.bl i)) L P := fun σ G H e Q q => q _ _ G H (.refl e.vw) (.bl i) p
theorem e_non (p : P .none) : E K pen H0 (tC .non) L P := fun σ G H e Q q => q _ _ G H (.refl e.vw) .non p
theorem e_op {r : R2} (h : E K pen H0 ta L fun a => E K pen H0 tb L fun b => R2d K pen r a b P) : E K pen H0 (tOp r ta tb) L P := fun σ G H e Q q =>
  h σ G H e _ fun v a G1 H1 g1 d1 h1 => h1 σ G1 H1 (e.go g1) _ fun w b G2 H2 g2 d2 h2 =>
    h2 v w G2 H2 g2.vw (dp_mono g2.gg _ _ d1) d2 Q fun z c G3 H3 g3 d3 p => q z c G3 H3 ((g1.trans g2).trans g3) d3 p
theorem e_un {r : V → Hp → VK → Prop} (h : E K pen H0 ta L fun a => RUd K pen r a P) : E K pen H0 (tUn r ta) L P := fun σ G H e Q q =>
  h σ G H e _ fun v a G1 H1 g1 d1 h1 => h1 v G1 H1 g1.vw d1 Q fun z c G3 H3 g3 d3 p => q z c G3 H3 (g1.trans g3) d3 p
theorem ea_nil {Pl : List PyData → Prop} (p : Pl []) : EA K pen H0 tNil L Pl := fun σ G H e Q q => q [] [] G H (.refl e.vw) .nil p
theorem ea_cons {Pl : List PyData → Prop} (h : E K pen H0 ta L fun a => EA K pen H0 tr L fun ds => Pl (a :: ds)) : EA K pen H0 (tCons ta tr) L Pl := fun σ G H e Q q =>
  h σ G H e _ fun v a G1 H1 g1 d1 h1 => h1 σ G1 H1 (e.go g1) _ fun vs ds G2 H2 g2 d2 p => q _ _ G2 H2 (g1.trans g2) (.cons (dp_mono g2.gg _ _ d1) d2) p
theorem e_tup (h : EA K pen H0 tl L fun ds => ds.length ≤ 100000 ∧ P (.tuple ds)) : E K pen H0 (tTup tl) L P := fun σ G H e Q q =>
  h σ G H e _ fun vs ds G1 H1 g1 d1 h1 => ⟨Nat.le_trans (by rw [dpa_len d1]; exact h1.1) (by decide : 100000 ≤ sizeLine), fun p hp => by
    have g2 := Go.new g1.vw (o := .tup vs) hp
    exact q _ _ _ _ (g1.trans g2) (.tup (.inl (.inl upd_same)) (dpa_mono g2.gg _ _ d1)) h1.2⟩
theorem e_lst (h : EA K pen H0 tl L fun ds => ds.length ≤ 100000 ∧ P (.list ds)) : E K pen H0 (tLst tl) L P := fun σ G H e Q q =>
  h σ G H e _ fun vs ds G1 H1 g1 d1 h1 => ⟨Nat.le_trans (by rw [dpa_len d1]; exact h1.1) (by decide : 100000 ≤ sizeLine), fun p hp => by
    have g2 := Go.new g1.vw (o := .lst vs) hp
    exact q _ _ _ _ (g1.trans g2) (.lst (.inl (.inl upd_same)) (dpa_mono g2.gg _ _ d1)) h1.2⟩
theorem e_cb {r : List V → Hp → VK → Prop} (h : EA K pen H0 tl L fun ds => RCd K pen r ds P) : E K pen H0 (tCB r tl) L P := fun σ G H e Q q =>
  h σ G H e _ fun vs ds G1 H1 g1 d1 h1 => h1 vs G1 H1 g1.vw d1 Q fun z c G3 H3 g3 d3 p => q z c G3 H3 (g1.trans g3) d3 p
theorem e_sl {r : V → Option Int → Option Int → Hp → VK → Prop} {to th : TO} (h : E K pen H0 te L fun a => EO K pen H0 to L fun lo => EO K pen H0 th L fun hi => RSd K pen r a lo hi P) : E K pen H0 (tSl r te to th) L P := fun σ G H e Q q =>
  h σ G H e _ fun v a G1 H1 g1 d1 h1 => h1 σ G1 H1 (e.go g1) _ fun lo G2 H2 g2 h2 => h2 σ G2 H2 (e.go (g1.trans g2)) _ fun hi G3 H3 g3 h3 =>
    h3 v G3 H3 g3.vw (dp_mono (g2.gg.trans g3.gg) _ _ d1) Q fun z c G4 H4 g4 d4 p => q z c G4 H4 (((g1.trans g2).trans g3).trans g4) d4 p
theorem eo_none {Po : Option Int → Prop} (p : Po none) : EO K pen H0 tNoPart L Po := fun σ G H e Q q => q _ G H (.refl e.vw) p
theorem eo_some {Po : Option Int → Prop} (h : E K pen H0 te L fun d => ∃ i, d = .int i ∧ Po (some i)) : EO K pen H0 (tPart te) L Po := fun σ G H e Q q =>
  h σ G H e _ fun v d G1 H1 g1 d1 ⟨i, hi, p⟩ => by
    subst hi
    cases d1
    exact ⟨i, rfl, q _ G1 H1 g1 p⟩
/-! tests -/
theorem et_test (h : E K pen H0 te L fun d => ∃ b, d = .bool b ∧ Pb b) : ET K pen H0 (tTest te) L Pb := fun σ G H e Q q =>
  h σ G H e _ fun v d G1 H1 g1 d1 ⟨b, hb, p⟩ => by
    subst hb
    cases d1
    exact ⟨b, rfl, q _ G1 H1 g1 p⟩
theorem et_B (h : E K pen H0 te L fun d => ∃ b, d = .bool b ∧ Pb b) : ET K pen H0 (tB te) L Pb := fun σ G H e Q q =>
  h σ G H e _ fun v d G1 H1 g1 d1 ⟨b, hb, p⟩ => by
    subst hb
    cases d1
    exact ⟨b, rfl, q _ G1 H1 g1 p⟩
theorem et_and (h : ET K pen H0 t L fun a => (a = true → ET K pen H0 u L Pb) ∧ (a = false → Pb false)) : ET K pen H0 (tAnd t u) L Pb := fun σ G H e Q q =>
  h σ G H e _ fun a G1 H1 g1 h1 => by
    cases a with
    | true => exact h1.1 rfl σ G1 H1 (e.go g1) Q fun b G2 H2 g2 p => q b G2 H2 (g1.trans g2) p
    | false => exact q false G1 H1 g1 (h1.2 rfl)
theorem et_or (h : ET K pen H0 t L fun a => (a = true → Pb true) ∧ (a = false → ET K pen H0 u L Pb)) : ET K pen H0 (tOr t u) L Pb := fun σ G H e Q q =>
  h σ G H e _ fun a G1 H1 g1 h1 => by
    cases a with
    | false => exact h1.2 rfl σ G1 H1 (e.go g1) Q fun b G2 H2 g2 p => q b G2 H2 (g1.trans g2) p
    | true => exact q true G1 H1 g1 (h1.1 rfl)
theorem et_not (h : ET K pen H0 t L fun a => Pb (!a)) : ET K pen H0 (tNot t) L Pb := fun σ G H e Q q => h σ G H e _ fun a G1 H1 g1 h1 => q (!a) G1 H1 g1 h1
theorem e_andV (h : E K pen H0 ta L fun d => ∃ a, d = .bool a ∧ (a = true → E K pen H0 tb L P) ∧ (a = false → P (.bool false))) : E K pen H0 (tAndV ta tb) L P := fun σ G H e Q q =>
  h σ G H e _ fun v d G1 H1 g1 d1 ⟨a, ha, h1, h2⟩ => by
    subst ha
    cases d1
    refine ⟨a, rfl, ?_⟩
    cases a with
    | true => exact h1 rfl σ G1 H1 (e.go g1) Q fun w b G2 H2 g2 d2 p => q w b G2 H2 (g1.trans g2) d2 p
    | false => exact q _ _ G1 H1 g1 (.bl false) (h2 rfl)
theorem e_orV (h : E K pen H0 ta L fun d => ∃ a, d = .bool a ∧ (a = true → P (.bool true)) ∧ (a = false → E K pen H0 tb L P)) : E K pen H0 (tOrV ta tb) L P := fun σ G H e Q q =>
  h σ G H e _ fun v d G1 H1 g1 d1 ⟨a, ha, h1, h2⟩ => by
    subst ha
    cases d1
    refine ⟨a, rfl, ?_⟩
    cases a with
    | false => exact h2 rfl σ G1 H1 (e.go g1) Q fun w b G2 H2 g2 d2 p => q w b G2 H2 (g1.trans g2) d2 p
    | true => exact q _ _ G1 H1 g1 (.bl true) (h1 rfl)
theorem e_notV (h : E K pen H0 ta L fun d => ∃ a, d = .bool a ∧ P (.bool (!a))) : E K pen H0 (tNotV ta) L P := fun σ G H e Q q =>
  h σ G H e _ fun v d G1 H1 g1 d1 ⟨a, ha, h1⟩ => by
    subst ha
    cases d1
    exact ⟨a, rfl, q _ _ G1 H1 g1 (.bl _) h1⟩
theorem e_if (h : ET K pen H0 t L fun a => (a = true → E K pen H0 ta L P) ∧ (a = false → E K pen H0 tb L P)) : E K pen H0 (tIf t ta tb) L P := fun σ G H e Q q =>
  h σ G H e _ fun a G1 H1 g1 h1 => by
    cases a with
    | true => exact h1.1 rfl σ G1 H1 (e.go g1) Q fun w b G2 H2 g2 d2 p => q w b G2 H2 (g1.trans g2) d2 p
    | false => exact h1.2 rfl σ G1 H1 (e.go g1) Q fun w b G2 H2 g2 d2 p => q w b G2 H2 (g1.trans g2) d2 p
theorem e_chain {r r' : R2} (h : E K pen H0 ta L fun a => E K pen H0 tb L fun b => R2d K pen r a b fun z => ∃ k, z = .bool k ∧ (k = true → E K pen H0 tc L fun c => R2d K pen r' b c P) ∧ (k = false → P (.bool false))) : E K pen H0 (tChain r r' ta tb tc) L P := fun σ G H e Q q =>
  h σ G H e _ fun v a G1 H1 g1 d1 h1 => h1 σ G1 H1 (e.go g1) _ fun w b G2 H2 g2 d2 h2 =>
    h2 v w G2 H2 g2.vw (dp_mono g2.gg _ _ d1) d2 _ fun z c G3 H3 g3 d3 ⟨k, hk, p1, p2⟩ => by
      subst hk
      cases d3
      refine ⟨k, rfl, ?_⟩
      cases k with
      | true =>
        exact p1 rfl σ G3 H3 (e.go ((g1.trans g2).trans g3)) _ fun y c G4 H4 g4 d4 p => p w y G4 H4 g4.vw (dp_mono (g3.gg.trans g4.gg) _ _ d2) d4 Q fun z c G5 H5 g5 d5 p' =>
          q z c G5 H5 ((((g1.trans g2).trans g3).trans g4).trans g5) d5 p'
      | false => exact q _ _ G3 H3 ((g1.trans g2).trans g3) (.bl false) (p2 rfl)
/-! operators by values -/
theorem r_I0 {g : Int → Int → V} {f : Int → Int → PyData} {i j : Int} (hg : ∀ G, Dp K G (g i j) (f i j)) (p : P (f i j)) : R2d K pen (rI0 g) (.int i) (.int j) P := fun x y G H v hx hy Q q => by
  cases hx
  cases hy
  exact ⟨i, j, rfl, rfl, q _ _ G H (.refl v) (hg G) p⟩
theorem r_I {C : Int → Int → Prop} {g : Int → Int → V} {f : Int → Int → PyData} {i j : Int} (hg : ∀ G, Dp K G (g i j) (f i j)) (hc : C i j) (p : P (f i j)) : R2d K pen (rI C g) (.int i) (.int j) P := fun x y G H v hx hy Q q => by
  cases hx
  cases hy
  exact ⟨i, j, rfl, rfl, hc, q _ _ G H (.refl v) (hg G) p⟩
theorem r_add {i j : Int} (p : P (.int (i + j))) : R2d K pen (rI0 fun i j => .int (i + j)) (.int i) (.int j) P := r_I0 (f := fun i j => .int (i + j)) (fun _ => .int _) p
theorem r_sub {i j : Int} (p : P (.int (i - j))) : R2d K pen (rI0 fun i j => .int (i - j)) (.int i) (.int j) P := r_I0 (f := fun i j => .int (i - j)) (fun _ => .int _) p
theorem r_mul {i j : Int} (hc : CMul i j) (p : P (.int (i * j))) : R2d K pen (rI CMul fun i j => .int (i * j)) (.int i) (.int j) P := r_I (f := fun i j => .int (i * j)) (fun _ => .int _) hc p
theorem r_mod {i j : Int} (hc : 0 < j) (p : P (.int (i % j))) : R2d K pen (rI (fun _ j => 0 < j) fun i j => .int (i % j)) (.int i) (.int j) P := r_I (f := fun i j => .int (i % j)) (fun _ => .int _) hc p
theorem r_lt {i j : Int} (p : P (.bool (decide (i < j)))) : R2d K pen (rI0 fun i j => .bl (decide (i < j))) (.int i) (.int j) P := r_I0 (f := fun i j => .bool (decide (i < j))) (fun _ => .bl _) p
theorem r_le {i j : Int} (p : P (.bool (decide (i ≤ j)))) : R2d K pen (rI0 fun i j => .bl (decide (i ≤ j))) (.int i) (.int j) P := r_I0 (f := fun i j => .bool (decide (i ≤ j))) (fun _ => .bl _) p
theorem r_gt {i j : Int} (p : P (.bool (decide (j < i)))) : R2d K pen (rI0 fun i j => .bl (decide (j < i))) (.int i) (.int j) P := r_I0 (f := fun i j => .bool (decide (j < i))) (fun _ => .bl _) p
theorem r_ge {i j : Int} (p : P (.bool (decide (j ≤ i)))) : R2d K pen (rI0 fun i j => .bl (decide (j ≤ i))) (.int i) (.int j) P := r_I0 (f := fun i j => .bool (decide (j ≤ i))) (fun _ => .bl _) p
theorem r_eqI {i j : Int} (p : P (.bool (decide (i = j)))) : R2d K pen rEq (.int i) (.int j) P := fun x y G H v hx hy Q q => by
  cases hx
  cases hy
  refine ⟨rfl, ?_⟩
  rw [show decide (V.int i = V.int j) = decide (i = j) by rw [dec_int]; exact Bool.beq_eq_decide_eq i j]
  exact q _ _ G H (.refl v) (.bl _) p
theorem r_neI {i j : Int} (p : P (.bool (!decide (i = j)))) : R2d K pen rNe (.int i) (.int j) P := fun x y G H v hx hy Q q => by
  cases hx
  cases hy
  refine ⟨rfl, ?_⟩
  rw [show decide (V.int i = V.int j) = decide (i = j) by rw [dec_int]; exact Bool.beq_eq_decide_eq i j]
  exact q _ _ G H (.refl v) (.bl _) p
theorem r_eqB {i j : Bool} (p : P (.bool (decide (i = j)))) : R2d K pen rEq (.bool i) (.bool j) P := fun x y G H v hx hy Q q => by
  cases hx
  cases hy
  refine ⟨rfl, ?_⟩
  rw [show decide (V.bl i = V.bl j) = decide (i = j) by rw [dec_bl]; exact Bool.beq_eq_decide_eq i j]
  exact q _ _ G H (.refl v) (.bl _) p
theorem r_eqS {i j : Str} (p : P (.bool (decide (i = j)))) : R2d K pen rEq (.str i) (.str j) P := fun x y G H v hx hy Q q => by
  cases hx
  cases hy
  refine ⟨rfl, ?_⟩
  rw [show decide (V.str i = V.str j) = decide (i = j) by rw [dec_str]; exact Bool.beq_eq_decide_eq i j]
  exact q _ _ G H (.refl v) (.bl _) p
theorem r_eqD {a b : PyData} (ha : SeqAt.shaped a = true) (hb : SeqAt.shaped b = true) (p : P (.bool (PyData.eqv a b))) : R2d K pen (rEqD K) a b P := fun x y G H v hx hy Q q =>
  ⟨a, b, dp_mono v.vw _ _ hx, dp_mono v.vw _ _ hy, ha, hb, q _ _ G H (.refl v) (.bl _) p⟩
theorem r_neD {a b : PyData} (ha : SeqAt.shaped a = true) (hb : SeqAt.shaped b = true) (p : P (.bool (!PyData.eqv a b))) : R2d K pen (rNeD K) a b P := fun x y G H v hx hy Q q =>
  ⟨a, b, dp_mono v.vw _ _ hx, dp_mono v.vw _ _ hy, ha, hb, q _ _ G H (.refl v) (.bl _) p⟩
theorem r_isN {a : PyData} (p : P (.bool (match a with | .none => true | _ => false))) : R2d K pen (fun x y H Q => y = .non ∧ Q (.bl (decide (x = .non))) H) a .none P := fun x y G H v hx hy Q q => by
  cases hy
  refine ⟨rfl, q _ _ G H (.refl v) ?_ p⟩
  cases hx <;> exact .bl _
theorem r_ixT {ds : List PyData} {i : Int} {d : PyData} (h : atI ds i = some d) (p : P d) : R2d K pen (rIxT K) (.tuple ds) (.int i) P := fun x y G H v hx hy Q q => by
  cases hy
  cases hx with
  | tup hs ha =>
    rename_i a xs
    unfold atI at h
    cases hj : ixN ds.length i with
    | none => rw [hj] at h; cases h
    | some j =>
      rw [hj] at h
      obtain ⟨w, h1, h2⟩ := dpa_get ha (show ds[j]? = some d from h)
      refine ⟨_, xs, i, w, rfl, rfl, sqT_mono v.vw hs, ?_, q w d G H (.refl v) h2 p⟩
      unfold atI
      rw [dpa_len ha, hj]
      exact h1
theorem r_ixL {ds : List PyData} {i : Int} {d : PyData} (h : atI ds i = some d) (p : P d) : R2d K pen (rIxL K) (.list ds) (.int i) P := fun x y G H v hx hy Q q => by
  cases hy
  cases hx with
  | lst hs ha =>
    rename_i a xs
    unfold atI at h
    cases hj : ixN ds.length i with
    | none => rw [hj] at h; cases h
    | some j =>
      rw [hj] at h
      obtain ⟨w, h1, h2⟩ := dpa_get ha (show ds[j]? = some d from h)
      refine ⟨_, xs, i, w, rfl, rfl, sqL_mono v.vw hs, ?_, q w d G H (.refl v) h2 p⟩
      unfold atI
      rw [dpa_len ha, hj]
      exact h1
/-- len -/
theorem c_len {ds es : List PyData} (h : ds = [.tuple es] ∨ ds = [.list es]) (p : P (.int es.length)) : RCd K pen (fun xs H Q => ∃ p ys, xs = [.ref p] ∧ (SqL K H p ys ∨ SqT K H p ys) ∧ Q (.int ys.length) H) ds P := fun vs G H v hv Q q => by
  rcases h with rfl | rfl
  · cases hv with
    | cons h1 h2 =>
      cases h2
      cases h1 with
      | tup hs ha =>
        refine ⟨_, _, rfl, .inr (sqT_mono v.vw hs), ?_⟩
        rw [dpa_len ha]
        exact q _ _ G H (.refl v) (.int _) p
  · cases hv with
    | cons h1 h2 =>
      cases h2
      cases h1 with
      | lst hs ha =>
        refine ⟨_, _, rfl, .inl (sqL_mono v.vw hs), ?_⟩
        rw [dpa_len ha]
        exact q _ _ G H (.refl v) (.int _) p
/-- list(xs) -/
theorem c_list {ds es : List PyData} (h : ds = [.tuple es] ∨ ds = [.list es]) (p : P (.list es)) : RCd K pen (fun xs H Q => ∃ p ys, xs = [.ref p] ∧ (SqL K H p ys ∨ SqT K H p ys) ∧ ∀ l, H l = none → Q (.ref l) (upd H l (.lst ys))) ds P := fun vs G H v hv Q q => by
  rcases h with rfl | rfl
  · cases hv with
    | cons h1 h2 =>
      cases h2
      cases h1 with
      | tup hs ha =>
        refine ⟨_, _, rfl, .inr (sqT_mono v.vw hs), fun l hl => ?_⟩
        rename_i xs
        have g := Go.new v (o := .lst xs) hl
        exact q _ _ _ _ g (.lst (.inl (.inl upd_same)) (dpa_mono g.gg _ _ ha)) p
  · cases hv with
    | cons h1 h2 =>
      cases h2
      cases h1 with
      | lst hs ha =>
        refine ⟨_, _, rfl, .inl (sqL_mono v.vw hs), fun l hl => ?_⟩
        rename_i xs
        have g := Go.new v (o := .lst xs) hl
        exact q _ _ _ _ g (.lst (.inl (.inl upd_same)) (dpa_mono g.gg _ _ ha)) p
/-- tuple(xs) -/
theorem c_tuple {ds es : List PyData} (h : ds = [.tuple es] ∨ ds = [.list es]) (p : P (.tuple es)) : RCd K pen (fun xs H Q => ∃ p ys, xs = [.ref p] ∧ ((SqL K H p ys ∧ ∀ l, H l = none → Q (.ref l) (upd H l (.tup ys))) ∨ (SqT K H p ys ∧ Q (.ref p) H))) ds P := fun vs G H v hv Q q => by
  rcases h with rfl | rfl
  · cases hv with
    | cons h1 h2 =>
      cases h2
      cases h1 with
      | tup hs ha => exact ⟨_, _, rfl, .inr ⟨sqT_mono v.vw hs, q _ _ G H (.refl v) (.tup hs ha) p⟩⟩
  · cases hv with
    | cons h1 h2 =>
      cases h2
      cases h1 with
      | lst hs ha =>
        refine ⟨_, _, rfl, .inl ⟨sqL_mono v.vw hs, fun l hl => ?_⟩⟩
        rename_i xs
        have g := Go.new v (o := .tup xs) hl
        exact q _ _ _ _ g (.tup (.inl (.inl upd_same)) (dpa_mono g.gg _ _ ha)) p
theorem c_min2 {i j : Int} (p : P (.int (if j < i then j else i))) : RCd K pen (fun xs H Q => ∃ i j, xs = [.int i, .int j] ∧ Q (.int (if j < i then j else i)) H) [.int i, .int j] P := fun vs G H v hv Q q => by
  cases hv with
  | cons h1 h2 =>
    cases h2 with
    | cons h3 h4 =>
      cases h4
      cases h1
      cases h3
      exact ⟨i, j, rfl, q _ _ G H (.refl v) (.int _) p⟩
theorem c_max2 {i j : Int} (p : P (.int (if j > i then j else i))) : RCd K pen (fun xs H Q => ∃ i j, xs = [.int i, .int j] ∧ Q (.int (if j > i then j else i)) H) [.int i, .int j] P := fun vs G H v hv Q q => by
  cases hv with
  | cons h1 h2 =>
    cases h2 with
    | cons h3 h4 =>
      cases h4
      cases h1
      cases h3
      exact ⟨i, j, rfl, q _ _ G H (.refl v) (.int _) p⟩
theorem c_intB {b : Bool} (p : P (.int (if b then 1 else 0))) : RCd K pen (fun xs H Q => (∃ i, xs = [.int i] ∧ Q (.int i) H) ∨ ∃ k, xs = [.bl k] ∧ Q (.int (if k then 1 else 0)) H) [.bool b] P := fun vs G H v hv Q q => by
  cases hv with
  | cons h1 h2 =>
    cases h2
    cases h1
    exact .inr ⟨b, rfl, q _ _ G H (.refl v) (.int _) p⟩
end
end Dl
set_option Elab.async false
set_option linter.all false
set_option maxRecDepth 100000
namespace Dl
open PySem PySem.Spec PyProof.Rows L2

/-! ### statements -/
structure Dn where
  nx : Lv → Prop
  rt : PyData → Prop
  bk : Lv → Prop := fun _ => False
  ct : Lv → Prop := fun _ => False
  rn : PyData → Prop := fun _ => False
  ro : OO → Prop := fun _ => False
structure Gx (pen : Pc) (H0 G H G' H' : Hp) : Prop where
  gg : Same G G'
  nw : ∀ a, H0 a ≠ none → G' a = G a
  od : ∀ a o, ¬ IsPn pen a → H0 a ≠ none → H a = some o → H' a = some o
theorem Gx.refl {pen : Pc} {H0 G H : Hp} : Gx pen H0 G H G H := ⟨Same.refl _, fun _ _ => rfl, fun _ _ _ _ e => e⟩
theorem Gx.trans {pen : Pc} {H0 G H G1 H1 G2 H2 : Hp} (a : Gx pen H0 G H G1 H1) (b : Gx pen H0 G1 H1 G2 H2) : Gx pen H0 G H G2 H2 :=
  ⟨a.gg.trans b.gg, fun x h => (b.nw x h).trans (a.nw x h), fun x o p h e => b.od x o p h (a.od x o p h e)⟩
section
variable {K : PySem.W.Frag} {pen : Pc} {H0 G H G' H' : Hp} {σ : L2.St} {L : Lv}
theorem Ev.gx (e : Ev K pen H0 G H σ L) (g : Go pen G H G' H') : Gx pen H0 G H G' H' := ⟨g.gg, fun a h => g.nw a (e.dom a h), fun a o p _ q => g.od a o p q⟩
/-- a slot forgotten -/
theorem Ev.unset (e : Ev K pen H0 G H σ L) (i : Nat) : Ev K pen H0 G H (σ.set i none) (L.set i none) := by
  have nj : ∀ (j : Nat) (av : AV), (L.set i none)[j]? = some (some av) → i ≠ j := fun j av hj q => by
    subst q
    have hl : i < L.length := by
      have := (List.getElem?_eq_some_iff.mp hj).1
      rw [List.length_set] at this; exact this
    rw [List.getElem?_set_self hl] at hj
    cases hj
  refine ⟨e.vw, e.h0, e.dom, by rw [List.length_set, List.length_set]; exact e.len, fun j av hj => ?_, fun j k ds es l h1 h2 h3 h4 => ?_⟩
  · have q := nj j av hj
    rw [List.getElem?_set_ne q] at hj
    obtain ⟨w, h1, h2⟩ := e.sl j av hj
    exact ⟨w, by rw [List.getElem?_set_ne q]; exact h1, h2⟩
  · have q1 := nj j _ h1
    have q2 := nj k _ h2
    rw [List.getElem?_set_ne q1] at h1 h3
    rw [List.getElem?_set_ne q2] at h2 h4
    exact e.ow j k ds es l h1 h2 h3 h4
end
section
variable (K : PySem.W.Frag) (pen : Pc) (H0 : Hp)
def S (t : TS) (L : Lv) (D : Dn) : Prop := ∀ (σ : L2.St) (G H : Hp) (N : Ends), Ev K pen H0 G H σ L →
  (∀ σ' G' H' L', Gx pen H0 G H G' H' → Ev K pen H0 G' H' σ' L' → D.nx L' → N.nx σ' H') →
  (∀ v d G' H', Gx pen H0 G H G' H' → Vw pen G' H' → Dp K G' v d → D.rt d → N.rt v H') →
  (∀ σ' G' H' L', Gx pen H0 G H G' H' → Ev K pen H0 G' H' σ' L' → D.bk L' → N.bk σ' H') →
  (∀ σ' G' H' L', Gx pen H0 G H G' H' → Ev K pen H0 G' H' σ' L' → D.ct L' → N.ct σ' H') →
  (∀ v d G' H', Gx pen H0 G H G' H' → Vw pen G' H' → Nd K (vnew H0 G' H') v d → D.rn d → N.rt v H') →
  (∀ l ho o G' H', Gx pen H0 G H G' H' → Vw pen G' H' → H' l = some ho → H0 l = none → G' l = none → OwnOk K G' ho o → D.ro o → N.rt (.ref l) H') → t N σ H
def GT (g : TG) (d : PyData) (L : Lv) (P : Lv → Prop) : Prop := ∀ (σ : L2.St) (G H : Hp) (v : V), Ev K pen H0 G H σ L → Dp K G v d → ∀ R : L2.St → Hp → Prop, (∀ σ' L', Ev K pen H0 G H σ' L' → P L' → R σ' H) → g v σ H R
def GTs (g : TGs) (ds : List PyData) (L : Lv) (P : Lv → Prop) : Prop := ∀ (σ : L2.St) (G H : Hp) (vs : List V), Ev K pen H0 G H σ L → DpAll K G vs ds → ∀ R : L2.St → Hp → Prop, (∀ σ' L', Ev K pen H0 G H σ' L' → P L' → R σ' H) → g vs σ H R
end
section
variable {K : PySem.W.Frag} {pen : Pc} {H0 : Hp} {L : Lv} {P P' : PyData → Prop} {ta tb tc te ti : TE} {tl tr : TA} {tt : TT} {t u : TS} {Pb : Bool → Prop} {D : Dn} {g : TG} {gs : TGs}
theorem g_name {i : Nat} {d : PyData} {P : Lv → Prop} (h : P (L.set i (some (.d d)))) : GT K pen H0 (gName i) d L P := fun σ G H v e hd R r => r _ _ (e.set hd) h
theorem g_tup {n : Nat} {ds : List PyData} {P : Lv → Prop} (hn : ds.length = n) (h : GTs K pen H0 gs ds L P) : GT K pen H0 (gTup K n gs) (.tuple ds) L P := fun σ G H v e hd R r => by
  cases hd with
  | tup hs ha => exact ⟨_, _, rfl, sqT_mono e.vw.vw hs, (dpa_len ha).trans hn, h σ G H _ e ha R r⟩
theorem gs_nil {P : Lv → Prop} (h : P L) : GTs K pen H0 gNil [] L P := fun σ G H vs e hd R r => by
  cases hd
  exact ⟨rfl, r _ _ e h⟩
theorem gs_cons {d : PyData} {ds : List PyData} {P : Lv → Prop} (h : GT K pen H0 g d L fun L' => GTs K pen H0 gs ds L' P) : GTs K pen H0 (gCons g gs) (d :: ds) L P := fun σ G H vs e hd R r => by
  cases hd with
  | cons h1 h2 =>
    refine ⟨_, _, rfl, h σ G H _ e h1 _ fun σ' L' e' h' => ?_⟩
    exact h' σ' G H _ e' h2 R r
theorem s_seq (h : S K pen H0 t L { D with nx := fun L' => S K pen H0 u L' D }) : S K pen H0 (tSeq t u) L D := fun σ G H N e n1 n2 n3 n4 n5 n6 =>
  h σ G H _ e (fun σ' G' H' L' x e' h' => h' σ' G' H' N e' (fun σ2 G2 H2 L2 x2 e2 q => n1 σ2 G2 H2 L2 (x.trans x2) e2 q) (fun v d G2 H2 x2 vw hd q => n2 v d G2 H2 (x.trans x2) vw hd q)
    (fun σ2 G2 H2 L2 x2 e2 q => n3 σ2 G2 H2 L2 (x.trans x2) e2 q) (fun σ2 G2 H2 L2 x2 e2 q => n4 σ2 G2 H2 L2 (x.trans x2) e2 q) (fun v d G2 H2 x2 vw hd q => n5 v d G2 H2 (x.trans x2) vw hd q) (fun l ho o G2 H2 x2 vw h1 h2 h3 h4 q => n6 l ho o G2 H2 (x.trans x2) vw h1 h2 h3 h4 q)) n2 n3 n4 n5 n6
theorem s_next (h : D.nx L) : S K pen H0 tNext L D := fun σ G H N e n1 _ _ _ _ _ => n1 σ G H L .refl e h
theorem s_ret (h : E K pen H0 te L D.rt) : S K pen H0 (tRet te) L D := fun σ G H N e _ n2 _ _ _ _ => h σ G H e _ fun v d G' H' g hd p => n2 v d G' H' (e.gx g) g.vw hd p
theorem s_asg {i : Nat} (h : E K pen H0 te L fun d => D.nx (L.set i (some (.d d)))) : S K pen H0 (tAsg te (gName i)) L D := fun σ G H N e n1 _ _ _ _ _ =>
  h σ G H e _ fun v d G' H' g hd p => n1 _ G' H' _ (e.gx g) ((e.go g).set hd) p
theorem s_asgG (h : E K pen H0 te L fun d => GT K pen H0 g d L D.nx) : S K pen H0 (tAsg te g) L D := fun σ G H N e n1 _ _ _ _ _ =>
  h σ G H e _ fun v d G' H' go hd p => p σ G' H' v (e.go go) hd _ fun σ' L' e' p' => n1 σ' G' H' L' (e.gx go) e' p'
theorem s_drop (h : E K pen H0 te L fun _ => D.nx L) : S K pen H0 (tDrop te) L D := fun σ G H N e n1 _ _ _ _ _ => h σ G H e _ fun v d G' H' go _ p => n1 σ G' H' L (e.gx go) (e.go go) p
theorem s_if (h : ET K pen H0 tt L fun b => (b = true → S K pen H0 t L D) ∧ (b = false → S K pen H0 u L D)) : S K pen H0 (tIfS tt t u) L D := fun σ G H N e n1 n2 n3 n4 n5 n6 =>
  h σ G H e _ fun b G' H' go p => by
    have x := e.gx go
    have go2 : ∀ {t : TS}, S K pen H0 t L D → t N σ H' := fun {t} h => h σ G' H' N (e.go go) (fun σ2 G2 H2 L2 x2 e2 q => n1 σ2 G2 H2 L2 (x.trans x2) e2 q) (fun v d G2 H2 x2 vw hd q => n2 v d G2 H2 (x.trans x2) vw hd q)
      (fun σ2 G2 H2 L2 x2 e2 q => n3 σ2 G2 H2 L2 (x.trans x2) e2 q) (fun σ2 G2 H2 L2 x2 e2 q => n4 σ2 G2 H2 L2 (x.trans x2) e2 q) (fun v d G2 H2 x2 vw hd q => n5 v d G2 H2 (x.trans x2) vw hd q) (fun l ho o G2 H2 x2 vw h1 h2 h3 h4 q => n6 l ho o G2 H2 (x.trans x2) vw h1 h2 h3 h4 q)
    cases b with
    | true => exact go2 (p.1 rfl)
    | false => exact go2 (p.2 rfl)
theorem S.mono {D' : Dn} (h : S K pen H0 t L D) (h1 : ∀ L, D.nx L → D'.nx L) (h2 : ∀ d, D.rt d → D'.rt d) (h3 : ∀ L, D.bk L → D'.bk L) (h4 : ∀ L, D.ct L → D'.ct L) (h5 : ∀ d, D.rn d → D'.rn d := by intro _ h; exact h) (h6 : ∀ d, D.ro d → D'.ro d := by intro _ h; exact h) : S K pen H0 t L D' := fun σ G H N e n1 n2 n3 n4 n5 n6 =>
  h σ G H N e (fun σ' G' H' L' x e' q => n1 σ' G' H' L' x e' (h1 _ q)) (fun v d G' H' x vw hd q => n2 v d G' H' x vw hd (h2 _ q)) (fun σ' G' H' L' x e' q => n3 σ' G' H' L' x e' (h3 _ q)) (fun σ' G' H' L' x e' q => n4 σ' G' H' L' x e' (h4 _ q)) (fun v d G' H' x vw hd q => n5 v d G' H' x vw hd (h5 _ q)) (fun l ho o G' H' x vw h1 h2 h3 h4 q => n6 l ho o G' H' x vw h1 h2 h3 h4 (h6 _ q))
/-! loops -/
theorem s_forT (h : E K pen H0 te L fun d => ∃ ds, d = .tuple ds ∧ ∃ I : Nat → Lv → Prop, I 0 L ∧ (∀ (i : Nat) x L', ds[i]? = some x → I i L' → GT K pen H0 g x L' fun L2 => S K pen H0 t L2 { D with nx := I (i + 1), ct := I (i + 1), bk := D.nx }) ∧ (∀ L', I ds.length L' → D.nx L')) :
    S K pen H0 (tFor (iTup K te) g t) L D := fun σ G H N e n1 n2 n3 n4 n5 n6 => h σ G H e _ fun v d G1 H1 go hd ⟨ds, hds, I, i0, is, id⟩ => by
  subst hds
  cases hd with
  | tup hs ha =>
    rename_i a xs
    have x1 := e.gx go
    refine ⟨a, rfl, ⟨xs, sqT_mono go.vw.vw hs⟩, ?_⟩
    refine for_tup (fun i σ' H' => ∃ G' L', Gx pen H0 G1 H1 G' H' ∧ Ev K pen H0 G' H' σ' L' ∧ I i L') ⟨G1, L, .refl, e.go go, i0⟩ (fun i σ' H' _ ⟨G', L', x, e', _⟩ => sqT_mono (x.gg.trans e'.vw.vw) hs) (fun i y σ' H' hy ⟨G', L', x, e', q⟩ => ?_) (fun σ' H' ⟨G', L', x, e', q⟩ => ?_)
    · obtain ⟨z, hz, hd⟩ := dpa_getV ha hy
      refine is i z L' hz q σ' G' H' y e' (dp_mono x.gg _ _ hd) _ fun σ2 L2 e2 h2 => ?_
      exact h2 σ2 G' H' _ e2 (fun σ3 G3 H3 L3 x3 e3 q3 => ⟨G3, L3, x.trans x3, e3, q3⟩) (fun v d G3 H3 x3 vw hd q3 => n2 v d G3 H3 (x1.trans (x.trans x3)) vw hd q3)
        (fun σ3 G3 H3 L3 x3 e3 q3 => n1 σ3 G3 H3 L3 (x1.trans (x.trans x3)) e3 q3) (fun σ3 G3 H3 L3 x3 e3 q3 => ⟨G3, L3, x.trans x3, e3, q3⟩) (fun v d G3 H3 x3 vw hd q3 => n5 v d G3 H3 (x1.trans (x.trans x3)) vw hd q3) (fun l ho o G3 H3 x3 vw h1 h2 h3 h4 q3 => n6 l ho o G3 H3 (x1.trans (x.trans x3)) vw h1 h2 h3 h4 q3)
    · rw [dpa_len ha] at q
      exact n1 σ' G' H' L' (x1.trans x) e' (id L' q)
theorem s_forL (h : E K pen H0 te L fun d => ∃ ds, d = .list ds ∧ ∃ I : Nat → Lv → Prop, I 0 L ∧ (∀ (i : Nat) x L', ds[i]? = some x → I i L' → GT K pen H0 g x L' fun L2 => S K pen H0 t L2 { D with nx := I (i + 1), ct := I (i + 1), bk := D.nx }) ∧ (∀ L', I ds.length L' → D.nx L')) :
    S K pen H0 (tFor (iList K te) g t) L D := fun σ G H N e n1 n2 n3 n4 n5 n6 => h σ G H e _ fun v d G1 H1 go hd ⟨ds, hds, I, i0, is, id⟩ => by
  subst hds
  cases hd with
  | lst hs ha =>
    rename_i a xs
    have x1 := e.gx go
    refine ⟨a, rfl, ⟨xs, sqL_mono go.vw.vw hs⟩, ?_⟩
    refine for_list (fun i σ' H' => ∃ G' L', Gx pen H0 G1 H1 G' H' ∧ Ev K pen H0 G' H' σ' L' ∧ I i L') ⟨G1, L, .refl, e.go go, i0⟩ (fun i σ' H' _ ⟨G', L', x, e', _⟩ => sqL_mono (x.gg.trans e'.vw.vw) hs) (fun i y σ' H' hy ⟨G', L', x, e', q⟩ => ?_) (fun σ' H' ⟨G', L', x, e', q⟩ => ?_)
    · obtain ⟨z, hz, hd⟩ := dpa_getV ha hy
      refine is i z L' hz q σ' G' H' y e' (dp_mono x.gg _ _ hd) _ fun σ2 L2 e2 h2 => ?_
      exact h2 σ2 G' H' _ e2 (fun σ3 G3 H3 L3 x3 e3 q3 => ⟨G3, L3, x.trans x3, e3, q3⟩) (fun v d G3 H3 x3 vw hd q3 => n2 v d G3 H3 (x1.trans (x.trans x3)) vw hd q3)
        (fun σ3 G3 H3 L3 x3 e3 q3 => n1 σ3 G3 H3 L3 (x1.trans (x.trans x3)) e3 q3) (fun σ3 G3 H3 L3 x3 e3 q3 => ⟨G3, L3, x.trans x3, e3, q3⟩) (fun v d G3 H3 x3 vw hd q3 => n5 v d G3 H3 (x1.trans (x.trans x3)) vw hd q3) (fun l ho o G3 H3 x3 vw h1 h2 h3 h4 q3 => n6 l ho o G3 H3 (x1.trans (x.trans x3)) vw h1 h2 h3 h4 q3)
    · rw [dpa_len ha] at q
      exact n1 σ' G' H' L' (x1.trans x) e' (id L' q)
theorem s_forR (h : EA K pen H0 tl L fun ds => ∃ n : Nat, ds = [.int n] ∧ n ≤ 100000 ∧ ∃ I : Nat → Lv → Prop, I 0 L ∧ (∀ (i : Nat) L', i < n → I i L' → GT K pen H0 g (.int i) L' fun L2 => S K pen H0 t L2 { D with nx := I (i + 1), ct := I (i + 1), bk := D.nx }) ∧ (∀ L', I n L' → D.nx L')) :
    S K pen H0 (tFor (iRng1 tl) g t) L D := fun σ G H N e n1 n2 n3 n4 n5 n6 => h σ G H e _ fun vs ds G1 H1 go hd ⟨n, hds, hn, I, i0, is, id⟩ => by
  subst hds
  cases hd with
  | cons hd hd2 =>
    cases hd2
    cases hd
    have x1 := e.gx go
    refine ⟨(n : Int), rfl, by omega, by omega, ?_⟩
    rw [Int.toNat_natCast]
    refine for_range (lo := 0) (n := n) (fun i σ' H' => ∃ G' L', Gx pen H0 G1 H1 G' H' ∧ Ev K pen H0 G' H' σ' L' ∧ I i L') ⟨G1, L, .refl, e.go go, i0⟩ (fun i σ' H' hi ⟨G', L', x, e', q⟩ => ?_) (fun σ' H' ⟨G', L', x, e', q⟩ => ?_)
    · refine is i L' hi q σ' G' H' _ e' (by rw [Int.zero_add]; exact .int _) _ fun σ2 L2 e2 h2 => ?_
      exact h2 σ2 G' H' _ e2 (fun σ3 G3 H3 L3 x3 e3 q3 => ⟨G3, L3, x.trans x3, e3, q3⟩) (fun v d G3 H3 x3 vw hd q3 => n2 v d G3 H3 (x1.trans (x.trans x3)) vw hd q3)
        (fun σ3 G3 H3 L3 x3 e3 q3 => n1 σ3 G3 H3 L3 (x1.trans (x.trans x3)) e3 q3) (fun σ3 G3 H3 L3 x3 e3 q3 => ⟨G3, L3, x.trans x3, e3, q3⟩) (fun v d G3 H3 x3 vw hd q3 => n5 v d G3 H3 (x1.trans (x.trans x3)) vw hd q3) (fun l ho o G3 H3 x3 vw h1 h2 h3 h4 q3 => n6 l ho o G3 H3 (x1.trans (x.trans x3)) vw h1 h2 h3 h4 q3)
    · exact n1 σ' G' H' L' (x1.trans x) e' (id L' q)
theorem s_while (I : Nat → Lv → Prop) (h0 : ∃ m, I m L) (h : ∀ m L', I m L' → ET K pen H0 tt L' fun b => (b = true → S K pen H0 t L' { D with nx := fun L2 => ∃ m', m' < m ∧ I m' L2, ct := fun L2 => ∃ m', m' < m ∧ I m' L2, bk := D.nx }) ∧ (b = false → D.nx L')) :
    S K pen H0 (tWhile tt t) L D := fun σ G H N e n1 n2 n3 n4 n5 n6 => by
  obtain ⟨m0, i0⟩ := h0
  refine ⟨fun m σ' H' => ∃ G' L', Gx pen H0 G H G' H' ∧ Ev K pen H0 G' H' σ' L' ∧ I m L', ⟨m0, G, L, .refl, e, i0⟩, ?_⟩
  rintro m σ1 H1 ⟨G1, L1, x1, e1, q1⟩
  refine h m L1 q1 σ1 G1 H1 e1 _ fun b G2 H2 go p => ?_
  have x2 := x1.trans (e1.gx go)
  cases b with
  | false => exact n1 σ1 G2 H2 L1 x2 (e1.go go) (p.2 rfl)
  | true =>
    refine ⟨fun σ' H' => ∃ G' L' m', m' < m ∧ Gx pen H0 G H G' H' ∧ Ev K pen H0 G' H' σ' L' ∧ I m' L', fun σ' H' ⟨G', L', m', hm, r⟩ => ⟨m', hm, G', L', r⟩, ?_⟩
    exact p.1 rfl σ1 G2 H2 _ (e1.go go) (fun σ3 G3 H3 L3 x3 e3 ⟨m', hm, q3⟩ => ⟨G3, L3, m', hm, x2.trans x3, e3, q3⟩) (fun v d G3 H3 x3 vw hd q3 => n2 v d G3 H3 (x2.trans x3) vw hd q3)
      (fun σ3 G3 H3 L3 x3 e3 q3 => n1 σ3 G3 H3 L3 (x2.trans x3) e3 q3) (fun σ3 G3 H3 L3 x3 e3 ⟨m', hm, q3⟩ => ⟨G3, L3, m', hm, x2.trans x3, e3, q3⟩) (fun v d G3 H3 x3 vw hd q3 => n5 v d G3 H3 (x2.trans x3) vw hd q3) (fun l ho o G3 H3 x3 vw h1 h2 h3 h4 q3 => n6 l ho o G3 H3 (x2.trans x3) vw h1 h2 h3 h4 q3)
/-- x op= e -/
theorem s_aug {i : Nat} {x : PyData} {r : TIp} (hi : L[i]? = some (some (.d x))) (h : E K pen H0 te L fun y => R2d K pen r x y fun d => D.nx (L.set i (some (.d d)))) : S K pen H0 (tAug i te r) L D := fun σ G H N e n1 _ _ _ _ _ => by
  obtain ⟨v, h1, h2⟩ := e.sl i _ hi
  refine ⟨v, h1, h σ G H e _ fun w y G1 H1 g1 d1 p => ?_⟩
  exact p v w G1 H1 g1.vw (dp_mono g1.gg _ _ h2) d1 _ fun z d G2 H2 g2 d2 q => n1 _ G2 H2 _ ((e.gx g1).trans ((e.go g1).gx g2)) (((e.go g1).go g2).set d2) q
/-! calls -/
def SpX {α : Type} (K : PySem.W.Frag) (ts : List Addr) (Wf : α → Prop) (enc : α → List PyData) (res : α → PyData → Prop) : Sp := fun vs H Q _ => ∃ (x : α) (G : Hp), Vw ⟨none, ts⟩ G H ∧ DpAll K G vs (enc x) ∧ Wf x ∧ ∀ v d G' H', Go ⟨none, ts⟩ G H G' H' → Dp K G' v d → res x d → Q v H'
def PK.Is : Bool → PK → Prop
  | false, .pen _ _ => True
  | true, .spr => True
  | _, _ => False
def SpXk {α : Type} (b : Bool) (K : PySem.W.Frag) (ts : List Addr) (Wf : α → Prop) (enc : α → List PyData) (res : α → PyData → Prop) : Sp := fun vs H Q _ => ∃ (x : α) (p : Pn) (G : Hp) (us : List V), PK.Is b p.k ∧ vs = .ref p.a :: us ∧ Vw ⟨some p, ts⟩ G H ∧ DpAll K G us (enc x) ∧ Wf x ∧ ∀ v d G' H', Go ⟨some p, ts⟩ G H G' H' → Dp K G' v d → res x d → Q v H'
def SpXF {α : Type} (K : PySem.W.Frag) (ts : List Addr) (Wf : α → Prop) (enc : α → List PyData) (res : α → PyData → Prop) : Sp := fun vs H Q _ => ∃ (x : α) (G : Hp), Vw ⟨none, ts⟩ G H ∧ DpAll K G vs (enc x) ∧ Wf x ∧ ∀ v d G' H', Go ⟨none, ts⟩ G H G' H' → Nd K (vnew H G' H') v d → res x d → Q v H'
/-- told, seen as data -/
theorem Go.see {pen : Pc} {G H G' H' : Hp} (vw : Vw pen G H) (g : Go pen G H G' H') : Go pen G H (vmax H G' H') H' := by
  have v := vw_max (H0 := H) g.vw vw.ok
  refine ⟨fun a o e => vmax_G (g.gg _ _ e), fun a h => ?_, g.od, v⟩
  rw [← g.nw a h]
  cases e : G' a with
  | some o => exact vmax_G e
  | none =>
    rw [vmax_new e]
    cases z : newL H H' a with
    | none => rfl
    | some o => exact absurd (newL_some z).1 h
theorem e_callXF {α : Type} {pn : Option Pn} {ts : List Addr} {Wf : α → Prop} {enc : α → List PyData} {res : α → PyData → Prop} {X : XK} (h : EA K ⟨pn, ts⟩ H0 tl L fun ds => ∃ x, ds = enc x ∧ Wf x ∧ ∀ d, res x d → P d) : E K ⟨pn, ts⟩ H0 (tCall (SpXF K ts Wf enc res) [] X tl) L P := fun σ G H e Q q =>
  h σ G H e _ fun vs ds G1 H1 go hd ⟨x, hx, h1, h2⟩ => ⟨x, G1, go.vw.plain, by rw [List.append_nil, ← hx]; exact hd, h1, fun v d G' H' go2 hd2 p => by
    have g3 := Go.see go.vw (go2.lift go.vw)
    exact q v d _ H' (go.trans g3) (dp_mono vnew_max _ _ (nd_dp _ _ hd2)) (h2 d p)⟩
theorem e_callX {α : Type} {pn : Option Pn} {ts : List Addr} {Wf : α → Prop} {enc : α → List PyData} {res : α → PyData → Prop} {X : XK} (h : EA K ⟨pn, ts⟩ H0 tl L fun ds => ∃ x, ds = enc x ∧ Wf x ∧ ∀ d, res x d → P d) : E K ⟨pn, ts⟩ H0 (tCall (SpX K ts Wf enc res) [] X tl) L P := fun σ G H e Q q =>
  h σ G H e _ fun vs ds G1 H1 go hd ⟨x, hx, h1, h2⟩ => ⟨x, G1, go.vw.plain, by rw [List.append_nil, ← hx]; exact hd, h1, fun v d G' H' go2 hd2 p => q v d G' H' (go.trans (go2.lift go.vw)) hd2 (h2 d p)⟩
abbrev SpXP {α : Type} (K : PySem.W.Frag) (ts : List Addr) (Wf : α → Prop) (enc : α → List PyData) (res : α → PyData → Prop) : Sp := SpXk false K ts Wf enc res
abbrev SpXS {α : Type} (K : PySem.W.Frag) (ts : List Addr) (Wf : α → Prop) (enc : α → List PyData) (res : α → PyData → Prop) : Sp := SpXk true K ts Wf enc res
theorem e_callXP {α : Type} {b : Bool} {p : Pn} {ts : List Addr} {Wf : α → Prop} {enc : α → List PyData} {res : α → PyData → Prop} {X : XK} {i : Nat} (hi : L[i]? = some (some .pen)) (h : EA K ⟨some p, ts⟩ H0 tl L fun ds => ∃ x, ds = enc x ∧ Wf x ∧ ∀ d, res x d → P d) (hk : PK.Is b p.k := by exact trivial) : E K ⟨some p, ts⟩ H0 (tCall (SpXk b K ts Wf enc res) [] X (tCons (tVar i) tl)) L P := fun σ G H e Q q => by
  obtain ⟨v, hv, p', hp, rfl⟩ := e.sl i _ hi
  refine ⟨_, hv, h σ G H e _ fun vs ds G1 H1 go hd ⟨x, hx, h1, h2⟩ => ?_⟩
  cases hp
  exact ⟨x, p, G1, vs, hk, by rw [List.append_nil], go.vw, by rw [← hx]; exact hd, h1, fun v d G' H' go2 hd2 p => q v d G' H' (go.trans go2) hd2 (h2 d p)⟩
/-! defs -/
def st0 (N : List Str) (ds : List PyData) : Lv := ds.map (fun d => some (.d d)) ++ List.replicate (N.length - ds.length) none
def stP (N : List Str) (ds : List PyData) : Lv := some .pen :: (ds.map (fun d => some (.d d)) ++ List.replicate (N.length - (ds.length + 1)) none)
theorem start_get {N : List Str} {vs : List V} {ds : List PyData} {G : Hp} (h : DpAll K G vs ds) : ∀ (i : Nat) av, (st0 N ds)[i]? = some (some av) → ∃ v d, av = .d d ∧ (start N vs)[i]? = some (some v) ∧ Dp K G v d := fun i av hi => by
  unfold st0 at hi
  unfold L2.start
  by_cases q : i < ds.length
  · rw [List.getElem?_append_left (by rw [List.length_map]; exact q), List.getElem?_map] at hi
    cases hd : ds[i]? with
    | none => rw [hd] at hi; cases hi
    | some d =>
      rw [hd] at hi
      obtain ⟨v, h1, h2⟩ := dpa_get h hd
      refine ⟨v, d, (Option.some.inj (Option.some.inj hi)).symm, ?_, h2⟩
      rw [List.getElem?_append_left (by rw [List.length_map, dpa_len h]; exact q), List.getElem?_map, h1]
      rfl
  · rw [List.getElem?_append_right (by rw [List.length_map]; omega)] at hi
    have z := List.mem_of_getElem? hi
    have z2 := (List.mem_replicate.mp z).2
    cases z2
theorem ev_start {ts : List Addr} {N : List Str} {vs : List V} {ds : List PyData} {G H : Hp} (h : DpAll K G vs ds) (v : Vw ⟨none, ts⟩ G H) : Ev K ⟨none, ts⟩ H G H (start N vs) (st0 N ds) := by
  refine ⟨v, v.ok, fun _ h => h, ?_, fun i av hi => ?_, fun i j ds' es l h1 _ _ _ => ?_⟩
  · unfold L2.start st0
    rw [List.length_append, List.length_append, List.length_map, List.length_map, List.length_replicate, List.length_replicate, dpa_len h]
  · obtain ⟨v, d, rfl, h1, h2⟩ := start_get h i av hi
    exact ⟨v, h1, h2⟩
  · obtain ⟨v, d, e, _⟩ := start_get h i _ h1
    cases e
theorem ev_startP {ts : List Addr} {N : List Str} {p : Pn} {vs : List V} {ds : List PyData} {G H : Hp} (h : DpAll K G vs ds) (v : Vw ⟨some p, ts⟩ G H) (hN : ∃ x r, N = x :: r) : Ev K ⟨some p, ts⟩ H G H (start N (.ref p.a :: vs)) (stP N ds) := by
  obtain ⟨x, r, rfl⟩ := hN
  have e1 : start (x :: r) (.ref p.a :: vs) = some (.ref p.a) :: start r vs := by
    unfold L2.start
    rw [List.length_cons, List.length_cons, Nat.add_sub_add_right]
    rfl
  have e2 : stP (x :: r) ds = some .pen :: st0 r ds := by
    unfold stP st0
    rw [List.length_cons, Nat.add_sub_add_right]
  rw [e1, e2]
  have l0 : (start r vs).length = (st0 r ds).length := by
    unfold L2.start st0
    rw [List.length_append, List.length_append, List.length_map, List.length_map, List.length_replicate, List.length_replicate, dpa_len h]
  refine ⟨v, v.ok, fun _ h => h, ?_, fun i av hi => ?_, fun i j ds' es l h1 _ _ _ => ?_⟩
  · rw [List.length_cons, List.length_cons, l0]
  · cases i with
    | zero =>
      have e := Option.some.inj (Option.some.inj hi)
      subst e
      exact ⟨_, rfl, p, rfl, rfl⟩
    | succ i =>
      obtain ⟨v, d, rfl, h1, h2⟩ := start_get h i av hi
      exact ⟨v, h1, h2⟩
  · cases i with
    | zero => cases h1
    | succ i =>
      obtain ⟨v, d, e, _⟩ := start_get h i _ h1
      cases e
end
section
variable {P : Program} {w : World} {K : PySem.W.Frag} {mg : Str → Option Value} {base : Heap}
/-- a def without the pen -/
theorem fnX {α : Type} {x qual : Str} {st : Stmt} {f : Addr} {fd : FuncData} {N ps : List Str} {k : Nat} {ts : List Addr} {Wf : α → Prop} {enc : α → List PyData} {res : α → PyData → Prop} (F : Fun K x qual st f fd) (S0 : FnScope N ps (defScope st)) (hl : ∀ x, Wf x → (enc x).length = ps.length)
    (hbody : ∀ (cdv : Value) (A : Around) (outer : List Env) (s : Shared) (H : Hp) (E : XK), Room k (A.deeper (envOfC qual (defScope st) s.heap.objs.size f cdv)) →
      ∃ t, PSs (cxOf CX0 P w K mg base N qual (defScope st) f cdv A outer s H E).nox (defBody st) t ∧ ∀ x, Wf x → S K ⟨none, ts⟩ H t (st0 N (enc x)) { nx := fun _ => res x .none, rt := res x }) : FnOk P w K mg base CX0 (k + 1) f fd ps (SpX K ts Wf enc res) := by
  refine F.ok S0 (fun vs H Q E h => ?_) (fun cdv A outer s H vs Q E hr h => ?_)
  · obtain ⟨x, G, _, h1, h2, _⟩ := h
    rw [dpa_len h1]
    exact hl x h2
  · obtain ⟨x, G, v, h1, h2, q⟩ := h
    obtain ⟨t, ht, hS⟩ := hbody cdv A outer s H E hr
    refine ⟨t, ht, hS x h2 (L2.start N vs) G H _ (ev_start h1 v) (fun σ' G' H' L' x e' p => ?_) (fun v d G' H' x vw hd p => ?_) (fun _ _ _ _ _ _ z => z.elim) (fun _ _ _ _ _ _ z => z.elim) (fun _ _ _ _ _ _ _ z => z.elim) (fun _ _ _ _ _ _ _ _ _ _ _ z => z.elim)⟩
    · exact q .non .none G' H' ⟨x.gg, x.nw, fun a o hp e => x.od a o hp (by rw [e]; exact fun z => by cases z) e, e'.vw⟩ .non p
    · exact q v d G' H' ⟨x.gg, x.nw, fun a o hp e => x.od a o hp (by rw [e]; exact fun z => by cases z) e, vw⟩ hd p
/-- a def that tells what is new -/
theorem fnXF {α : Type} {x qual : Str} {st : Stmt} {f : Addr} {fd : FuncData} {N ps : List Str} {k : Nat} {ts : List Addr} {Wf : α → Prop} {enc : α → List PyData} {res : α → PyData → Prop} (F : Fun K x qual st f fd) (S0 : FnScope N ps (defScope st)) (hl : ∀ x, Wf x → (enc x).length = ps.length)
    (hbody : ∀ (cdv : Value) (A : Around) (outer : List Env) (s : Shared) (H : Hp) (E : XK), Room k (A.deeper (envOfC qual (defScope st) s.heap.objs.size f cdv)) →
      ∃ t, PSs (cxOf CX0 P w K mg base N qual (defScope st) f cdv A outer s H E).nox (defBody st) t ∧ ∀ x, Wf x → S K ⟨none, ts⟩ H t (st0 N (enc x)) { nx := fun _ => False, rt := fun _ => False, rn := res x }) : FnOk P w K mg base CX0 (k + 1) f fd ps (SpXF K ts Wf enc res) := by
  refine F.ok S0 (fun vs H Q E h => ?_) (fun cdv A outer s H vs Q E hr h => ?_)
  · obtain ⟨x, G, _, h1, h2, _⟩ := h
    rw [dpa_len h1]
    exact hl x h2
  · obtain ⟨x, G, v, h1, h2, q⟩ := h
    obtain ⟨t, ht, hS⟩ := hbody cdv A outer s H E hr
    refine ⟨t, ht, hS x h2 (L2.start N vs) G H _ (ev_start h1 v) (fun _ _ _ _ _ _ z => z.elim) (fun _ _ _ _ _ _ _ z => z.elim) (fun _ _ _ _ _ _ z => z.elim) (fun _ _ _ _ _ _ z => z.elim) (fun v d G' H' x vw hd p => ?_) (fun _ _ _ _ _ _ _ _ _ _ _ z => z.elim)⟩
    exact q v d G' H' ⟨x.gg, x.nw, fun a o hp e => x.od a o hp (by rw [e]; exact fun z => by cases z) e, vw⟩ hd p
/-- a def whose first argument is the pen, the spring -/
theorem fnXk {α : Type} {b : Bool} {x qual : Str} {st : Stmt} {f : Addr} {fd : FuncData} {N ps : List Str} {k : Nat} {ts : List Addr} {Wf : α → Prop} {enc : α → List PyData} {res : α → PyData → Prop} (F : Fun K x qual st f fd) (S0 : FnScope N ps (defScope st)) (hN : ∃ x r, N = x :: r) (hl : ∀ x, Wf x → (enc x).length + 1 = ps.length)
    (hbody : ∀ (cdv : Value) (A : Around) (outer : List Env) (s : Shared) (H : Hp) (E : XK), Room k (A.deeper (envOfC qual (defScope st) s.heap.objs.size f cdv)) →
      ∃ t, PSs (cxOf CX0 P w K mg base N qual (defScope st) f cdv A outer s H E).nox (defBody st) t ∧ ∀ (p : Pn) x, PK.Is b p.k → Wf x → S K ⟨some p, ts⟩ H t (stP N (enc x)) { nx := fun _ => res x .none, rt := res x }) : FnOk P w K mg base CX0 (k + 1) f fd ps (SpXk b K ts Wf enc res) := by
  refine F.ok S0 (fun vs H Q E h => ?_) (fun cdv A outer s H vs Q E hr h => ?_)
  · obtain ⟨x, p, G, us, hk, rfl, _, h1, h2, _⟩ := h
    rw [List.length_cons, dpa_len h1]
    exact hl x h2
  · obtain ⟨x, p, G, us, hk, rfl, v, h1, h2, q⟩ := h
    obtain ⟨t, ht, hS⟩ := hbody cdv A outer s H E hr
    refine ⟨t, ht, hS p x hk h2 _ G H _ (ev_startP h1 v hN) (fun σ' G' H' L' x e' p => ?_) (fun v d G' H' x vw hd p => ?_) (fun _ _ _ _ _ _ z => z.elim) (fun _ _ _ _ _ _ z => z.elim) (fun _ _ _ _ _ _ _ z => z.elim) (fun _ _ _ _ _ _ _ _ _ _ _ z => z.elim)⟩
    · exact q .non .none G' H' ⟨x.gg, x.nw, fun a o hp e => x.od a o hp (by rw [e]; exact fun z => by cases z) e, e'.vw⟩ .non p
    · exact q v d G' H' ⟨x.gg, x.nw, fun a o hp e => x.od a o hp (by rw [e]; exact fun z => by cases z) e, vw⟩ hd p
theorem fnXP {α : Type} {x qual : Str} {st : Stmt} {f : Addr} {fd : FuncData} {N ps : List Str} {k : Nat} {ts : List Addr} {Wf : α → Prop} {enc : α → List PyData} {res : α → PyData → Prop} (F : Fun K x qual st f fd) (S0 : FnScope N ps (defScope st)) (hN : ∃ x r, N = x :: r) (hl : ∀ x, Wf x → (enc x).length + 1 = ps.length)
    (hbody : ∀ (cdv : Value) (A : Around) (outer : List Env) (s : Shared) (H : Hp) (E : XK), Room k (A.deeper (envOfC qual (defScope st) s.heap.objs.size f cdv)) →
      ∃ t, PSs (cxOf CX0 P w K mg base N qual (defScope st) f cdv A outer s H E).nox (defBody st) t ∧ ∀ (pa pc : Addr) (pn : Nat) x, Wf x → S K ⟨some ⟨pa, .pen pc pn⟩, ts⟩ H t (stP N (enc x)) { nx := fun _ => res x .none, rt := res x }) : FnOk P w K mg base CX0 (k + 1) f fd ps (SpXP K ts Wf enc res) :=
  fnXk F S0 hN hl fun cdv A outer s H E hr => by
    obtain ⟨t, ht, h⟩ := hbody cdv A outer s H E hr
    refine ⟨t, ht, fun p x hk hw => ?_⟩
    obtain ⟨a, kk⟩ := p
    cases kk with
    | pen c n => exact h a c n x hw
    | spr => exact hk.elim
theorem fnXS {α : Type} {x qual : Str} {st : Stmt} {f : Addr} {fd : FuncData} {N ps : List Str} {k : Nat} {ts : List Addr} {Wf : α → Prop} {enc : α → List PyData} {res : α → PyData → Prop} (F : Fun K x qual st f fd) (S0 : FnScope N ps (defScope st)) (hN : ∃ x r, N = x :: r) (hl : ∀ x, Wf x → (enc x).length + 1 = ps.length)
    (hbody : ∀ (cdv : Value) (A : Around) (outer : List Env) (s : Shared) (H : Hp) (E : XK), Room k (A.deeper (envOfC qual (defScope st) s.heap.objs.size f cdv)) →
      ∃ t, PSs (cxOf CX0 P w K mg base N qual (defScope st) f cdv A outer s H E).nox (defBody st) t ∧ ∀ (pa : Addr) x, Wf x → S K ⟨some ⟨pa, .spr⟩, ts⟩ H t (stP N (enc x)) { nx := fun _ => res x .none, rt := res x }) : FnOk P w K mg base CX0 (k + 1) f fd ps (SpXS K ts Wf enc res) :=
  fnXk F S0 hN hl fun cdv A outer s H E hr => by
    obtain ⟨t, ht, h⟩ := hbody cdv A outer s H E hr
    refine ⟨t, ht, fun p x hk hw => ?_⟩
    obtain ⟨a, kk⟩ := p
    cases kk with
    | pen c n => exact hk.elim
    | spr => exact h a x hw
end
end Dl
set_option Elab.async false
set_option linter.all false
set_option maxRecDepth 100000
namespace Dl
open PySem PySem.Spec PyProof.Rows L2
section
variable {K : PySem.W.Frag} {pen : Pc} {H0 : Hp} {L : Lv} {P P' : PyData → Prop} {ta tb tc te ti : TE} {tl tr : TA} {tt : TT} {t u : TS} {Pb : Bool → Prop} {D : Dn} {g : TG} {gs : TGs}
/-! ### a new list -/
def EL (K : PySem.W.Frag) (pen : Pc) (H0 : Hp) (te : TE) (L : Lv) (Pl : List PyData → Prop) : Prop := ∀ (σ : L2.St) (G H : Hp), Ev K pen H0 G H σ L → ∀ Q : VK, (∀ l vs ds G' H', Go pen G H G' H' → H' l = some (.lst vs) → G' l = none → H l = none → DpAll K G' vs ds → Pl ds → Q (.ref l) H') → te σ H Q
/-- G with a list that is not yet data -/
theorem Go.list {G H G' H' : Hp} {l : Addr} {vs : List V} (vw : Vw pen G H) (g : Go pen G H G' H') (h1 : H' l = some (.lst vs)) (h2 : G' l = none) (h3 : H l = none) : Go pen G H (upd G' l (.lst vs)) H' ∧ Same G' (upd G' l (.lst vs)) := by
  have s : Same G' (upd G' l (.lst vs)) := fun a o e => by
    rw [upd_ne (ne_of_none e h2)]
    exact e
  refine ⟨⟨g.gg.trans s, fun a h => ?_, g.od, ⟨fun a o e => ?_, fun a p => ?_, g.vw.ok⟩⟩, s⟩
  · rw [upd_ne (fun z => h (by rw [z]; exact h3))]
    exact g.nw a h
  · by_cases z : a = l
    · subst z
      rw [upd_same] at e
      rw [h1]; exact e
    · rw [upd_ne z] at e
      exact g.vw.vw a o e
  · rw [upd_ne (fun z => vw.ok.there p (by rw [z]; exact h3))]
    exact g.vw.no a p
theorem e_ofL (h : EL K pen H0 te L fun ds => P (.list ds)) : E K pen H0 te L P := fun σ G H e Q q => h σ G H e Q fun l vs ds G' H' g h1 h2 h3 h4 p => by
  obtain ⟨g2, s⟩ := Go.list e.vw g h1 h2 h3
  exact q _ _ _ _ g2 (.lst (.inl (.inl upd_same)) (dpa_mono s _ _ h4)) p
theorem EL.mono {Pl Pl' : List PyData → Prop} (h : EL K pen H0 te L Pl) (k : ∀ d, Pl d → Pl' d) : EL K pen H0 te L Pl' := fun σ G H e Q q => h σ G H e Q fun l vs ds G' H' g h1 h2 h3 h4 p => q l vs ds G' H' g h1 h2 h3 h4 (k ds p)
/-! ### comprehensions -/
/-- POk behind a write elsewhere -/
theorem POk.upd {H H1 : Hp} {D : Addr} {o : HO} (h : POk pen H) (h1 : POk pen H1) (hD : H1 D = none) : POk pen (L2.upd H D o) := by
  refine ⟨fun p hp => (h.1 p hp).mono fun a u ho e => ?_, fun P hP => ?_⟩
  · obtain ⟨xs, k⟩ := (h1.1 p hp).lst ho
    rw [upd_ne (ne_of_none k hD)]
    exact e
  · obtain ⟨ps, e, t⟩ := h.2 P hP
    exact ⟨ps, by rw [upd_ne (fun z => h1.there (.inr hP) (by rw [z]; exact hD))]; exact e, t⟩
/-- an object that was new at H1 and is not data changes -/
theorem Go.mut {G H1 G' H' : Hp} {D : Addr} {o : HO} (v1 : Vw pen G H1) (hD : H1 D = none) (gd : G' D = none) (g : Go pen G H1 G' H') : Go pen G H1 G' (upd H' D o) := by
  refine ⟨g.gg, g.nw, fun a o hp e => ?_, ⟨fun a o e => ?_, g.vw.no, ?_⟩⟩
  · rw [upd_ne (ne_of_none e hD)]
    exact g.od a o hp e
  · rw [upd_ne (fun z => by rw [z, gd] at e; cases e)]
    exact g.vw.vw a o e
  · exact g.vw.ok.upd v1.ok hD
def LcI (K : PySem.W.Frag) (pen : Pc) (G H1 : Hp) (D : Addr) (J : Nat → List PyData → Prop) (i : Nat) (H' : Hp) : Prop :=
  ∃ G' vs acc, Go pen G H1 G' H' ∧ H' D = some (.lst vs) ∧ G' D = none ∧ DpAll K G' vs acc ∧ J i acc ∧ acc.length ≤ i
theorem lc_start {G H1 : Hp} {D : Addr} {J : Nat → List PyData → Prop} (v : Vw pen G H1) (hD : H1 D = none) (j0 : J 0 []) : LcI K pen G H1 D J 0 (upd H1 D (.lst [])) := by
  refine ⟨G, [], [], Go.hid v hD, upd_same, ?_, .nil, j0, Nat.le_refl _⟩
  cases q : G D with
  | none => rfl
  | some o => rw [v.vw _ _ q] at hD; cases hD
theorem lc_end {G H G1 H1 H' : Hp} {D : Addr} {J : Nat → List PyData → Prop} {n : Nat} {Q : VK} {Pl : List PyData → Prop} (go : Go pen G H G1 H1) (hD : H1 D = none) (I : LcI K pen G1 H1 D J n H') (j1 : ∀ acc, J n acc → Pl acc)
    (q : ∀ l vs ds G' H', Go pen G H G' H' → H' l = some (.lst vs) → G' l = none → H l = none → DpAll K G' vs ds → Pl ds → Q (.ref l) H') : Q (.ref D) H' := by
  obtain ⟨G', vs, acc, g, h1, h2, h3, h4, _⟩ := I
  refine q D vs acc G' H' (go.trans g) h1 h2 ?_ h3 (j1 acc h4)
  cases z : H D with
  | none => rfl
  | some o => exact absurd hD (go.dom (by rw [z]; exact fun z => by cases z))
theorem lc_turn {G H1 G' H' : Hp} {D : Addr} {J : Nat → List PyData → Prop} {i : Nat} {vs : List V} {acc : List PyData} {σ2 : L2.St} {L2 : Lv} (v1 : Vw pen G H1) (hD : H1 D = none) (hi : i < 100000) (go : Go pen G H1 G' H') (h1 : H' D = some (.lst vs)) (h2 : G' D = none) (h3 : DpAll K G' vs acc) (h5 : acc.length ≤ i)
    (e2 : Ev K pen H0 G' H' σ2 L2) (h : ET K pen H0 tt L2 fun b => (b = true → E K pen H0 te L2 fun d => J (i + 1) (acc ++ [d])) ∧ (b = false → J (i + 1) acc)) :
    tt σ2 H' fun b H3 => if b = true then te σ2 H3 fun y H4 => ∃ acc, H4 D = some (.lst acc) ∧ acc.length < sizeLine ∧ LcI K pen G H1 D J (i + 1) (upd H4 D (.lst (acc ++ [y]))) else LcI K pen G H1 D J (i + 1) H3 := by
  have np : ¬ IsPn pen D := fun p => v1.ok.there p hD
  have hz : H' D ≠ none := by rw [h1]; exact fun z => by cases z
  refine h σ2 G' H' e2 _ fun b G3 H3 g3 p => ?_
  have k1 : H3 D = some (.lst vs) := g3.od D _ np h1
  have k2 : G3 D = none := (g3.nw D hz).trans h2
  cases b with
  | true =>
    show te σ2 H3 _
    refine p.1 rfl σ2 G3 H3 (e2.go g3) _ fun y d G4 H4 g4 d4 p4 => ?_
    have m1 : H4 D = some (.lst vs) := g4.od D _ np k1
    have m2 : G4 D = none := (g4.nw D (by rw [k1]; exact fun z => by cases z)).trans k2
    have m3 := dpa_mono (g3.gg.trans g4.gg) _ _ h3
    refine ⟨vs, m1, Nat.lt_of_lt_of_le (Nat.lt_of_le_of_lt (by rw [dpa_len h3]; exact h5) hi) (by decide : 100000 ≤ sizeLine), G4, vs ++ [y], acc ++ [d], Go.mut v1 hD m2 ((go.trans g3).trans g4), upd_same, m2, dpa_app m3 (.cons d4 .nil), p4, ?_⟩
    rw [List.length_append]
    show acc.length + 1 ≤ i + 1
    omega
  | false =>
    show LcI K pen G H1 D J (i + 1) H3
    exact ⟨G3, vs, acc, go.trans g3, k1, k2, dpa_mono g3.gg _ _ h3, p.2 rfl, by omega⟩
theorem wipe1 (σ : L2.St) (j : Nat) (x : Option V) : wipe ((wipe σ [j]).set j x) [j] = wipe σ [j] := by
  show ((σ.set j none).set j x).set j none = σ.set j none
  rw [List.set_set, List.set_set]
theorem wipe2 (σ : L2.St) (j k : Nat) (x y : Option V) : wipe (((wipe σ [j, k]).set j x).set k y) [j, k] = wipe σ [j, k] := by
  show (((((σ.set k none).set j none).set j x).set k y).set k none).set j none = (σ.set k none).set j none
  apply List.ext_getElem?
  intro m
  simp only [List.getElem?_set, List.length_set]
  by_cases h1 : j = m <;> by_cases h2 : k = m <;> simp [h1, h2] <;> (try split) <;> simp_all
theorem ev_wipe1 {G H : Hp} {σ : L2.St} (e : Ev K pen H0 G H σ L) (j : Nat) : Ev K pen H0 G H (wipe σ [j]) (L.set j none) := e.unset j
theorem ev_wipe2 {G H : Hp} {σ : L2.St} (e : Ev K pen H0 G H σ L) (j k : Nat) : Ev K pen H0 G H (wipe σ [j, k]) ((L.set k none).set j none) := (e.unset k).unset j
/-- one turn, by data -/
abbrev LcT (K : PySem.W.Frag) (pen : Pc) (H0 : Hp) (tt : TT) (te : TE) (L2 : Lv) (acc : List PyData) (Jn : List PyData → Prop) : Prop :=
  ET K pen H0 tt L2 fun b => (b = true → E K pen H0 te L2 fun d => Jn (acc ++ [d])) ∧ (b = false → Jn acc)
theorem el_lcR {Pl : List PyData → Prop} {j : Nat} (h : EA K pen H0 tl L fun ds => ∃ n : Nat, ds = [.int n] ∧ n ≤ 100000 ∧ ∃ J : Nat → List PyData → Prop, J 0 [] ∧
    (∀ (i : Nat) acc, i < n → J i acc → LcT K pen H0 tt te ((L.set j none).set j (some (.d (.int i)))) acc (J (i + 1))) ∧ (∀ acc, J n acc → Pl acc)) :
    EL K pen H0 (tLc (iRng1 tl) (gName j) tt te [j]) L Pl := fun σ G H e Q q => h σ G H e _ fun vs ds G1 H1 go hd ⟨n, hds, hn, J, j0, js, je⟩ => by
  subst hds
  cases hd with
  | cons hd hd2 =>
    cases hd2
    cases hd
    refine ⟨(n : Int), rfl, by omega, by omega, fun Dl hD => ?_⟩
    rw [Int.toNat_natCast]
    refine lc_range (lo := 0) (n := n) (LcI K pen G1 H1 Dl J) (lc_start go.vw hD j0) (fun i H' hi ⟨G', vs, acc, g, h1, h2, h3, h4, h5⟩ => ?_) (fun H' I => lc_end go hD I je q)
    show wipe ((wipe σ [j]).set j (some (.int ((0 : Int) + (i : Int))))) [j] = wipe σ [j] ∧ tt ((wipe σ [j]).set j (some (.int ((0 : Int) + (i : Int))))) H' _
    refine ⟨wipe1 _ _ _, ?_⟩
    rw [Int.zero_add]
    exact lc_turn go.vw hD (by omega) g h1 h2 h3 h5 ((ev_wipe1 ((e.go go).go g) j).set (.int _)) (js i acc hi h4)
theorem e_lcR {j : Nat} (h : EA K pen H0 tl L fun ds => ∃ n : Nat, ds = [.int n] ∧ n ≤ 100000 ∧ ∃ J : Nat → List PyData → Prop, J 0 [] ∧
    (∀ (i : Nat) acc, i < n → J i acc → LcT K pen H0 tt te ((L.set j none).set j (some (.d (.int i)))) acc (J (i + 1))) ∧ (∀ acc, J n acc → P (.list acc))) :
    E K pen H0 (tLc (iRng1 tl) (gName j) tt te [j]) L P := e_ofL (el_lcR h)
theorem el_lcT {Pl : List PyData → Prop} {j : Nat} (h : E K pen H0 ta L fun d => ∃ ds, d = .tuple ds ∧ ds.length ≤ 100000 ∧ ∃ J : Nat → List PyData → Prop, J 0 [] ∧
    (∀ (i : Nat) x acc, ds[i]? = some x → J i acc → LcT K pen H0 tt te ((L.set j none).set j (some (.d x))) acc (J (i + 1))) ∧ (∀ acc, J ds.length acc → Pl acc)) :
    EL K pen H0 (tLc (iTup K ta) (gName j) tt te [j]) L Pl := fun σ G H e Q q => h σ G H e _ fun v d G1 H1 go hd ⟨ds, hds, hn, J, j0, js, je⟩ => by
  subst hds
  cases hd with
  | tup hs ha =>
    rename_i a xs
    refine ⟨a, rfl, ⟨xs, sqT_mono go.vw.vw hs⟩, fun Dl hD => ?_⟩
    refine lc_tup (xs := xs) (LcI K pen G1 H1 Dl J) (lc_start go.vw hD j0) (fun i H' _ ⟨G', vs, acc, g, _⟩ => sqT_mono (g.gg.trans g.vw.vw) hs) (fun i x H' hx ⟨G', vs, acc, g, h1, h2, h3, h4, h5⟩ => ?_) (fun H' I => ?_)
    · obtain ⟨z, hz, hd⟩ := dpa_getV ha hx
      refine ⟨wipe1 _ _ _, ?_⟩
      have := (List.getElem?_eq_some_iff.mp hz).1
      exact lc_turn go.vw hD (by omega) g h1 h2 h3 h5 ((ev_wipe1 ((e.go go).go g) j).set (dp_mono g.gg _ _ hd)) (js i z acc hz h4)
    · rw [dpa_len ha] at I
      exact lc_end go hD I je q
theorem e_lcT {j : Nat} (h : E K pen H0 ta L fun d => ∃ ds, d = .tuple ds ∧ ds.length ≤ 100000 ∧ ∃ J : Nat → List PyData → Prop, J 0 [] ∧
    (∀ (i : Nat) x acc, ds[i]? = some x → J i acc → LcT K pen H0 tt te ((L.set j none).set j (some (.d x))) acc (J (i + 1))) ∧ (∀ acc, J ds.length acc → P (.list acc))) :
    E K pen H0 (tLc (iTup K ta) (gName j) tt te [j]) L P := e_ofL (el_lcT h)
theorem el_lcL {Pl : List PyData → Prop} {j : Nat} (h : E K pen H0 ta L fun d => ∃ ds, d = .list ds ∧ ds.length ≤ 100000 ∧ ∃ J : Nat → List PyData → Prop, J 0 [] ∧
    (∀ (i : Nat) x acc, ds[i]? = some x → J i acc → LcT K pen H0 tt te ((L.set j none).set j (some (.d x))) acc (J (i + 1))) ∧ (∀ acc, J ds.length acc → Pl acc)) :
    EL K pen H0 (tLc (iList K ta) (gName j) tt te [j]) L Pl := fun σ G H e Q q => h σ G H e _ fun v d G1 H1 go hd ⟨ds, hds, hn, J, j0, js, je⟩ => by
  subst hds
  cases hd with
  | lst hs ha =>
    rename_i a xs
    refine ⟨a, rfl, ⟨xs, sqL_mono go.vw.vw hs⟩, fun Dl hD => ?_⟩
    refine lc_list (xs := xs) (LcI K pen G1 H1 Dl J) (lc_start go.vw hD j0) (fun i H' _ ⟨G', vs, acc, g, _⟩ => sqL_mono (g.gg.trans g.vw.vw) hs) (fun i x H' hx ⟨G', vs, acc, g, h1, h2, h3, h4, h5⟩ => ?_) (fun H' I => ?_)
    · obtain ⟨z, hz, hd⟩ := dpa_getV ha hx
      refine ⟨wipe1 _ _ _, ?_⟩
      have := (List.getElem?_eq_some_iff.mp hz).1
      exact lc_turn go.vw hD (by omega) g h1 h2 h3 h5 ((ev_wipe1 ((e.go go).go g) j).set (dp_mono g.gg _ _ hd)) (js i z acc hz h4)
    · rw [dpa_len ha] at I
      exact lc_end go hD I je q
theorem e_lcL {j : Nat} (h : E K pen H0 ta L fun d => ∃ ds, d = .list ds ∧ ds.length ≤ 100000 ∧ ∃ J : Nat → List PyData → Prop, J 0 [] ∧
    (∀ (i : Nat) x acc, ds[i]? = some x → J i acc → LcT K pen H0 tt te ((L.set j none).set j (some (.d x))) acc (J (i + 1))) ∧ (∀ acc, J ds.length acc → P (.list acc))) :
    E K pen H0 (tLc (iList K ta) (gName j) tt te [j]) L P := e_ofL (el_lcL h)
/-- [e for a, b in zip(x, y)], two tuples or two lists of one length -/
theorem el_lcZ {Pl : List PyData → Prop} {j k : Nat} (h : EA K pen H0 tl L fun ds => ∃ as bs, (ds = [.tuple as, .tuple bs] ∨ ds = [.list as, .list bs]) ∧ as.length = bs.length ∧ as.length ≤ 100000 ∧ ∃ J : Nat → List PyData → Prop, J 0 [] ∧
    (∀ (i : Nat) x y acc, as[i]? = some x → bs[i]? = some y → J i acc → LcT K pen H0 tt te ((((L.set k none).set j none).set j (some (.d x))).set k (some (.d y))) acc (J (i + 1))) ∧ (∀ acc, J as.length acc → Pl acc)) :
    EL K pen H0 (tLc (RZ.iZipA K tl) (gTup K 2 (gCons (gName j) (gCons (gName k) gNil))) tt te [j, k]) L Pl := fun σ G H e Q q => h σ G H e _ fun vs ds G1 H1 go hd ⟨as, bs, hds, hl, hn, J, j0, js, je⟩ => by
  have turn : ∀ (Dl : Addr) (i : Nat) (H' : Hp) (x y : V) (T : Addr) (a b : PyData), H1 Dl = none → as[i]? = some a → bs[i]? = some b → (∀ G', Same G1 G' → Dp K G' x a ∧ Dp K G' y b) → LcI K pen G1 H1 Dl J i H' → H' T = none →
      gTup K 2 (gCons (gName j) (gCons (gName k) gNil)) (.ref T) (wipe σ [j, k]) (upd H' T (.tup [x, y])) fun σ2 H2 => wipe σ2 [j, k] = wipe σ [j, k] ∧ tt σ2 H2 fun b H3 =>
        if b = true then te σ2 H3 fun y H4 => ∃ acc, H4 Dl = some (.lst acc) ∧ acc.length < sizeLine ∧ LcI K pen G1 H1 Dl J (i + 1) (upd H4 Dl (.lst (acc ++ [y]))) else LcI K pen G1 H1 Dl J (i + 1) H3 := fun Dl i H' x y T a b hD ha hb hxy ⟨G', vs, acc, g, h1, h2, h3, h4, h5⟩ hT => by
    have g2 := Go.new g.vw (o := .tup [x, y]) hT
    have nT : Dl ≠ T := ne_of_none h1 hT
    refine ⟨T, [x, y], rfl, .inl (.inl upd_same), rfl, x, [y], rfl, y, [], rfl, rfl, wipe2 _ _ _ _ _, ?_⟩
    have hi := (List.getElem?_eq_some_iff.mp ha).1
    have ex := ((((ev_wipe2 ((e.go go).go g) j k).go g2).set (i := j) (dp_mono g2.gg _ _ (hxy G' g.gg).1)).set (i := k) (dp_mono g2.gg _ _ (hxy G' g.gg).2))
    refine lc_turn go.vw hD (by omega) (g.trans g2) ?_ ?_ (dpa_mono g2.gg _ _ h3) h5 ex (js i a b acc ha hb h4)
    · rw [upd_ne nT]; exact h1
    · rw [upd_ne nT]; exact h2
  rcases hds with rfl | rfl
  · cases hd with
    | cons hd hd2 =>
      cases hd2 with
      | cons hd3 hd4 =>
        cases hd4
        cases hd with
        | tup hs ha =>
          cases hd3 with
          | tup hs' ha' =>
            rename_i a xs a' ys
            refine ⟨a, a', xs, ys, rfl, .inr ⟨sqT_mono go.vw.vw hs, sqT_mono go.vw.vw hs', fun Dl hD => ?_⟩⟩
            refine ⟨fun i m H' => m = as.length - i ∧ i ≤ as.length ∧ LcI K pen G1 H1 Dl J i H', ⟨as.length, rfl, Nat.zero_le _, lc_start go.vw hD j0⟩, ?_⟩
            rintro i m H' ⟨rfl, hi, I⟩
            obtain ⟨G', vs, acc, g, r⟩ := id I
            have z1 : SqT K H' a xs := sqT_mono (g.gg.trans g.vw.vw) hs
            have z2 : SqT K H' a' ys := sqT_mono (g.gg.trans g.vw.vw) hs'
            by_cases hlt : i < as.length
            · obtain ⟨x, hx, dx⟩ := dpa_get ha (List.getElem?_eq_getElem hlt)
              obtain ⟨y, hy, dy⟩ := dpa_get ha' (List.getElem?_eq_getElem (hl ▸ hlt))
              refine .inr ⟨⟨xs, ys, x, y, z1, z2, hx, hy⟩, LcI K pen G1 H1 Dl J (i + 1), fun H2 I2 => ⟨as.length - (i + 1), by omega, rfl, hlt, I2⟩, fun v H2 hv => ?_⟩
              obtain ⟨T, x', y', rfl, hT, rfl, f1, f2⟩ := hv
              have e1 : x' = x := Option.some.inj ((f1 _ z1).symm.trans hx)
              have e2 : y' = y := Option.some.inj ((f2 _ z2).symm.trans hy)
              subst e1 e2
              exact turn Dl i H' x' y' T _ _ hD (List.getElem?_eq_getElem hlt) (List.getElem?_eq_getElem (hl ▸ hlt)) (fun G2 s => ⟨dp_mono s _ _ dx, dp_mono s _ _ dy⟩) I hT
            · have e1 : i = as.length := by omega
              subst e1
              exact .inl ⟨⟨xs, ys, z1, z2, .inl (by rw [dpa_len ha]; exact Nat.le_refl _)⟩, lc_end go hD I je q⟩
  · cases hd with
    | cons hd hd2 =>
      cases hd2 with
      | cons hd3 hd4 =>
        cases hd4
        cases hd with
        | lst hs ha =>
          cases hd3 with
          | lst hs' ha' =>
            rename_i a xs a' ys
            refine ⟨a, a', xs, ys, rfl, .inl ⟨sqL_mono go.vw.vw hs, sqL_mono go.vw.vw hs', fun Dl hD => ?_⟩⟩
            refine ⟨fun i m H' => m = as.length - i ∧ i ≤ as.length ∧ LcI K pen G1 H1 Dl J i H', ⟨as.length, rfl, Nat.zero_le _, lc_start go.vw hD j0⟩, ?_⟩
            rintro i m H' ⟨rfl, hi, I⟩
            obtain ⟨G', vs, acc, g, r⟩ := id I
            have z1 : SqL K H' a xs := sqL_mono (g.gg.trans g.vw.vw) hs
            have z2 : SqL K H' a' ys := sqL_mono (g.gg.trans g.vw.vw) hs'
            by_cases hlt : i < as.length
            · obtain ⟨x, hx, dx⟩ := dpa_get ha (List.getElem?_eq_getElem hlt)
              obtain ⟨y, hy, dy⟩ := dpa_get ha' (List.getElem?_eq_getElem (hl ▸ hlt))
              refine .inr ⟨⟨xs, ys, x, y, z1, z2, hx, hy⟩, LcI K pen G1 H1 Dl J (i + 1), fun H2 I2 => ⟨as.length - (i + 1), by omega, rfl, hlt, I2⟩, fun v H2 hv => ?_⟩
              obtain ⟨T, x', y', rfl, hT, rfl, f1, f2⟩ := hv
              have e1 : x' = x := Option.some.inj ((f1 _ z1).symm.trans hx)
              have e2 : y' = y := Option.some.inj ((f2 _ z2).symm.trans hy)
              subst e1 e2
              exact turn Dl i H' x' y' T _ _ hD (List.getElem?_eq_getElem hlt) (List.getElem?_eq_getElem (hl ▸ hlt)) (fun G2 s => ⟨dp_mono s _ _ dx, dp_mono s _ _ dy⟩) I hT
            · have e1 : i = as.length := by omega
              subst e1
              exact .inl ⟨⟨xs, ys, z1, z2, .inl (by rw [dpa_len ha]; exact Nat.le_refl _)⟩, lc_end go hD I je q⟩
theorem e_lcZ {j k : Nat} (h : EA K pen H0 tl L fun ds => ∃ as bs, (ds = [.tuple as, .tuple bs] ∨ ds = [.list as, .list bs]) ∧ as.length = bs.length ∧ as.length ≤ 100000 ∧ ∃ J : Nat → List PyData → Prop, J 0 [] ∧
    (∀ (i : Nat) x y acc, as[i]? = some x → bs[i]? = some y → J i acc → LcT K pen H0 tt te ((((L.set k none).set j none).set j (some (.d x))).set k (some (.d y))) acc (J (i + 1))) ∧ (∀ acc, J as.length acc → P (.list acc))) :
    E K pen H0 (tLc (RZ.iZipA K tl) (gTup K 2 (gCons (gName j) (gCons (gName k) gNil))) tt te [j, k]) L P := e_ofL (el_lcZ h)
theorem et_yes (h : Pb true) : ET K pen H0 tYes L Pb := fun σ G H e Q q => q true G H (.refl e.vw) h
/-! ### slices, sums of tuples and lists -/
def cutD (xs : List PyData) (lo hi : Option Int) : List PyData := (xs.drop (HT.sIx xs.length 0 lo)).take (HT.sIx xs.length xs.length hi - HT.sIx xs.length 0 lo)
theorem dpa_cut {G : Hp} {vs : List V} {ds : List PyData} (h : DpAll K G vs ds) (lo hi : Option Int) : DpAll K G (cutV vs lo hi) (cutD ds lo hi) := by
  unfold cutV cutD
  rw [dpa_len h]
  exact dpa_take _ (dpa_drop _ h)
theorem r_slT {ds : List PyData} {lo hi : Option Int} (p : P (.tuple (cutD ds lo hi))) : RSd K pen (rSlA K) (.tuple ds) lo hi P := fun x G H v hx Q q => by
  cases hx with
  | tup hs ha =>
    rename_i a xs
    refine ⟨a, xs, rfl, sqT_mono v.vw hs, fun ⟨w1, w2⟩ => ?_, fun _ p' hp => ?_⟩
    · have e : cutD ds lo hi = ds := by
        unfold cutD
        rw [← dpa_len ha, w1, w2, dpa_len ha]
        show ds.take (ds.length - 0) = ds
        rw [Nat.sub_zero, List.take_length]
      rw [e] at p
      exact q _ _ G H (.refl v) (.tup hs ha) p
    · have g := Go.new v (o := .tup (cutV xs lo hi)) hp
      exact q _ _ _ _ g (.tup (.inl (.inl upd_same)) (dpa_mono g.gg _ _ (dpa_cut ha lo hi))) p
theorem r_slL {ds : List PyData} {lo hi : Option Int} (p : P (.list (cutD ds lo hi))) : RSd K pen (rSlL K) (.list ds) lo hi P := fun x G H v hx Q q => by
  cases hx with
  | lst hs ha =>
    rename_i a xs
    refine ⟨a, xs, rfl, sqL_mono v.vw hs, fun p' hp => ?_⟩
    have g := Go.new v (o := .lst (cutV xs lo hi)) hp
    exact q _ _ _ _ g (.lst (.inl (.inl upd_same)) (dpa_mono g.gg _ _ (dpa_cut ha lo hi))) p
theorem r_catT {as bs : List PyData} (hl : as.length + bs.length ≤ 100000) (p : P (.tuple (as ++ bs))) : R2d K pen (rCatA K) (.tuple as) (.tuple bs) P := fun x y G H v hx hy Q q => by
  cases hx with
  | tup hs ha =>
    cases hy with
    | tup hs' ha' =>
      rename_i a xs a' ys
      refine ⟨a, a', xs, ys, rfl, rfl, sqT_mono v.vw hs, sqT_mono v.vw hs', Nat.le_trans (by rw [dpa_len ha, dpa_len ha']; exact hl) (by decide : 100000 ≤ sizeLine), fun e => ?_, fun _ e => ?_, fun _ _ p' hp => ?_⟩
      · subst e
        cases ha
        exact q _ _ G H (.refl v) (.tup hs' ha') p
      · subst e
        cases ha'
        rw [List.append_nil] at p
        exact q _ _ G H (.refl v) (.tup hs ha) p
      · have g := Go.new v (o := .tup (xs ++ ys)) hp
        exact q _ _ _ _ g (.tup (.inl (.inl upd_same)) (dpa_mono g.gg _ _ (dpa_app ha ha'))) p
/-! ### isinstance -/
def tyD : PyData → String
  | .none => "NoneType"
  | .bool _ => "bool"
  | .int _ => "int"
  | .str _ => "str"
  | .list _ => "list"
  | .tuple _ => "tuple"
  | .dict _ => "dict"
theorem tyx_of {G H : Hp} (s : Same G H) : ∀ {v : V} {d : PyData}, Dp K G v d → TyX K H v (.type (tyD d))
  | _, _, .non => .base .non
  | _, _, .bl b => .base (.bl b)
  | _, _, .int i => .base (.int i)
  | _, _, .str x => .base (.str x)
  | _, _, .lst hs _ => by
    rcases hs with (h | ⟨o, h⟩) | ⟨o, its, n, h, hc, _⟩
    · exact .base (.lst (s _ _ h))
    · exact .base (.frz (s _ _ h))
    · exact .kList h hc
  | _, _, .tup hs _ => by
    rcases hs with (h | ⟨o, h⟩) | ⟨o, its, n, h, hc, _⟩
    · exact .base (.tup (s _ _ h))
    · exact .fTuple (s _ _ h)
    · exact .kTuple h hc
def isS (a T : String) : Bool := a == T || (a == "bool" && T == "int")
def isD (d : PyData) (T : String) : Bool := isS (tyD d) T
theorem kit_isS (a T : String) (ha : a = "NoneType" ∨ a = "bool" ∨ a = "int" ∨ a = "str" ∨ a = "list" ∨ a = "tuple") (hT : T = "int" ∨ T = "bool" ∨ T = "str" ∨ T = "tuple" ∨ T = "list") : kitB a T = some (isS a T) := by
  rcases ha with rfl | rfl | rfl | rfl | rfl | rfl <;> rcases hT with rfl | rfl | rfl | rfl | rfl <;> decide +kernel
theorem kit_isD (d : PyData) (T : String) (hT : T = "int" ∨ T = "bool" ∨ T = "str" ∨ T = "tuple" ∨ T = "list") (hd : ∀ x, d ≠ .dict x) : kitB (tyD d) T = some (isD d T) := by
  refine kit_isS _ _ ?_ hT
  cases d with
  | dict x => exact absurd rfl (hd x)
  | none => exact .inl rfl
  | bool _ => exact .inr (.inl rfl)
  | int _ => exact .inr (.inr (.inl rfl))
  | str _ => exact .inr (.inr (.inr (.inl rfl)))
  | list _ => exact .inr (.inr (.inr (.inr (.inl rfl))))
  | tuple _ => exact .inr (.inr (.inr (.inr (.inr rfl))))
theorem e_isi {T : String} (hT : T = "int" ∨ T = "bool" ∨ T = "str" ∨ T = "tuple" ∨ T = "list") (h : E K pen H0 ta L fun d => P (.bool (isD d T))) : E K pen H0 (tCB (rIsi K) (tCons ta (tCons (tC (.ty T)) tNil))) L P := fun σ G H e Q q =>
  h σ G H e _ fun v d G1 H1 go hd p => by
    refine ⟨v, .ty T, .type (tyD d), .type T, isD d T, rfl, .ty T, tyx_of go.vw.vw hd, kit_ty (kit_isD d T hT fun x z => ?_), q _ _ G1 H1 go (.bl _) p⟩
    subst z
    cases hd
end
end Dl
set_option Elab.async false
set_option linter.all false
set_option maxRecDepth 100000
namespace Dl
open PySem PySem.Spec PyProof.Rows L2
section
variable {K : PySem.W.Frag} {pen : Pc} {H0 : Hp} {L : Lv} {P P' : PyData → Prop} {ta tb tc te ti : TE} {tl tr : TA} {tt : TT} {t u : TS} {Pb : Bool → Prop} {D : Dn} {g : TG} {gs : TGs}
/-! ### objects of one's own, that change -/
theorem Ev.setOwn {G H : Hp} {σ : L2.St} (e : Ev K pen H0 G H σ L) {i : Nat} {l : Addr} {ho : HO} {o : OO} (hl : H l = some ho) (h0l : H0 l = none) (gl : G l = none) (old : ∀ (j : Nat) (es : OO), i ≠ j → L[j]? = some (some (.own es)) → σ[j]? ≠ some (some (.ref l))) (h : OwnOk K G ho o) : Ev K pen H0 G H (σ.set i (some (.ref l))) (L.set i (some (.own o))) := by
  have here : ∀ (j : Nat) (av : AV), (L.set i (some (.own o)))[j]? = some (some av) → i = j → av = .own o ∧ (σ.set i (some (.ref l)))[j]? = some (some (.ref l)) := fun j av hj q => by
    subst q
    have hl : i < L.length := by
      have := (List.getElem?_eq_some_iff.mp hj).1
      rw [List.length_set] at this; exact this
    rw [List.getElem?_set_self hl] at hj
    exact ⟨(Option.some.inj (Option.some.inj hj)).symm, List.getElem?_set_self (by rw [e.len]; exact hl)⟩
  refine ⟨e.vw, e.h0, e.dom, by rw [List.length_set, List.length_set]; exact e.len, fun j av hj => ?_, fun j k ds' es l' h1 h2 h3 h4 => ?_⟩
  · by_cases q : i = j
    · obtain ⟨rfl, k⟩ := here j av hj q
      exact ⟨_, k, l, ho, rfl, hl, h0l, gl, h⟩
    · rw [List.getElem?_set_ne q] at hj
      obtain ⟨w, k1, k2⟩ := e.sl j av hj
      exact ⟨w, by rw [List.getElem?_set_ne q]; exact k1, k2⟩
  · by_cases q1 : i = j
    · by_cases q2 : i = k
      · exact q1.symm.trans q2
      · have k1 := (here j _ h1 q1).2
        rw [h3] at k1
        have z : l' = l := V.ref.inj (Option.some.inj (Option.some.inj k1))
        rw [List.getElem?_set_ne q2] at h2 h4
        exact absurd (z ▸ h4) (old k es q2 h2)
    · rw [List.getElem?_set_ne q1] at h1 h3
      by_cases q2 : i = k
      · have k1 := (here k _ h2 q2).2
        rw [h4] at k1
        have z : l' = l := V.ref.inj (Option.some.inj (Option.some.inj k1))
        exact absurd (z ▸ h3) (old j ds' q1 h1)
      · rw [List.getElem?_set_ne q2] at h2 h4
        exact e.ow j k ds' es l' h1 h2 h3 h4
theorem Ev.h0none {G H : Hp} {σ : L2.St} (e : Ev K pen H0 G H σ L) {l : Addr} (hl : H l = none) : H0 l = none := by
  cases q : H0 l with
  | none => rfl
  | some o => exact absurd hl (e.dom l (by rw [q]; exact fun z => by cases z))
theorem Ev.gnone {G H : Hp} {σ : L2.St} (e : Ev K pen H0 G H σ L) {l : Addr} (hl : H l = none) : G l = none := by
  cases q : G l with
  | none => rfl
  | some o => rw [e.vw.vw _ _ q] at hl; cases hl
/-- no own slot holds a place that was free -/
theorem Ev.oldOwn {G H : Hp} {σ : L2.St} (e : Ev K pen H0 G H σ L) {l : Addr} (hl : H l = none) : ∀ (j : Nat) (es : OO), L[j]? = some (some (.own es)) → σ[j]? ≠ some (some (.ref l)) := fun j es h1 h2 => by
  obtain ⟨v, k1, l2, ws, k2, k3, _⟩ := e.sl j _ h1
  rw [h2] at k1
  have := Option.some.inj (Option.some.inj k1)
  rw [← this] at k2
  cases k2
  rw [hl] at k3
  cases k3
/-- a new object goes to slot i -/
theorem Ev.newOwn {G H : Hp} {σ : L2.St} (e : Ev K pen H0 G H σ L) {i : Nat} {l : Addr} {ho : HO} {o : OO} (hl : H l = none) (h : OwnOk K G ho o) : Ev K pen H0 G (upd H l ho) (σ.set i (some (.ref l))) (L.set i (some (.own o))) :=
  (e.go (Go.hid e.vw (o := ho) hl)).setOwn upd_same (e.h0none hl) (e.gnone hl) (fun j es _ h1 => e.oldOwn hl j es h1) h
def noFr : Lv → Bool
  | [] => true
  | some (.fr _) :: _ => false
  | _ :: L => noFr L
theorem noFr_get : ∀ {L : Lv} {i : Nat} {x : PyData}, noFr L = true → L[i]? = some (some (.fr x)) → False
  | [], _, _, _, h => by simp at h
  | a :: L, 0, x, n, h => by
    have := Option.some.inj h
    subst this
    cases n
  | a :: L, i + 1, x, n, h => by
    have n' : noFr L = true := by
      cases a with
      | none => exact n
      | some av => cases av <;> first | exact n | cases n
    exact noFr_get (L := L) (i := i) n' h
/-- the own object in slot j is written -/
theorem Ev.putOwn {G H : Hp} {σ : L2.St} (e : Ev K pen H0 G H σ L) (nf : noFr L = true) {j : Nat} {l : Addr} {o o' : OO} {ho : HO} (hj : L[j]? = some (some (.own o))) (hs : σ[j]? = some (some (.ref l))) (h : OwnOk K G ho o') :
    Ev K pen H0 G (upd H l ho) σ (L.set j (some (.own o'))) ∧ Gx pen H0 G H G (upd H l ho) := by
  obtain ⟨v, k1, l2, vs, k2, k3, k4, k5, k6⟩ := e.sl j _ hj
  rw [hs] at k1
  have := Option.some.inj (Option.some.inj k1)
  rw [← this] at k2
  cases k2
  have n0 : ∀ a, H0 a ≠ none → a ≠ l := fun a h z => h (by rw [z]; exact k4)
  have ng : ∀ a o, G a = some o → a ≠ l := fun a o q z => by rw [z, k5] at q; cases q
  have vw : Vw pen G (upd H l ho) := by
    refine ⟨fun a o q => by rw [upd_ne (ng a o q)]; exact e.vw.vw a o q, e.vw.no, ?_⟩
    exact e.vw.ok.upd e.h0 k4
  have jl : j < L.length := (List.getElem?_eq_some_iff.mp hj).1
  refine ⟨⟨vw, e.h0, fun a h => ?_, by rw [List.length_set]; exact e.len, fun i av hi => ?_, fun i k ds' es' l' h1 h2 h3 h4 => ?_⟩, Same.refl _, fun _ _ => rfl, fun a o _ h q => by rw [upd_ne (n0 a h)]; exact q⟩
  · rw [upd_ne (n0 a h)]; exact e.dom a h
  · by_cases q : j = i
    · subst q
      rw [List.getElem?_set_self jl] at hi
      have := Option.some.inj (Option.some.inj hi)
      subst this
      exact ⟨_, hs, l, ho, rfl, upd_same, k4, k5, h⟩
    · rw [List.getElem?_set_ne q] at hi
      obtain ⟨w, m1, m2⟩ := e.sl i av hi
      refine ⟨w, m1, ?_⟩
      cases av with
      | d x => exact m2
      | pen => exact m2
      | own ds2 =>
        obtain ⟨l3, vs3, rfl, m3, m4, m5, m6⟩ := m2
        refine ⟨l3, vs3, rfl, ?_, m4, m5, m6⟩
        rw [upd_ne (fun z => q (e.ow j i o ds2 l hj hi hs (by rw [← z]; exact m1)))]
        exact m3
      | bor ds2 =>
        obtain ⟨l3, vs3, rfl, m3, m4, m5, m6⟩ := m2
        refine ⟨l3, vs3, rfl, ?_, m4, m5, m6⟩
        rw [upd_ne (n0 l3 (by rw [m4]; exact fun z => by cases z))]
        exact m3
      | fr x => exact (noFr_get nf hi).elim
  · have was : ∀ (i : Nat) (ds' : OO), (L.set j (some (.own o')))[i]? = some (some (.own ds')) → ∃ ds2, L[i]? = some (some (.own ds2)) := fun i ds' hi => by
      by_cases q : j = i
      · subst q; exact ⟨o, hj⟩
      · rw [List.getElem?_set_ne q] at hi; exact ⟨ds', hi⟩
    obtain ⟨a1, b1⟩ := was i ds' h1
    obtain ⟨a2, b2⟩ := was k es' h2
    exact e.ow i k a1 a2 l' b1 b2 h3 h4
/-- the own object's place and content -/
theorem Ev.own {G H : Hp} {σ : L2.St} (e : Ev K pen H0 G H σ L) {j : Nat} {o : OO} (hj : L[j]? = some (some (.own o))) : ∃ l ho, σ[j]? = some (some (.ref l)) ∧ H l = some ho ∧ OwnOk K G ho o := by
  obtain ⟨x, k1, l, vs, rfl, k3, k4, k5, k6⟩ := e.sl j _ hj
  exact ⟨l, vs, k1, k3, k6⟩
theorem Ev.ownAt {G H : Hp} {σ : L2.St} (e : Ev K pen H0 G H σ L) {j : Nat} {o : OO} {l : Addr} (hj : L[j]? = some (some (.own o))) (hs : σ[j]? = some (some (.ref l))) : ∃ ho, H l = some ho ∧ OwnOk K G ho o := by
  obtain ⟨l', ho, k1, k2, k3⟩ := e.own hj
  rw [hs] at k1
  cases k1
  exact ⟨ho, k2, k3⟩
/-- an object that is read: own, or borrowed -/
def RdO (L : Lv) (j : Nat) (o : OO) : Prop := L[j]? = some (some (.own o)) ∨ L[j]? = some (some (.bor o))
theorem Ev.rd {G H : Hp} {σ : L2.St} (e : Ev K pen H0 G H σ L) {j : Nat} {o : OO} (hj : RdO L j o) : ∃ l ho, σ[j]? = some (some (.ref l)) ∧ H l = some ho ∧ OwnOk K G ho o := by
  rcases hj with hj | hj
  · exact e.own hj
  · obtain ⟨x, k1, l, vs, rfl, k3, k4, k5, k6⟩ := e.sl j _ hj
    exact ⟨l, vs, k1, k3, k6⟩
theorem Ev.rdAt {G H : Hp} {σ : L2.St} (e : Ev K pen H0 G H σ L) {j : Nat} {o : OO} {l : Addr} (hj : RdO L j o) (hs : σ[j]? = some (some (.ref l))) : ∃ ho, H l = some ho ∧ OwnOk K G ho o := by
  obtain ⟨l', ho, k1, k2, k3⟩ := e.rd hj
  rw [hs] at k1
  cases k1
  exact ⟨ho, k2, k3⟩
/-- x = a new list -/
theorem s_ownL {i : Nat} (h : EL K pen H0 te L fun es => D.nx (L.set i (some (.own (.lst es))))) : S K pen H0 (tAsg te (gName i)) L D := fun σ G H N e n1 _ _ _ _ _ =>
  h σ G H e _ fun l vs ds G' H' g h1 h2 h3 h4 p => by
    have e1 := e.go g
    exact n1 _ G' H' _ (e.gx g) (e1.setOwn h1 (e.h0none h3) h2 (fun j es _ hj => e.oldOwn h3 j es hj) (o := .lst ds) h4) p
theorem el_list (h : E K pen H0 te L fun d => ∃ es, (d = .tuple es ∨ d = .list es) ∧ P (.list es)) :
    EL K pen H0 (tCB (fun xs H Q => ∃ p ys, xs = [.ref p] ∧ (SqL K H p ys ∨ SqT K H p ys) ∧ ∀ l, H l = none → Q (.ref l) (upd H l (.lst ys))) (tCons te tNil)) L fun es => P (.list es) := fun σ G H e Q q =>
  h σ G H e _ fun v d G1 H1 go hd ⟨es, hes, p⟩ => by
    have fin : ∀ (ys : List V) (l : Addr), DpAll K G1 ys es → H1 l = none → Q (.ref l) (upd H1 l (.lst ys)) := fun ys l hy hl => by
      have e1 := e.go go
      have g2 := Go.hid e1.vw (o := .lst ys) hl
      refine q l ys es G1 _ (go.trans g2) upd_same (e1.gnone hl) ?_ hy p
      cases z : H l with
      | none => rfl
      | some o => exact absurd hl (go.dom (by rw [z]; exact fun z => by cases z))
    rcases hes with rfl | rfl
    · cases hd with
      | tup hs ha => exact ⟨_, _, rfl, .inr (sqT_mono go.vw.vw hs), fun l hl => fin _ l ha hl⟩
    · cases hd with
      | lst hs ha => exact ⟨_, _, rfl, .inl (sqL_mono go.vw.vw hs), fun l hl => fin _ l ha hl⟩
theorem el_lst {Pl : List PyData → Prop} (h : EA K pen H0 tl L fun ds => ds.length ≤ 100000 ∧ Pl ds) : EL K pen H0 (tLst tl) L Pl := fun σ G H e Q q =>
  h σ G H e _ fun vs ds G1 H1 g1 d1 h1 => ⟨Nat.le_trans (by rw [dpa_len d1]; exact h1.1) (by decide : 100000 ≤ sizeLine), fun l hl => by
    have e1 := e.go g1
    have g2 := Go.hid e1.vw (o := .lst vs) hl
    refine q l vs ds G1 _ (g1.trans g2) upd_same (e1.gnone hl) ?_ d1 h1.2
    cases z : H l with
    | none => rfl
    | some o => exact absurd hl (g1.dom (by rw [z]; exact fun z => by cases z))⟩
/-- x = list(e) -/
theorem s_ownList {i : Nat} (h : E K pen H0 te L fun d => ∃ es, (d = .tuple es ∨ d = .list es) ∧ D.nx (L.set i (some (.own (.lst es))))) :
    S K pen H0 (tAsg (tCB (fun xs H Q => ∃ p ys, xs = [.ref p] ∧ (SqL K H p ys ∨ SqT K H p ys) ∧ ∀ l, H l = none → Q (.ref l) (upd H l (.lst ys))) (tCons te tNil)) (gName i)) L D :=
  s_ownL ((el_list (P := fun d => ∃ es, d = .list es ∧ D.nx (L.set i (some (.own (.lst es))))) (h.mono fun d ⟨es, e, p⟩ => ⟨es, e, es, rfl, p⟩)).mono fun ds ⟨es, e, p⟩ => by cases e; exact p)
/-- x = [] -/
theorem s_ownNil {i : Nat} (h : D.nx (L.set i (some (.own (.lst []))))) : S K pen H0 (tAsg (tLst tNil) (gName i)) L D := s_ownL (el_lst (ea_nil ⟨Nat.zero_le _, h⟩))
/-- x[k] = e -/
theorem s_putOwn {j : Nat} {ds : List PyData} (hj : L[j]? = some (some (.own (.lst ds)))) (h : E K pen H0 te L fun d => E K pen H0 ti L fun k => ∃ m : Nat, k = .int m ∧ m < ds.length ∧ D.nx (L.set j (some (.own (.lst (ds.set m d)))))) (nf : noFr L = true := by rfl) :
    S K pen H0 (tAsg te (gSub (tVar j) ti rSetL)) L D := fun σ G H N e n1 _ _ _ _ _ =>
  h σ G H e _ fun v d G1 H1 g1 d1 h1 => by
    have e1 := e.go g1
    obtain ⟨l, ho, k1, k3, k6⟩ := e1.own hj
    refine ⟨_, k1, h1 σ G1 H1 e1 _ fun w k G2 H2 g2 d2 ⟨m, hm, hl, p⟩ => ?_⟩
    subst hm
    cases d2
    have e2 := e1.go g2
    obtain ⟨ho2, q3, q6⟩ := e2.ownAt hj k1
    obtain ⟨vs2, rfl, q6⟩ := q6.lst
    obtain ⟨r1, r2⟩ := e2.putOwn nf hj k1 (o' := .lst (ds.set m d)) (ho := .lst (vs2.set m v)) (dpa_set (dp_mono g2.gg _ _ d1) m q6)
    refine ⟨l, vs2, (m : Int), m, rfl, rfl, q3, ?_, n1 σ G2 _ _ (((e.gx g1).trans (e1.gx g2)).trans r2) r1 p⟩
    rw [dpa_len q6]
    unfold ixN
    rw [if_pos (by omega), if_pos (by omega)]
    simp
/-- x.append(e) -/
theorem s_appOwn {j : Nat} {ds : List PyData} (hj : L[j]? = some (some (.own (.lst ds)))) (hz : ds.length < 100000) (h : E K pen H0 te L fun d => D.nx (L.set j (some (.own (.lst (ds ++ [d])))))) (nf : noFr L = true := by rfl) :
    S K pen H0 (tDrop (tBM K "list" rAppend (tVar j) (tCons te tNil))) L D := fun σ G H N e n1 _ _ _ _ _ => by
  obtain ⟨l, ho, k1, k3, k6⟩ := e.own hj
  obtain ⟨vs, rfl, k6⟩ := k6.lst
  refine ⟨_, k1, .inl ⟨rfl, vs, .inl (.inl k3)⟩, h σ G H e _ fun v d G1 H1 g1 d1 p => ?_⟩
  have e1 := e.go g1
  obtain ⟨ho2, q3, q6⟩ := e1.ownAt hj k1
  obtain ⟨vs2, rfl, q6⟩ := q6.lst
  obtain ⟨r1, r2⟩ := e1.putOwn nf hj k1 (o' := .lst (ds ++ [d])) (ho := .lst (vs2 ++ [v])) (dpa_app q6 (.cons d1 .nil))
  exact ⟨l, vs2, v, rfl, rfl, q3, Nat.lt_of_lt_of_le (by rw [dpa_len q6]; exact hz) (by decide : 100000 ≤ sizeLine), n1 σ G1 _ _ ((e.gx g1).trans r2) r1 p⟩
theorem dpa_erase {G : Hp} : ∀ (n : Nat) {vs : List V} {ds : List PyData}, DpAll K G vs ds → DpAll K G (vs.eraseIdx n) (ds.eraseIdx n)
  | _, _, _, .nil => .nil
  | 0, _, _, .cons _ t => t
  | n + 1, _, _, .cons h t => .cons h (dpa_erase n t)
/-- x.pop(0), the value dropped -/
theorem s_pop0 {j : Nat} {d0 : PyData} {ds : List PyData} (hj : L[j]? = some (some (.own (.lst (d0 :: ds))))) (h : D.nx (L.set j (some (.own (.lst ds))))) (nf : noFr L = true := by rfl) :
    S K pen H0 (tDrop (tBM K "list" rPopAt (tVar j) (tCons (tC (.int 0)) tNil))) L D := fun σ G H N e n1 _ _ _ _ _ => by
  obtain ⟨l, ho, k1, k3, k6⟩ := e.own hj
  obtain ⟨vs, rfl, k6⟩ := k6.lst
  cases k6 with
  | cons h1 h2 =>
    rename_i v vs
    obtain ⟨r1, r2⟩ := e.putOwn nf hj k1 (o' := .lst ds) (ho := .lst vs) h2
    exact ⟨_, k1, .inl ⟨rfl, _, .inl (.inl k3)⟩, l, v :: vs, 0, 0, v, rfl, rfl, k3, by decide, by decide, by unfold seqIndex?; simp, rfl, n1 σ G _ _ r2 r1 h⟩
/-- y = x.pop(0) as a value -/
theorem s_clearOwn {j : Nat} {ds : List PyData} (hj : L[j]? = some (some (.own (.lst ds)))) (h : D.nx (L.set j (some (.own (.lst []))))) (nf : noFr L = true := by rfl) :
    S K pen H0 (tDrop (tBM0 K "list" rClear (tVar j))) L D := fun σ G H N e n1 _ _ _ _ _ => by
  obtain ⟨l, ho, k1, k3, k6⟩ := e.own hj
  obtain ⟨vs, rfl, k6⟩ := k6.lst
  obtain ⟨r1, r2⟩ := e.putOwn nf hj k1 (o' := .lst []) (ho := .lst []) .nil
  exact ⟨_, k1, .inl ⟨rfl, _, .inl (.inl k3)⟩, l, vs, rfl, rfl, k3, n1 σ G _ _ r2 r1 h⟩
/-- tuple(x), x one's own list -/
theorem e_tupRd {j : Nat} {ds : List PyData} (hj : RdO L j (.lst ds)) (p : P (.tuple ds)) :
    E K pen H0 (tCB (fun xs H Q => ∃ p ys, xs = [.ref p] ∧ ((SqL K H p ys ∧ ∀ l, H l = none → Q (.ref l) (upd H l (.tup ys))) ∨ (SqT K H p ys ∧ Q (.ref p) H))) (tCons (tVar j) tNil)) L P := fun σ G H e Q q => by
  obtain ⟨l, ho, k1, k3, k6⟩ := e.rd hj
  obtain ⟨vs, rfl, k6⟩ := k6.lst
  refine ⟨_, k1, l, vs, rfl, .inl ⟨.inl (.inl k3), fun l' hl => ?_⟩⟩
  have g := Go.new e.vw (o := .tup vs) hl
  exact q _ _ _ _ g (.tup (.inl (.inl upd_same)) (dpa_mono g.gg _ _ k6)) p
/-- len(x), x one's own list -/
theorem e_lenRd {j : Nat} {ds : List PyData} (hj : RdO L j (.lst ds)) (p : P (.int ds.length)) :
    E K pen H0 (tCB (fun xs H Q => ∃ p ys, xs = [.ref p] ∧ (SqL K H p ys ∨ SqT K H p ys) ∧ Q (.int ys.length) H) (tCons (tVar j) tNil)) L P := fun σ G H e Q q => by
  obtain ⟨l, ho, k1, k3, k6⟩ := e.rd hj
  obtain ⟨vs, rfl, k6⟩ := k6.lst
  refine ⟨_, k1, l, vs, rfl, .inl (.inl (.inl k3)), ?_⟩
  rw [dpa_len k6]
  exact q _ _ G H (.refl e.vw) (.int _) p
theorem e_tupOwn {j : Nat} {ds : List PyData} (hj : L[j]? = some (some (.own (.lst ds)))) (p : P (.tuple ds)) :
    E K pen H0 (tCB (fun xs H Q => ∃ p ys, xs = [.ref p] ∧ ((SqL K H p ys ∧ ∀ l, H l = none → Q (.ref l) (upd H l (.tup ys))) ∨ (SqT K H p ys ∧ Q (.ref p) H))) (tCons (tVar j) tNil)) L P := e_tupRd (.inl hj) p
theorem e_lenOwn {j : Nat} {ds : List PyData} (hj : L[j]? = some (some (.own (.lst ds)))) (p : P (.int ds.length)) :
    E K pen H0 (tCB (fun xs H Q => ∃ p ys, xs = [.ref p] ∧ (SqL K H p ys ∨ SqT K H p ys) ∧ Q (.int ys.length) H) (tCons (tVar j) tNil)) L P := e_lenRd (.inl hj) p
/-! ### looking at what is one's own as data -/
def lookA : Option AV → Option AV
  | some (.own (.lst ds)) => some (.d (.list ds))
  | some (.fr d) => some (.d d)
  | a => a
def lookL (L : Lv) : Lv := L.map lookA
theorem lookL_get {L : Lv} {i : Nat} {av : AV} (h : (lookL L)[i]? = some (some av)) : ∃ a, L[i]? = some (some a) ∧ lookA (some a) = some av := by
  unfold lookL at h
  rw [List.getElem?_map] at h
  cases e : L[i]? with
  | none => rw [e] at h; cases h
  | some a =>
    rw [e] at h
    have h := Option.some.inj h
    cases a with
    | none => cases h
    | some a => exact ⟨a, rfl, h⟩
theorem same_max {G H : Hp} : Same G (vmax H0 G H) := fun _ _ h => vmax_G h
/-- the own dicts and borrowed ones stay as they are -/
theorem Ev.look {G H : Hp} {σ : L2.St} (e : Ev K pen H0 G H σ L) : Ev K pen H0 (vmax H0 G H) H σ (lookL L) := by
  refine ⟨vw_max e.vw e.h0, e.h0, e.dom, by rw [lookL, List.length_map]; exact e.len, fun i av hi => ?_, fun i j ds es l h1 h2 => ?_⟩
  · obtain ⟨a, ha, hl⟩ := lookL_get hi
    obtain ⟨v, k1, k2⟩ := e.sl i a ha
    refine ⟨v, k1, ?_⟩
    cases a with
    | d x => cases hl; exact dp_mono same_max _ _ k2
    | pen => cases hl; exact k2
    | bor o => cases hl; obtain ⟨l, ho, q1, q2, q3, q4, q5⟩ := k2; exact ⟨l, ho, q1, q2, q3, q4, q5.mono same_max⟩
    | fr x => cases hl; exact dp_mono vnew_max _ _ (nd_dp _ _ k2)
    | own o =>
      obtain ⟨l, ho, rfl, q2, q3, q4, q5⟩ := k2
      cases o with
      | lst ds =>
        cases hl
        obtain ⟨vs, rfl, q5⟩ := q5.lst
        exact .lst (.inl (.inl (by rw [vmax_new q4]; exact newL_of q3 q2))) (dpa_mono same_max _ _ q5)
      | dK m =>
        cases hl
        obtain ⟨kvs, rfl, q6⟩ := q5.dK
        refine ⟨l, _, rfl, q2, q3, ?_, q5.mono same_max⟩
        rw [vmax_new q4]
        unfold newL
        rw [q3, q2]
      | dT m =>
        cases hl
        obtain ⟨kvs, rfl, q6⟩ := q5.dT
        refine ⟨l, _, rfl, q2, q3, ?_, q5.mono same_max⟩
        rw [vmax_new q4]
        unfold newL
        rw [q3, q2]
  · obtain ⟨a, ha, hl⟩ := lookL_get h1
    obtain ⟨b, hb, hl2⟩ := lookL_get h2
    have own : ∀ (a : AV) (o : OO), lookA (some a) = some (.own o) → ∃ o', a = .own o' := fun a o h => by
      cases a with
      | own o' => exact ⟨o', rfl⟩
      | _ => cases h
    obtain ⟨o1, rfl⟩ := own a _ hl
    obtain ⟨o2, rfl⟩ := own b _ hl2
    exact e.ow i j o1 o2 l ha hb
/-- back to the data alone: what is without a list stays -/
def bakV (G H Gu : Hp) : Hp := fun a => match G a with
  | some o => some o
  | none => match H a with
    | some _ => none
    | none => Gu a
theorem bak_G {G H Gu : Hp} {a : Addr} {o : HO} (h : G a = some o) : bakV G H Gu a = some o := by unfold bakV; rw [h]
theorem bak_H {G H Gu : Hp} {a : Addr} (h : G a = none) (h2 : H a ≠ none) : bakV G H Gu a = none := by
  unfold bakV; rw [h]
  cases e : H a with
  | none => exact absurd e h2
  | some o => rfl
theorem bak_N {G H Gu : Hp} {a : Addr} (h : G a = none) (h2 : H a = none) : bakV G H Gu a = Gu a := by unfold bakV; rw [h, h2]
theorem look_back {G H Gu' H' : Hp} (vw : Vw pen G H) (h0 : POk pen H0) (g : Go pen (vmax H0 G H) H Gu' H') : ∃ G', Go pen G H G' H' ∧ (∀ a xs, Rd Gu' a (.tup xs) → Rd G' a (.tup xs)) ∧ ∀ a, H a = none → Gu' a = none → G' a = none := by
  have hN : ∀ a, H a = none → G a = none := fun a h => by
    cases e : G a with
    | none => rfl
    | some o => rw [vw.vw _ _ e] at h; cases h
  refine ⟨bakV G H Gu', ⟨fun a o e => bak_G e, fun a h => ?_, g.od, ⟨fun a o e => ?_, fun a p => bak_H (vw.no a p) (vw.ok.there p), g.vw.ok⟩⟩, fun a xs r => ?_, fun a h1 h2 => ?_⟩
  · cases e : G a with
    | some o => exact bak_G e
    | none => exact bak_H e h
  · cases e1 : G a with
    | some u =>
      rw [bak_G e1] at e
      cases e
      exact g.vw.vw _ _ (g.gg _ _ (vmax_G e1))
    | none =>
      by_cases e2 : H a = none
      · rw [bak_N e1 e2] at e
        exact g.vw.vw _ _ e
      · rw [bak_H e1 e2] at e; cases e
  · have one : ∀ u, (∀ ys, u ≠ HO.lst ys) → Gu' a = some u → bakV G H Gu' a = some u := fun u nu e => by
      by_cases e2 : H a = none
      · rw [bak_N (hN a e2) e2]; exact e
      · have e3 := g.nw a e2
        rw [e] at e3
        rcases vmax_cases e3.symm with k | ⟨_, _, _, ys, z⟩
        · exact bak_G k
        · exact absurd z (nu ys)
    rcases r with r | ⟨o, r⟩
    · exact .inl (one _ (fun _ z => by cases z) r)
    · exact .inr ⟨o, one _ (fun _ z => by cases z) r⟩
  · rw [bak_N (hN a h1) h1]; exact h2
theorem e_look (h : E K pen H0 te (lookL L) fun d => noL d = true ∧ P d) : E K pen H0 te L P := fun σ G H e Q q =>
  h σ _ H e.look Q fun v d G' H' g hd ⟨n, p⟩ => by
    obtain ⟨G1, g1, k, k0⟩ := look_back e.vw e.h0 g
    exact q v d G1 H' g1 (dp_nol k d v n hd) p
theorem et_look (h : ET K pen H0 tt (lookL L) Pb) : ET K pen H0 tt L Pb := fun σ G H e Q q =>
  h σ _ H e.look Q fun b G' H' g p => by
    obtain ⟨G1, g1, k, k0⟩ := look_back e.vw e.h0 g
    exact q b G1 H' g1 p
theorem ea_look {Pl : List PyData → Prop} (h : EA K pen H0 tl (lookL L) fun ds => noLs ds = true ∧ Pl ds) : EA K pen H0 tl L Pl := fun σ G H e Q q =>
  h σ _ H e.look Q fun v d G' H' g hd ⟨n, p⟩ => by
    obtain ⟨G1, g1, k, k0⟩ := look_back e.vw e.h0 g
    exact q v d G1 H' g1 (dpa_nol k d v n hd) p
/-- a new list, made while looking: its items without a list -/
theorem el_look {Pl : List PyData → Prop} (h : EL K pen H0 te (lookL L) fun ds => noLs ds = true ∧ Pl ds) : EL K pen H0 te L Pl := fun σ G H e Q q =>
  h σ _ H e.look Q fun l vs ds G' H' g h1 h2 h3 hd ⟨n, p⟩ => by
    obtain ⟨G1, g1, k, k0⟩ := look_back e.vw e.h0 g
    exact q l vs ds G1 H' g1 h1 (k0 l h3 h2) h3 (dpa_nol k ds vs n hd) p
/-- return, looking -/
theorem s_retL (h : E K pen H0 te (lookL L) D.rt) : S K pen H0 (tRet te) L D := fun σ G H N e _ n2 _ _ _ _ => h σ _ H e.look _ fun v d G' H' g hd p => by
  have x := e.look.gx g
  refine n2 v d G' H' ⟨same_max.trans x.gg, fun a ha => ?_, x.od⟩ g.vw hd p
  rw [x.nw a ha]
  cases e1 : G a with
  | some o => exact vmax_G e1
  | none =>
    rw [vmax_new e1]
    cases z : newL H0 H a with
    | none => rfl
    | some o => exact absurd (newL_some z).1 ha
/-! ### told as new -/
def EN (K : PySem.W.Frag) (pen : Pc) (H0 : Hp) (te : TE) (L : Lv) (P : PyData → Prop) : Prop := ∀ (σ : L2.St) (G H : Hp), Ev K pen H0 G H σ L → ∀ Q : VK, (∀ v d G' H', Go pen G H G' H' → Nd K (vnew H0 G' H') v d → P d → Q v H') → te σ H Q
def ENA (K : PySem.W.Frag) (pen : Pc) (H0 : Hp) (tl : TA) (L : Lv) (P : List PyData → Prop) : Prop := ∀ (σ : L2.St) (G H : Hp), Ev K pen H0 G H σ L → ∀ Q : List V → Hp → Prop, (∀ v d G' H', Go pen G H G' H' → NdAll K (vnew H0 G' H') v d → P d → Q v H') → tl σ H Q
theorem nd_of {G H : Hp} {v : V} {d : PyData} (n : noL d = true) (h : Dp K G v d) : Nd K (vnew H0 G H) v d := by
  refine dp_nd d v n (dp_nol (fun a xs r => ?_) d v n h)
  rcases r with r | ⟨o, r⟩
  · exact .inl (vnew_G r rfl)
  · exact .inr ⟨o, vnew_G r rfl⟩
theorem nda_of {G H : Hp} {v : List V} {d : List PyData} (n : noLs d = true) (h : DpAll K G v d) : NdAll K (vnew H0 G H) v d := by
  refine dpa_nda d v n (dpa_nol (fun a xs r => ?_) d v n h)
  rcases r with r | ⟨o, r⟩
  · exact .inl (vnew_G r rfl)
  · exact .inr ⟨o, vnew_G r rfl⟩
theorem en_e (h : E K pen H0 te L fun d => noL d = true ∧ P d) : EN K pen H0 te L P := fun σ G H e Q q => h σ G H e Q fun v d G' H' g hd ⟨n, p⟩ => q v d G' H' g (nd_of n hd) p
theorem en_own {j : Nat} {ds : List PyData} (hj : L[j]? = some (some (.own (.lst ds)))) (n : noLs ds = true) (p : P (.list ds)) : EN K pen H0 (tVar j) L P := fun σ G H e Q q => by
  obtain ⟨x, k1, l, ho, rfl, k3, k4, k5, k6⟩ := e.sl j _ hj
  obtain ⟨vs, rfl, k6⟩ := k6.lst
  exact ⟨_, k1, q _ _ G H (.refl e.vw) (.lst (vnew_of k5 k4 k3) (nda_of n k6)) p⟩
theorem en_el (h : EL K pen H0 te L fun ds => noLs ds = true ∧ P (.list ds)) : EN K pen H0 te L P := fun σ G H e Q q => h σ G H e Q fun l vs ds G' H' g h1 h2 h3 hd ⟨n, p⟩ =>
  q _ _ G' H' g (.lst (vnew_of h2 (e.h0none h3) h1) (nda_of n hd)) p
theorem ena_nil {Pl : List PyData → Prop} (p : Pl []) : ENA K pen H0 tNil L Pl := fun σ G H e Q q => q [] [] G H (.refl e.vw) .nil p
theorem ena_cons {Pl : List PyData → Prop} (h : EN K pen H0 ta L fun a => ENA K pen H0 tr L fun ds => Pl (a :: ds)) : ENA K pen H0 (tCons ta tr) L Pl := fun σ G H e Q q =>
  h σ G H e _ fun v a G1 H1 g1 d1 h1 => h1 σ G1 H1 (e.go g1) _ fun vs ds G2 H2 g2 d2 p => q _ _ G2 H2 (g1.trans g2) (.cons (nd_mono (vnew_go e.h0 g2 g1.vw.vw) _ _ d1) d2) p
theorem nda_len {W : Hp} : ∀ {vs : List V} {ds : List PyData}, NdAll K W vs ds → vs.length = ds.length
  | _, _, .nil => rfl
  | _, _, .cons _ h => by rw [List.length_cons, List.length_cons, nda_len h]
theorem en_tup (h : ENA K pen H0 tl L fun ds => ds.length ≤ 100000 ∧ P (.tuple ds)) : EN K pen H0 (tTup tl) L P := fun σ G H e Q q =>
  h σ G H e _ fun vs ds G1 H1 g1 d1 h1 => ⟨Nat.le_trans (by rw [nda_len d1]; exact h1.1) (by decide : 100000 ≤ sizeLine), fun p hp => by
    have g2 := Go.new g1.vw (o := .tup vs) hp
    exact q _ _ _ _ (g1.trans g2) (.tup (.inl (.inl (vnew_G upd_same rfl))) (nda_mono (vnew_go e.h0 g2 g1.vw.vw) _ _ d1)) h1.2⟩
theorem en_if {t : TT} (h : ET K pen H0 t L fun a => (a = true → EN K pen H0 ta L P) ∧ (a = false → EN K pen H0 tb L P)) : EN K pen H0 (tIf t ta tb) L P := fun σ G H e Q q =>
  h σ G H e _ fun a G1 H1 g1 h1 => by
    cases a with
    | true => exact h1.1 rfl σ G1 H1 (e.go g1) Q fun w b G2 H2 g2 d2 p => q w b G2 H2 (g1.trans g2) d2 p
    | false => exact h1.2 rfl σ G1 H1 (e.go g1) Q fun w b G2 H2 g2 d2 p => q w b G2 H2 (g1.trans g2) d2 p
theorem EN.mono {P' : PyData → Prop} (h : EN K pen H0 te L P) (k : ∀ d, P d → P' d) : EN K pen H0 te L P' := fun σ G H e Q q => h σ G H e Q fun v d G' H' g hd p => q v d G' H' g hd (k d p)
/-- a call that tells what is new, seen from a frame: lists new at the call are new in the frame -/
theorem vnew_call {G1 H1 G' H' : Hp} (dom : ∀ a, H0 a ≠ none → H1 a ≠ none) : Same (vnew H1 G' H') (vnew H0 G' H') := fun a o h => by
  rcases vnew_cases h with ⟨k, z⟩ | ⟨k, k0, k1, xs, rfl⟩
  · exact vnew_G k z
  · refine vnew_of k ?_ k1
    cases z : H0 a with
    | none => rfl
    | some u => exact absurd k0 (dom a (by rw [z]; exact fun z => by cases z))
theorem en_callF {α : Type} {pn : Option Pn} {ts : List Addr} {Wf : α → Prop} {enc : α → List PyData} {res : α → PyData → Prop} {X : XK} (h : EA K ⟨pn, ts⟩ H0 tl L fun ds => ∃ x, ds = enc x ∧ Wf x ∧ ∀ d, res x d → P d) : EN K ⟨pn, ts⟩ H0 (tCall (SpXF K ts Wf enc res) [] X tl) L P := fun σ G H e Q q =>
  h σ G H e _ fun vs ds G1 H1 go hd ⟨x, hx, h1, h2⟩ => ⟨x, G1, go.vw.plain, by rw [List.append_nil, ← hx]; exact hd, h1, fun v d G' H' go2 hd2 p =>
    q v d G' H' (go.trans (go2.lift go.vw)) (nd_mono (vnew_call (G1 := G1) (e.go go).dom) _ _ hd2) (h2 d p)⟩
theorem s_retN (h : EN K pen H0 te L D.rn) : S K pen H0 (tRet te) L D := fun σ G H N e _ _ _ _ n5 _ => h σ G H e _ fun v d G' H' g hd p => n5 v d G' H' (e.gx g) g.vw hd p
/-- x = what is told as new -/
theorem Ev.setFr {G H : Hp} {σ : L2.St} (e : Ev K pen H0 G H σ L) {i : Nat} {v : V} {x : PyData} (h : Nd K (vnew H0 G H) v x) : Ev K pen H0 G H (σ.set i (some v)) (L.set i (some (.fr x))) := by
  refine ⟨e.vw, e.h0, e.dom, by rw [List.length_set, List.length_set]; exact e.len, fun j av hj => ?_, fun j k ds es l h1 h2 h3 h4 => ?_⟩
  · by_cases q : i = j
    · subst q
      have hl : i < L.length := by
        have := (List.getElem?_eq_some_iff.mp hj).1
        rw [List.length_set] at this; exact this
      rw [List.getElem?_set_self hl] at hj
      have := Option.some.inj (Option.some.inj hj)
      subst this
      exact ⟨v, List.getElem?_set_self (by rw [e.len]; exact hl), h⟩
    · rw [List.getElem?_set_ne q] at hj
      obtain ⟨w, h1, h2⟩ := e.sl j av hj
      exact ⟨w, by rw [List.getElem?_set_ne q]; exact h1, h2⟩
  · have nj : ∀ (j : Nat) (ds : OO), (L.set i (some (.fr x)))[j]? = some (some (.own ds)) → i ≠ j := fun j ds hj q => by
      subst q
      have hl : i < L.length := by
        have := (List.getElem?_eq_some_iff.mp hj).1
        rw [List.length_set] at this; exact this
      rw [List.getElem?_set_self hl] at hj
      cases hj
    have q1 := nj j ds h1
    have q2 := nj k es h2
    rw [List.getElem?_set_ne q1] at h1 h3
    rw [List.getElem?_set_ne q2] at h2 h4
    exact e.ow j k ds es l h1 h2 h3 h4
theorem s_asgN {i : Nat} (h : EN K pen H0 te L fun d => D.nx (L.set i (some (.fr d)))) : S K pen H0 (tAsg te (gName i)) L D := fun σ G H N e n1 _ _ _ _ _ =>
  h σ G H e _ fun v d G' H' g hd p => n1 _ G' H' _ (e.gx g) ((e.go g).setFr hd) p
def onlyD : Lv → Bool
  | [] => true
  | some (.own _) :: _ => false
  | some (.fr _) :: _ => false
  | _ :: L => onlyD L
theorem onlyD_get : ∀ {L : Lv} {i : Nat} {a : AV}, onlyD L = true → L[i]? = some (some a) → (∀ o, a ≠ .own o) ∧ (∀ x, a ≠ .fr x)
  | [], _, _, _, h => by simp at h
  | a :: L, 0, x, n, h => by
    have := Option.some.inj h
    subst this
    cases x <;> first | cases n | exact ⟨fun _ z => (by cases z), fun _ z => (by cases z)⟩
  | a :: L, i + 1, x, n, h => by
    have n' : onlyD L = true := by
      cases a with
      | none => exact n
      | some av => cases av <;> first | exact n | cases n
    exact onlyD_get (L := L) (i := i) n' h
/-- a list that was told is changed, and looked at no more -/
theorem Ev.spoil {G H : Hp} {σ : L2.St} (e : Ev K pen H0 G H σ L) (od : onlyD L = true) {l : Addr} {ho : HO} (h0 : H0 l = none) (g : G l = none) : Ev K pen H0 G (upd H l ho) σ L ∧ Gx pen H0 G H G (upd H l ho) := by
  have n0 : ∀ a, H0 a ≠ none → a ≠ l := fun a h z => h (by rw [z]; exact h0)
  have ng : ∀ a o, G a = some o → a ≠ l := fun a o q z => by rw [z, g] at q; cases q
  refine ⟨⟨⟨fun a o q => by rw [upd_ne (ng a o q)]; exact e.vw.vw a o q, e.vw.no, e.vw.ok.upd e.h0 h0⟩, e.h0, fun a h => by rw [upd_ne (n0 a h)]; exact e.dom a h, e.len, fun i av hi => ?_, e.ow⟩, Same.refl _, fun _ _ => rfl, fun a o _ h q => by rw [upd_ne (n0 a h)]; exact q⟩
  obtain ⟨v, k1, k2⟩ := e.sl i av hi
  obtain ⟨no, nf⟩ := onlyD_get od hi
  refine ⟨v, k1, ?_⟩
  cases av with
  | d x => exact k2
  | pen => exact k2
  | own o => exact absurd rfl (no o)
  | fr x => exact absurd rfl (nf x)
  | bor o =>
    obtain ⟨l3, vs3, rfl, m3, m4, m5, m6⟩ := k2
    refine ⟨l3, vs3, rfl, ?_, m4, m5, m6⟩
    rw [upd_ne (n0 l3 (by rw [m4]; exact fun z => by cases z))]
    exact m3
theorem same_new {G H : Hp} {σ : L2.St} (e : Ev K pen H0 G H σ L) : Same (vnew H0 G H) H := vnew_max.trans (vw_max e.vw e.h0).vw
theorem nd_list {G H : Hp} {v : V} {ds : List PyData} (h : Nd K (vnew H0 G H) v (.list ds)) : ∃ l vs, v = .ref l ∧ H l = some (.lst vs) ∧ H0 l = none ∧ G l = none ∧ vs.length = ds.length := by
  cases h with
  | lst hs ha =>
    rcases vnew_cases hs with ⟨_, z⟩ | ⟨k, k0, k1, _⟩
    · cases z
    · exact ⟨_, _, rfl, k1, k0, k, nda_len ha⟩
theorem nda_get {W : Hp} : ∀ {vs : List V} {ds : List PyData} {i : Nat} {d : PyData}, NdAll K W vs ds → ds[i]? = some d → ∃ v, vs[i]? = some v ∧ Nd K W v d
  | _, _, _, _, .nil, e => by simp at e
  | _, _, 0, _, .cons (v := v) h _, e => by
    have e' := Option.some.inj e
    subst e'
    exact ⟨v, rfl, h⟩
  | _, _, i + 1, d, .cons _ t, e => nda_get (i := i) (d := d) t e
theorem Ev.forget {G H : Hp} {σ : L2.St} (e : Ev K pen H0 G H σ L) (i : Nat) (od : onlyD (L.set i none) = true) : Ev K pen H0 G H σ (L.set i none) := ⟨e.vw, e.h0, e.dom, by rw [List.length_set]; exact e.len, fun j av hj => by
    by_cases q : i = j
    · subst q
      have hl : i < L.length := by
        have := (List.getElem?_eq_some_iff.mp hj).1
        rw [List.length_set] at this; exact this
      rw [List.getElem?_set_self hl] at hj
      cases hj
    · rw [List.getElem?_set_ne q] at hj
      exact e.sl j av hj, fun j k a b l' h1 h2 => by
    have z : ∀ (j : Nat) (o : OO), (L.set i none)[j]? ≠ some (some (.own o)) := fun j o hj => (onlyD_get od hj).1 o rfl
    exact absurd h1 (z j a)⟩
/-- x.append(e), x told as new -/
theorem s_appFr {i : Nat} {ds : List PyData} (hi : L[i]? = some (some (.fr (.list ds)))) (hz : ds.length < 100000) (h : E K pen H0 te (L.set i none) fun _ => D.nx (L.set i none)) (od : onlyD (L.set i none) = true := by rfl) :
    S K pen H0 (tDrop (tBM K "list" rAppend (tVar i) (tCons te tNil))) L D := fun σ G H N e n1 _ _ _ _ _ => by
  obtain ⟨v, k1, k2⟩ := e.sl i _ hi
  obtain ⟨l, vs, rfl, m1, m2, m3, m4⟩ := nd_list k2
  have e' := e.forget i od
  refine ⟨_, k1, .inl ⟨rfl, vs, .inl (.inl m1)⟩, h σ G H e' _ fun w d G1 H1 g1 d1 p => ?_⟩
  have np : ¬ IsPn pen l := fun q => e.h0.there q m2
  have q1 := g1.od _ _ np m1
  have q2 : G1 l = none := (g1.nw l (by rw [m1]; exact fun z => by cases z)).trans m3
  obtain ⟨r1, r2⟩ := (e'.go g1).spoil od (ho := .lst (vs ++ [w])) m2 q2
  exact ⟨l, vs, w, rfl, rfl, q1, Nat.lt_of_lt_of_le (by rw [m4]; exact hz) (by decide : 100000 ≤ sizeLine), n1 σ G1 _ _ ((e'.gx g1).trans r2) r1 p⟩
theorem s_clearFr {i : Nat} {ds : List PyData} (hi : L[i]? = some (some (.fr (.list ds)))) (h : D.nx (L.set i none)) (od : onlyD (L.set i none) = true := by rfl) :
    S K pen H0 (tDrop (tBM0 K "list" rClear (tVar i))) L D := fun σ G H N e n1 _ _ _ _ _ => by
  obtain ⟨v, k1, k2⟩ := e.sl i _ hi
  obtain ⟨l, vs, rfl, m1, m2, m3, m4⟩ := nd_list k2
  obtain ⟨r1, r2⟩ := (e.forget i od).spoil od (ho := .lst []) m2 m3
  exact ⟨_, k1, .inl ⟨rfl, vs, .inl (.inl m1)⟩, l, vs, rfl, rfl, m1, n1 σ G _ _ r2 r1 h⟩
theorem fr_part {G H : Hp} {σ : L2.St} (e : Ev K pen H0 G H σ L) {i k : Nat} {ds es : List PyData} (hi : L[i]? = some (some (.fr (.tuple ds)))) (hk : ds[k]? = some (.list es)) :
    ∃ t xs l vs, σ[i]? = some (some (.ref t)) ∧ SqT K H t xs ∧ xs[k]? = some (.ref l) ∧ H l = some (.lst vs) ∧ H0 l = none ∧ G l = none ∧ vs.length = es.length := by
  obtain ⟨v, k1, k2⟩ := e.sl i _ hi
  cases k2 with
  | tup hs ha =>
    obtain ⟨w, q1, q2⟩ := nda_get ha hk
    obtain ⟨l, vs, rfl, m1, m2, m3, m4⟩ := nd_list q2
    exact ⟨_, _, l, vs, k1, sqT_mono (same_new e) hs, q1, m1, m2, m3, m4⟩
/-- x[k].append(e), x a told tuple -/
theorem s_appFrT {i k : Nat} {ds es : List PyData} (hi : L[i]? = some (some (.fr (.tuple ds)))) (hk : ds[k]? = some (.list es)) (hz : es.length < 100000) (h : E K pen H0 te (L.set i none) fun _ => D.nx (L.set i none)) (od : onlyD (L.set i none) = true := by rfl) :
    S K pen H0 (tDrop (tBM K "list" rAppend (tOp (rIxT K) (tVar i) (tC (.int k))) (tCons te tNil))) L D := fun σ G H N e n1 _ _ _ _ _ => by
  obtain ⟨t, xs, l, vs, k1, k2, k3, m1, m2, m3, m4⟩ := fr_part e hi hk
  have e' := e.forget i od
  refine ⟨_, k1, t, xs, k, .ref l, rfl, rfl, k2, atI_nat k3, .inl ⟨rfl, vs, .inl (.inl m1)⟩, h σ G H e' _ fun w d G1 H1 g1 d1 p => ?_⟩
  have np : ¬ IsPn pen l := fun q => e.h0.there q m2
  have q1 := g1.od _ _ np m1
  have q2 : G1 l = none := (g1.nw l (by rw [m1]; exact fun z => by cases z)).trans m3
  obtain ⟨r1, r2⟩ := (e'.go g1).spoil od (ho := .lst (vs ++ [w])) m2 q2
  exact ⟨l, vs, w, rfl, rfl, q1, Nat.lt_of_lt_of_le (by rw [m4]; exact hz) (by decide : 100000 ≤ sizeLine), n1 σ G1 _ _ ((e'.gx g1).trans r2) r1 p⟩
theorem s_clearFrT {i k : Nat} {ds es : List PyData} (hi : L[i]? = some (some (.fr (.tuple ds)))) (hk : ds[k]? = some (.list es)) (h : D.nx (L.set i none)) (od : onlyD (L.set i none) = true := by rfl) :
    S K pen H0 (tDrop (tBM0 K "list" rClear (tOp (rIxT K) (tVar i) (tC (.int k))))) L D := fun σ G H N e n1 _ _ _ _ _ => by
  obtain ⟨t, xs, l, vs, k1, k2, k3, m1, m2, m3, m4⟩ := fr_part e hi hk
  obtain ⟨r1, r2⟩ := (e.forget i od).spoil od (ho := .lst []) m2 m3
  exact ⟨_, k1, t, xs, k, .ref l, rfl, rfl, k2, atI_nat k3, .inl ⟨rfl, vs, .inl (.inl m1)⟩, l, vs, rfl, rfl, m1, n1 σ G _ _ r2 r1 h⟩
theorem r_neB {i j : Bool} (p : P (.bool (!decide (i = j)))) : R2d K pen rNe (.bool i) (.bool j) P := fun x y G H v hx hy Q q => by
  cases hx
  cases hy
  refine ⟨rfl, ?_⟩
  rw [show decide (V.bl i = V.bl j) = decide (i = j) by rw [dec_bl]; exact Bool.beq_eq_decide_eq i j]
  exact q _ _ G H (.refl v) (.bl _) p
/-- False not in a list of truths -/
theorem dpa_bls {G : Hp} : ∀ {vs : List V} {bs : List Bool}, DpAll K G vs (bs.map PyData.bool) → vs = bs.map V.bl
  | _, [], h => by cases h; rfl
  | _, b :: bs, h => by
    cases h with
    | cons h1 h2 =>
      cases h1
      rw [dpa_bls h2]
      rfl
theorem inV_false (bs : List Bool) : inV (.bl false) (bs.map V.bl) = bs.any (!·) := by
  unfold inV
  rw [List.any_map]
  congr 1
  funext b
  cases b <;> rfl
theorem flat_bls (bs : List Bool) : (bs.map V.bl).all flatV = true := by
  rw [List.all_eq_true]
  intro x hx
  obtain ⟨b, _, rfl⟩ := List.mem_map.mp hx
  rfl
theorem r_notIn {bs : List Bool} (p : P (.bool (!bs.any (!·)))) : R2d K pen (rIn K true) (.bool false) (.list (bs.map PyData.bool)) P := fun x y G H v hx hy Q q => by
  cases hx
  cases hy with
  | lst hs ha =>
    have e := dpa_bls ha
    subst e
    refine ⟨_, _, rfl, .inl (sqL_mono v.vw hs), rfl, flat_bls bs, ?_⟩
    rw [if_pos rfl, inV_false]
    exact q _ _ G H (.refl v) (.bl _) p
end
/-! ### the pen's own def -/
section
variable {K : PySem.W.Frag} {p : Pn} {pa pc : Addr} {pn : Nat} {ts : List Addr} {H0 : Hp} {L : Lv} {P P' : PyData → Prop} {ta tb tc te ti : TE} {D : Dn}
theorem Ev.pen {G H : Hp} {σ : L2.St} (e : Ev K ⟨some p, ts⟩ H0 G H σ L) {i : Nat} (hi : L[i]? = some (some .pen)) : σ[i]? = some (some (.ref p.a)) := by
  obtain ⟨v, hv, q, hq, rfl⟩ := e.sl i _ hi
  cases hq
  exact hv
/-- the pen is written -/
theorem Ev.putPen {G H : Hp} {σ : L2.St} (e : Ev K ⟨some p, ts⟩ H0 G H σ L) {o : HO} (h : PenOk p (upd H p.a o)) : Ev K ⟨some p, ts⟩ H0 G (upd H p.a o) σ L ∧ Gx ⟨some p, ts⟩ H0 G H G (upd H p.a o) := by
  have h0 : H0 p.a ≠ none := e.h0.there (.inl ⟨p, rfl, rfl⟩)
  have ga : G p.a = none := e.vw.no _ (.inl ⟨p, rfl, rfl⟩)
  refine ⟨⟨⟨fun b o q => ?_, e.vw.no, fun p' hp' => by cases hp'; exact h, fun P hP => by obtain ⟨ps, e1, t⟩ := e.vw.ok.2 P hP; exact ⟨ps, by rw [upd_ne (fun z => e.vw.ok.apart (p := p) rfl hP (.inl z))]; exact e1, t⟩⟩, e.h0, fun b hb => ?_, e.len, fun j av hj => ?_, e.ow⟩, Same.refl _, fun _ _ => rfl, fun b o hb _ q => ?_⟩
  · rw [upd_ne (fun w => by rw [w, ga] at q; cases q)]; exact e.vw.vw b o q
  · by_cases w : b = p.a
    · rw [w, upd_same]; exact fun z => by cases z
    · rw [upd_ne w]; exact e.dom b hb
  · obtain ⟨x, q1, q2⟩ := e.sl j av hj
    refine ⟨x, q1, ?_⟩
    cases av with
    | d x => exact q2
    | pen => exact q2
    | own ds =>
      obtain ⟨l, vs, rfl, k3, k4, k5⟩ := q2
      exact ⟨l, vs, rfl, by rw [upd_ne (fun w => h0 (by rw [← w]; exact k4))]; exact k3, k4, k5⟩
    | bor ds =>
      obtain ⟨l, vs, rfl, k3, k4, k5, k6⟩ := q2
      exact ⟨l, vs, rfl, by rw [upd_ne (fun w => k5 (.inl ⟨p, rfl, w⟩))]; exact k3, k4, k5, k6⟩
    | fr x =>
      refine nd_mono (fun a o h => ?_) _ _ q2
      rcases vnew_cases h with ⟨k, z⟩ | ⟨k, k0, k1, xs, rfl⟩
      · exact vnew_G k z
      · exact vnew_of k k0 (by rw [upd_ne (fun w => h0 (by rw [← w]; exact k0))]; exact k1)
  · rw [upd_ne (fun w => hb (.inl ⟨p, rfl, w⟩))]; exact q
theorem e_pen {i : Nat} {k : Int} (hi : L[i]? = some (some .pen)) (hk : k = 1 ∨ k = 2) (h : ∀ z : Int, 0 ≤ z → P (.int z)) : E K ⟨some ⟨pa, .pen pc pn⟩, ts⟩ H0 (tOp (rIxL K) (tVar i) (tC (.int k))) L P := fun σ G H e Q q => by
  obtain ⟨cells, at_, rest, m1, m2, m3, m4, m5⟩ := e.vw.ok.1 _ rfl
  refine ⟨_, e.pen hi, pa, _, k, .int (if k = 1 then at_ else rest), rfl, rfl, .inl (.inl m1), ?_, q _ _ G H (.refl e.vw) (.int _) (h _ ?_)⟩
  · rcases hk with rfl | rfl
    · rfl
    · rfl
  · split <;> assumption
theorem e_penLen {i : Nat} (hi : L[i]? = some (some .pen)) (h : P (.int pn)) : E K ⟨some ⟨pa, .pen pc pn⟩, ts⟩ H0 (tCB (fun xs H Q => ∃ p ys, xs = [.ref p] ∧ (SqL K H p ys ∨ SqT K H p ys) ∧ Q (.int ys.length) H) (tCons (tOp (rIxL K) (tVar i) (tC (.int 0))) tNil)) L P := fun σ G H e Q q => by
  obtain ⟨cells, at_, rest, m1, m2, m3, m4, m5⟩ := e.vw.ok.1 _ rfl
  refine ⟨_, e.pen hi, pa, _, 0, .ref pc, rfl, rfl, .inl (.inl m1), rfl, pc, _, rfl, .inl (.inl (.inl m2)), ?_⟩
  rw [List.length_map, m5]
  exact q _ _ G H (.refl e.vw) (.int _) h
theorem e_penIx {i : Nat} (hi : L[i]? = some (some .pen)) (h : E K ⟨some ⟨pa, .pen pc pn⟩, ts⟩ H0 ti L fun k => ∃ m : Nat, k = .int m ∧ m < pn ∧ ∀ z : Int, P (.int z)) : E K ⟨some ⟨pa, .pen pc pn⟩, ts⟩ H0 (tOp (rIxL K) (tOp (rIxL K) (tVar i) (tC (.int 0))) ti) L P := fun σ G H e Q q => by
  obtain ⟨cells, at_, rest, m1, m2, m3, m4, m5⟩ := e.vw.ok.1 _ rfl
  refine ⟨_, e.pen hi, pa, _, 0, .ref pc, rfl, rfl, .inl (.inl m1), rfl, h σ G H e _ fun v k G1 H1 go hd ⟨m, hm, hl, hp⟩ => ?_⟩
  subst hm
  cases hd
  have m2' : H1 pc = some (.lst (cells.map V.int)) := go.od _ _ (fun z => by
    rcases z with ⟨q, z, w⟩ | z
    · cases z
      have w : pc = pa := w
      rw [w, m1] at m2
      cases cells with
      | nil => cases m2
      | cons x r => cases m2
    · exact e.vw.ok.apart (p := ⟨pa, .pen pc pn⟩) rfl z (.inr ⟨_, _, rfl, rfl⟩)) m2
  refine ⟨pc, _, (m : Int), .int cells[m], rfl, rfl, .inl (.inl m2'), ?_, q _ _ G1 H1 go (.int _) (hp _)⟩
  refine atI_nat ?_
  rw [List.getElem?_map, List.getElem?_eq_getElem (by rw [m5]; exact hl)]
  rfl
theorem s_pen {i : Nat} {k : Int} (hi : L[i]? = some (some .pen)) (hk : k = 1 ∨ k = 2) (h : E K ⟨some ⟨pa, .pen pc pn⟩, ts⟩ H0 te L fun d => ∃ z, d = .int z ∧ 0 ≤ z ∧ D.nx L) : S K ⟨some ⟨pa, .pen pc pn⟩, ts⟩ H0 (tAsg te (gSub (tVar i) (tC (.int k)) rSetL)) L D := fun σ G H N e n1 _ _ _ _ _ =>
  h σ G H e _ fun v d G1 H1 g1 d1 ⟨z, hz, z0, hp⟩ => by
    subst hz
    cases d1
    have e1 := e.go g1
    obtain ⟨cells, at_, rest, m1, m2, m3, m4, m5⟩ := e1.vw.ok.1 _ rfl
    have ne : pc ≠ pa := fun w => by
      have m1 : H1 pa = _ := m1
      rw [w, m1] at m2
      cases cells with
      | nil => cases m2
      | cons x r => cases m2
    have put : ∀ (a r : Int), 0 ≤ a → 0 ≤ r → N.nx σ (upd H1 pa (.lst [.ref pc, .int a, .int r])) := fun a r ha hr => by
      obtain ⟨r1, r2⟩ := e1.putPen (p := ⟨pa, .pen pc pn⟩) (o := .lst [.ref pc, .int a, .int r]) ⟨cells, a, r, upd_same, by show upd H1 pa _ pc = _; rw [upd_ne ne]; exact m2, ha, hr, m5⟩
      exact n1 σ G1 _ L ((e.gx g1).trans r2) r1 hp
    rcases hk with rfl | rfl
    · exact ⟨_, e1.pen hi, pa, _, 1, 1, rfl, rfl, m1, rfl, put z rest z0 m4⟩
    · exact ⟨_, e1.pen hi, pa, _, 2, 2, rfl, rfl, m1, rfl, put at_ z m3 z0⟩
/-- the spring -/
theorem e_spr {i : Nat} (hi : L[i]? = some (some .pen)) (h : ∀ z : Int, P (.int z)) : E K ⟨some ⟨pa, .spr⟩, ts⟩ H0 (tOp (rIxL K) (tVar i) (tC (.int 0))) L P := fun σ G H e Q q => by
  obtain ⟨z, m1⟩ := e.vw.ok.1 _ rfl
  exact ⟨_, e.pen hi, pa, _, 0, .int z, rfl, rfl, .inl (.inl m1), rfl, q _ _ G H (.refl e.vw) (.int _) (h _)⟩
theorem s_spr {i : Nat} (hi : L[i]? = some (some .pen)) (h : E K ⟨some ⟨pa, .spr⟩, ts⟩ H0 te L fun d => ∃ z, d = .int z ∧ D.nx L) : S K ⟨some ⟨pa, .spr⟩, ts⟩ H0 (tAsg te (gSub (tVar i) (tC (.int 0)) rSetL)) L D := fun σ G H N e n1 _ _ _ _ _ =>
  h σ G H e _ fun v d G1 H1 g1 d1 ⟨z, hz, hp⟩ => by
    subst hz
    cases d1
    have e1 := e.go g1
    obtain ⟨z0, m1⟩ := e1.vw.ok.1 _ rfl
    obtain ⟨r1, r2⟩ := e1.putPen (p := ⟨pa, .spr⟩) (o := .lst [.int z]) ⟨z, upd_same⟩
    exact ⟨_, e1.pen hi, pa, _, 0, 0, rfl, rfl, m1, rfl, n1 σ G1 _ L ((e.gx g1).trans r2) r1 hp⟩
end
def WfTake (m : Int) : Prop := 0 < m ∧ m ≤ 10 ^ 60
def resTake (m : Int) (d : PyData) : Prop := ∃ z : Nat, d = .int (z : Int) ∧ (z : Int) < m
theorem resTake_of {z m : Int} (h0 : 0 ≤ z) (h1 : z < m) : resTake m (.int z) := ⟨z.toNat, by rw [Int.toNat_of_nonneg h0], by rw [Int.toNat_of_nonneg h0]; exact h1⟩
theorem take_all {m : Int} {P : PyData → Prop} (h : ∀ k : Nat, (k : Int) < m → P (.int (k : Int))) : ∀ d, resTake m d → P d := fun d ⟨k, e, hk⟩ => by rw [e]; exact h k hk
abbrev spTake (K : PySem.W.Frag) (ts : List Addr) : Sp := SpXP (α := Int) K ts WfTake (fun m => [.int m]) resTake
section
variable {K : PySem.W.Frag} {pen : Pc} {H0 : Hp} {P P' : PyData → Prop}
theorem r_modAny {i j : Int} (hc : 0 < j) (p : ∀ z, 0 ≤ z → z < j → P (.int z)) : R2d K pen (rI (fun _ j => 0 < j) fun i j => .int (i % j)) (.int i) (.int j) P := r_mod hc (p _ (Int.emod_nonneg _ (by omega)) (Int.emod_lt_of_pos _ hc))
theorem r_fdivW {i j : Int} (hc : CDivW i j) (p : P (.int (i / j))) : R2d K pen (rI CDivW fun i j => .int (i / j)) (.int i) (.int j) P := r_I (f := fun i j => .int (i / j)) (fun _ => .int _) hc p
theorem r_pow {i j : Int} (hc : CPow i j) (p : P (.int (i ^ j.toNat))) : R2d K pen (rI CPow fun i j => .int (i ^ j.toNat)) (.int i) (.int j) P := r_I (f := fun i j => .int (i ^ j.toNat)) (fun _ => .int _) hc p
end
end Dl
namespace Dl
open PySem PySem.Spec PyProof.Rows L2
theorem nox_K {CX : CXT} {P : Program} {w : World} {K : PySem.W.Frag} {mg : Str → Option Value} {base : Heap} {N : List Str} {qual : Str} {scope : Scope} {f : Addr} {cd : Value} {A : Around} {outer : List Env} {s : Shared} {H : Hp} {E : XK} : (cxOf CX P w K mg base N qual scope f cd A outer s H E).nox.K = K := rfl
theorem cx_K {CX : CXT} {P : Program} {w : World} {K : PySem.W.Frag} {mg : Str → Option Value} {base : Heap} {N : List Str} {qual : Str} {scope : Scope} {f : Addr} {cd : Value} {A : Around} {outer : List Env} {s : Shared} {H : Hp} {E : XK} : (cxOf CX P w K mg base N qual scope f cd A outer s H E).K = K := rfl
theorem blk_K {X : Cx} {s : Shared} {H : Hp} {sc : Scope} {env : Env} {fp : List Addr} : (X.blk s H sc env fp).K = X.K := rfl
end Dl
namespace Dl
open PySem PySem.Spec PyProof.Rows L2
section
variable {X : Cx} (K : PySem.W.Frag)
theorem kx_ixT (h : X.K = K) : IxR X (rIxT K) := by subst h; exact ix_tup
theorem kx_ixL (h : X.K = K) : IxR X (rIxL K) := by subst h; exact ix_list
theorem kx_slT (h : X.K = K) : SlR X (rSlA K) := by subst h; exact sl_tupA
theorem kx_slL (h : X.K = K) : SlR X (rSlL K) := by subst h; exact sl_list
theorem kx_catT (h : X.K = K) : OpR X (binaryOp .Add) (rCatA K) := by subst h; exact op_catA
theorem kx_in (h : X.K = K) : OpR X (compareOp .In) (rIn K false) := by subst h; exact op_in_seq
theorem kx_notIn (h : X.K = K) : OpR X (compareOp .NotIn) (rIn K true) := by subst h; exact op_notIn_seq
theorem kx_eqD (h : X.K = K) (hu : X.A.units + 64 < cLine) : OpR X (compareOp .Eq) (rEqD K) := by subst h; exact op_eqD hu
theorem kx_neD (h : X.K = K) (hu : X.A.units + 64 < cLine) : OpR X (compareOp .NotEq) (rNeD K) := by subst h; exact op_neD hu
theorem kx_len (h : X.K = K) : CallR X (.builtin "len") (fun xs H Q => ∃ p ys, xs = [.ref p] ∧ (SqL K H p ys ∨ SqT K H p ys) ∧ Q (.int ys.length) H) := by subst h; exact call_len_seq
theorem kx_list (h : X.K = K) : CallR X (.type "list") (fun xs H Q => ∃ p ys, xs = [.ref p] ∧ (SqL K H p ys ∨ SqT K H p ys) ∧ ∀ l, H l = none → Q (.ref l) (upd H l (.lst ys))) := by subst h; exact call_list_of
theorem kx_tuple (h : X.K = K) : CallR X (.type "tuple") (fun xs H Q => ∃ p ys, xs = [.ref p] ∧ ((SqL K H p ys ∧ ∀ l, H l = none → Q (.ref l) (upd H l (.tup ys))) ∨ (SqT K H p ys ∧ Q (.ref p) H))) := by subst h; exact call_tuple_of
theorem kx_isi (h : X.K = K) : CallR X (.builtin "isinstance") (rIsi K) := by subst h; exact call_isi
variable {l tg : Expr} {tl : TE}
theorem kx_piL (h : X.K = K) (hl : PE X l tl) : PI X tg l (iList K tl) := by subst h; exact pi_list hl
theorem kx_piT (h : X.K = K) (hl : PE X l tl) : PI X tg l (iTup K tl) := by subst h; exact pi_tup hl
theorem kx_zip {e e2 : Expr} {ta : TA} {p pos tpos : Pos} {elts : List Expr} {kk : Nat} (h : X.K = K) (hg : Gl X "zip") (hm : X.mg "zip" = none) (ha : PA X [e, e2] ta)
    (hs : starEach [e, e2] X.env = (false, eval e X.env) :: starEach [e2] X.env := by rfl) (hpl : (backTo pos (starEach [e2] X.env)).any (·.1) = false := by rfl) :
    PI X (.Tuple elts kk tpos) (.Call (.Name "zip" p) [e, e2] [] pos) (RZ.iZipA K ta) := by subst h; exact RZ.pi_zipA hg hm ha hs hpl
theorem kx_pgT {es : List Expr} {k : Nat} {t : TGs} {n : Nat} {pos : Pos} (h : X.K = K) (hc : X.calm = true) (hp : PGs X es t)
    (hn : (assignEach es X.env).length = n := by rfl) (hst : (assignEach es X.env).findIdx? (·.1) = none := by rfl) : PG X (.Tuple es k pos) (gTup K n t) := by subst h; exact pg_tup hc hp hn hst
end
end Dl
namespace Dl
open PySem PySem.Spec PyProof.Rows L2
inductive Ty where
  | int | bool | str | tuple | list
def Ty.s : Ty → String
  | .int => "int"
  | .bool => "bool"
  | .str => "str"
  | .tuple => "tuple"
  | .list => "list"
def isT : PyData → Ty → Bool
  | .bool _, .int => true
  | .bool _, .bool => true
  | .int _, .int => true
  | .str _, .str => true
  | .tuple _, .tuple => true
  | .list _, .list => true
  | _, _ => false
theorem isT_eq (d : PyData) (t : Ty) : isD d t.s = isT d t := by
  cases d with
  | none => cases t <;> (show isS "NoneType" _ = _) <;> decide +kernel
  | bool b => cases t <;> (show isS "bool" _ = _) <;> (first | (show _ = true; decide +kernel) | (show _ = false; decide +kernel))
  | int b => cases t <;> (show isS "int" _ = _) <;> (first | (show _ = true; decide +kernel) | (show _ = false; decide +kernel))
  | str b => cases t <;> (show isS "str" _ = _) <;> (first | (show _ = true; decide +kernel) | (show _ = false; decide +kernel))
  | list b => cases t <;> (show isS "list" _ = _) <;> (first | (show _ = true; decide +kernel) | (show _ = false; decide +kernel))
  | tuple b => cases t <;> (show isS "tuple" _ = _) <;> (first | (show _ = true; decide +kernel) | (show _ = false; decide +kernel))
  | dict b => cases t <;> (show isS "dict" _ = _) <;> (first | (show _ = true; decide +kernel) | (show _ = false; decide +kernel))
section
variable {K : PySem.W.Frag} {pen : Pc} {H0 : Hp} {L : Lv} {P : PyData → Prop} {ta : TE}
theorem e_isT (t : Ty) (h : E K pen H0 ta L fun d => P (.bool (isT d t))) : E K pen H0 (tCB (rIsi K) (tCons ta (tCons (tC (.ty t.s)) tNil))) L P :=
  e_isi (by cases t <;> simp [Ty.s]) (h.mono fun d p => by rw [isT_eq]; exact p)
theorem e_isI (h : E K pen H0 ta L fun d => P (.bool (isT d .int))) : E K pen H0 (tCB (rIsi K) (tCons ta (tCons (tC (.ty "int")) tNil))) L P := e_isT .int h
theorem e_isB (h : E K pen H0 ta L fun d => P (.bool (isT d .bool))) : E K pen H0 (tCB (rIsi K) (tCons ta (tCons (tC (.ty "bool")) tNil))) L P := e_isT .bool h
theorem e_isS (h : E K pen H0 ta L fun d => P (.bool (isT d .str))) : E K pen H0 (tCB (rIsi K) (tCons ta (tCons (tC (.ty "str")) tNil))) L P := e_isT .str h
theorem e_isTu (h : E K pen H0 ta L fun d => P (.bool (isT d .tuple))) : E K pen H0 (tCB (rIsi K) (tCons ta (tCons (tC (.ty "tuple")) tNil))) L P := e_isT .tuple h
theorem e_isL (h : E K pen H0 ta L fun d => P (.bool (isT d .list))) : E K pen H0 (tCB (rIsi K) (tCons ta (tCons (tC (.ty "list")) tNil))) L P := e_isT .list h
def isNone : PyData → Bool
  | .none => true
  | _ => false
theorem r_isNone {a : PyData} (p : P (.bool (isNone a))) : R2d K pen (fun x y H Q => y = .non ∧ Q (.bl (decide (x = .non))) H) a .none P := r_isN (by cases a <;> exact p)
end
/-- data with a bound on its depth and its lengths -/
def Flat : Nat → PyData → Prop
  | _, .none => True
  | _, .bool _ => True
  | _, .int _ => True
  | _, .str _ => True
  | n + 1, .tuple ds => ds.length ≤ 1000 ∧ ∀ d ∈ ds, Flat n d
  | n + 1, .list ds => ds.length ≤ 1000 ∧ ∀ d ∈ ds, Flat n d
  | _, _ => False
end Dl
set_option Elab.async false
set_option linter.all false
set_option maxRecDepth 100000
namespace Dl
open PySem PySem.Spec PyProof.Rows L2
/-! ### forgetting slots -/
def Sub (L' L : Lv) : Prop := L'.length = L.length ∧ ∀ (i : Nat) av, L'[i]? = some (some av) → L[i]? = some (some av)
theorem Sub.refl (L : Lv) : Sub L L := ⟨rfl, fun _ _ h => h⟩
theorem Sub.trans {A B C : Lv} (h : Sub A B) (k : Sub B C) : Sub A C := ⟨h.1.trans k.1, fun i av q => k.2 i av (h.2 i av q)⟩
theorem Sub.nil : Sub [] [] := Sub.refl _
theorem Sub.keep {x : Option AV} {L' L : Lv} (h : Sub L' L) : Sub (x :: L') (x :: L) := by
  refine ⟨by rw [List.length_cons, List.length_cons, h.1], fun i av q => ?_⟩
  cases i with
  | zero => exact q
  | succ i => exact h.2 i av q
theorem Sub.drop {x : Option AV} {L' L : Lv} (h : Sub L' L) : Sub (none :: L') (x :: L) := by
  refine ⟨by rw [List.length_cons, List.length_cons, h.1], fun i av q => ?_⟩
  cases i with
  | zero => cases q
  | succ i => exact h.2 i av q
section
variable {K : PySem.W.Frag} {pen : Pc} {H0 : Hp} {L L' : Lv} {P P' : PyData → Prop} {ta tb tc te ti : TE} {tl tr : TA} {tt : TT} {t u : TS} {Pb : Bool → Prop} {D : Dn} {g : TG} {gs : TGs}
theorem Ev.sub {G H : Hp} {σ : L2.St} (e : Ev K pen H0 G H σ L) (s : Sub L' L) : Ev K pen H0 G H σ L' :=
  ⟨e.vw, e.h0, e.dom, e.len.trans s.1.symm, fun i av h => e.sl i av (s.2 i av h), fun i j ds es l h1 h2 => e.ow i j ds es l (s.2 _ _ h1) (s.2 _ _ h2)⟩
theorem S.sub (h : S K pen H0 t L' D) (s : Sub L' L) : S K pen H0 t L D := fun σ G H N e => h σ G H N (e.sub s)
theorem E.sub (h : E K pen H0 te L' P) (s : Sub L' L) : E K pen H0 te L P := fun σ G H e => h σ G H (e.sub s)
theorem GT.sub {d : PyData} {Q : Lv → Prop} (h : GT K pen H0 g d L' Q) (s : Sub L' L) : GT K pen H0 g d L Q := fun σ G H v e => h σ G H v (e.sub s)
/-- what a loop keeps, with slots forgotten -/
abbrev Wk (I : Nat → Lv → Prop) (i : Nat) (L : Lv) : Prop := ∃ L3, Sub L3 L ∧ I i L3
theorem s_forRw (h : EA K pen H0 tl L fun ds => ∃ n : Nat, ds = [.int n] ∧ n ≤ 100000 ∧ ∃ I : Nat → Lv → Prop, Wk I 0 L ∧ (∀ (i : Nat) L', i < n → I i L' → GT K pen H0 g (.int i) L' fun L2 => S K pen H0 t L2 { D with nx := Wk I (i + 1), ct := Wk I (i + 1), bk := D.nx }) ∧ (∀ L', I n L' → ∀ L4, Sub L' L4 → D.nx L4)) :
    S K pen H0 (tFor (iRng1 tl) g t) L D := s_forR fun σ G H e Q q => h σ G H e Q fun vs ds G' H' go hd ⟨n, h1, h2, I, h3, h4, h5⟩ => q vs ds G' H' go hd ⟨n, h1, h2, Wk I, h3, fun i L' hi ⟨L3, s, hI⟩ => (h4 i L3 hi hI).sub s, fun L' ⟨L3, s, hI⟩ => h5 L3 hI L' s⟩
theorem s_forTw (h : E K pen H0 te L fun d => ∃ ds, d = .tuple ds ∧ ∃ I : Nat → Lv → Prop, Wk I 0 L ∧ (∀ (i : Nat) x L', ds[i]? = some x → I i L' → GT K pen H0 g x L' fun L2 => S K pen H0 t L2 { D with nx := Wk I (i + 1), ct := Wk I (i + 1), bk := D.nx }) ∧ (∀ L', I ds.length L' → ∀ L4, Sub L' L4 → D.nx L4)) :
    S K pen H0 (tFor (iTup K te) g t) L D := s_forT fun σ G H e Q q => h σ G H e Q fun v d G' H' go hd ⟨ds, h1, I, h3, h4, h5⟩ => q v d G' H' go hd ⟨ds, h1, Wk I, h3, fun i x L' hi ⟨L3, s, hI⟩ => (h4 i x L3 hi hI).sub s, fun L' ⟨L3, s, hI⟩ => h5 L3 hI L' s⟩
theorem s_forLw (h : E K pen H0 te L fun d => ∃ ds, d = .list ds ∧ ∃ I : Nat → Lv → Prop, Wk I 0 L ∧ (∀ (i : Nat) x L', ds[i]? = some x → I i L' → GT K pen H0 g x L' fun L2 => S K pen H0 t L2 { D with nx := Wk I (i + 1), ct := Wk I (i + 1), bk := D.nx }) ∧ (∀ L', I ds.length L' → ∀ L4, Sub L' L4 → D.nx L4)) :
    S K pen H0 (tFor (iList K te) g t) L D := s_forL fun σ G H e Q q => h σ G H e Q fun v d G' H' go hd ⟨ds, h1, I, h3, h4, h5⟩ => q v d G' H' go hd ⟨ds, h1, Wk I, h3, fun i x L' hi ⟨L3, s, hI⟩ => (h4 i x L3 hi hI).sub s, fun L' ⟨L3, s, hI⟩ => h5 L3 hI L' s⟩
/-! ### the law's beginning -/
theorem pen_start {ts : List Addr} {N : Ends} {σ : L2.St} {H1 : Hp} {p c : Addr} {cells : List Int} (hp : H1 p = some (.lst [.ref c, .int 0, .int 0])) (hc : H1 c = some (.lst (cells.map V.int))) (hlen : σ.length = L.length)
    (hL : ∀ (i : Nat) av, L[i]? = some (some av) → av = .pen ∧ σ[i]? = some (some (.ref p))) (hts : ∀ P ∈ ts, GxR.TabG H1 P) (h : S K ⟨some ⟨p, .pen c cells.length⟩, ts⟩ H1 t L { nx := fun _ => False, rt := fun d => d = .bool true }) (q : ∀ H', N.rt (.bl true) H') : t N σ H1 := by
  have ok : POk ⟨some ⟨p, .pen c cells.length⟩, ts⟩ H1 := ⟨fun p' e => by cases e; exact ⟨cells, 0, 0, hp, hc, Int.le_refl _, Int.le_refl _, rfl⟩, hts⟩
  refine h σ (fun _ => none) H1 N ⟨⟨fun a o e => (nomatch e), fun _ _ => rfl, ok⟩, ok, fun _ h => h, hlen, fun i av hi => ?_, fun i j ds es l h1 => ?_⟩ (fun _ _ _ _ _ _ z => z.elim) (fun v d G' H' _ _ hd e => ?_) (fun _ _ _ _ _ _ z => z.elim) (fun _ _ _ _ _ _ z => z.elim) (fun _ _ _ _ _ _ _ z => z.elim) (fun _ _ _ _ _ _ _ _ _ _ _ z => z.elim)
  · obtain ⟨rfl, e⟩ := hL i av hi
    exact ⟨_, e, _, rfl, rfl⟩
  · cases (hL i _ h1).1
  · subst e
    cases hd
    exact q H'
def spPen (K : PySem.W.Frag) : Sp := fun vs H Q _ => ∃ (a : Addr) (ns : List Int), vs = [.ref a] ∧ SqL K H a (ns.map V.int) ∧
  ∀ (p c : Addr) (cells : List Int) H', H' p = some (.lst [.ref c, .int 0, .int 0]) → H' c = some (.lst (cells.map V.int)) → Q (.ref p) H'
def spLaw (K : PySem.W.Frag) : Sp := fun vs H Q _ => ∃ (a : Addr) (ns : List Int), vs = [.ref a] ∧ SqL K H a (ns.map V.int) ∧ ns.length ≤ 63 ∧ ∀ H', Q (.bl true) H'
theorem cut_ints (ns : List Int) (lo hi : Option Int) : ∃ ms : List Int, cutV (ns.map V.int) lo hi = ms.map V.int := by
  unfold cutV
  exact ⟨_, by rw [← List.map_drop, ← List.map_take]⟩
end
section
variable {P : Program} {w : World} {K : PySem.W.Frag} {mg : Str → Option Value} {base : Heap}
theorem fn_never {α : Type} {ts : List Addr} {k : Nat} {f : Addr} {fd : FuncData} {ps : List Str} {enc : α → List PyData} {res : α → PyData → Prop} : FnOk P w K mg base CX0 k f fd ps (SpX K ts (fun _ : α => False) enc res) :=
  ⟨fun _ _ _ _ ⟨_, _, _, _, z, _⟩ => z.elim, fun _ _ _ _ _ _ _ _ _ _ _ _ _ ⟨_, _, _, _, z, _⟩ => z.elim⟩
end
end Dl
set_option Elab.async false
set_option linter.all false
set_option maxRecDepth 100000
namespace Dl
open PySem PySem.Spec PyProof.Rows L2 _root_.Gx GxR
/-! ### a def whose code object is known -/
structure FunC (K : PySem.W.Frag) (x qual : Str) (st : Stmt) (f : Addr) (fd : FuncData) (c : Addr) : Prop where
  ex : ∃ (oc : Value) (od : Option Addr) (kV doc pm : Value) (an : Option Addr) (ct : Value) (osl : Array (Option Value)),
    fd = PySem.W.fnOf x qual (defArgs st) (defBody st) (defScope st) .none kV doc pm an (.ref c) ct ∧ K.lookup f = some ⟨oc, od, .func fd, osl⟩ ∧ PySem.W.codeIn K (.ref c) qual = true
  kp : PySem.W.keepIn K (.ref f) = true
section
variable {P : Program} {w : World} {K : PySem.W.Frag} {mg : Str → Option Value} {base : Heap}
theorem FunC.plain {x qual : Str} {st : Stmt} {f c : Addr} {fd : FuncData} (F : FunC K x qual st f fd c) : Fun K x qual st f fd := by
  obtain ⟨oc, od, kV, doc, pm, an, ct, osl, e, l, h⟩ := F.ex
  exact ⟨⟨oc, od, kV, doc, pm, an, .ref c, ct, osl, e, l, h⟩, F.kp⟩
theorem funC_mk {x qual : Str} {st : Stmt} {f c : Addr} {oc : Value} {od an : Option Addr} {osl : Array (Option Value)} {kV doc pm ct : Value} (l : K.lookup f = some ⟨oc, od, .func (PySem.W.fnOf x qual (defArgs st) (defBody st) (defScope st) .none kV doc pm an (.ref c) ct), osl⟩)
    (h : PySem.W.codeIn K (.ref c) qual = true) (k : PySem.W.keepIn K (.ref f) = true) : FunC K x qual st f (PySem.W.fnOf x qual (defArgs st) (defBody st) (defScope st) .none kV doc pm an (.ref c) ct) c := ⟨⟨oc, od, kV, doc, pm, an, ct, osl, rfl, l, h⟩, k⟩
theorem FunC.ok {x qual : Str} {st : Stmt} {f c : Addr} {fd : FuncData} {N ps : List Str} {k : Nat} {sp : Sp} (F : FunC K x qual st f fd c) (S : FnScope N ps (defScope st)) (len : ∀ vs H Q E, sp vs H Q E → vs.length = ps.length)
    (hbody : ∀ (A : Around) (outer : List Env) (s : Shared) (H : Hp) (vs : List V) (Q : VK) (E : XK), Room k (A.deeper (envOfC qual (defScope st) s.heap.objs.size f (.ref c))) → sp vs H Q E →
      ∃ t, PSs (cxOf CX0 P w K mg base N qual (defScope st) f (.ref c) A outer s H E).nox (defBody st) t ∧ t { nx := fun _ H' => Q .non H', rt := Q } (L2.start N vs) H) : FnOk P w K mg base CX0 (k + 1) f fd ps sp := by
  obtain ⟨oc, od, kV, doc, pm, an, ct, osl, rfl, lk, hcd⟩ := F.ex
  refine fn_of lk hcd S len fun A outer s H vs Q E hr hsp => ?_
  obtain ⟨t, h, q⟩ := hbody A outer s H vs Q E hr hsp
  exact ⟨t, h.nox, q⟩
/-- a def without the pen, its code object known -/
theorem fnXc {α : Type} {x qual : Str} {st : Stmt} {f c : Addr} {fd : FuncData} {N ps : List Str} {k : Nat} {ts : List Addr} {Wf : α → Prop} {enc : α → List PyData} {res : α → PyData → Prop} (F : FunC K x qual st f fd c) (S0 : FnScope N ps (defScope st)) (hl : ∀ x, Wf x → (enc x).length = ps.length)
    (hbody : ∀ (A : Around) (outer : List Env) (s : Shared) (H : Hp) (E : XK), Room k (A.deeper (envOfC qual (defScope st) s.heap.objs.size f (.ref c))) →
      ∃ t, PSs (cxOf CX0 P w K mg base N qual (defScope st) f (.ref c) A outer s H E).nox (defBody st) t ∧ ∀ x, Wf x → S K ⟨none, ts⟩ H t (st0 N (enc x)) { nx := fun _ => res x .none, rt := res x }) : FnOk P w K mg base CX0 (k + 1) f fd ps (SpX K ts Wf enc res) := by
  refine F.ok S0 (fun vs H Q E h => ?_) (fun A outer s H vs Q E hr h => ?_)
  · obtain ⟨x, G, _, h1, h2, _⟩ := h
    rw [dpa_len h1]
    exact hl x h2
  · obtain ⟨x, G, v, h1, h2, q⟩ := h
    obtain ⟨t, ht, hS⟩ := hbody A outer s H E hr
    refine ⟨t, ht, hS x h2 (L2.start N vs) G H _ (ev_start h1 v) (fun σ' G' H' L' x e' p => ?_) (fun v d G' H' x vw hd p => ?_) (fun _ _ _ _ _ _ z => z.elim) (fun _ _ _ _ _ _ z => z.elim) (fun _ _ _ _ _ _ _ z => z.elim) (fun _ _ _ _ _ _ _ _ _ _ _ z => z.elim)⟩
    · exact q .non .none G' H' ⟨x.gg, x.nw, fun a o hp e => x.od a o hp (by rw [e]; exact fun z => by cases z) e, e'.vw⟩ .non p
    · exact q v d G' H' ⟨x.gg, x.nw, fun a o hp e => x.od a o hp (by rw [e]; exact fun z => by cases z) e, vw⟩ hd p
end
/-! ### all(..), any(..) by data -/
section
variable {K : PySem.W.Frag} {pn : Option Pn} {ts : List Addr} {H0 : Hp} {L : Lv} {P P' : PyData → Prop} {ta tb tc te ti : TE} {tl tr : TA} {tt : TT} {Tb : Addr} {go : Bool}
/-- the table has grown -/
theorem Go.tab {c : Pc} {G H H' : Hp} (v : Vw c G H) (hT : Tb ∈ c.ts) (h : Tabbed Tb H H') : Go c G H G H' := by
  refine ⟨Same.refl _, fun _ _ => rfl, fun a o n e => ?_, ⟨fun a o e => ?_, v.no, fun p hp => ?_, fun P hP => ?_⟩⟩
  · rw [h.2 a (fun z => n (.inr (by rw [z]; exact hT)))]; exact e
  · rw [h.2 a (fun z => by rw [z, v.no _ (.inr hT)] at e; cases e)]; exact v.vw a o e
  · exact (v.ok.1 p hp).mono fun a o ho e => by rw [h.2 a (fun z => v.ok.apart hp hT (z ▸ ho))]; exact e
  · by_cases z : P = Tb
    · rw [z]; exact h.1
    · obtain ⟨ps, e, t⟩ := v.ok.2 P hP
      exact ⟨ps, by rw [h.2 P z]; exact e, t⟩
/-- one turn of the element, by data: J is kept, or it ends -/
abbrev GnT (K : PySem.W.Frag) (c : Pc) (H0 : Hp) (go : Bool) (tt : TT) (te : TE) (L2 : Lv) (Jn : Prop) (P : PyData → Prop) : Prop :=
  ET K c H0 tt L2 fun b => (b = true → E K c H0 te L2 fun d => ∃ k, d = .bool k ∧ (k = go → Jn) ∧ (k = !go → P (.bool (!go)))) ∧ (b = false → Jn)
theorem gn_turn {c : Pc} {G1 H1 G' H' : Hp} {σ2 : L2.St} {L2 : Lv} {Jn : Prop} {Nx : Hp → Prop} {Q : VK} (g : Go c G1 H1 G' H') (e2 : Ev K c H0 G' H' σ2 L2) (h : GnT K c H0 go tt te L2 Jn P)
    (hN : ∀ G3 H3, Go c G1 H1 G3 H3 → Jn → Nx H3) (q : ∀ v d G' H', Go c G1 H1 G' H' → Dp K G' v d → P d → Q v H') :
    tt σ2 H' fun b H3 => if b = true then te σ2 H3 fun y H4 => YdB go (fun H => Q (.bl (!go)) H) y H4 Nx else Nx H3 := by
  refine h σ2 G' H' e2 _ fun b G3 H3 g3 p => ?_
  cases b with
  | false => exact hN G3 H3 (g.trans g3) (p.2 rfl)
  | true =>
    show te σ2 H3 _
    refine p.1 rfl σ2 G3 H3 (e2.go g3) _ fun y d G4 H4 g4 d4 ⟨k, hk, p1, p2⟩ => ?_
    subst hk
    cases d4
    refine ⟨k, rfl, ?_⟩
    by_cases z : k = go
    · rw [if_pos z]
      exact hN G4 H4 ((g.trans g3).trans g4) (p1 z)
    · rw [if_neg z]
      exact q _ _ G4 H4 ((g.trans g3).trans g4) (.bl _) (p2 (by cases k <;> cases go <;> simp_all))
theorem e_genT {j : Nat} (hT : Tb ∈ ts) (h : E K ⟨pn, ts⟩ H0 ta L fun d => ∃ ds, d = .tuple ds ∧ ∃ J : Nat → Prop, J 0 ∧
    (∀ (i : Nat) x, ds[i]? = some x → J i → GnT K ⟨pn, ts⟩ H0 go tt te ((L.set j none).set j (some (.d x))) (J (i + 1)) P) ∧ (J ds.length → P (.bool go))) :
    E K ⟨pn, ts⟩ H0 (tGen Tb go (iTup K ta) (gName j) tt te [j]) L P := fun σ G H e Q q => h σ G H e _ fun v d G1 H1 gg hd ⟨ds, hds, J, j0, js, je⟩ => by
  subst hds
  cases hd with
  | tup hs ha =>
    rename_i a xs
    refine ⟨a, rfl, ⟨xs, sqT_mono gg.vw.vw hs⟩, gg.vw.ok.2 Tb hT, fun H2 htab => ?_⟩
    have g2 := Go.tab gg.vw hT htab
    refine ⟨fun i m H' => m = ds.length - i ∧ i ≤ ds.length ∧ J i ∧ ∃ G', Go ⟨pn, ts⟩ G1 H2 G' H', ⟨ds.length, rfl, Nat.zero_le _, j0, G1, .refl g2.vw⟩, ?_⟩
    rintro i m H' ⟨rfl, hi, hJ, G', g⟩
    have z1 : SqT K H' a xs := sqT_mono (g.gg.trans g.vw.vw) hs
    have q' : ∀ v d G' H', Go ⟨pn, ts⟩ G1 H2 G' H' → Dp K G' v d → P d → Q v H' := fun v d G' H' g hd p => q v d G' H' ((gg.trans g2).trans g) hd p
    by_cases hlt : i < ds.length
    · obtain ⟨x, hx, dx⟩ := dpa_get ha (List.getElem?_eq_getElem hlt)
      refine .inr ⟨⟨xs, x, z1, hx⟩, fun H3 => J (i + 1) ∧ ∃ G', Go ⟨pn, ts⟩ G1 H2 G' H3, fun H3 ⟨k1, k2⟩ => ⟨ds.length - (i + 1), by omega, rfl, hlt, k1, k2⟩, fun y H3 hy => ?_⟩
      obtain ⟨rfl, hy⟩ := hy
      have e1 : y = x := Option.some.inj ((hy _ z1).symm.trans hx)
      subst e1
      refine ⟨wipe1 _ _ _, ?_⟩
      exact gn_turn g ((ev_wipe1 (((e.go gg).go g2).go g) j).set (dp_mono g.gg _ _ dx)) (js i _ (List.getElem?_eq_getElem hlt) hJ) (fun G3 H3 g3 k => ⟨k, G3, g3⟩) q'
    · have e1 : i = ds.length := by omega
      subst e1
      exact .inl ⟨⟨xs, z1, by rw [dpa_len ha]; exact Nat.le_refl _⟩, q' _ _ G' H' g (.bl _) (je hJ)⟩
theorem e_genL {j : Nat} (hT : Tb ∈ ts) (h : E K ⟨pn, ts⟩ H0 ta L fun d => ∃ ds, d = .list ds ∧ ∃ J : Nat → Prop, J 0 ∧
    (∀ (i : Nat) x, ds[i]? = some x → J i → GnT K ⟨pn, ts⟩ H0 go tt te ((L.set j none).set j (some (.d x))) (J (i + 1)) P) ∧ (J ds.length → P (.bool go))) :
    E K ⟨pn, ts⟩ H0 (tGen Tb go (iList K ta) (gName j) tt te [j]) L P := fun σ G H e Q q => h σ G H e _ fun v d G1 H1 gg hd ⟨ds, hds, J, j0, js, je⟩ => by
  subst hds
  cases hd with
  | lst hs ha =>
    rename_i a xs
    refine ⟨a, rfl, ⟨xs, sqL_mono gg.vw.vw hs⟩, gg.vw.ok.2 Tb hT, fun H2 htab => ?_⟩
    have g2 := Go.tab gg.vw hT htab
    refine ⟨fun i m H' => m = ds.length - i ∧ i ≤ ds.length ∧ J i ∧ ∃ G', Go ⟨pn, ts⟩ G1 H2 G' H', ⟨ds.length, rfl, Nat.zero_le _, j0, G1, .refl g2.vw⟩, ?_⟩
    rintro i m H' ⟨rfl, hi, hJ, G', g⟩
    have z1 : SqL K H' a xs := sqL_mono (g.gg.trans g.vw.vw) hs
    have q' : ∀ v d G' H', Go ⟨pn, ts⟩ G1 H2 G' H' → Dp K G' v d → P d → Q v H' := fun v d G' H' g hd p => q v d G' H' ((gg.trans g2).trans g) hd p
    by_cases hlt : i < ds.length
    · obtain ⟨x, hx, dx⟩ := dpa_get ha (List.getElem?_eq_getElem hlt)
      refine .inr ⟨⟨xs, x, z1, hx⟩, fun H3 => J (i + 1) ∧ ∃ G', Go ⟨pn, ts⟩ G1 H2 G' H3, fun H3 ⟨k1, k2⟩ => ⟨ds.length - (i + 1), by omega, rfl, hlt, k1, k2⟩, fun y H3 hy => ?_⟩
      obtain ⟨rfl, hy⟩ := hy
      have e1 : y = x := Option.some.inj ((hy _ z1).symm.trans hx)
      subst e1
      refine ⟨wipe1 _ _ _, ?_⟩
      exact gn_turn g ((ev_wipe1 (((e.go gg).go g2).go g) j).set (dp_mono g.gg _ _ dx)) (js i _ (List.getElem?_eq_getElem hlt) hJ) (fun G3 H3 g3 k => ⟨k, G3, g3⟩) q'
    · have e1 : i = ds.length := by omega
      subst e1
      exact .inl ⟨⟨xs, z1, by rw [dpa_len ha]; exact Nat.le_refl _⟩, q' _ _ G' H' g (.bl _) (je hJ)⟩
/-- over zip of two tuples of one length -/
theorem e_genZ {j k : Nat} (hT : Tb ∈ ts) (h : EA K ⟨pn, ts⟩ H0 tl L fun ds => ∃ as bs, ds = [.tuple as, .tuple bs] ∧ as.length = bs.length ∧ ∃ J : Nat → Prop, J 0 ∧
    (∀ (i : Nat) x y, as[i]? = some x → bs[i]? = some y → J i → GnT K ⟨pn, ts⟩ H0 go tt te ((((L.set k none).set j none).set j (some (.d x))).set k (some (.d y))) (J (i + 1)) P) ∧ (J as.length → P (.bool go))) :
    E K ⟨pn, ts⟩ H0 (tGen Tb go (RZ.iZipA K tl) (gTup K 2 (gCons (gName j) (gCons (gName k) gNil))) tt te [j, k]) L P := fun σ G H e Q q => h σ G H e _ fun vs ds G1 H1 gg hd ⟨as, bs, hds, hl, J, j0, js, je⟩ => by
  subst hds
  cases hd with
  | cons hd hd2 =>
    cases hd2 with
    | cons hd3 hd4 =>
      cases hd4
      cases hd with
      | tup hs ha =>
        cases hd3 with
        | tup hs' ha' =>
          rename_i a xs a' ys
          refine ⟨a, a', xs, ys, rfl, .inr ⟨sqT_mono gg.vw.vw hs, sqT_mono gg.vw.vw hs', gg.vw.ok.2 Tb hT, fun H2 htab => ?_⟩⟩
          have g2 := Go.tab gg.vw hT htab
          refine ⟨fun i m H' => m = as.length - i ∧ i ≤ as.length ∧ J i ∧ ∃ G', Go ⟨pn, ts⟩ G1 H2 G' H', ⟨as.length, rfl, Nat.zero_le _, j0, G1, .refl g2.vw⟩, ?_⟩
          rintro i m H' ⟨rfl, hi, hJ, G', g⟩
          have z1 : SqT K H' a xs := sqT_mono (g.gg.trans g.vw.vw) hs
          have z2 : SqT K H' a' ys := sqT_mono (g.gg.trans g.vw.vw) hs'
          have q' : ∀ v d G' H', Go ⟨pn, ts⟩ G1 H2 G' H' → Dp K G' v d → P d → Q v H' := fun v d G' H' g hd p => q v d G' H' ((gg.trans g2).trans g) hd p
          by_cases hlt : i < as.length
          · obtain ⟨x, hx, dx⟩ := dpa_get ha (List.getElem?_eq_getElem hlt)
            obtain ⟨y, hy, dy⟩ := dpa_get ha' (List.getElem?_eq_getElem (hl ▸ hlt))
            refine .inr ⟨⟨xs, ys, x, y, z1, z2, hx, hy⟩, fun H3 => J (i + 1) ∧ ∃ G', Go ⟨pn, ts⟩ G1 H2 G' H3, fun H3 ⟨k1, k2⟩ => ⟨as.length - (i + 1), by omega, rfl, hlt, k1, k2⟩, fun v H3 hv => ?_⟩
            obtain ⟨T, x', y', rfl, hT', rfl, f1, f2⟩ := hv
            have e1 : x' = x := Option.some.inj ((f1 _ z1).symm.trans hx)
            have e2 : y' = y := Option.some.inj ((f2 _ z2).symm.trans hy)
            subst e1 e2
            have g3 := Go.new g.vw (o := .tup [x', y']) hT'
            refine ⟨T, [x', y'], rfl, .inl (.inl upd_same), rfl, x', [y'], rfl, y', [], rfl, rfl, wipe2 _ _ _ _ _, ?_⟩
            have ex := (((ev_wipe2 (((e.go gg).go g2).go g) j k).go g3).set (i := j) (dp_mono (g.gg.trans g3.gg) _ _ dx)).set (i := k) (dp_mono (g.gg.trans g3.gg) _ _ dy)
            exact gn_turn (g.trans g3) ex (js i _ _ (List.getElem?_eq_getElem hlt) (List.getElem?_eq_getElem (hl ▸ hlt)) hJ) (fun G3 H3 g3 k => ⟨k, G3, g3⟩) q'
          · have e1 : i = as.length := by omega
            subst e1
            exact .inl ⟨⟨xs, ys, z1, z2, .inl (by rw [dpa_len ha]; exact Nat.le_refl _)⟩, q' _ _ G' H' g (.bl _) (je hJ)⟩
end
end Dl
set_option Elab.async false
set_option linter.all false
set_option maxRecDepth 100000
namespace Dl
open PySem PySem.Spec PyProof.Rows L2
/-! ### dicts with text keys, made and read -/
def DictOk (K : PySem.W.Frag) (G : Hp) (kvs : List (Key × V)) (m : List (Str × PyData)) : Prop := Paired (fun (kv : Key × V) (xd : Str × PyData) => kv.1 = Sum.inr xd.1 ∧ Dp K G kv.2 xd.2) kvs m
theorem dictOk_mono {K : PySem.W.Frag} {G G' : Hp} (e : Same G G') {kvs : List (Key × V)} {m : List (Str × PyData)} (h : DictOk K G kvs m) : DictOk K G' kvs m := Paired.mapP h fun _ _ z => ⟨z.1, dp_mono e _ _ z.2⟩
section
variable (K : PySem.W.Frag) (pen : Pc) (H0 : Hp)
def ED (te : TE) (L : Lv) (P : List (Str × PyData) → Prop) : Prop := ∀ (σ : L2.St) (G H : Hp), Ev K pen H0 G H σ L → ∀ Q : VK, (∀ p kvs m G' H', Go pen G H G' H' → G' p = some (.dK kvs) → DictOk K G' kvs m → P m → Q (.ref p) H') → te σ H Q
def EPs (trs : List (TE × TE)) (L : Lv) (P : List (Str × PyData) → Prop) : Prop := ∀ (σ : L2.St) (G H : Hp), Ev K pen H0 G H σ L → ∀ Q : List (V × V) → Hp → Prop, (∀ ps kvs m G' H', Go pen G H G' H' → ps = kvs.map (fun kv => (kV kv.1, kv.2)) → DictOk K G' kvs m → P m → Q ps H') → tPairs trs σ H Q
end
section
variable {K : PySem.W.Frag} {pen : Pc} {H0 : Hp} {L : Lv} {P : PyData → Prop} {Pm : List (Str × PyData) → Prop} {td ty tk tv : TE} {tl : TA} {trs : List (TE × TE)}
theorem eps_nil (h : Pm []) : EPs K pen H0 [] L Pm := fun σ G H e Q q => q [] [] [] G H (.refl e.vw) rfl .nil h
theorem eps_cons (h : E K pen H0 tk L fun k => ∃ x : Str, k = .str x ∧ E K pen H0 tv L fun d => EPs K pen H0 trs L fun m => Pm ((x, d) :: m)) : EPs K pen H0 ((tk, tv) :: trs) L Pm := fun σ G H e Q q =>
  h σ G H e _ fun v k G1 H1 g1 d1 ⟨x, hx, h1⟩ => by
    subst hx
    cases d1
    refine h1 σ G1 H1 (e.go g1) _ fun u d G2 H2 g2 d2 h2 => ?_
    refine h2 σ G2 H2 (e.go (g1.trans g2)) _ fun ps kvs m G3 H3 g3 hps hm p => ?_
    subst hps
    exact q _ ((Sum.inr x, u) :: kvs) ((x, d) :: m) G3 H3 ((g1.trans g2).trans g3) rfl (.cons ⟨rfl, dp_mono g3.gg _ _ d2⟩ hm) p
theorem dictOk_len {G : Hp} {kvs : List (Key × V)} {m : List (Str × PyData)} (h : DictOk K G kvs m) : kvs.length = m.length := Paired.length h
theorem dictOk_keys {G : Hp} : ∀ {kvs : List (Key × V)} {m : List (Str × PyData)}, DictOk K G kvs m → kvs.map (·.1) = m.map (fun xd => Sum.inr xd.1)
  | _, _, .nil => rfl
  | _, _, .cons h t => by rw [List.map_cons, List.map_cons, h.1, dictOk_keys t]
theorem merge_nodup : ∀ (more acc : List (Key × V)), (acc.map (·.1) ++ more.map (·.1)).Nodup → mergeK acc more = acc ++ more
  | [], acc, _ => by rw [List.append_nil]; rfl
  | kv :: r, acc, h => by
    show mergeK (putK acc kv.1 kv.2) r = acc ++ kv :: r
    have hn : kv.1 ∉ acc.map (·.1) := fun z => by
      rw [List.nodup_append] at h
      exact h.2.2 _ z _ (List.mem_cons_self ..) rfl
    have e : putK acc kv.1 kv.2 = acc ++ [kv] := by
      unfold putK
      rw [if_neg]
      intro z
      obtain ⟨x, hx, hk⟩ := List.any_eq_true.mp z
      exact hn (List.mem_map.mpr ⟨x, hx, of_decide_eq_true hk⟩)
    rw [e, merge_nodup r (acc ++ [kv]) (by rw [List.map_append, List.append_assoc]; exact h), List.append_assoc]
    rfl
theorem ed_disp (h : EPs K pen H0 trs L fun m => m.length ≤ 15 ∧ (m.map (·.1)).Nodup ∧ Pm m) : ED K pen H0 (tDisp trs) L Pm := fun σ G H e Q q p hp => by
  have g0 := Go.hid e.vw (o := .dK []) hp
  refine h σ G _ (e.go g0) _ fun ps kvs m G1 H1 g1 hps hm ⟨h1, h2, h3⟩ => ?_
  have hH : (upd H p (.dK [])) p = some (.dK []) := upd_same
  have np : ¬ IsPn pen p := fun z => e.vw.ok.there z hp
  have k1 : H1 p = some (.dK []) := g1.od p _ np hH
  have gp : G p = none := by
    cases z : G p with
    | none => rfl
    | some o => rw [e.vw.vw _ _ z] at hp; cases hp
  have k2 : G1 p = none := (g1.nw p (by rw [hH]; exact fun z => by cases z)).trans gp
  refine ⟨k1, kvs, hps, by rw [dictOk_len hm]; exact h1, ?_⟩
  have e1 : mergeK [] kvs = kvs := merge_nodup kvs [] (by
    show (kvs.map (·.1)).Nodup
    rw [dictOk_keys hm]
    rw [show (m.map fun xd => (Sum.inr xd.1 : Key)) = (m.map (·.1)).map Sum.inr by rw [List.map_map]; rfl]
    exact List.Pairwise.map _ (fun a b hab z => hab (Sum.inr.inj z)) h2)
  rw [e1]
  have s : Same G1 (upd G1 p (.dK kvs)) := fun a o z => by rw [upd_ne (ne_of_none z k2)]; exact z
  have gm := Go.mut (o := .dK kvs) e.vw hp k2 (g0.trans g1)
  refine q p kvs m (upd G1 p (.dK kvs)) _ ⟨gm.gg.trans s, fun a ha => ?_, gm.od, ⟨fun a o z => ?_, fun a z => ?_, gm.vw.ok⟩⟩ upd_same (dictOk_mono s hm) h3
  · rw [upd_ne (fun z => ha (by rw [z]; exact hp))]; exact gm.nw a ha
  · by_cases y : a = p
    · subst y; rw [upd_same] at z ⊢; exact z
    · rw [upd_ne y] at z; exact gm.vw.vw a o z
  · rw [upd_ne (fun (y : a = p) => np (by rw [← y]; exact z))]; exact gm.vw.no a z
theorem dict_val {G : Hp} (x : Str) : ∀ {kvs : List (Key × V)} {m : List (Str × PyData)}, DictOk K G kvs m → Dp K G ((valV kvs (Sum.inr x)).getD .non) ((m.lookup x).getD .none)
  | _, _, .nil => .non
  | kv :: kvs, (y, d) :: m, .cons h t => by
    obtain ⟨h1, h2⟩ := h
    unfold valV
    rw [List.find?_cons, List.lookup_cons]
    by_cases z : x = y
    · subst z
      rw [h1, decide_eq_true rfl, beq_self_eq_true]
      exact h2
    · have e1 : decide (kv.1 = Sum.inr x) = false := decide_eq_false (by rw [h1]; exact fun q => z (Sum.inr.inj q).symm)
      have e2 : (x == y) = false := beq_eq_false_iff_ne.mpr z
      rw [e1, e2]
      exact dict_val x t
theorem e_dget1 (h : ED K pen H0 td L fun m => E K pen H0 ty L fun k => ∃ x : Str, k = .str x ∧ P ((m.lookup x).getD .none)) : E K pen H0 (tDGet1 td ty) L P := fun σ G H e Q q =>
  h σ G H e _ fun p kvs m G1 H1 g1 hp hm h1 => ⟨p, rfl, .inl ⟨kvs, .inl (g1.vw.vw _ _ hp)⟩, h1 σ G1 H1 (e.go g1) _ fun v k G2 H2 g2 d2 ⟨x, hx, pp⟩ => by
    subst hx
    cases d2
    exact ⟨_, DGet.k (k := Sum.inr x) (g2.vw.vw _ _ (g2.gg _ _ hp)), q _ _ G2 H2 (g1.trans g2) (dict_val x (dictOk_mono g2.gg hm)) pp⟩⟩
/-! defs that tell a dict -/
def SpXD {α : Type} (K : PySem.W.Frag) (ts : List Addr) (Wf : α → Prop) (enc : α → List PyData) (res : α → List (Str × PyData)) : Sp := fun vs H Q _ => ∃ (x : α) (G : Hp), Vw ⟨none, ts⟩ G H ∧ DpAll K G vs (enc x) ∧ Wf x ∧ ∀ p kvs G' H', Go ⟨none, ts⟩ G H G' H' → G' p = some (.dK kvs) → DictOk K G' kvs (res x) → Q (.ref p) H'
theorem ed_callX {α : Type} {pn : Option Pn} {ts : List Addr} {Wf : α → Prop} {enc : α → List PyData} {res : α → List (Str × PyData)} {X : XK} (h : EA K ⟨pn, ts⟩ H0 tl L fun ds => ∃ x, ds = enc x ∧ Wf x ∧ Pm (res x)) : ED K ⟨pn, ts⟩ H0 (tCall (SpXD K ts Wf enc res) [] X tl) L Pm := fun σ G H e Q q =>
  h σ G H e _ fun vs ds G1 H1 go hd ⟨x, hx, h1, h2⟩ => ⟨x, G1, go.vw.plain, by rw [List.append_nil, ← hx]; exact hd, h1, fun p kvs G' H' go2 hp hm => q p kvs _ G' H' (go.trans (go2.lift go.vw)) hp hm h2⟩
end
section
variable {P : Program} {w : World} {K : PySem.W.Frag} {mg : Str → Option Value} {base : Heap}
theorem fnXD {α : Type} {x qual : Str} {st : Stmt} {f : Addr} {fd : FuncData} {N ps : List Str} {k : Nat} {ts : List Addr} {Wf : α → Prop} {enc : α → List PyData} {res : α → List (Str × PyData)} (F : Fun K x qual st f fd) (S0 : FnScope N ps (defScope st)) (hl : ∀ x, Wf x → (enc x).length = ps.length)
    (hbody : ∀ (cdv : Value) (A : Around) (outer : List Env) (s : Shared) (H : Hp) (E : XK), Room k (A.deeper (envOfC qual (defScope st) s.heap.objs.size f cdv)) →
      ∃ t, PSs (cxOf CX0 P w K mg base N qual (defScope st) f cdv A outer s H E).nox (defBody st) (tRet t) ∧ ∀ x, Wf x → ED K ⟨none, ts⟩ H t (st0 N (enc x)) fun m => m = res x) : FnOk P w K mg base CX0 (k + 1) f fd ps (SpXD K ts Wf enc res) := by
  refine F.ok S0 (fun vs H Q E h => ?_) (fun cdv A outer s H vs Q E hr h => ?_)
  · obtain ⟨x, G, _, h1, h2, _⟩ := h
    rw [dpa_len h1]
    exact hl x h2
  · obtain ⟨x, G, v, h1, h2, q⟩ := h
    obtain ⟨t, ht, hS⟩ := hbody cdv A outer s H E hr
    exact ⟨tRet t, ht, hS x h2 (L2.start N vs) G H (ev_start h1 v) _ fun p kvs m G' H' g hp hm e => by subst e; exact q p kvs G' H' g hp hm⟩
end
end Dl
set_option Elab.async false
set_option linter.all false
set_option maxRecDepth 100000
set_option maxHeartbeats 4000000
namespace Dl
open PySem PySem.Spec PyProof.Rows L2
/-! ### xs + ys of lists that are read -/
def rCatL (K : PySem.W.Frag) : R2 := fun x y H Q => ∃ l b xs zs, x = .ref l ∧ y = .ref b ∧ SqL K H l xs ∧ SqL K H b zs ∧ xs.length + zs.length ≤ sizeLine ∧ ∀ p, H p = none → Q (.ref p) (upd H p (.lst (xs ++ zs)))
section
variable {X : Cx}
theorem op_catL : OpR X (binaryOp .Add) (rCatL X.K) := by
  intro pins s σ H x y v u Q I rx ry h
  obtain ⟨l, b, xs, zs, rfl, rfl, hH, hB, hz, q⟩ := h
  cases rx
  cases ry
  obtain ⟨its, r, ⟨⟨cls, dd, data, sl⟩, n, ho, hc, hdd, hd⟩, z⟩ := I.list hH
  obtain ⟨its2, r2, ⟨⟨cls2, dd2, data2, sl2⟩, n2, ho2, hc2, hdd2, hd2⟩, z2⟩ := I.list hB
  simp only at hc hd hc2 hd2
  subst hc hd hc2 hd2
  have hl := r.length
  have hl2 := r2.length
  have ea : its.toArray ++ its2.toArray = (its ++ its2).toArray := by simp
  refine concat_meets ⟨_, ho, rfl⟩ ⟨_, ho2, rfl⟩ noFill_list_add seq_list_add PySem.F.slot_list_add PySem.F.entry_list_add (PySem.F.args_list_add_2 _ _) (list_addW l b its.toArray its2.toArray n n2 dd dd2 sl sl2 (by rw [List.size_toArray, List.size_toArray]; omega)) ⟨ho, ho2, ?_⟩
  rw [ea]
  exact ⟨.ref _, _, I.lnew (t' := s.toks) (r.append r2) (by rw [List.length_append]; omega), rfl, q _ I.fresh⟩
/-! ### a tuple once -/
theorem tuple_mul1 (l : Addr) (items : Array Value) (n : Nat) (dd : Option Addr) (sl : Array (Option Value)) (u : Tok) :
    Meets (Builtin.«tuple.__mul__» ⟨[.ref l, .int 1 u], []⟩) (fun _ R s => s.heap.get? l = some { cls := .type "tuple", dict := dd, data := .seq items n, slots := sl } ∧ R (.ok (.ret (Value.ref l))) s) :=
  .of_wp fun prog w A R s h => by
    obtain ⟨hp, g, d, tk, os⟩ := s
    obtain ⟨hl, h⟩ := h
    have f1 := AutoSeq1.idx_int
    have c0 : (decide ((1 : Int) < -(2 ^ 63)) || decide ((1 : Int) ≥ 2 ^ 63)) = false := by decide
    have c1 : (items.isEmpty || (1 : Int) == 1) = true := by rw [Bool.or_eq_true]; exact .inr rfl
    wp_walk using wpAny_loadPart' hl
    repeat (first
      | (refine wpAny_ite_false (decide_eq_false (by rw [c0]; exact Bool.false_ne_true)) ?_; wp_walk using wpAny_loadPart' hl)
      | (refine wpAny_ite_true (decide_eq_true c1) ?_; wp_walk using wpAny_loadPart' hl))
    exact ⟨_, rfl, h⟩
def rRepA (K : PySem.W.Frag) : R2 := fun x y H Q => ∃ l k xs, x = .ref l ∧ y = .int k ∧ SqT K H l xs ∧ xs ≠ [] ∧ 1 ≤ k ∧ k ≤ 1000 ∧ xs.length ≤ 1000 ∧ (k = 1 → Q (.ref l) H) ∧ (2 ≤ k → ∀ p, H p = none → Q (.ref p) (upd H p (.tup (List.replicate k.toNat xs).flatten)))
theorem op_repA : OpR X (binaryOp .Mult) (rRepA X.K) := by
  intro pins s σ H x y v u Q I rx ry h
  obtain ⟨l, k, xs, rfl, rfl, hT, hne, h1, h2, hz, q1, q2⟩ := h
  by_cases e : k = 1
  · subst e
    cases rx
    obtain ⟨t, rfl⟩ := ry
    obtain ⟨its, r, ⟨⟨cls, dd, data, sl⟩, ho, hc, n, hd⟩, hs⟩ := I.tuple hT
    simp only at hc hd
    subst hc hd
    refine wpAny_binaryOp_repeat_ref (T := "tuple") (U := "int") (by decide) ⟨_, ho, rfl⟩ (fun s' => typeIs_int s' 1 t) noFill_tuple_mul F.fills_int_mul F.slot_int_rmul repeat_tuple F.slot_int_index.lookup
      (call_meets F.slot_int_rmul (typeIs_int s 1 t) F.entry_int_rmul (F.args_int_rmul_2 _ _) (int_rmul_tuple 1 t l its.toArray n dd sl)
        ⟨ho, rfl, ⟨_, ho, rfl⟩, call_meets F.slot_tuple_mul ⟨_, ho, rfl⟩ F.entry_tuple_mul (F.args_tuple_mul_2 _ _) (tuple_mul1 l its.toArray n dd sl t) ⟨ho, ?_⟩⟩)
    exact ⟨.ref l, H, I, rfl, q1 rfl⟩
  · exact op_repT pins s σ H _ _ v u Q I rx ry ⟨l, k, xs, rfl, rfl, hT, hne, by omega, h2, hz, q2 (by omega)⟩
theorem kx_catL {K : PySem.W.Frag} (h : X.K = K) : OpR X (binaryOp .Add) (rCatL K) := by subst h; exact op_catL
theorem kx_repA {K : PySem.W.Frag} (h : X.K = K) : OpR X (binaryOp .Mult) (rRepA K) := by subst h; exact op_repA
end
section
variable {K : PySem.W.Frag} {pen : Pc} {H0 : Hp} {L : Lv} {P : PyData → Prop} {ta te : TE} {tl : TA}
theorem r_catL {as bs : List PyData} (hl : as.length + bs.length ≤ 100000) (p : P (.list (as ++ bs))) : R2d K pen (rCatL K) (.list as) (.list bs) P := fun x y G H v hx hy Q q => by
  cases hx with
  | lst hs ha =>
    cases hy with
    | lst hs' ha' =>
      rename_i a xs a' ys
      refine ⟨a, a', xs, ys, rfl, rfl, sqL_mono v.vw hs, sqL_mono v.vw hs', Nat.le_trans (by rw [dpa_len ha, dpa_len ha']; exact hl) (by decide : 100000 ≤ sizeLine), fun p' hp => ?_⟩
      have g := Go.new v (o := .lst (xs ++ ys)) hp
      exact q _ _ _ _ g (.lst (.inl (.inl upd_same)) (dpa_mono g.gg _ _ (dpa_app ha ha'))) p
theorem dpa_rep {G : Hp} {vs : List V} {ds : List PyData} (h : DpAll K G vs ds) : ∀ n : Nat, DpAll K G (List.replicate n vs).flatten (List.replicate n ds).flatten
  | 0 => .nil
  | n + 1 => by
    rw [List.replicate_succ, List.replicate_succ, List.flatten_cons, List.flatten_cons]
    exact dpa_app h (dpa_rep h n)
theorem r_repA {ds : List PyData} {k : Nat} (h0 : ds ≠ []) (h1 : 1 ≤ k) (h2 : k ≤ 1000) (h3 : ds.length ≤ 1000) (p : P (.tuple (List.replicate k ds).flatten)) : R2d K pen (rRepA K) (.tuple ds) (.int k) P := fun x y G H v hx hy Q q => by
  cases hx with
  | tup hs ha =>
    cases hy
    rename_i a xs
    have hl := dpa_len ha
    refine ⟨a, k, xs, rfl, rfl, sqT_mono v.vw hs, fun z => h0 ?_, by omega, by omega, by omega, fun e => ?_, fun _ p' hp => ?_⟩
    · rw [z] at hl
      exact List.eq_nil_of_length_eq_zero hl.symm
    · have e : k = 1 := by omega
      subst e
      have e1 : (List.replicate 1 ds).flatten = ds := by rw [List.replicate_one, List.flatten_singleton]
      rw [e1] at p
      exact q _ _ G H (.refl v) (.tup hs ha) p
    · have g := Go.new v (o := .tup (List.replicate ((k : Int)).toNat xs).flatten) hp
      exact q _ _ _ _ g (.tup (.inl (.inl upd_same)) (dpa_mono g.gg _ _ (dpa_rep ha k))) p
theorem r_notBl {i j : Bool} (p : P (.bool (!decide (i = j)))) : R2d K pen rNotB (.bool i) (.bool j) P := fun x y G H v hx hy Q q => by
  cases hx
  cases hy
  exact ⟨i, j, rfl, rfl, q _ _ G H (.refl v) (.bl _) p⟩
/-! ### all(f(x) for x in xs) -/
theorem e_allT {pn : Option Pn} {ts : List Addr} {Tb : Addr} {j : Nat} (f : PyData → Bool) (hT : Tb ∈ ts) (h : E K ⟨pn, ts⟩ H0 ta L fun d => ∃ ds, d = .tuple ds ∧ (∀ x ∈ ds, E K ⟨pn, ts⟩ H0 te ((L.set j none).set j (some (.d x))) fun d => d = .bool (f x)) ∧ P (.bool (ds.all f))) :
    E K ⟨pn, ts⟩ H0 (_root_.Gx.tGen Tb true (iTup K ta) (gName j) tYes te [j]) L P := by
  refine e_genT hT (h.mono fun d ⟨ds, e, hx, hp⟩ => ⟨ds, e, fun i => ds.all f = (ds.drop i).all f, rfl, fun i x hi hJ => et_yes ⟨fun _ => (hx x (List.mem_of_getElem? hi)).mono fun d e2 => ⟨f x, e2, fun hk => ?_, fun hk => ?_⟩, fun z => by cases z⟩, fun hJ => ?_⟩)
  · obtain ⟨hlt, hg⟩ := List.getElem?_eq_some_iff.mp hi
    rw [hJ, List.drop_eq_getElem_cons hlt, List.all_cons, hg, hk, Bool.true_and]
  · obtain ⟨hlt, hg⟩ := List.getElem?_eq_some_iff.mp hi
    rw [hJ, List.drop_eq_getElem_cons hlt, List.all_cons, hg, hk] at hp
    exact hp
  · rw [hJ, List.drop_eq_nil_of_le (Nat.le_refl _)] at hp
    exact hp
theorem e_allZ {pn : Option Pn} {ts : List Addr} {Tb : Addr} {j k : Nat} (f : PyData → PyData → Bool) (hT : Tb ∈ ts) (h : EA K ⟨pn, ts⟩ H0 tl L fun ds => ∃ as bs, ds = [.tuple as, .tuple bs] ∧ as.length = bs.length ∧
    (∀ x ∈ as, ∀ y ∈ bs, E K ⟨pn, ts⟩ H0 te ((((L.set k none).set j none).set j (some (.d x))).set k (some (.d y))) fun d => d = .bool (f x y)) ∧ P (.bool ((as.zip bs).all fun p => f p.1 p.2))) :
    E K ⟨pn, ts⟩ H0 (_root_.Gx.tGen Tb true (RZ.iZipA K tl) (gTup K 2 (gCons (gName j) (gCons (gName k) gNil))) tYes te [j, k]) L P := by
  have hm : ∀ {P P' : List PyData → Prop}, EA K ⟨pn, ts⟩ H0 tl L P → (∀ d, P d → P' d) → EA K ⟨pn, ts⟩ H0 tl L P' := fun h k σ G H e Q q => h σ G H e Q fun v d G' H' g hd p => q v d G' H' g hd (k d p)
  refine e_genZ hT (hm h fun d ⟨as, bs, e, hl, hx, hp⟩ => ⟨as, bs, e, hl, fun i => ((as.zip bs).all fun p => f p.1 p.2) = (((as.drop i).zip (bs.drop i)).all fun p => f p.1 p.2), rfl, fun i x y hi hi2 hJ => et_yes ⟨fun _ => (hx x (List.mem_of_getElem? hi) y (List.mem_of_getElem? hi2)).mono fun d e2 => ⟨f x y, e2, fun hk => ?_, fun hk => ?_⟩, fun z => by cases z⟩, fun hJ => ?_⟩)
  · obtain ⟨hlt, hg⟩ := List.getElem?_eq_some_iff.mp hi
    obtain ⟨hlt2, hg2⟩ := List.getElem?_eq_some_iff.mp hi2
    rw [hJ, List.drop_eq_getElem_cons hlt, List.drop_eq_getElem_cons hlt2, List.zip_cons_cons, List.all_cons, hg, hg2, hk, Bool.true_and]
  · obtain ⟨hlt, hg⟩ := List.getElem?_eq_some_iff.mp hi
    obtain ⟨hlt2, hg2⟩ := List.getElem?_eq_some_iff.mp hi2
    rw [hJ, List.drop_eq_getElem_cons hlt, List.drop_eq_getElem_cons hlt2, List.zip_cons_cons, List.all_cons, hg, hg2, hk] at hp
    exact hp
  · rw [hJ, List.drop_eq_nil_of_le (Nat.le_refl _)] at hp
    exact hp
/-! ### [f(x) for x in xs] -/
theorem e_mapT {j : Nat} (f : PyData → PyData) (h : E K pen H0 ta L fun d => ∃ ds, d = .tuple ds ∧ ds.length ≤ 100000 ∧ (∀ x ∈ ds, E K pen H0 te ((L.set j none).set j (some (.d x))) fun d => d = f x) ∧ P (.list (ds.map f))) :
    E K pen H0 (tLc (iTup K ta) (gName j) tYes te [j]) L P := by
  refine e_lcT (h.mono fun d ⟨ds, e, hz, hx, hp⟩ => ⟨ds, e, hz, fun i acc => acc = (ds.take i).map f, rfl, fun i x acc hi hJ => et_yes ⟨fun _ => (hx x (List.mem_of_getElem? hi)).mono fun d e2 => ?_, fun z => by cases z⟩, fun acc hJ => ?_⟩)
  · obtain ⟨hlt, hg⟩ := List.getElem?_eq_some_iff.mp hi
    rw [hJ, e2, List.take_succ_eq_append_getElem hlt, List.map_append, hg]
    rfl
  · rw [hJ, List.take_length]
    exact hp
end
/-! ### the end with tables -/
theorem tabB_of {base : Heap} {mg : Str → Option Value} {c P : Addr} (h : LamX.TabB base mg c P) : GxR.TabB base mg c P := ⟨h.code, h.bm, h.gP⟩
theorem tabG_nil {H : Hp} {P : Addr} (h : H P = some (.tbl #[])) : GxR.TabG H P := ⟨#[], h, trivial⟩
/-- the tables of all defs of the top are empty -/
def AllTabs (q : Program) (K : PySem.W.Frag) (mg : Str → Option Value) (h : Heap) : Prop := ∀ (x : Str) (fa c P : Addr) (o : Obj) (fd : FuncData) (e : Value) (dd : Option Addr) (vs : Array Value) (sl : Array (Option Value)), ((recsOf q).any fun e => e.name == x) = true → mg x = some (.ref fa) →
  K.lookup fa = some o → o.data = .func fd → fd.code = .ref c → K.lookup c = some ⟨e, dd, .fields vs, sl⟩ → vs[11]? = some (.ref P) → h.get? P = some { cls := .none, data := .fields #[] }
theorem walk_ofTabs {l : PySem.W.OpenLaw} {n k : Nat} {q : Program} {loose : List Str} {XP : (Str → Option Value) → Heap → Prop} {YP : World → Heap → Prop} {d : DefRec} {K : Params → PySem.W.Frag} {CX : World → CXT} {x : Str}
    (hn : l.most = some n) (hn2 : n ≤ sizeLine) (hdf : d.params.defaults = []) (hr : Room k callerA) (hY : ∀ (w : World) (h : Heap), YP w h → (K w.params).In h)
    (F : ∀ (w : World) (mg : Str → Option Value) (fa : Addr) (h : Heap), (K w.params).In h → h.Ns mainGlobals mg → mg d.name = some (.ref fa) → AllTabs q (K w.params) mg h → LamX.LawAtS l w (K w.params) (CX w) k n x mg fa h)
    (hCX : ∀ (w : World) (H : Hp) (s : Shared) (e : Value) (s' : Shared), CX w [] H s (fun _ _ _ => False) e s' → False) :
    PySem.W.WalkO q loose XP YP l.row.toRowW d [] (fun f vs => PySem.call f vs) := by
  refine Att.attach_callB hn hdf fun w s₀ s₁ mg mb fa o pm cd doc a vs ns G Y ho hd hcd hmg hobj hints hlen hbits hg => ?_
  have KX := hY w _ Y
  have own : AllTabs q (K w.params) mg s₁.heap := fun x f c P o1 fd1 e dd vs1 sl hrec hx k1 k2 k3 k4 k5 => by
    obtain ⟨dL, hm, hn1⟩ := List.any_eq_true.mp hrec
    obtain ⟨a', o', fd', c', P', h1, h2, h3, h4, h5, h6⟩ := G.T.tab dL hm
    rw [beq_iff_eq.mp hn1, hx] at h1
    cases h1
    rw [KX _ _ k1] at h2
    cases h2
    rw [k2] at h3
    cases h3
    rw [k3] at h4
    cases h4
    obtain ⟨⟨oc, vc, e1, _, e3, e4⟩, hP⟩ := h6
    rw [KX _ _ k4] at e1
    cases e1
    cases e3
    rw [k5] at e4
    cases e4
    exact hP
  obtain ⟨fd, cs, sp, hT, nT, C, hb, hsp, hF⟩ := F w mg fa _ KX G.T.g hmg own
  exact LamX.law_callTs KX G.T.g G.T.b G.T.builtins G.T.nolimit hg hT nT C G.T.bmain hobj hints (Nat.le_trans hlen hn2) hr hF hb (fun H hH hS => hsp H a ns hlen hbits hH hS) fun H e s' => hCX w H s₁ e s'
end Dl
set_option Elab.async false
set_option linter.all false
set_option maxRecDepth 100000
namespace Dl
open PySem PySem.Spec PyProof.Rows L2
/-! ### the law's beginning, with tables -/
theorem tabG_upd {H : Hp} {P l : Addr} {o : HO} (h : GxR.TabG H P) (hn : H l = none) : GxR.TabG (upd H l o) P := by
  obtain ⟨ps, e, t⟩ := h
  exact ⟨ps, by rw [upd_ne (fun z => by rw [z, hn] at e; cases e)]; exact e, t⟩
def spPenT (K : PySem.W.Frag) (ts : List Addr) : Sp := fun vs H Q _ => ∃ (a : Addr) (ns : List Int), vs = [.ref a] ∧ SqL K H a (ns.map V.int) ∧ (∀ P ∈ ts, GxR.TabG H P) ∧
  ∀ (p c : Addr) (cells : List Int) H', H' p = some (.lst [.ref c, .int 0, .int 0]) → H' c = some (.lst (cells.map V.int)) → (∀ P ∈ ts, GxR.TabG H' P) → Q (.ref p) H'
def spLawT (K : PySem.W.Frag) (ts : List Addr) : Sp := fun vs H Q _ => ∃ (a : Addr) (ns : List Int), vs = [.ref a] ∧ SqL K H a (ns.map V.int) ∧ ns.length ≤ 63 ∧ (∀ P ∈ ts, GxR.TabG H P) ∧ ∀ H', Q (.bl true) H'
end Dl
set_option Elab.async false
set_option linter.all false
set_option maxRecDepth 100000
set_option maxHeartbeats 4000000
namespace Dl
open PySem PySem.Spec PyProof.Rows L2
/-! ### sorted(set(t)), t a tuple of ints -/
def rSetI (K : PySem.W.Frag) (w : World) : List V → Hp → VK → Prop := fun xs H Q => ∃ (l : Addr) (ns : List Int), xs = [V.ref l] ∧ SqT K H l (ns.map V.int) ∧ ns.length ≤ 1000 ∧ ∀ p c, H p = none → c ≤ ns.length → Q (.ref p) (upd H p (SetO w p (fun j => decide (j ∈ ns)) c))
section
variable {X : Cx}
theorem cr_setI (hc : X.calm = true) : CallR X (.type "set") (rSetI X.K X.w) := by
  intro pins s σ H xs us Q I r h
  obtain ⟨l, ns, rfl, hl, hz, q⟩ := h
  rw [Vals.ref1 r]
  obtain ⟨its, rv, pt, _⟩ := I.tuple hl
  have hb : (2000 : Nat) < scanBound := by decide +kernel
  refine call_set_tupI (P := X.prog) (w := X.w) ns (I.ok.hd hc) (show s.heap.IsTuple l its.toArray from pt) (by simpa using rv.ints) (by omega) fun h' tk c R hcl kp => ?_
  exact ⟨.ref s.heap.objs.size, _, I.laid (t' := tk) kp (Nat.le_refl _) (setO_new R), rfl, q _ c I.fresh hcl⟩
theorem kx_setI {K : PySem.W.Frag} {w : World} (h : X.K = K) (hw : X.w = w) (hc : X.calm = true) : CallR X (.type "set") (rSetI K w) := by subst h; subst hw; exact cr_setI hc
theorem kx_sortedSet {w : World} (hw : X.w = w) (hc : X.calm = true) : CallR X (.builtin "sorted") (rSortedSet w) := by subst hw; exact cr_sortedSet hc
end
def intsL (l : List Int) : List PyData := l.map .int
theorem dpa_ints {K : PySem.W.Frag} {G : Hp} : ∀ {vs : List V} {ns : List Int}, DpAll K G vs (intsL ns) → vs = ns.map V.int
  | _, [], h => by cases h; rfl
  | _, n :: ns, h => by
    cases h with
    | cons h1 h2 =>
      cases h1
      rw [dpa_ints h2]
      rfl
theorem ints_dpa {K : PySem.W.Frag} {G : Hp} : ∀ ns : List Int, DpAll K G (ns.map V.int) (intsL ns)
  | [] => .nil
  | n :: ns => .cons (.int n) (ints_dpa ns)
section
variable {K : PySem.W.Frag} {pen : Pc} {H0 : Hp} {L : Lv} {P : PyData → Prop} {ta te : TE} {tl : TA} {w : World}
theorem e_sortSet (h : E K pen H0 ta L fun d => ∃ ns : List Int, d = .tuple (intsL ns) ∧ ns.length < 64 ∧ ∀ ms : List Int, ms.Pairwise (· < ·) → (∀ k, k ∈ ms ↔ k ∈ ns) → P (.list (intsL ms))) :
    E K pen H0 (tCB (rSortedSet w) (tCons (tCB (rSetI K w) (tCons ta tNil)) tNil)) L P := fun σ G H e Q q => h σ G H e _ fun v d G1 H1 go hd ⟨ns, hds, hz, hp⟩ => by
  subst hds
  cases hd with
  | tup hs ha =>
    rename_i a xs
    have ex := dpa_ints ha
    subst ex
    refine ⟨a, ns, rfl, sqT_mono go.vw.vw hs, by omega, fun p c hpn hc => ?_⟩
    refine ⟨p, _, c, rfl, upd_same, by omega, fun ms r hm1 hm2 hm3 hr => ?_⟩
    have g2 := Go.hid go.vw (o := SetO w p (fun j => decide (j ∈ ns)) c) hpn
    have g3 := Go.new g2.vw (o := .lst (ms.map V.int)) hr
    exact q _ _ _ _ ((go.trans g2).trans g3) (.lst (.inl (.inl upd_same)) (ints_dpa ms)) (hp ms hm1 fun k => by rw [hm2 k, decide_eq_true_eq])
/-! ### k in t, k not in t, t a tuple of ints -/
theorem inV_ints (k : Int) (ns : List Int) : inV (.int k) (ns.map V.int) = decide (k ∈ ns) := by
  unfold inV
  rw [List.any_map]
  have e : ((fun y => eqV y (V.int k)) ∘ V.int) = fun n : Int => decide (n = k) := by
    funext n
    rfl
  rw [e]
  by_cases h : k ∈ ns
  · rw [decide_eq_true h, List.any_eq_true]
    exact ⟨k, h, decide_eq_true rfl⟩
  · rw [decide_eq_false h, List.any_eq_false]
    intro n hn z
    exact h (of_decide_eq_true z ▸ hn)
theorem r_inI {k : Int} {ns : List Int} (p : P (.bool (decide (k ∈ ns)))) : R2d K pen (rIn K false) (.int k) (.tuple (intsL ns)) P := fun x y G H v hx hy Q q => by
  cases hx
  cases hy with
  | tup hs ha =>
    rename_i a xs
    have ex := dpa_ints ha
    subst ex
    refine ⟨a, _, rfl, .inr (sqT_mono v.vw hs), rfl, ?_, ?_⟩
    · rw [List.all_eq_true]
      intro z hz
      obtain ⟨n, _, rfl⟩ := List.mem_map.mp hz
      rfl
    · rw [if_neg Bool.false_ne_true, inV_ints]
      exact q _ _ G H (.refl v) (.bl _) p
theorem r_notInI {k : Int} {ns : List Int} (p : P (.bool (!decide (k ∈ ns)))) : R2d K pen (rIn K true) (.int k) (.tuple (intsL ns)) P := fun x y G H v hx hy Q q => by
  cases hx
  cases hy with
  | tup hs ha =>
    rename_i a xs
    have ex := dpa_ints ha
    subst ex
    refine ⟨a, _, rfl, .inr (sqT_mono v.vw hs), rfl, ?_, ?_⟩
    · rw [List.all_eq_true]
      intro z hz
      obtain ⟨n, _, rfl⟩ := List.mem_map.mp hz
      rfl
    · rw [if_pos rfl, inV_ints]
      exact q _ _ G H (.refl v) (.bl _) p
end
end Dl
set_option Elab.async false
set_option linter.all false
set_option maxRecDepth 100000
set_option maxHeartbeats 4000000
namespace Dl
open PySem PySem.Spec PyProof.Rows L2
/-! ### t == () -/
def rEqNil (K : PySem.W.Frag) : R2 := fun x y H Q => ∃ a b xs, x = .ref a ∧ y = .ref b ∧ SqT K H a xs ∧ SqT K H b [] ∧ Q (.bl (decide (xs.length = 0))) H
section
variable {X : Cx}
theorem op_eqNil {k : Nat} (hr : Room k X.A) : OpR X (compareOp .Eq) (rEqNil X.K) := by
  intro pins s σ H x y v u Q I rx ry h
  obtain ⟨a, b, xs, rfl, rfl, ha, hb, q⟩ := h
  cases rx
  cases ry
  obtain ⟨its, r1, p1, _⟩ := I.tuple ha
  obtain ⟨its2, r2, p2, _⟩ := I.tuple hb
  have l1 := r1.length
  cases r2
  refine SeqAt.eq_tupleAt (e := fun _ => true) (show s.heap.IsTuple a its.toArray from p1) (show s.heap.IsTuple b #[] from p2) (Nat.lt_of_le_of_lt (Nat.le_add_right _ _) hr.units) (fun j _ h2 => absurd h2 (Nat.not_lt_zero _)) ?_
  refine ⟨.bl (decide (xs.length = 0)), H, I, ?_, q⟩
  show Value.bool _ = Value.bool _
  congr 1
  rw [show min its.toArray.size (#[] : Array Value).size = 0 from Nat.min_zero _]
  show (true && (its.toArray.size == 0)) = _
  rw [Bool.true_and, List.size_toArray, ← l1, Bool.eq_iff_iff, beq_iff_eq, decide_eq_true_eq]
theorem kx_eqNil {K : PySem.W.Frag} {k : Nat} (h : X.K = K) (hr : Room k X.A) : OpR X (compareOp .Eq) (rEqNil K) := by subst h; exact op_eqNil hr
end
section
variable {K : PySem.W.Frag} {pen : Pc} {H0 : Hp} {L : Lv} {P : PyData → Prop} {td ty ta te : TE} {tl : TA}
theorem r_eqNil {ds : List PyData} (p : P (.bool (decide (ds.length = 0)))) : R2d K pen (rEqNil K) (.tuple ds) (.tuple []) P := fun x y G H v hx hy Q q => by
  cases hx with
  | tup hs ha =>
    cases hy with
    | tup hs' ha' =>
      rename_i a xs a' ys
      cases ha'
      refine ⟨a, a', xs, rfl, rfl, sqT_mono v.vw hs, sqT_mono v.vw hs', ?_⟩
      rw [dpa_len ha]
      exact q _ _ G H (.refl v) (.bl _) p
/-! ### d[k] -/
theorem dict_some {G : Hp} (x : Str) {d : PyData} : ∀ {kvs : List (Key × V)} {m : List (Str × PyData)}, DictOk K G kvs m → m.lookup x = some d → ∃ v, valV kvs (Sum.inr x) = some v ∧ Dp K G v d
  | _, _, .nil, e => by cases e
  | kv :: kvs, (y, d') :: m, .cons h t, e => by
    obtain ⟨h1, h2⟩ := h
    unfold valV
    rw [List.find?_cons]
    rw [List.lookup_cons] at e
    by_cases z : x = y
    · subst z
      rw [beq_self_eq_true] at e
      cases e
      rw [h1, decide_eq_true rfl]
      exact ⟨_, rfl, h2⟩
    · rw [beq_eq_false_iff_ne.mpr z] at e
      rw [decide_eq_false (by rw [h1]; exact fun q => z (Sum.inr.inj q).symm)]
      exact dict_some x t e
theorem e_dget (h : ED K pen H0 td L fun m => E K pen H0 ty L fun k => ∃ x : Str, k = .str x ∧ ∃ d, m.lookup x = some d ∧ P d) : E K pen H0 (tDGet td ty) L P := fun σ G H e Q q =>
  h σ G H e _ fun p kvs m G1 H1 g1 hp hm h1 => h1 σ G1 H1 (e.go g1) _ fun v k G2 H2 g2 d2 ⟨x, hx, d, hd, pp⟩ => by
    subst hx
    cases d2
    obtain ⟨u, hu, du⟩ := dict_some x (dictOk_mono g2.gg hm) hd
    exact ⟨p, u, rfl, by rw [← hu]; exact DGet.k (k := Sum.inr x) (g2.vw.vw _ _ (g2.gg _ _ hp)), q _ _ G2 H2 (g1.trans g2) du pp⟩
/-! ### texts -/
def strsL (l : List Str) : List PyData := l.map .str
theorem dpa_strs {G : Hp} : ∀ {vs : List V} {ns : List Str}, DpAll K G vs (strsL ns) → vs = ns.map V.str
  | _, [], h => by cases h; rfl
  | _, n :: ns, h => by
    cases h with
    | cons h1 h2 =>
      cases h1
      rw [dpa_strs h2]
      rfl
theorem inV_strs (k : Str) (ns : List Str) : inV (.str k) (ns.map V.str) = decide (k ∈ ns) := by
  unfold inV
  rw [List.any_map]
  by_cases h : k ∈ ns
  · rw [decide_eq_true h, List.any_eq_true]
    exact ⟨k, h, show (k == k) = true from beq_self_eq_true k⟩
  · rw [decide_eq_false h, List.any_eq_false]
    intro n hn z
    have z : (n == k) = true := z
    exact h (beq_iff_eq.mp z ▸ hn)
theorem flat_strs (ns : List Str) : (ns.map V.str).all flatV = true := by
  rw [List.all_eq_true]
  intro x hx
  obtain ⟨b, _, rfl⟩ := List.mem_map.mp hx
  rfl
theorem r_inS {k : Str} {ns : List Str} (p : P (.bool (decide (k ∈ ns)))) : R2d K pen (rIn K false) (.str k) (.tuple (strsL ns)) P := fun x y G H v hx hy Q q => by
  cases hx
  cases hy with
  | tup hs ha =>
    have ex := dpa_strs ha
    subst ex
    refine ⟨_, _, rfl, .inr (sqT_mono v.vw hs), rfl, flat_strs ns, ?_⟩
    rw [if_neg Bool.false_ne_true, inV_strs]
    exact q _ _ G H (.refl v) (.bl _) p
theorem r_notInS {k : Str} {ns : List Str} (p : P (.bool (!decide (k ∈ ns)))) : R2d K pen (rIn K true) (.str k) (.tuple (strsL ns)) P := fun x y G H v hx hy Q q => by
  cases hx
  cases hy with
  | tup hs ha =>
    have ex := dpa_strs ha
    subst ex
    refine ⟨_, _, rfl, .inr (sqT_mono v.vw hs), rfl, flat_strs ns, ?_⟩
    rw [if_pos rfl, inV_strs]
    exact q _ _ G H (.refl v) (.bl _) p
theorem r_addS {i j : Str} (h : i.length + j.length ≤ 100000) (p : P (.str (i ++ j))) : R2d K pen (fun x y H Q => ∃ i j, x = .str i ∧ y = .str j ∧ i.length + j.length ≤ sizeLine ∧ Q (.str (i ++ j)) H) (.str i) (.str j) P := fun x y G H v hx hy Q q => by
  cases hx
  cases hy
  exact ⟨i, j, rfl, rfl, Nat.le_trans h (by decide : 100000 ≤ sizeLine), q _ _ G H (.refl v) (.str _) p⟩
theorem r_slS {z : Str} {lo hi : Option Int} (h : z.length ≤ 100000) (p : P (.str (cutS z lo hi))) : RSd K pen rSlS (.str z) lo hi P := fun x G H v hx Q q => by
  cases hx
  exact ⟨z, rfl, Nat.le_trans h (by decide : 100000 ≤ sizeLine), q _ _ G H (.refl v) (.str _) p⟩
theorem e_upper (h : E K pen H0 te L fun d => ∃ z : Str, d = .str z ∧ z.length ≤ 100000 ∧ P (.str (Txt.upper z))) : E K pen H0 (tM0 (fun x xs H Q => ∃ a, x = .str a ∧ xs = [] ∧ a.length ≤ 5592405 ∧ Q (.str (Txt.upper a)) H) te) L P := fun σ G H e Q q =>
  h σ G H e _ fun v d G1 H1 go hd ⟨z, hz, hl, p⟩ => by
    subst hz
    cases hd
    exact ⟨⟨z, rfl⟩, z, rfl, rfl, Nat.le_trans hl (by decide), q _ _ G1 H1 go (.str _) p⟩
theorem c_strI {i : Int} (h : i.natAbs.log2 < 1920) (p : P (.str (toString i))) : RCd K pen (fun xs H Q => ∃ i, xs = [.int i] ∧ i.natAbs.log2 < 1920 ∧ Q (.str (toString i)) H) [.int i] P := fun vs G H v hv Q q => by
  cases hv with
  | cons h1 h2 =>
    cases h2
    cases h1
    exact ⟨i, rfl, h, q _ _ G H (.refl v) (.str _) p⟩
theorem r_neg {i : Int} (p : P (.int (-i))) : RUd K pen (rU fun i => .int (-i)) (.int i) P := fun x G H v hx Q q => by
  cases hx
  exact ⟨i, rfl, q _ _ G H (.refl v) (.int _) p⟩
theorem cutS_len (z : Str) (lo hi : Option Int) : (cutS z lo hi).length ≤ z.length := by
  show (((z.cps.toList.drop _).take _).toArray).size ≤ z.cps.size
  rw [List.size_toArray, List.length_take, List.length_drop, Array.length_toList]
  omega
theorem e_mapL {j : Nat} (f : PyData → PyData) (h : E K pen H0 ta L fun d => ∃ ds, d = .list ds ∧ ds.length ≤ 100000 ∧ (∀ x ∈ ds, E K pen H0 te ((L.set j none).set j (some (.d x))) fun d => d = f x) ∧ P (.list (ds.map f))) :
    E K pen H0 (tLc (iList K ta) (gName j) tYes te [j]) L P := by
  refine e_lcL (h.mono fun d ⟨ds, e, hz, hx, hp⟩ => ⟨ds, e, hz, fun i acc => acc = (ds.take i).map f, rfl, fun i x acc hi hJ => et_yes ⟨fun _ => (hx x (List.mem_of_getElem? hi)).mono fun d e2 => ?_, fun z => by cases z⟩, fun acc hJ => ?_⟩)
  · obtain ⟨hlt, hg⟩ := List.getElem?_eq_some_iff.mp hi
    rw [hJ, e2, List.take_succ_eq_append_getElem hlt, List.map_append, hg]
    rfl
  · rw [hJ, List.take_length]
    exact hp
end
end Dl
set_option Elab.async false
set_option linter.all false
set_option maxRecDepth 100000
set_option maxHeartbeats 4000000
namespace Dl
open PySem PySem.Spec PyProof.Rows L2
/-! ### what is walked, by its items -/
def Wlk (K : PySem.W.Frag) (pen : Pc) (J : It) (G1 : Hp) (xs : List PyData) : Prop := ∀ G' H', Same G1 G' → Vw pen G' H' →
  (∀ (i : Nat) x, xs[i]? = some x → J.go i H' ∧ ∀ v H2, J.yld i H' v H2 → ∃ G2, Go pen G' H' G2 H2 ∧ Dp K G2 v x) ∧ J.stop xs.length H'
def IT (K : PySem.W.Frag) (pen : Pc) (H0 : Hp) (ti : TI) (L : Lv) (P : List PyData → Prop) : Prop := ∀ (σ : L2.St) (G H : Hp), Ev K pen H0 G H σ L → ∀ R : It → Hp → Prop, (∀ J G1 H1 xs, Go pen G H G1 H1 → Wlk K pen J G1 xs → P xs → R J H1) → ti σ H R
section
variable {K : PySem.W.Frag} {pen : Pc} {H0 : Hp} {L : Lv} {P : List PyData → Prop} {Pd : PyData → Prop} {te ta : TE} {tl : TA} {ti : TI} {tt : TT} {t : TS} {D : Dn} {g : TG} {gs : TGs}
theorem IT.mono {P' : List PyData → Prop} (h : IT K pen H0 ti L P) (k : ∀ d, P d → P' d) : IT K pen H0 ti L P' := fun σ G H e R r => h σ G H e R fun J G1 H1 xs g w p => r J G1 H1 xs g w (k xs p)
theorem it_list (h : E K pen H0 te L fun d => ∃ ds, d = .list ds ∧ P ds) : IT K pen H0 (iList K te) L P := fun σ G H e R r => h σ G H e _ fun v d G1 H1 go hd ⟨ds, hds, p⟩ => by
  subst hds
  cases hd with
  | lst hs ha =>
    rename_i a xs
    refine ⟨a, rfl, ⟨xs, sqL_mono go.vw.vw hs⟩, r _ G1 H1 ds go (fun G' H' s v => ⟨fun i x hx => ?_, ?_⟩) p⟩
    · have z := sqL_mono (s.trans v.vw) hs
      obtain ⟨y, hy, dy⟩ := dpa_get ha hx
      refine ⟨⟨xs, y, z, hy⟩, fun w H2 hw => ?_⟩
      obtain ⟨rfl, f⟩ := hw
      have e1 : w = y := Option.some.inj ((f _ z).symm.trans hy)
      subst e1
      exact ⟨G', .refl v, dp_mono s _ _ dy⟩
    · exact ⟨xs, sqL_mono (s.trans v.vw) hs, by rw [dpa_len ha]; exact Nat.le_refl _⟩
theorem it_tup (h : E K pen H0 te L fun d => ∃ ds, d = .tuple ds ∧ P ds) : IT K pen H0 (iTup K te) L P := fun σ G H e R r => h σ G H e _ fun v d G1 H1 go hd ⟨ds, hds, p⟩ => by
  subst hds
  cases hd with
  | tup hs ha =>
    rename_i a xs
    refine ⟨a, rfl, ⟨xs, sqT_mono go.vw.vw hs⟩, r _ G1 H1 ds go (fun G' H' s v => ⟨fun i x hx => ?_, ?_⟩) p⟩
    · have z := sqT_mono (s.trans v.vw) hs
      obtain ⟨y, hy, dy⟩ := dpa_get ha hx
      refine ⟨⟨xs, y, z, hy⟩, fun w H2 hw => ?_⟩
      obtain ⟨rfl, f⟩ := hw
      have e1 : w = y := Option.some.inj ((f _ z).symm.trans hy)
      subst e1
      exact ⟨G', .refl v, dp_mono s _ _ dy⟩
    · exact ⟨xs, sqT_mono (s.trans v.vw) hs, by rw [dpa_len ha]; exact Nat.le_refl _⟩
/-- lo, lo + 1, .., n of them -/
def rngL (lo : Int) (n : Nat) : List PyData := (List.range n).map fun i => .int (lo + (i : Nat))
theorem rngL_len (lo : Int) (n : Nat) : (rngL lo n).length = n := by unfold rngL; rw [List.length_map, List.length_range]
theorem rngL_get {lo : Int} {n i : Nat} {x : PyData} (h : (rngL lo n)[i]? = some x) : i < n ∧ x = .int (lo + i) := by
  have hi : i < n := by
    have := (List.getElem?_eq_some_iff.mp h).1
    rw [rngL_len] at this; exact this
  refine ⟨hi, ?_⟩
  unfold rngL at h
  rw [List.getElem?_map, List.getElem?_range hi] at h
  exact (Option.some.inj h).symm
theorem wlk_rng (lo : Int) (n : Nat) (G : Hp) : Wlk K pen (Itr lo n) G (rngL lo n) := fun G' H' s v => ⟨fun i x hx => by
    obtain ⟨hi, rfl⟩ := rngL_get hx
    refine ⟨hi, fun w H2 hw => ?_⟩
    obtain ⟨rfl, rfl⟩ := hw
    exact ⟨G', .refl v, .int _⟩, by rw [rngL_len]; exact Nat.le_refl _⟩
theorem it_rng (h : EA K pen H0 tl L fun ds => ∃ j : Int, ds = [.int j] ∧ -(2 ^ 62) ≤ j ∧ j < 2 ^ 62 ∧ P (rngL 0 j.toNat)) : IT K pen H0 (iRng1 tl) L P := fun σ G H e R r => h σ G H e _ fun vs ds G1 H1 go hd ⟨j, hds, h1, h2, p⟩ => by
  subst hds
  cases hd with
  | cons hd hd2 =>
    cases hd2
    cases hd
    exact ⟨j, rfl, h1, h2, r _ G1 H1 _ go (wlk_rng _ _ _) p⟩
theorem it_rng2 (h : EA K pen H0 tl L fun ds => ∃ i j : Int, ds = [.int i, .int j] ∧ (-(2 ^ 62) ≤ i ∧ i < 2 ^ 62 ∧ -(2 ^ 62) ≤ j ∧ j < 2 ^ 62) ∧ P (rngL i (j - i).toNat)) : IT K pen H0 (iRng2 tl) L P := fun σ G H e R r => h σ G H e _ fun vs ds G1 H1 go hd ⟨i, j, hds, h1, p⟩ => by
  subst hds
  cases hd with
  | cons hd hd2 =>
    cases hd2 with
    | cons hd3 hd4 =>
      cases hd4
      cases hd
      cases hd3
      exact ⟨i, j, rfl, h1, r _ G1 H1 _ go (wlk_rng _ _ _) p⟩
/-- enumerate(list) -/
def enumL (ds : List PyData) : List PyData := ds.mapIdx fun i x => .tuple [.int (i : Nat), x]
theorem enumL_get {ds : List PyData} {i : Nat} {x : PyData} (h : (enumL ds)[i]? = some x) : ∃ y, ds[i]? = some y ∧ x = .tuple [.int (i : Nat), y] := by
  unfold enumL at h
  rw [List.getElem?_mapIdx] at h
  cases e : ds[i]? with
  | none => rw [e] at h; cases h
  | some y => rw [e] at h; exact ⟨y, rfl, (Option.some.inj h).symm⟩
theorem enumL_len (ds : List PyData) : (enumL ds).length = ds.length := by unfold enumL; rw [List.length_mapIdx]
theorem it_enum (h : EA K pen H0 tl L fun es => ∃ ds, es = [.list ds] ∧ P (enumL ds)) : IT K pen H0 (iEnum K tl) L P := fun σ G H e R r => h σ G H e _ fun vs es G1 H1 go hd ⟨ds, hds, p⟩ => by
  subst hds
  cases hd with
  | cons hd hd2 =>
    cases hd2
    cases hd with
    | lst hs ha =>
      rename_i a xs
      refine ⟨a, xs, rfl, sqL_mono go.vw.vw hs, r _ G1 H1 _ go (fun G' H' s v => ⟨fun i x hx => ?_, ?_⟩) p⟩
      · have z := sqL_mono (s.trans v.vw) hs
        obtain ⟨y', hy', rfl⟩ := enumL_get hx
        obtain ⟨y, hy, dy⟩ := dpa_get ha hy'
        refine ⟨⟨xs, y, z, hy⟩, fun w H2 hw => ?_⟩
        obtain ⟨T, u, rfl, hT, rfl, f⟩ := hw
        have e1 : u = y := Option.some.inj ((f _ z).symm.trans hy)
        subst e1
        have g2 := Go.new v (o := .tup [.int (i : Nat), u]) hT
        exact ⟨_, g2, .tup (.inl (.inl upd_same)) (.cons (.int _) (.cons (dp_mono (s.trans g2.gg) _ _ dy) .nil))⟩
      · exact ⟨xs, sqL_mono (s.trans v.vw) hs, by rw [dpa_len ha, enumL_len]; exact Nat.le_refl _⟩
/-- zip -/
def zipL (as bs : List PyData) : List PyData := (as.zip bs).map fun p => .tuple [p.1, p.2]
theorem zipL_len (as bs : List PyData) : (zipL as bs).length = min as.length bs.length := by unfold zipL; rw [List.length_map, List.length_zip]
theorem zipL_get {as bs : List PyData} {i : Nat} {x : PyData} (h : (zipL as bs)[i]? = some x) : ∃ a b, as[i]? = some a ∧ bs[i]? = some b ∧ x = .tuple [a, b] := by
  unfold zipL at h
  rw [List.getElem?_map] at h
  cases e : (as.zip bs)[i]? with
  | none => rw [e] at h; cases h
  | some y =>
    rw [e] at h
    obtain ⟨h1, h2⟩ := List.getElem?_zip_eq_some.mp e
    exact ⟨y.1, y.2, h1, h2, (Option.some.inj h).symm⟩
theorem it_zip (h : EA K pen H0 tl L fun es => ∃ as bs, (es = [.tuple as, .tuple bs] ∨ es = [.list as, .list bs]) ∧ P (zipL as bs)) : IT K pen H0 (RZ.iZipA K tl) L P := fun σ G H e R r => h σ G H e _ fun vs es G1 H1 go hd ⟨as, bs, hds, p⟩ => by
  rcases hds with rfl | rfl
  · cases hd with
    | cons hd hd2 =>
      cases hd2 with
      | cons hd3 hd4 =>
        cases hd4
        cases hd with
        | tup hs ha =>
          cases hd3 with
          | tup hs' ha' =>
            rename_i a xs a' ys
            refine ⟨a, a', xs, ys, rfl, .inr ⟨sqT_mono go.vw.vw hs, sqT_mono go.vw.vw hs', r _ G1 H1 _ go (fun G' H' s v => ⟨fun i x hx => ?_, ?_⟩) p⟩⟩
            · have z := sqT_mono (s.trans v.vw) hs
              have z' := sqT_mono (s.trans v.vw) hs'
              obtain ⟨x1, x2, hx1, hx2, rfl⟩ := zipL_get hx
              obtain ⟨y1, hy1, dy1⟩ := dpa_get ha hx1
              obtain ⟨y2, hy2, dy2⟩ := dpa_get ha' hx2
              refine ⟨⟨xs, ys, y1, y2, z, z', hy1, hy2⟩, fun w H2 hw => ?_⟩
              obtain ⟨T, u1, u2, rfl, hT, rfl, f1, f2⟩ := hw
              have e1 : u1 = y1 := Option.some.inj ((f1 _ z).symm.trans hy1)
              have e2 : u2 = y2 := Option.some.inj ((f2 _ z').symm.trans hy2)
              subst e1 e2
              have g2 := Go.new v (o := .tup [u1, u2]) hT
              exact ⟨_, g2, .tup (.inl (.inl upd_same)) (.cons (dp_mono (s.trans g2.gg) _ _ dy1) (.cons (dp_mono (s.trans g2.gg) _ _ dy2) .nil))⟩
            · refine ⟨xs, ys, sqT_mono (s.trans v.vw) hs, sqT_mono (s.trans v.vw) hs', ?_⟩
              rw [dpa_len ha, dpa_len ha', zipL_len]
              omega
  · cases hd with
    | cons hd hd2 =>
      cases hd2 with
      | cons hd3 hd4 =>
        cases hd4
        cases hd with
        | lst hs ha =>
          cases hd3 with
          | lst hs' ha' =>
            rename_i a xs a' ys
            refine ⟨a, a', xs, ys, rfl, .inl ⟨sqL_mono go.vw.vw hs, sqL_mono go.vw.vw hs', r _ G1 H1 _ go (fun G' H' s v => ⟨fun i x hx => ?_, ?_⟩) p⟩⟩
            · have z := sqL_mono (s.trans v.vw) hs
              have z' := sqL_mono (s.trans v.vw) hs'
              obtain ⟨x1, x2, hx1, hx2, rfl⟩ := zipL_get hx
              obtain ⟨y1, hy1, dy1⟩ := dpa_get ha hx1
              obtain ⟨y2, hy2, dy2⟩ := dpa_get ha' hx2
              refine ⟨⟨xs, ys, y1, y2, z, z', hy1, hy2⟩, fun w H2 hw => ?_⟩
              obtain ⟨T, u1, u2, rfl, hT, rfl, f1, f2⟩ := hw
              have e1 : u1 = y1 := Option.some.inj ((f1 _ z).symm.trans hy1)
              have e2 : u2 = y2 := Option.some.inj ((f2 _ z').symm.trans hy2)
              subst e1 e2
              have g2 := Go.new v (o := .tup [u1, u2]) hT
              exact ⟨_, g2, .tup (.inl (.inl upd_same)) (.cons (dp_mono (s.trans g2.gg) _ _ dy1) (.cons (dp_mono (s.trans g2.gg) _ _ dy2) .nil))⟩
            · refine ⟨xs, ys, sqL_mono (s.trans v.vw) hs, sqL_mono (s.trans v.vw) hs', ?_⟩
              rw [dpa_len ha, dpa_len ha', zipL_len]
              omega
/-! ### for, over anything that is walked -/
theorem s_forI (h : IT K pen H0 ti L fun xs => ∃ I : Nat → Lv → Prop, Wk I 0 L ∧ (∀ (i : Nat) x L', xs[i]? = some x → I i L' → GT K pen H0 g x L' fun L2 => S K pen H0 t L2 { D with nx := Wk I (i + 1), ct := Wk I (i + 1), bk := D.nx }) ∧ (∀ L', I xs.length L' → ∀ L4, Sub L' L4 → D.nx L4)) :
    S K pen H0 (tFor ti g t) L D := fun σ G H N e n1 n2 n3 n4 n5 n6 => h σ G H e _ fun J G1 H1 xs go w ⟨I, i0, is, id⟩ => by
  have x1 := e.gx go
  refine ⟨fun i m σ' H' => m = xs.length - i ∧ i ≤ xs.length ∧ ∃ G' L', Gx pen H0 G1 H1 G' H' ∧ Ev K pen H0 G' H' σ' L' ∧ I i L', ⟨xs.length, rfl, Nat.zero_le _, ?_⟩, ?_⟩
  · obtain ⟨L3, s, hI⟩ := i0
    exact ⟨G1, L3, .refl, (e.go go).sub s, hI⟩
  rintro i m σ1 H2 ⟨rfl, hi, G2, L2, x2, e2, q2⟩
  obtain ⟨w1, w2⟩ := w G2 H2 x2.gg e2.vw
  by_cases hlt : i < xs.length
  · obtain ⟨k1, k2⟩ := w1 i _ (List.getElem?_eq_getElem hlt)
    refine .inr ⟨k1, fun σ' H' => ∃ G' L', Gx pen H0 G1 H1 G' H' ∧ Ev K pen H0 G' H' σ' L' ∧ Wk I (i + 1) L', fun σ' H' ⟨G', L', a, b, L3, s, c⟩ => ⟨xs.length - (i + 1), by omega, rfl, hlt, G', L3, a, b.sub s, c⟩, fun v H3 hy => ?_⟩
    obtain ⟨G3, g3, d3⟩ := k2 v H3 hy
    have x3 := x2.trans (e2.gx g3)
    refine is i _ L2 (List.getElem?_eq_getElem hlt) q2 σ1 G3 H3 v (e2.go g3) d3 _ fun σ4 L4 e4 h4 => ?_
    exact h4 σ4 G3 H3 _ e4 (fun σ5 G5 H5 L5 x5 e5 q5 => ⟨G5, L5, x3.trans x5, e5, q5⟩) (fun v d G5 H5 x5 vw hd q5 => n2 v d G5 H5 (x1.trans (x3.trans x5)) vw hd q5)
      (fun σ5 G5 H5 L5 x5 e5 q5 => n1 σ5 G5 H5 L5 (x1.trans (x3.trans x5)) e5 q5) (fun σ5 G5 H5 L5 x5 e5 q5 => ⟨G5, L5, x3.trans x5, e5, q5⟩) (fun v d G5 H5 x5 vw hd q5 => n5 v d G5 H5 (x1.trans (x3.trans x5)) vw hd q5) (fun l ho o G5 H5 x5 vw h1 h2 h3 h4 q5 => n6 l ho o G5 H5 (x1.trans (x3.trans x5)) vw h1 h2 h3 h4 q5)
  · have e1 : i = xs.length := by omega
    subst e1
    exact .inl ⟨w2, n1 σ1 G2 H2 L2 (x1.trans x2) e2 (id L2 q2 L2 (Sub.refl _))⟩
/-! ### targets within a comprehension -/
def Agree (vs : List Nat) (σ σ' : L2.St) : Prop := σ'.length = σ.length ∧ ∀ j, j ∉ vs → σ'[j]? = σ[j]?
theorem wipe_get (σ : L2.St) : ∀ (vs : List Nat) (j : Nat), (wipe σ vs)[j]? = if j ∈ vs then (if j < σ.length then some none else none) else σ[j]?
  | [], j => by simp [wipe]
  | v :: vs, j => by
    unfold wipe
    rw [List.getElem?_set, wipe_get σ vs j, wipe_length]
    by_cases h : v = j
    · subst h
      simp
    · rw [if_neg h]
      have : (j ∈ v :: vs) = (j ∈ vs) := by rw [List.mem_cons]; exact propext ⟨fun z => z.resolve_left fun q => h q.symm, .inr⟩
      simp only [this]
theorem wipe_agree {vs : List Nat} {σ σ' : L2.St} (h : Agree vs (wipe σ vs) σ') : wipe σ' vs = wipe σ vs := by
  apply List.ext_getElem?
  intro j
  have hl := h.1
  rw [wipe_length] at hl
  rw [wipe_get, wipe_get, hl]
  by_cases hj : j ∈ vs
  · rw [if_pos hj, if_pos hj]
  · rw [if_neg hj, if_neg hj, h.2 j hj, wipe_get, if_neg hj]
def wipeL (L : Lv) : List Nat → Lv
  | [] => L
  | v :: vs => (wipeL L vs).set v none
theorem ev_wipe {G H : Hp} {σ : L2.St} (e : Ev K pen H0 G H σ L) : ∀ vs : List Nat, Ev K pen H0 G H (wipe σ vs) (wipeL L vs)
  | [] => e
  | v :: vs => (ev_wipe e vs).unset v
def GTw (K : PySem.W.Frag) (pen : Pc) (H0 : Hp) (vs : List Nat) (g : TG) (d : PyData) (L : Lv) (P : Lv → Prop) : Prop := ∀ (σ : L2.St) (G H : Hp) (v : V), Ev K pen H0 G H σ L → Dp K G v d → ∀ R : L2.St → Hp → Prop, (∀ σ' L', Agree vs σ σ' → Ev K pen H0 G H σ' L' → P L' → R σ' H) → g v σ H R
def GTws (K : PySem.W.Frag) (pen : Pc) (H0 : Hp) (vs : List Nat) (g : TGs) (ds : List PyData) (L : Lv) (P : Lv → Prop) : Prop := ∀ (σ : L2.St) (G H : Hp) (us : List V), Ev K pen H0 G H σ L → DpAll K G us ds → ∀ R : L2.St → Hp → Prop, (∀ σ' L', Agree vs σ σ' → Ev K pen H0 G H σ' L' → P L' → R σ' H) → g us σ H R
theorem gw_name {vs : List Nat} {i : Nat} {d : PyData} {P : Lv → Prop} (hi : i ∈ vs) (h : P (L.set i (some (.d d)))) : GTw K pen H0 vs (gName i) d L P := fun σ G H v e hd R r =>
  r _ _ ⟨List.length_set .., fun j hj => List.getElem?_set_ne fun (z : i = j) => hj (z ▸ hi)⟩ (e.set hd) h
theorem gw_tup {vs : List Nat} {n : Nat} {ds : List PyData} {P : Lv → Prop} (hn : ds.length = n) (h : GTws K pen H0 vs gs ds L P) : GTw K pen H0 vs (gTup K n gs) (.tuple ds) L P := fun σ G H v e hd R r => by
  cases hd with
  | tup hs ha => exact ⟨_, _, rfl, sqT_mono e.vw.vw hs, (dpa_len ha).trans hn, h σ G H _ e ha R r⟩
theorem gws_nil {vs : List Nat} {P : Lv → Prop} (h : P L) : GTws K pen H0 vs gNil [] L P := fun σ G H us e hd R r => by
  cases hd
  exact ⟨rfl, r _ _ ⟨rfl, fun _ _ => rfl⟩ e h⟩
theorem gws_cons {vs : List Nat} {d : PyData} {ds : List PyData} {P : Lv → Prop} (h : GTw K pen H0 vs g d L fun L' => GTws K pen H0 vs gs ds L' P) : GTws K pen H0 vs (gCons g gs) (d :: ds) L P := fun σ G H us e hd R r => by
  cases hd with
  | cons h1 h2 =>
    refine ⟨_, _, rfl, h σ G H _ e h1 _ fun σ' L' a e' h' => ?_⟩
    exact h' σ' G H _ e' h2 R fun σ2 L2 a2 e2 p2 => r σ2 L2 ⟨a2.1.trans a.1, fun j hj => (a2.2 j hj).trans (a.2 j hj)⟩ e2 p2
/-! ### a comprehension over anything that is walked -/
theorem el_lcI {vs : List Nat} {Pl : List PyData → Prop} (h : IT K pen H0 ti L fun xs => xs.length ≤ 100000 ∧ ∃ J : Nat → List PyData → Prop, J 0 [] ∧
    (∀ (i : Nat) x acc, xs[i]? = some x → J i acc → GTw K pen H0 vs g x (wipeL L vs) fun L2 => LcT K pen H0 tt te L2 acc (J (i + 1))) ∧ (∀ acc, J xs.length acc → Pl acc)) :
    EL K pen H0 (tLc ti g tt te vs) L Pl := fun σ G H e Q q => h σ G H e _ fun It G1 H1 xs go w ⟨hn, J, j0, js, je⟩ => fun Dl hD => by
  refine ⟨fun i m H' => m = xs.length - i ∧ i ≤ xs.length ∧ LcI K pen G1 H1 Dl J i H', ⟨xs.length, rfl, Nat.zero_le _, lc_start go.vw hD j0⟩, ?_⟩
  rintro i m H' ⟨rfl, hi, I⟩
  obtain ⟨G', us, acc, g1, h1, h2, h3, h4, h5⟩ := id I
  obtain ⟨w1, w2⟩ := w G' H' g1.gg g1.vw
  by_cases hlt : i < xs.length
  · obtain ⟨k1, k2⟩ := w1 i _ (List.getElem?_eq_getElem hlt)
    refine .inr ⟨k1, LcI K pen G1 H1 Dl J (i + 1), fun H2 I2 => ⟨xs.length - (i + 1), by omega, rfl, hlt, I2⟩, fun v H2 hv => ?_⟩
    obtain ⟨G2, g2, d2⟩ := k2 v H2 hv
    have np : ¬ IsPn pen Dl := fun p => go.vw.ok.there p hD
    have e2 := ev_wipe (((e.go go).go g1).go g2) vs
    refine js i _ acc (List.getElem?_eq_getElem hlt) h4 (wipe σ vs) G2 H2 v e2 d2 _ fun σ3 L3 ag e3 h6 => ⟨wipe_agree ag, ?_⟩
    exact lc_turn go.vw hD (by omega) (g1.trans g2) (g2.od Dl _ np h1) ((g2.nw Dl (by rw [h1]; exact fun z => by cases z)).trans h2) (dpa_mono g2.gg _ _ h3) h5 e3 h6
  · have e1 : i = xs.length := by omega
    subst e1
    exact .inl ⟨w2, lc_end go hD I je q⟩
theorem e_lcI {vs : List Nat} (h : IT K pen H0 ti L fun xs => xs.length ≤ 100000 ∧ ∃ J : Nat → List PyData → Prop, J 0 [] ∧
    (∀ (i : Nat) x acc, xs[i]? = some x → J i acc → GTw K pen H0 vs g x (wipeL L vs) fun L2 => LcT K pen H0 tt te L2 acc (J (i + 1))) ∧ (∀ acc, J xs.length acc → Pd (.list acc))) :
    E K pen H0 (tLc ti g tt te vs) L Pd := e_ofL (el_lcI h)
/-- the plain way: each item gives one, or none -/
theorem el_lcF {vs : List Nat} {Pl : List PyData → Prop} (f : Nat → PyData → Option PyData) (h : IT K pen H0 ti L fun xs => xs.length ≤ 100000 ∧
    (∀ (i : Nat) x, xs[i]? = some x → GTw K pen H0 vs g x (wipeL L vs) fun L2 => ET K pen H0 tt L2 fun b => (b = true → E K pen H0 te L2 fun d => f i x = some d) ∧ (b = false → f i x = none)) ∧ Pl ((xs.mapIdx f).filterMap id)) :
    EL K pen H0 (tLc ti g tt te vs) L Pl := by
  refine el_lcI (h.mono fun xs ⟨hn, hs, hp⟩ => ⟨hn, fun i acc => acc = ((xs.take i).mapIdx f).filterMap id, by simp, fun i x acc hx ha => ?_, fun acc ha => ?_⟩)
  · have key : ((xs.take (i + 1)).mapIdx f).filterMap id = ((xs.take i).mapIdx f).filterMap id ++ (f i x).toList := by
      obtain ⟨hlt, hg⟩ := List.getElem?_eq_some_iff.mp hx
      rw [List.take_succ_eq_append_getElem hlt, List.mapIdx_append, List.filterMap_append, hg]
      congr 1
      simp only [List.mapIdx_cons, List.mapIdx_nil, List.length_take]
      rw [Nat.min_eq_left (Nat.le_of_lt hlt)]
      simp only [Nat.zero_add]
      cases f i x <;> rfl
    intro σ G H v e hd R r
    refine hs i x hx σ G H v e hd R fun σ' L' ag e' p => r σ' L' ag e' (p.mono fun b pb => ⟨fun hb => (pb.1 hb).mono fun d hd => ?_, fun hb => ?_⟩)
    · show acc ++ [d] = _
      rw [ha, key, hd]; rfl
    · show acc = _
      rw [ha, key, pb.2 hb]; simp
  · have ha : acc = ((xs.take xs.length).mapIdx f).filterMap id := ha
    rw [List.take_length] at ha
    rw [ha]; exact hp
/-! ### all(..), any(..) over anything that is walked -/
theorem e_genI {pn : Option Pn} {ts : List Addr} {Tb : Addr} {go : Bool} {vs : List Nat} (hT : Tb ∈ ts) (h : IT K ⟨pn, ts⟩ H0 ti L fun xs => ∃ J : Nat → Prop, J 0 ∧
    (∀ (i : Nat) x, xs[i]? = some x → J i → GTw K ⟨pn, ts⟩ H0 vs g x (wipeL L vs) fun L2 => GnT K ⟨pn, ts⟩ H0 go tt te L2 (J (i + 1)) Pd) ∧ (J xs.length → Pd (.bool go))) :
    E K ⟨pn, ts⟩ H0 (_root_.Gx.tGen Tb go ti g tt te vs) L Pd := fun σ G H e Q q => h σ G H e _ fun It G1 H1 xs gg w ⟨J, j0, js, je⟩ => by
  refine ⟨gg.vw.ok.2 Tb hT, fun H2 htab => ?_⟩
  have g2 := Go.tab gg.vw hT htab
  refine ⟨fun i m H' => m = xs.length - i ∧ i ≤ xs.length ∧ J i ∧ ∃ G', Go ⟨pn, ts⟩ G1 H2 G' H', ⟨xs.length, rfl, Nat.zero_le _, j0, G1, .refl g2.vw⟩, ?_⟩
  rintro i m H' ⟨rfl, hi, hJ, G', g'⟩
  have q' : ∀ v d G' H', Go ⟨pn, ts⟩ G1 H2 G' H' → Dp K G' v d → Pd d → Q v H' := fun v d G' H' g hd p => q v d G' H' ((gg.trans g2).trans g) hd p
  obtain ⟨w1, w2⟩ := w G' H' g'.gg g'.vw
  by_cases hlt : i < xs.length
  · obtain ⟨k1, k2⟩ := w1 i _ (List.getElem?_eq_getElem hlt)
    refine .inr ⟨k1, fun H3 => J (i + 1) ∧ ∃ G', Go ⟨pn, ts⟩ G1 H2 G' H3, fun H3 ⟨k1, k2⟩ => ⟨xs.length - (i + 1), by omega, rfl, hlt, k1, k2⟩, fun y H3 hy => ?_⟩
    obtain ⟨G3, g3, d3⟩ := k2 y H3 hy
    refine js i _ (List.getElem?_eq_getElem hlt) hJ (wipe σ vs) G3 H3 y (ev_wipe ((((e.go gg).go g2).go g').go g3) vs) d3 _ fun σ4 L4 ag e4 h4 => ⟨wipe_agree ag, ?_⟩
    exact gn_turn (g'.trans g3) e4 h4 (fun G3 H3 g3 k => ⟨k, G3, g3⟩) q'
  · have e1 : i = xs.length := by omega
    subst e1
    exact .inl ⟨w2, q' _ _ G' H' g' (.bl _) (je hJ)⟩
/-- all(f(x) ..) -/
theorem e_allI {pn : Option Pn} {ts : List Addr} {Tb : Addr} {vs : List Nat} (f : PyData → Bool) (hT : Tb ∈ ts) (h : IT K ⟨pn, ts⟩ H0 ti L fun xs => (∀ x ∈ xs, GTw K ⟨pn, ts⟩ H0 vs g x (wipeL L vs) fun L2 => E K ⟨pn, ts⟩ H0 te L2 fun d => d = .bool (f x)) ∧ Pd (.bool (xs.all f))) :
    E K ⟨pn, ts⟩ H0 (_root_.Gx.tGen Tb true ti g tYes te vs) L Pd := by
  refine e_genI hT (h.mono fun xs ⟨hx, hp⟩ => ⟨fun i => xs.all f = (xs.drop i).all f, rfl, fun i x hi hJ => ?_, fun hJ => ?_⟩)
  · intro σ G H v e hd R r
    obtain ⟨hlt, hg⟩ := List.getElem?_eq_some_iff.mp hi
    refine hx x (List.mem_of_getElem? hi) σ G H v e hd R fun σ' L' ag e' p => r σ' L' ag e' (et_yes ⟨fun _ => p.mono fun d e2 => ⟨f x, e2, fun hk => ?_, fun hk => ?_⟩, fun z => by cases z⟩)
    · rw [hJ, List.drop_eq_getElem_cons hlt, List.all_cons, hg, hk, Bool.true_and]
    · rw [hJ, List.drop_eq_getElem_cons hlt, List.all_cons, hg, hk] at hp
      exact hp
  · rw [hJ, List.drop_eq_nil_of_le (Nat.le_refl _)] at hp
    exact hp
/-! ### own lists kept from now on -/
theorem s_frz {j : Nat} {ds : List PyData} (hj : L[j]? = some (some (.own (.lst ds)))) (h : S K pen H0 t (L.set j (some (.d (.list ds)))) D) (nf : noFr L = true := by rfl) : S K pen H0 t L D := fun σ G H N e n1 n2 n3 n4 n5 n6 => by
  obtain ⟨x, k1, l, ho, rfl, k3, k4, k5, k6⟩ := e.sl j _ hj
  obtain ⟨vs, rfl, k6⟩ := k6.lst
  have s : Same G (upd G l (.lst vs)) := fun a o q => by rw [upd_ne (ne_of_none q k5)]; exact q
  have x0 : Gx pen H0 G H (upd G l (.lst vs)) H := ⟨s, fun a h => upd_ne (fun z => h (by rw [z]; exact k4)), fun _ _ _ _ q => q⟩
  have vw : Vw pen (upd G l (.lst vs)) H := ⟨fun a o q => by
    by_cases z : a = l
    · subst z; rw [upd_same] at q; rw [k3]; exact q
    · rw [upd_ne z] at q; exact e.vw.vw a o q, fun a p => by rw [upd_ne (fun z => e.h0.there p (by rw [z]; exact k4))]; exact e.vw.no a p, e.vw.ok⟩
  have jl : j < L.length := (List.getElem?_eq_some_iff.mp hj).1
  have e1 : Ev K pen H0 (upd G l (.lst vs)) H σ (L.set j (some (.d (.list ds)))) := by
    refine ⟨vw, e.h0, e.dom, by rw [List.length_set]; exact e.len, fun i av hi => ?_, fun i k o1 o2 l' h1 h2 h3 h4 => ?_⟩
    · by_cases q : j = i
      · subst q
        rw [List.getElem?_set_self jl] at hi
        have := Option.some.inj (Option.some.inj hi)
        subst this
        exact ⟨_, k1, .lst (.inl (.inl upd_same)) (dpa_mono s _ _ k6)⟩
      · rw [List.getElem?_set_ne q] at hi
        obtain ⟨w, m1, m2⟩ := e.sl i av hi
        refine ⟨w, m1, ?_⟩
        cases av with
        | d x => exact dp_mono s _ _ m2
        | pen => exact m2
        | own o =>
          obtain ⟨l3, vs3, rfl, m3, m4, m5, m6⟩ := m2
          refine ⟨l3, vs3, rfl, m3, m4, ?_, m6.mono s⟩
          rw [upd_ne (fun z => q (e.ow j i _ o l hj hi k1 (by rw [← z]; exact m1)))]
          exact m5
        | bor o =>
          obtain ⟨l3, vs3, rfl, m3, m4, m5, m6⟩ := m2
          exact ⟨l3, vs3, rfl, m3, m4, m5, m6.mono s⟩
        | fr x => exact (noFr_get nf hi).elim
    · have was : ∀ (i : Nat) (o : OO), (L.set j (some (.d (.list ds))))[i]? = some (some (.own o)) → L[i]? = some (some (.own o)) := fun i o hi => by
        by_cases q : j = i
        · subst q
          rw [List.getElem?_set_self jl] at hi
          cases hi
        · rw [List.getElem?_set_ne q] at hi; exact hi
      exact e.ow i k o1 o2 l' (was _ _ h1) (was _ _ h2) h3 h4
  exact h σ _ H N e1 (fun σ' G' H' L' x e' q => n1 σ' G' H' L' (x0.trans x) e' q) (fun v d G' H' x vw hd q => n2 v d G' H' (x0.trans x) vw hd q) (fun σ' G' H' L' x e' q => n3 σ' G' H' L' (x0.trans x) e' q) (fun σ' G' H' L' x e' q => n4 σ' G' H' L' (x0.trans x) e' q) (fun v d G' H' x vw hd q => n5 v d G' H' (x0.trans x) vw hd q) (fun l ho o G' H' x vw h1 h2 h3 h4 q => n6 l ho o G' H' (x0.trans x) vw h1 h2 h3 h4 q)
end
end Dl
set_option Elab.async false
set_option linter.all false
set_option maxRecDepth 100000
set_option maxHeartbeats 4000000
namespace Dl
open PySem PySem.Spec PyProof.Rows L2
/-! ### the law's beginning, the script as data -/
def spPenS (K : PySem.W.Frag) : Sp := fun vs H Q _ => ∃ (a : Addr) (ns : List Int), vs = [.ref a] ∧ SqL K H a (ns.map V.int) ∧
  ∀ (p c : Addr) (cells : List Int) H', Same H H' → H p = none → H' p = some (.lst [.ref c, .int 0, .int 0]) → H' c = some (.lst (cells.map V.int)) → Q (.ref p) H'
section
variable {K : PySem.W.Frag} {pen : Pc} {H0 : Hp} {L : Lv} {P : PyData → Prop} {te ta ti ty tx tv : TE} {tl : TA} {tt : TT} {t : TS} {D : Dn} {Pb : Bool → Prop} {Pl : List PyData → Prop}
theorem script_view {H : Hp} {a : Addr} {ns : List Int} (hS : SqL K H a (ns.map V.int)) (ok : POk pen H) (np : Rd H a (.lst (ns.map V.int)) → ∀ p, pen.pen = some p → p.a ≠ a) : ∃ G, Vw pen G H ∧ Dp K G (.ref a) (.list (intsL ns)) := by
  rcases hS with r | k
  · refine ⟨fun b => if b = a then H a else none, ⟨fun b o h => ?_, fun b q => ?_, ok⟩, .lst (.inl ?_) (ints_dpa ns)⟩
    · by_cases z : b = a
      · rw [show (if b = a then H a else none) = H a from if_pos z] at h; rw [z]; exact h
      · rw [show (if b = a then H a else none) = none from if_neg z] at h; cases h
    · refine if_neg fun z => ?_
      rcases q with ⟨p, hp, e⟩ | hP
      · exact np r p hp (e.symm.trans z)
      · obtain ⟨ps, e, _⟩ := ok.2 b hP
        rw [z] at e
        rcases r with r | ⟨o, r⟩
        · rw [r] at e; cases e
        · rw [r] at e; cases e
    · rcases r with r | ⟨o, r⟩
      · exact .inl ((if_pos rfl).trans r)
      · exact .inr ⟨o, (if_pos rfl).trans r⟩
  · exact ⟨fun _ => none, ⟨fun _ _ h => (nomatch h), fun _ _ => rfl, ok⟩, .lst (.inr k) (ints_dpa ns)⟩
theorem pen_startS {ts : List Addr} {N : Ends} {σ : L2.St} {H1 : Hp} {p c a : Addr} {cells ns : List Int} (hp : H1 p = some (.lst [.ref c, .int 0, .int 0])) (hc : H1 c = some (.lst (cells.map V.int))) (hS : SqL K H1 a (ns.map V.int)) (hlen : σ.length = L.length)
    (hL : ∀ (i : Nat) av, L[i]? = some (some av) → (av = .pen ∧ σ[i]? = some (some (.ref p))) ∨ (av = .d (.list (intsL ns)) ∧ σ[i]? = some (some (.ref a)))) (hts : ∀ P ∈ ts, GxR.TabG H1 P)
    (h : S K ⟨some ⟨p, .pen c cells.length⟩, ts⟩ H1 t L { nx := fun _ => False, rt := fun d => d = .bool true }) (q : ∀ H', N.rt (.bl true) H') : t N σ H1 := by
  have ok : POk ⟨some ⟨p, .pen c cells.length⟩, ts⟩ H1 := ⟨fun p' e => by cases e; exact ⟨cells, 0, 0, hp, hc, Int.le_refl _, Int.le_refl _, rfl⟩, hts⟩
  obtain ⟨G, v, d⟩ := script_view hS ok (fun r p' e => by
    cases e
    intro z
    have z : p = a := z
    rcases r with r | ⟨o, r⟩
    · rw [← z, hp] at r
      cases ns with
      | nil => cases r
      | cons n ns => cases r
    · rw [← z, hp] at r; cases r)
  refine h σ G H1 N ⟨v, ok, fun _ h => h, hlen, fun i av hi => ?_, fun i j ds es l h1 => ?_⟩ (fun _ _ _ _ _ _ z => z.elim) (fun v d G' H' _ _ hd e => ?_) (fun _ _ _ _ _ _ z => z.elim) (fun _ _ _ _ _ _ z => z.elim) (fun _ _ _ _ _ _ _ z => z.elim) (fun _ _ _ _ _ _ _ _ _ _ _ z => z.elim)
  · rcases hL i av hi with ⟨rfl, e⟩ | ⟨rfl, e⟩
    · exact ⟨_, e, _, rfl, rfl⟩
    · exact ⟨_, e, d⟩
  · rcases hL i _ h1 with ⟨z, _⟩ | ⟨z, _⟩ <;> cases z
  · subst e
    cases hd
    exact q H'
theorem law_start {ts : List Addr} {N : Ends} {σ : L2.St} {H1 : Hp} {a : Addr} {ns : List Int} (hS : SqL K H1 a (ns.map V.int)) (hlen : σ.length = L.length)
    (hL : ∀ (i : Nat) av, L[i]? = some (some av) → av = .d (.list (intsL ns)) ∧ σ[i]? = some (some (.ref a))) (hts : ∀ P ∈ ts, GxR.TabG H1 P)
    (h : S K ⟨none, ts⟩ H1 t L { nx := fun _ => False, rt := fun d => d = .bool true }) (q : ∀ H', N.rt (.bl true) H') : t N σ H1 := by
  have ok : POk ⟨none, ts⟩ H1 := ⟨fun p' e => (by cases e), hts⟩
  obtain ⟨G, v, d⟩ := script_view hS ok (fun _ p' e => by cases e)
  refine h σ G H1 N ⟨v, ok, fun _ h => h, hlen, fun i av hi => ?_, fun i j ds es l h1 => ?_⟩ (fun _ _ _ _ _ _ z => z.elim) (fun v d G' H' _ _ hd e => ?_) (fun _ _ _ _ _ _ z => z.elim) (fun _ _ _ _ _ _ z => z.elim) (fun _ _ _ _ _ _ _ z => z.elim) (fun _ _ _ _ _ _ _ _ _ _ _ z => z.elim)
  · obtain ⟨rfl, e⟩ := hL i av hi
    exact ⟨_, e, d⟩
  · cases (hL i _ h1).1
  · subst e
    cases hd
    exact q H'
/-! ### a list of one int becomes the spring -/
def noPen : Lv → Bool
  | [] => true
  | some .pen :: _ => false
  | some (.bor _) :: _ => false
  | _ :: L => noPen L
theorem noPen_all : ∀ {L : Lv} {i : Nat} {a : AV}, noPen L = true → L[i]? = some (some a) → a ≠ .pen ∧ ∀ o, a ≠ .bor o
  | [], _, _, _, h => by simp at h
  | a :: L, 0, x, n, h => by
    have := Option.some.inj h
    subst this
    cases x <;> first | cases n | exact ⟨fun z => (by cases z), fun _ z => (by cases z)⟩
  | a :: L, i + 1, x, n, h => by
    have n' : noPen L = true := by
      cases a with
      | none => exact n
      | some av => cases av <;> first | exact n | cases n
    exact noPen_all (L := L) (i := i) n' h
theorem noPen_get {L : Lv} {i : Nat} (n : noPen L = true) : L[i]? ≠ some (some .pen) := fun h => (noPen_all n h).1 rfl
theorem s_spring {ts : List Addr} {i : Nat} {z : Int} (hi : L[i]? = some (some (.own (.lst [.int z]))))
    (h : ∀ pa H1, S K ⟨some ⟨pa, .spr⟩, ts⟩ H1 t (L.set i (some .pen)) { D with nx := fun L' => ∃ L3, Sub L3 L' ∧ noPen L3 = true ∧ D.nx L3, bk := fun L' => ∃ L3, Sub L3 L' ∧ noPen L3 = true ∧ D.bk L3, ct := fun L' => ∃ L3, Sub L3 L' ∧ noPen L3 = true ∧ D.ct L3 })
    (od : onlyD (L.set i none) = true := by rfl) (np : noPen (L.set i none) = true := by rfl) : S K ⟨none, ts⟩ H0 t L D := fun σ G H N e n1 n2 n3 n4 n5 n6 => by
  obtain ⟨x, k1, l, ho, rfl, k3, k4, k5, k6⟩ := e.sl i _ hi
  obtain ⟨vs, rfl, k6⟩ := k6.lst
  have il : i < L.length := (List.getElem?_eq_some_iff.mp hi).1
  cases k6 with
  | cons h1 h2 =>
    cases h2
    cases h1
    have nots : l ∉ ts := fun z => e.h0.there (.inr z) k4
    have ok : POk ⟨some ⟨l, .spr⟩, ts⟩ H := ⟨fun p hp => by cases hp; exact ⟨z, k3⟩, e.vw.ok.2⟩
    have vw : Vw ⟨some ⟨l, .spr⟩, ts⟩ G H := ⟨e.vw.vw, fun a q => by
      rcases q with ⟨p, hp, rfl⟩ | q
      · cases hp; exact k5
      · exact e.vw.no a (.inr q), ok⟩
    have get : ∀ (j : Nat) (av : AV), (L.set i (some .pen))[j]? = some (some av) → (i = j ∧ av = .pen) ∨ (i ≠ j ∧ L[j]? = some (some av) ∧ (L.set i none)[j]? = some (some av)) := fun j av hj => by
      by_cases q : i = j
      · subst q
        rw [List.getElem?_set_self il] at hj
        exact .inl ⟨rfl, (Option.some.inj (Option.some.inj hj)).symm⟩
      · rw [List.getElem?_set_ne q] at hj
        exact .inr ⟨q, hj, by rw [List.getElem?_set_ne q]; exact hj⟩
    have e1 : Ev K ⟨some ⟨l, .spr⟩, ts⟩ H G H σ (L.set i (some .pen)) := by
      refine ⟨vw, ok, fun _ h => h, by rw [List.length_set]; exact e.len, fun j av hj => ?_, fun j k o1 o2 l' h1 => ?_⟩
      · rcases get j av hj with ⟨rfl, rfl⟩ | ⟨_, hj, hj2⟩
        · exact ⟨_, k1, _, rfl, rfl⟩
        · obtain ⟨w, m1, m2⟩ := e.sl j av hj
          refine ⟨w, m1, ?_⟩
          cases av with
          | d x => exact m2
          | pen => exact absurd hj2 (noPen_get np)
          | own o => exact absurd rfl ((onlyD_get od hj2).1 o)
          | fr x => exact absurd rfl ((onlyD_get od hj2).2 x)
          | bor o =>
            obtain ⟨l3, vs3, rfl, m3, m4, m5, m6⟩ := m2
            refine ⟨l3, vs3, rfl, m3, m3, fun q => ?_, m6⟩
            rcases q with ⟨p, hp, q⟩ | q
            · cases hp
              have q : l3 = l := q
              rw [q, k4] at m4; cases m4
            · exact m5 (.inr q)
      · rcases get j _ h1 with ⟨_, z⟩ | ⟨_, _, hj2⟩
        · cases z
        · exact absurd rfl ((onlyD_get od hj2).1 o1)
    have bx : ∀ {G' H'}, Gx ⟨some ⟨l, .spr⟩, ts⟩ H G H G' H' → Gx ⟨none, ts⟩ H0 G H G' H' := fun x => ⟨x.gg, fun a ha => x.nw a (e.dom a ha), fun a o hp ha q => x.od a o (fun z => by
      rcases z with ⟨p, hp', z⟩ | z
      · cases hp'
        exact ha (by rw [z]; exact k4)
      · exact hp (.inr z)) (e.dom a ha) q⟩
    have bv : ∀ {G' H'}, Vw ⟨some ⟨l, .spr⟩, ts⟩ G' H' → Vw ⟨none, ts⟩ G' H' := fun v => v.plain
    have be : ∀ {σ' G' H' L' L3}, Gx ⟨some ⟨l, .spr⟩, ts⟩ H G H G' H' → Ev K ⟨some ⟨l, .spr⟩, ts⟩ H G' H' σ' L' → Sub L3 L' → noPen L3 = true → Ev K ⟨none, ts⟩ H0 G' H' σ' L3 := fun {σ' G' H' L' L3} x e' s n => by
      have e3 := e'.sub s
      refine ⟨bv e3.vw, e.h0, fun a ha => e3.dom a (e.dom a ha), e3.len, fun j av hj => ?_, e3.ow⟩
      obtain ⟨w, m1, m2⟩ := e3.sl j av hj
      refine ⟨w, m1, ?_⟩
      cases av with
      | d x => exact m2
      | pen => exact absurd hj (noPen_get n)
      | own o =>
        obtain ⟨l3, vs3, rfl, m3, m4, m5⟩ := m2
        exact ⟨l3, vs3, rfl, m3, e.h0none m4, m5⟩
      | fr x => exact nd_mono (vnew_call (G1 := G) e.dom) _ _ m2
      | bor o => exact absurd rfl ((noPen_all n hj).2 o)
    refine h l H σ G H N e1 (fun σ' G' H' L' x e' ⟨L3, s, n, q⟩ => n1 σ' G' H' L3 (bx x) (be x e' s n) q) (fun v d G' H' x vw hd q => n2 v d G' H' (bx x) (bv vw) hd q) (fun σ' G' H' L' x e' ⟨L3, s, n, q⟩ => n3 σ' G' H' L3 (bx x) (be x e' s n) q) (fun σ' G' H' L' x e' ⟨L3, s, n, q⟩ => n4 σ' G' H' L3 (bx x) (be x e' s n) q) (fun v d G' H' x vw hd q => n5 v d G' H' (bx x) (bv vw) (nd_mono (vnew_call (G1 := G) e.dom) _ _ hd) q) (fun l' ho o G' H' x vw h1 h2 h3 h4 q => n6 l' ho o G' H' (bx x) (bv vw) h1 (e.h0none h2) h3 h4 q)
/-! ### a list as a test -/
def tTru (K : PySem.W.Frag) (ta : TE) : TT := fun σ H Q => ta σ H fun x H' => ∃ k, TruV K x H' k ∧ Q k H'
theorem kx_truth {X : Cx} {a : Expr} (h : X.K = K) (ha : PE X a ta) (he : ∀ whole, isTrue a X.env whole = (do let v ← whole; standAt a.pos; holding [v] (truthy v))) : PT X a (tTru K ta) := by subst h; exact pt_truth ha he
theorem kx_enum {X : Cx} {e : Expr} {p pos tpos : Pos} {elts : List Expr} {kk : Nat} (h : X.K = K) (hg : Gl X "enumerate") (hm : X.mg "enumerate" = none) (ha : PA X [e] tl) (hs : starEach [e] X.env = [(false, eval e X.env)] := by rfl) :
    PI X (.Tuple elts kk tpos) (.Call (.Name "enumerate" p) [e] [] pos) (iEnum K tl) := by subst h; exact pi_enum hg hm ha hs
theorem dpa_empty {G : Hp} {vs : List V} {ds : List PyData} (h : DpAll K G vs ds) : vs.isEmpty = ds.isEmpty := by cases h <;> rfl
theorem et_truL (h : E K pen H0 ta L fun d => ∃ ds, (d = .list ds ∨ d = .tuple ds) ∧ Pb (!ds.isEmpty)) : ET K pen H0 (tTru K ta) L Pb := fun σ G H e Q q => h σ G H e _ fun v d G1 H1 go hd ⟨ds, hds, p⟩ => by
  rcases hds with rfl | rfl
  · cases hd with
    | lst hs ha => exact ⟨!ds.isEmpty, .inl ⟨_, sqL_mono go.vw.vw hs, by rw [dpa_empty ha]⟩, q _ G1 H1 go p⟩
  · cases hd with
    | tup hs ha => exact ⟨!ds.isEmpty, .inr (.inl ⟨_, sqT_mono go.vw.vw hs, by rw [dpa_empty ha]⟩), q _ G1 H1 go p⟩
theorem et_truI (h : E K pen H0 ta L fun d => ∃ i, d = .int i ∧ Pb (i != 0)) : ET K pen H0 (tTru K ta) L Pb := fun σ G H e Q q => h σ G H e _ fun v d G1 H1 go hd ⟨i, hi, p⟩ => by
  subst hi
  cases hd
  exact ⟨_, rfl, q _ G1 H1 go p⟩
/-! ### sorted(list of ints) -/
theorem el_sortI (h : E K pen H0 te L fun d => ∃ ns : List Int, d = .list (intsL ns) ∧ ∀ ms : List Int, ms.Perm ns → ms.Pairwise (· ≤ ·) → Pl (intsL ms)) : EL K pen H0 (tCB (rSortedI K) (tCons te tNil)) L Pl := fun σ G H e Q q => h σ G H e _ fun v d G1 H1 go hd ⟨ns, hds, p⟩ => by
  subst hds
  cases hd with
  | lst hs ha =>
    rename_i a xs
    have ex := dpa_ints ha
    subst ex
    refine ⟨a, ns, rfl, sqL_mono go.vw.vw hs, fun ms r hp hw hr => ?_⟩
    have e1 := e.go go
    have g2 := Go.hid e1.vw (o := .lst (ms.map V.int)) hr
    refine q r _ _ G1 _ (go.trans g2) upd_same (e1.gnone hr) ?_ (ints_dpa ms) (p ms hp hw)
    cases z : H r with
    | none => rfl
    | some o => exact absurd hr (go.dom (by rw [z]; exact fun z => by cases z))
theorem kx_sortI {X : Cx} (h : X.K = K) : CallR X (.builtin "sorted") (rSortedI K) := by subst h; exact cr_sortedI
/-! ### dicts of one's own -/
section
variable {κ : Type} [DecidableEq κ]
def valD (m : List (κ × PyData)) (k : κ) : Option PyData := (m.find? fun kv => decide (kv.1 = k)).map (·.2)
def putD (m : List (κ × PyData)) (k : κ) (d : PyData) : List (κ × PyData) := if (m.any fun kv => decide (kv.1 = k)) = true then m.map (fun kv => if kv.1 = k then (kv.1, d) else kv) else m ++ [(k, d)]
def dropD (m : List (κ × PyData)) (k : κ) : List (κ × PyData) := m.filter fun kv => decide (kv.1 ≠ k)
theorem kv_val {G : Hp} (k : κ) : ∀ {kvs : List (κ × V)} {m : List (κ × PyData)}, KvOk K G kvs m → (∃ v d, valV kvs k = some v ∧ valD m k = some d ∧ Dp K G v d) ∨ (valV kvs k = none ∧ valD m k = none)
  | _, _, .nil => .inr ⟨rfl, rfl⟩
  | kv :: kvs, xd :: m, .cons h t => by
    obtain ⟨h1, h2⟩ := h
    by_cases z : xd.1 = k
    · refine .inl ⟨kv.2, xd.2, valV_pos (h1.trans z), ?_, h2⟩
      unfold valD
      rw [List.find?_cons, decide_eq_true z]
      rfl
    · rw [valV_neg (fun q => z (h1.symm.trans q))]
      have : valD (xd :: m) k = valD m k := by
        unfold valD
        rw [List.find?_cons, decide_eq_false z]
      rw [this]
      exact kv_val k t
theorem kv_any {G : Hp} (k : κ) : ∀ {kvs : List (κ × V)} {m : List (κ × PyData)}, KvOk K G kvs m → (kvs.any fun kv => decide (kv.1 = k)) = (m.any fun kv => decide (kv.1 = k))
  | _, _, .nil => rfl
  | kv :: kvs, xd :: m, .cons h t => by
    rw [List.any_cons, List.any_cons, kv_any k t, h.1]
theorem kv_put {G : Hp} {v : V} {d : PyData} (k : κ) (hd : Dp K G v d) {kvs : List (κ × V)} {m : List (κ × PyData)} (h : KvOk K G kvs m) : KvOk K G (putK kvs k v) (putD m k d) := by
  unfold putK putD
  rw [kv_any k h]
  by_cases a : (m.any fun kv => decide (kv.1 = k)) = true
  · rw [if_pos a, if_pos a]
    clear a
    induction h with
    | nil => exact .nil
    | cons h t ih =>
      refine .cons ?_ ih
      rename_i kv xd kvs m
      show ((if kv.1 = k then (kv.1, v) else kv).1 = (if xd.1 = k then (xd.1, d) else xd).1) ∧ Dp K G (if kv.1 = k then (kv.1, v) else kv).2 (if xd.1 = k then (xd.1, d) else xd).2
      rw [h.1]
      by_cases z : xd.1 = k
      · rw [if_pos z, if_pos z]; exact ⟨rfl, hd⟩
      · rw [if_neg z, if_neg z]; exact h
  · rw [if_neg a, if_neg a]
    clear a
    induction h with
    | nil => exact .cons ⟨rfl, hd⟩ .nil
    | cons h t ih => exact .cons h ih
theorem kv_drop {G : Hp} (k : κ) {kvs : List (κ × V)} {m : List (κ × PyData)} (h : KvOk K G kvs m) : KvOk K G (dropK kvs k) (dropD m k) := by
  unfold dropK dropD
  induction h with
  | nil => exact .nil
  | cons h t ih =>
    rename_i kv xd kvs m
    rw [List.filter_cons, List.filter_cons, h.1]
    by_cases z : xd.1 = k
    · rw [if_neg (by simp [z]), if_neg (by simp [z])]; exact ih
    · rw [if_pos (by simp [z]), if_pos (by simp [z])]; exact .cons h ih
theorem kv_len {G : Hp} {kvs : List (κ × V)} {m : List (κ × PyData)} (h : KvOk K G kvs m) : kvs.length = m.length := Paired.length h
theorem kv_keys {G : Hp} : ∀ {kvs : List (κ × V)} {m : List (κ × PyData)}, KvOk K G kvs m → kvs.map (·.1) = m.map (·.1)
  | _, _, .nil => rfl
  | _, _, .cons h t => by rw [List.map_cons, List.map_cons, h.1, kv_keys t]
theorem valD_put (m : List (κ × PyData)) (k j : κ) (d : PyData) : valD (putD m k d) j = if j = k then some d else valD m j := by
  unfold putD
  by_cases a : (m.any fun kv => decide (kv.1 = k)) = true
  · rw [if_pos a]
    have gen : ∀ m : List (κ × PyData), valD (m.map fun kv => if kv.1 = k then (kv.1, d) else kv) j = if j = k then (if (m.any fun kv => decide (kv.1 = k)) = true then some d else none) else valD m j := fun m => by
      induction m with
      | nil => unfold valD; simp
      | cons x m ih =>
        unfold valD at ih ⊢
        rw [List.map_cons, List.find?_cons, List.find?_cons, List.any_cons]
        by_cases z : x.1 = k
        · rw [if_pos z, decide_eq_true z]
          by_cases w : j = k
          · subst w; simp [z]
          · have w2 : ¬ x.1 = j := fun q => w (q.symm.trans z)
            simp only [decide_eq_false w2]
            rw [ih, if_neg w, if_neg w]
        · rw [if_neg z, decide_eq_false z, Bool.false_or]
          by_cases w : x.1 = j
          · have w2 : ¬ j = k := fun q => z (w.trans q)
            simp [w, w2]
          · simp only [decide_eq_false w]
            exact ih
    rw [gen m, if_pos a]
  · rw [if_neg a]
    have none : ∀ m : List (κ × PyData), ¬ (m.any fun kv => decide (kv.1 = k)) = true → valD (m ++ [(k, d)]) j = if j = k then some d else valD m j := fun m => by
      induction m with
      | nil =>
        intro _
        unfold valD
        by_cases w : k = j
        · subst w; simp
        · have w2 : ¬ j = k := fun q => w q.symm
          simp [w, w2]
      | cons x m ih =>
        intro a
        rw [List.any_cons, Bool.or_eq_true, not_or] at a
        have ih := ih a.2
        unfold valD at ih ⊢
        rw [List.cons_append, List.find?_cons, List.find?_cons]
        by_cases w : x.1 = j
        · have w2 : ¬ j = k := fun q => a.1 (decide_eq_true (w.trans q))
          simp [w, w2]
        · simp only [decide_eq_false w]
          exact ih
    exact none m a
theorem valD_drop (m : List (κ × PyData)) (k j : κ) : valD (dropD m k) j = if j = k then none else valD m j := by
  unfold dropD valD
  induction m with
  | nil => simp
  | cons x m ih =>
    rw [List.filter_cons]
    by_cases z : x.1 = k
    · rw [if_neg (by simp [z]), ih, List.find?_cons]
      by_cases w : j = k
      · rw [if_pos w, if_pos w]
      · rw [if_neg w, if_neg w, decide_eq_false (fun q => w (q.symm.trans z))]
    · rw [if_pos (by simp [z]), List.find?_cons, List.find?_cons]
      by_cases w : x.1 = j
      · have w2 : ¬ j = k := fun q => z (w.trans q)
        rw [if_neg w2, decide_eq_true w]
      · rw [decide_eq_false w]
        exact ih
theorem dropD_none {m : List (κ × PyData)} {k : κ} (h : valD m k = none) : dropD m k = m := by
  unfold dropD
  unfold valD at h
  rw [Option.map_eq_none_iff, List.find?_eq_none] at h
  exact List.filter_eq_self.mpr fun x hx => by
    have := h x hx
    simpa using this
theorem putD_len (m : List (κ × PyData)) (k : κ) (d : PyData) : (putD m k d).length ≤ m.length + 1 := by
  unfold putD
  split
  · rw [List.length_map]; omega
  · rw [List.length_append]; exact Nat.le_refl _
end
/-- a key -/
def KeyD : PyData → Key → Prop
  | .int i, k => k = .inl i
  | .str x, k => k = .inr x
  | _, _ => False
theorem key_v {G : Hp} {v : V} {d : PyData} {k : Key} (h : Dp K G v d) (hk : KeyD d k) : v = kV k := by
  cases h <;> first | exact hk.elim | (cases hk; rfl)
theorem s_dnew {i : Nat} (h : D.nx (L.set i (some (.own (.dK []))))) : S K pen H0 (tAsg tDNewK (gName i)) L D := fun σ G H N e n1 _ _ _ _ _ => fun p hp =>
  n1 _ G _ _ (e.gx (Go.hid e.vw hp)) (e.newOwn (o := .dK []) (ho := .dK []) hp .nil) h
theorem s_dput {j : Nat} {m : List (Key × PyData)} (hj : L[j]? = some (some (.own (.dK m)))) (hz : m.length < 100000) (h : E K pen H0 tv L fun d => E K pen H0 ty L fun k => ∃ key, KeyD k key ∧ D.nx (L.set j (some (.own (.dK (putD m key d)))))) (nf : noFr L = true := by rfl) :
    S K pen H0 (sDPut (tVar j) ty tv) L D := fun σ G H N e n1 _ _ _ _ _ => h σ G H e _ fun v d G1 H1 g1 d1 h1 => by
  have e1 := e.go g1
  obtain ⟨l, ho, k1, k3, k6⟩ := e1.own hj
  refine ⟨_, k1, h1 σ G1 H1 e1 _ fun w k G2 H2 g2 d2 ⟨key, hk, p⟩ => ?_⟩
  have e2 := e1.go g2
  obtain ⟨ho2, q3, q6⟩ := e2.ownAt hj k1
  obtain ⟨kvs, rfl, q6⟩ := q6.dK
  obtain ⟨r1, r2⟩ := e2.putOwn nf hj k1 (o' := .dK (putD m key d)) (ho := .dK (putK kvs key v)) (kv_put key (dp_mono g2.gg _ _ d1) q6)
  have hv := key_v d2 hk
  subst hv
  exact ⟨l, _, rfl, DPut.k q3 (Nat.lt_of_lt_of_le (by rw [kv_len q6]; exact hz) (by decide : 100000 ≤ sizeLine)), n1 σ G2 _ _ (((e.gx g1).trans (e1.gx g2)).trans r2) r1 p⟩
theorem e_dget2O {j : Nat} {m : List (Key × PyData)} (hj : RdO L j (.dK m)) (h : E K pen H0 ty L fun k => ∃ key, KeyD k key ∧ E K pen H0 tx L fun x => P ((valD m key).getD x)) : E K pen H0 (tDGet2 (tVar j) ty tx) L P := fun σ G H e Q q => by
  obtain ⟨l, ho, k1, k3, k6⟩ := e.rd hj
  obtain ⟨kvs, rfl, k6⟩ := k6.dK
  refine ⟨_, k1, l, rfl, .inl ⟨kvs, .inl k3⟩, h σ G H e _ fun w k G1 H1 g1 d1 ⟨key, hk, h1⟩ => ?_⟩
  refine h1 σ G1 H1 (e.go g1) _ fun x dx G2 H2 g2 d2 p => ?_
  have e2 := (e.go g1).go g2
  obtain ⟨ho2, q3, q6⟩ := e2.rdAt hj k1
  obtain ⟨kvs2, rfl, q6⟩ := q6.dK
  have hv := key_v d1 hk
  subst hv
  refine ⟨_, DGet.k q3, ?_⟩
  rcases kv_val key q6 with ⟨v, d, z1, z2, z3⟩ | ⟨z1, z2⟩
  · rw [z1]
    rw [z2] at p
    exact q v d G2 H2 (g1.trans g2) z3 p
  · rw [z1]
    rw [z2] at p
    exact q x dx G2 H2 (g1.trans g2) d2 p
theorem e_dgetO {j : Nat} {m : List (Key × PyData)} (hj : RdO L j (.dK m)) (h : E K pen H0 ty L fun k => ∃ key, KeyD k key ∧ ∃ d, valD m key = some d ∧ P d) : E K pen H0 (tDGet (tVar j) ty) L P := fun σ G H e Q q => by
  obtain ⟨l, ho, k1, k3, k6⟩ := e.rd hj
  refine ⟨_, k1, h σ G H e _ fun w k G1 H1 g1 d1 ⟨key, hk, d, hd, p⟩ => ?_⟩
  obtain ⟨ho2, q3, q6⟩ := (e.go g1).rdAt hj k1
  obtain ⟨kvs2, rfl, q6⟩ := q6.dK
  have hv := key_v d1 hk
  subst hv
  rcases kv_val key q6 with ⟨v, d', z1, z2, z3⟩ | ⟨z1, z2⟩
  · rw [z2] at hd
    cases hd
    exact ⟨l, v, rfl, by rw [← z1]; exact DGet.k q3, q v _ G1 H1 g1 z3 p⟩
  · rw [z2] at hd; cases hd
theorem e_dinO {j : Nat} {m : List (Key × PyData)} (hj : RdO L j (.dK m)) (h : E K pen H0 ty L fun k => ∃ key, KeyD k key ∧ P (.bool (valD m key).isSome)) : E K pen H0 (tDIn ty (tVar j)) L P := fun σ G H e Q q =>
  h σ G H e _ fun w k G1 H1 g1 d1 ⟨key, hk, p⟩ => by
    obtain ⟨l, ho2, k1, q3, q6⟩ := (e.go g1).rd hj
    obtain ⟨kvs2, rfl, q6⟩ := q6.dK
    have hv := key_v d1 hk
    subst hv
    refine ⟨_, k1, l, _, rfl, DGet.k q3, ?_⟩
    have e3 : (valV kvs2 key).isSome = (valD m key).isSome := by
      rcases kv_val key q6 with ⟨v, d', z1, z2, z3⟩ | ⟨z1, z2⟩ <;> rw [z1, z2] <;> rfl
    rw [e3]
    exact q _ _ G1 H1 g1 (.bl _) p
theorem e_dnotinO {j : Nat} {m : List (Key × PyData)} (hj : RdO L j (.dK m)) (h : E K pen H0 ty L fun k => ∃ key, KeyD k key ∧ P (.bool (!(valD m key).isSome))) : E K pen H0 (tDNotIn ty (tVar j)) L P := fun σ G H e Q q =>
  h σ G H e _ fun w k G1 H1 g1 d1 ⟨key, hk, p⟩ => by
    obtain ⟨l, ho2, k1, q3, q6⟩ := (e.go g1).rd hj
    obtain ⟨kvs2, rfl, q6⟩ := q6.dK
    have hv := key_v d1 hk
    subst hv
    refine ⟨_, k1, l, _, rfl, DGet.k q3, ?_⟩
    have e3 : (valV kvs2 key).isSome = (valD m key).isSome := by
      rcases kv_val key q6 with ⟨v, d', z1, z2, z3⟩ | ⟨z1, z2⟩ <;> rw [z1, z2] <;> rfl
    rw [e3]
    exact q _ _ G1 H1 g1 (.bl _) p
/-- d.pop(k, x), the value dropped -/
theorem s_dpop2 {j : Nat} {m : List (Key × PyData)} (hj : L[j]? = some (some (.own (.dK m)))) (h : E K pen H0 ty L fun k => ∃ key, KeyD k key ∧ E K pen H0 tx L fun _ => D.nx (L.set j (some (.own (.dK (dropD m key)))))) (nf : noFr L = true := by rfl) :
    S K pen H0 (tDrop (tDPop2 (tVar j) ty tx)) L D := fun σ G H N e n1 _ _ _ _ _ => by
  obtain ⟨l, ho, k1, k3, k6⟩ := e.own hj
  obtain ⟨kvs, rfl, k6⟩ := k6.dK
  refine ⟨_, k1, l, rfl, .inl ⟨kvs, .inl k3⟩, h σ G H e _ fun w k G1 H1 g1 d1 ⟨key, hk, h1⟩ => ?_⟩
  have e1 := e.go g1
  refine h1 σ G1 H1 e1 _ fun x dx G2 H2 g2 d2 p => ?_
  have e2 := e1.go g2
  obtain ⟨ho2, q3, q6⟩ := e2.ownAt hj k1
  obtain ⟨kvs2, rfl, q6⟩ := q6.dK
  have hv := key_v d1 hk
  subst hv
  refine ⟨kvs2, key, q3, rfl, fun v hv => ?_, fun hn => ?_⟩
  · obtain ⟨r1, r2⟩ := e2.putOwn nf hj k1 (o' := .dK (dropD m key)) (ho := .dK (dropK kvs2 key)) (kv_drop key q6)
    exact n1 σ G2 _ _ (((e.gx g1).trans (e1.gx g2)).trans r2) r1 p
  · rcases kv_val key q6 with ⟨v, d', z1, z2, z3⟩ | ⟨z1, z2⟩
    · rw [hn] at z1; cases z1
    · rw [dropD_none z2] at p
      have jl : j < L.length := (List.getElem?_eq_some_iff.mp hj).1
      have es : L.set j (some (.own (.dK m))) = L := by
        apply List.ext_getElem?
        intro i
        by_cases q : j = i
        · subst q; rw [List.getElem?_set_self jl, hj]
        · rw [List.getElem?_set_ne q]
      rw [es] at p
      exact n1 σ G2 _ _ ((e.gx g1).trans (e1.gx g2)) e2 p
/-- sorted(d), int keys -/
def rSortDI : List V → Hp → VK → Prop := fun xs H Q => ∃ (a : Addr) (kvs : List (Key × V)) (ks : List Int), xs = [.ref a] ∧ Rd H a (.dK kvs) ∧ kvs.map (·.1) = ks.map Sum.inl ∧ ks.length < 64 ∧
    ∀ (ys : List Int) (p : Addr), ys.Perm ks → ys.Pairwise (· ≤ ·) → H p = none → Q (.ref p) (upd H p (.lst (ys.map V.int)))
theorem kx_sortDI {X : Cx} (hc : X.calm = true) : CallR X (.builtin "sorted") rSortDI := call_sortedDI hc
theorem el_sortD {j : Nat} {m : List (Key × PyData)} {ks : List Int} (hj : RdO L j (.dK m)) (hk : m.map (·.1) = ks.map Sum.inl) (hz : ks.length < 64) (h : ∀ ys : List Int, ys.Perm ks → ys.Pairwise (· ≤ ·) → Pl (intsL ys)) : EL K pen H0 (tCB rSortDI (tCons (tVar j) tNil)) L Pl := fun σ G H e Q q => by
  obtain ⟨l, ho, k1, k3, k6⟩ := e.rd hj
  obtain ⟨kvs, rfl, k6⟩ := k6.dK
  refine ⟨_, k1, l, kvs, ks, rfl, .inl k3, by rw [kv_keys k6, hk], hz, fun ys p hp hw hn => ?_⟩
  have g := Go.hid e.vw (o := .lst (ys.map V.int)) hn
  exact q p _ _ G _ g upd_same (e.gnone hn) hn (ints_dpa ys) (h ys hp hw)
theorem r_ipI {f : Int → Int → Int} {i j : Int} (p : P (.int (f i j))) : R2d K pen (ipI f) (.int i) (.int j) P := fun x y G H v hx hy Q q => by
  cases hx
  cases hy
  exact ⟨i, j, rfl, rfl, q _ _ G H (.refl v) (.int _) p⟩
theorem s_cut {u : TS} (M : Lv → Prop) (h : S K pen H0 t L { D with nx := M }) (h2 : ∀ L', M L' → S K pen H0 u L' D) : S K pen H0 (tSeq t u) L D :=
  s_seq (h.mono (fun L h => h2 L h) (fun _ h => h) (fun _ h => h) (fun _ h => h))
end
end Dl
set_option Elab.async false
set_option linter.all false
set_option maxRecDepth 100000
set_option maxHeartbeats 4000000
namespace Dl
open PySem PySem.Spec PyProof.Rows L2
/-! ### objects handed in and told -/
abbrev Ag := Sum PyData OO
def ArgOk (K : PySem.W.Frag) (c : Pc) (G H : Hp) (v : V) : Ag → Prop
  | .inl d => Dp K G v d
  | .inr o => ∃ l ho, v = .ref l ∧ H l = some ho ∧ ¬ IsPn c l ∧ OwnOk K G ho o
def ArgsOk (K : PySem.W.Frag) (c : Pc) (G H : Hp) : List V → List Ag → Prop := Paired (ArgOk K c G H)
section
variable {K : PySem.W.Frag} {pen : Pc} {H0 : Hp} {L : Lv} {P : PyData → Prop} {te ta ti ty tx tv : TE} {tl tr : TA} {tt : TT} {t : TS} {D : Dn} {Pb : Bool → Prop} {Pl : List PyData → Prop} {Po : OO → Prop} {Pa : List Ag → Prop}
theorem ArgOk.go {G H G' H' : Hp} (g : Go pen G H G' H') {v : V} {a : Ag} (h : ArgOk K pen G H v a) : ArgOk K pen G' H' v a := by
  cases a with
  | inl d => exact dp_mono g.gg _ _ h
  | inr o =>
    obtain ⟨l, ho, e, h1, h2, h3⟩ := h
    exact ⟨l, ho, e, g.od _ _ h2 h1, h2, h3.mono g.gg⟩
/-- a new object, not yet data -/
def EK (K : PySem.W.Frag) (pen : Pc) (H0 : Hp) (te : TE) (L : Lv) (Po : OO → Prop) : Prop := ∀ (σ : L2.St) (G H : Hp), Ev K pen H0 G H σ L → ∀ Q : VK, (∀ l ho o G' H', Go pen G H G' H' → H' l = some ho → G' l = none → H l = none → OwnOk K G' ho o → Po o → Q (.ref l) H') → te σ H Q
def EAO (K : PySem.W.Frag) (pen : Pc) (H0 : Hp) (tl : TA) (L : Lv) (Pa : List Ag → Prop) : Prop := ∀ (σ : L2.St) (G H : Hp), Ev K pen H0 G H σ L → ∀ Q : List V → Hp → Prop, (∀ vs es G' H', Go pen G H G' H' → ArgsOk K pen G' H' vs es → Pa es → Q vs H') → tl σ H Q
theorem eao_nil (p : Pa []) : EAO K pen H0 tNil L Pa := fun σ G H e Q q => q [] [] G H (.refl e.vw) .nil p
theorem eao_d (h : E K pen H0 ta L fun a => EAO K pen H0 tr L fun es => Pa (.inl a :: es)) : EAO K pen H0 (tCons ta tr) L Pa := fun σ G H e Q q =>
  h σ G H e _ fun v a G1 H1 g1 d1 h1 => h1 σ G1 H1 (e.go g1) _ fun vs es G2 H2 g2 d2 p => q _ _ G2 H2 (g1.trans g2) (.cons (show ArgOk K pen G2 H2 v (.inl a) from dp_mono g2.gg _ _ d1) d2) p
theorem eao_rd {j : Nat} {o : OO} (hj : RdO L j o) (h : EAO K pen H0 tr L fun es => Pa (.inr o :: es)) : EAO K pen H0 (tCons (tVar j) tr) L Pa := fun σ G H e Q q => by
  have key : ∃ l ho, σ[j]? = some (some (.ref l)) ∧ H l = some ho ∧ ¬ IsPn pen l ∧ OwnOk K G ho o := by
    rcases hj with hj | hj
    · obtain ⟨x, k1, l, vs, rfl, k3, k4, k5, k6⟩ := e.sl j _ hj
      exact ⟨l, vs, k1, k3, fun z => e.h0.there z k4, k6⟩
    · obtain ⟨x, k1, l, vs, rfl, k3, k4, k5, k6⟩ := e.sl j _ hj
      exact ⟨l, vs, k1, k3, k5, k6⟩
  obtain ⟨l, ho, k1, k2, k3, k4⟩ := key
  refine ⟨_, k1, h σ G H e _ fun vs es G2 H2 g2 d2 p => ?_⟩
  exact q _ _ G2 H2 g2 (.cons (ArgOk.go g2 (a := .inr o) ⟨l, ho, rfl, k2, k3, k4⟩) d2) p
theorem eao_k (h : EK K pen H0 ta L fun o => EAO K pen H0 tr L fun es => Pa (.inr o :: es)) : EAO K pen H0 (tCons ta tr) L Pa := fun σ G H e Q q =>
  h σ G H e _ fun l ho o G1 H1 g1 k1 k2 k3 k4 h1 => h1 σ G1 H1 (e.go g1) _ fun vs es G2 H2 g2 d2 p => by
    have np : ¬ IsPn pen l := fun z => e.vw.ok.there z k3
    exact q _ _ G2 H2 (g1.trans g2) (.cons (ArgOk.go g2 (a := .inr o) ⟨l, ho, rfl, k1, np, k4⟩) d2) p
/-! defs that tell a new object -/
def SpXN {α : Type} (K : PySem.W.Frag) (ts : List Addr) (Wf : α → Prop) (enc : α → List PyData) (res : α → OO → Prop) : Sp := fun vs H Q _ => ∃ (x : α) (G : Hp), Vw ⟨none, ts⟩ G H ∧ DpAll K G vs (enc x) ∧ Wf x ∧ ∀ l ho o G' H', Go ⟨none, ts⟩ G H G' H' → H' l = some ho → G' l = none → H l = none → OwnOk K G' ho o → res x o → Q (.ref l) H'
theorem ek_call {α : Type} {pn : Option Pn} {ts : List Addr} {Wf : α → Prop} {enc : α → List PyData} {res : α → OO → Prop} {X : XK} (h : EA K ⟨pn, ts⟩ H0 tl L fun ds => ∃ x, ds = enc x ∧ Wf x ∧ ∀ o, res x o → Po o) : EK K ⟨pn, ts⟩ H0 (tCall (SpXN K ts Wf enc res) [] X tl) L Po := fun σ G H e Q q =>
  h σ G H e _ fun vs ds G1 H1 go hd ⟨x, hx, h1, h2⟩ => ⟨x, G1, go.vw.plain, by rw [List.append_nil, ← hx]; exact hd, h1, fun l ho o G' H' go2 k1 k2 k3 k4 p => by
    refine q l ho o G' H' (go.trans (go2.lift go.vw)) k1 k2 ?_ k4 (h2 o p)
    cases z : H l with
    | none => rfl
    | some u => exact absurd k3 (go.dom (by rw [z]; exact fun z => by cases z))⟩
theorem s_asgK {i : Nat} (h : EK K pen H0 te L fun o => D.nx (L.set i (some (.own o)))) : S K pen H0 (tAsg te (gName i)) L D := fun σ G H N e n1 _ _ _ _ _ =>
  h σ G H e _ fun l ho o G' H' g h1 h2 h3 h4 p => by
    have e1 := e.go g
    exact n1 _ G' H' _ (e.gx g) (e1.setOwn h1 (e.h0none h3) h2 (fun j es _ hj => e.oldOwn h3 j es hj) h4) p
theorem s_retO {j : Nat} {o : OO} (hj : L[j]? = some (some (.own o))) (h : D.ro o) : S K pen H0 (tRet (tVar j)) L D := fun σ G H N e _ _ _ _ _ n6 => by
  obtain ⟨x, k1, l, vs, rfl, k3, k4, k5, k6⟩ := e.sl j _ hj
  exact ⟨_, k1, n6 l vs o G H .refl e.vw k3 k4 k5 k6 h⟩
/-! defs to which objects are handed -/
def SpXO {α : Type} (K : PySem.W.Frag) (ts : List Addr) (Wf : α → Prop) (enc : α → List Ag) (res : α → PyData → Prop) : Sp := fun vs H Q _ => ∃ (x : α) (G : Hp), Vw ⟨none, ts⟩ G H ∧ ArgsOk K ⟨none, ts⟩ G H vs (enc x) ∧ Wf x ∧ ∀ v d G' H', Go ⟨none, ts⟩ G H G' H' → Nd K (vnew H G' H') v d → res x d → Q v H'
theorem args_plain {pn : Option Pn} {ts : List Addr} {G H : Hp} {vs : List V} {es : List Ag} (h : ArgsOk K ⟨pn, ts⟩ G H vs es) : ArgsOk K ⟨none, ts⟩ G H vs es := Paired.mapP h fun v a z => by
  cases a with
  | inl d => exact z
  | inr o =>
    obtain ⟨l, ho, e, h1, h2, h3⟩ := z
    exact ⟨l, ho, e, h1, fun q => h2 (by rcases q with ⟨p, q, _⟩ | q; cases q; exact .inr q), h3⟩
theorem en_callO {α : Type} {pn : Option Pn} {ts : List Addr} {Wf : α → Prop} {enc : α → List Ag} {res : α → PyData → Prop} {X : XK} (h : EAO K ⟨pn, ts⟩ H0 tl L fun es => ∃ x, es = enc x ∧ Wf x ∧ ∀ d, res x d → P d) : EN K ⟨pn, ts⟩ H0 (tCall (SpXO K ts Wf enc res) [] X tl) L P := fun σ G H e Q q =>
  h σ G H e _ fun vs es G1 H1 go hd ⟨x, hx, h1, h2⟩ => ⟨x, G1, go.vw.plain, by rw [List.append_nil, ← hx]; exact args_plain hd, h1, fun v d G' H' go2 hd2 p =>
    q v d G' H' (go.trans (go2.lift go.vw)) (nd_mono (vnew_call (G1 := G1) (e.go go).dom) _ _ hd2) (h2 d p)⟩
theorem e_callO {α : Type} {pn : Option Pn} {ts : List Addr} {Wf : α → Prop} {enc : α → List Ag} {res : α → PyData → Prop} {X : XK} (h : EAO K ⟨pn, ts⟩ H0 tl L fun es => ∃ x, es = enc x ∧ Wf x ∧ ∀ d, res x d → P d) : E K ⟨pn, ts⟩ H0 (tCall (SpXO K ts Wf enc res) [] X tl) L P := fun σ G H e Q q =>
  h σ G H e _ fun vs es G1 H1 go hd ⟨x, hx, h1, h2⟩ => ⟨x, G1, go.vw.plain, by rw [List.append_nil, ← hx]; exact args_plain hd, h1, fun v d G' H' go2 hd2 p => by
    have g3 := Go.see go.vw (go2.lift go.vw)
    exact q v d _ H' (go.trans g3) (dp_mono vnew_max _ _ (nd_dp _ _ hd2)) (h2 d p)⟩
def agA : Ag → AV
  | .inl d => .d d
  | .inr o => .bor o
def st0O (N : List Str) (es : List Ag) : Lv := es.map (fun a => some (agA a)) ++ List.replicate (N.length - es.length) none
theorem args_get {G H : Hp} : ∀ {vs : List V} {es : List Ag} {i : Nat} {a : Ag}, ArgsOk K pen G H vs es → es[i]? = some a → ∃ v, vs[i]? = some v ∧ ArgOk K pen G H v a
  | _, _, _, _, .nil, e => by simp at e
  | _, _, 0, _, .cons (a := v) h _, e => by
    have e' := Option.some.inj e
    subst e'
    exact ⟨v, rfl, h⟩
  | _, _, i + 1, a, .cons _ t, e => args_get (i := i) (a := a) t e
theorem args_len {G H : Hp} {vs : List V} {es : List Ag} (h : ArgsOk K pen G H vs es) : vs.length = es.length := Paired.length h
theorem ev_startO {ts : List Addr} {N : List Str} {vs : List V} {es : List Ag} {G H : Hp} (h : ArgsOk K ⟨none, ts⟩ G H vs es) (v : Vw ⟨none, ts⟩ G H) : Ev K ⟨none, ts⟩ H G H (start N vs) (st0O N es) := by
  have get : ∀ (i : Nat) av, (st0O N es)[i]? = some (some av) → ∃ u a, av = agA a ∧ (start N vs)[i]? = some (some u) ∧ ArgOk K ⟨none, ts⟩ G H u a := fun i av hi => by
    unfold st0O at hi
    unfold L2.start
    by_cases q : i < es.length
    · rw [List.getElem?_append_left (by rw [List.length_map]; exact q), List.getElem?_map] at hi
      cases hd : es[i]? with
      | none => rw [hd] at hi; cases hi
      | some a =>
        rw [hd] at hi
        obtain ⟨u, h1, h2⟩ := args_get h hd
        refine ⟨u, a, (Option.some.inj (Option.some.inj hi)).symm, ?_, h2⟩
        rw [List.getElem?_append_left (by rw [List.length_map, args_len h]; exact q), List.getElem?_map, h1]
        rfl
    · rw [List.getElem?_append_right (by rw [List.length_map]; omega)] at hi
      have z := List.mem_of_getElem? hi
      have z2 := (List.mem_replicate.mp z).2
      cases z2
  refine ⟨v, v.ok, fun _ h => h, ?_, fun i av hi => ?_, fun i j ds' es' l h1 _ _ _ => ?_⟩
  · unfold L2.start st0O
    rw [List.length_append, List.length_append, List.length_map, List.length_map, List.length_replicate, List.length_replicate, args_len h]
  · obtain ⟨u, a, rfl, h1, h2⟩ := get i av hi
    refine ⟨u, h1, ?_⟩
    cases a with
    | inl d => exact h2
    | inr o =>
      obtain ⟨l, ho, e, k1, k2, k3⟩ := h2
      exact ⟨l, ho, e, k1, k1, k2, k3⟩
  · obtain ⟨u, a, e, _⟩ := get i _ h1
    cases a <;> cases e
end
section
variable {P : Program} {w : World} {K : PySem.W.Frag} {mg : Str → Option Value} {base : Heap}
theorem fnXN {α : Type} {x qual : Str} {st : Stmt} {f : Addr} {fd : FuncData} {N ps : List Str} {k : Nat} {ts : List Addr} {Wf : α → Prop} {enc : α → List PyData} {res : α → OO → Prop} (F : Fun K x qual st f fd) (S0 : FnScope N ps (defScope st)) (hl : ∀ x, Wf x → (enc x).length = ps.length)
    (hbody : ∀ (cdv : Value) (A : Around) (outer : List Env) (s : Shared) (H : Hp) (E : XK), Room k (A.deeper (envOfC qual (defScope st) s.heap.objs.size f cdv)) →
      ∃ t, PSs (cxOf CX0 P w K mg base N qual (defScope st) f cdv A outer s H E).nox (defBody st) t ∧ ∀ x, Wf x → S K ⟨none, ts⟩ H t (st0 N (enc x)) { nx := fun _ => False, rt := fun _ => False, ro := res x }) : FnOk P w K mg base CX0 (k + 1) f fd ps (SpXN K ts Wf enc res) := by
  refine F.ok S0 (fun vs H Q E h => ?_) (fun cdv A outer s H vs Q E hr h => ?_)
  · obtain ⟨x, G, _, h1, h2, _⟩ := h
    rw [dpa_len h1]
    exact hl x h2
  · obtain ⟨x, G, v, h1, h2, q⟩ := h
    obtain ⟨t, ht, hS⟩ := hbody cdv A outer s H E hr
    refine ⟨t, ht, hS x h2 (L2.start N vs) G H _ (ev_start h1 v) (fun _ _ _ _ _ _ z => z.elim) (fun _ _ _ _ _ _ _ z => z.elim) (fun _ _ _ _ _ _ z => z.elim) (fun _ _ _ _ _ _ z => z.elim) (fun _ _ _ _ _ _ _ z => z.elim) (fun l ho o G' H' x vw k1 k2 k3 k4 p => ?_)⟩
    exact q l ho o G' H' ⟨x.gg, x.nw, fun a o hp e => x.od a o hp (by rw [e]; exact fun z => by cases z) e, vw⟩ k1 k3 k2 k4 p
theorem fnXO {α : Type} {x qual : Str} {st : Stmt} {f : Addr} {fd : FuncData} {N ps : List Str} {k : Nat} {ts : List Addr} {Wf : α → Prop} {enc : α → List Ag} {res : α → PyData → Prop} (F : Fun K x qual st f fd) (S0 : FnScope N ps (defScope st)) (hl : ∀ x, Wf x → (enc x).length = ps.length)
    (hbody : ∀ (cdv : Value) (A : Around) (outer : List Env) (s : Shared) (H : Hp) (E : XK), Room k (A.deeper (envOfC qual (defScope st) s.heap.objs.size f cdv)) →
      ∃ t, PSs (cxOf CX0 P w K mg base N qual (defScope st) f cdv A outer s H E).nox (defBody st) t ∧ ∀ x, Wf x → S K ⟨none, ts⟩ H t (st0O N (enc x)) { nx := fun _ => False, rt := fun _ => False, rn := res x }) : FnOk P w K mg base CX0 (k + 1) f fd ps (SpXO K ts Wf enc res) := by
  refine F.ok S0 (fun vs H Q E h => ?_) (fun cdv A outer s H vs Q E hr h => ?_)
  · obtain ⟨x, G, _, h1, h2, _⟩ := h
    rw [args_len h1]
    exact hl x h2
  · obtain ⟨x, G, v, h1, h2, q⟩ := h
    obtain ⟨t, ht, hS⟩ := hbody cdv A outer s H E hr
    refine ⟨t, ht, hS x h2 (L2.start N vs) G H _ (ev_startO h1 v) (fun _ _ _ _ _ _ z => z.elim) (fun _ _ _ _ _ _ _ z => z.elim) (fun _ _ _ _ _ _ z => z.elim) (fun _ _ _ _ _ _ z => z.elim) (fun v d G' H' x vw hd p => ?_) (fun _ _ _ _ _ _ _ _ _ _ _ z => z.elim)⟩
    exact q v d G' H' ⟨x.gg, x.nw, fun a o hp e => x.od a o hp (by rw [e]; exact fun z => by cases z) e, vw⟩ hd p
end
end Dl
set_option Elab.async false
set_option linter.all false
set_option maxRecDepth 100000
set_option maxHeartbeats 4000000
namespace Dl
open PySem PySem.Spec PyProof.Rows L2
/-! ### sorted(list of pairs of ints): the same pairs in some order -/
def rSortPS (K : PySem.W.Frag) : List V → Hp → VK → Prop := fun us H Q => ∃ b zs, us = [V.ref b] ∧ SqL K H b zs ∧ (∀ z ∈ zs, ∃ t i j, z = V.ref t ∧ SqT K H t [.int i, .int j]) ∧ ∀ ws r, ws.Perm zs → H r = none → Q (.ref r) (upd H r (.lst ws))
section
variable {X : Cx}
theorem cr_sortPS : CallR X (.builtin "sorted") (rSortPS X.K) := by
  intro pins s σ H us cs Q I r h
  obtain ⟨b, zs, rfl, hb, hz, q⟩ := h
  obtain ⟨items, rv, hl, hsz⟩ := I.list hb
  rw [Vals.ref1 r]
  obtain ⟨m1, m2⟩ := refs_back rv fun z hm => (hz z hm).imp fun t ⟨_, _, e, _⟩ => e
  refine Srt.sorted_pairs hl.isList (rv.length ▸ hsz) (fun c hc => ?_) fun h2 p out perm kept hp new => ?_
  · obtain ⟨t, rfl⟩ := m2 c hc
    obtain ⟨t2, i, j, e, ht⟩ := hz (V.ref t) (m1 ▸ List.mem_map.mpr ⟨_, hc, rfl⟩)
    cases e
    obtain ⟨two, r2, ⟨ob, hob, hcl, n, hdat⟩, _⟩ := I.tuple ht
    obtain ⟨c1, c2, rfl, ⟨k1, rfl⟩, ⟨k2, rfl⟩⟩ := vals2 r2
    exact ⟨i, j, t, ob, k1, k2, n, rfl, hob, hcl, hdat⟩
  · have all : ∀ c ∈ out, ∃ a, c = Value.ref a := fun c hc => m2 c (perm.mem_iff.mp hc)
    obtain ⟨n, hn⟩ := new
    have hlen : (out.map backV).length ≤ sizeLine := by
      rw [List.length_map, perm.length_eq, ← rv.length]
      exact hsz
    exact ⟨.ref p, upd H p (.lst (out.map backV)), I.laid (t' := s.toks) kept hp ⟨hlen, out, n, vals_back all, hn⟩, rfl, q _ p (m1 ▸ perm.map backV) (I.hok.fresh hp)⟩
theorem kx_sortPS {K : PySem.W.Frag} (h : X.K = K) : CallR X (.builtin "sorted") (rSortPS K) := by subst h; exact cr_sortPS
theorem kx_max {K : PySem.W.Frag} (h : X.K = K) (hc : X.calm = true) : CallR X (.builtin "max") (rMax K) := by subst h; exact cr_max hc
theorem kx_all {K : PySem.W.Frag} (h : X.K = K) (hc : X.calm = true) : CallR X (.builtin "all") (rAll K) := by subst h; exact cr_all hc
end
abbrev pairD (p : Int × Int) : PyData := .tuple [.int p.1, .int p.2]
def pairsL (ps : List (Int × Int)) : List PyData := ps.map pairD
section
variable {K : PySem.W.Frag} {pen : Pc} {H0 : Hp} {L : Lv} {P : PyData → Prop} {te ta tb ti ty tx tv : TE} {tl tr : TA} {tt : TT} {t : TS} {D : Dn} {Pb : Bool → Prop} {Pl : List PyData → Prop}
theorem dpa_perm {α : Type} {G : Hp} {f : α → PyData} {vs ws : List V} (h : ws.Perm vs) : ∀ {ps : List α}, DpAll K G vs (ps.map f) → ∃ qs : List α, qs.Perm ps ∧ DpAll K G ws (qs.map f) := by
  induction h with
  | nil => intro ps h; exact ⟨ps, .refl _, h⟩
  | cons x _ ih =>
    intro ps h
    cases ps with
    | nil => cases h
    | cons p ps =>
      cases h with
      | cons h1 h2 =>
        obtain ⟨qs, a, b⟩ := ih h2
        exact ⟨p :: qs, a.cons p, .cons h1 b⟩
  | swap x y l =>
    intro ps h
    rcases ps with _ | ⟨p, _ | ⟨q, ps⟩⟩
    · cases h
    · cases h with
      | cons h1 h2 => cases h2
    · cases h with
      | cons h1 h2 =>
        cases h2 with
        | cons h3 h4 => exact ⟨q :: p :: ps, .swap p q ps, .cons h3 (.cons h1 h4)⟩
  | trans _ _ ih1 ih2 =>
    intro ps h
    obtain ⟨qs, a, b⟩ := ih2 h
    obtain ⟨rs, c, d⟩ := ih1 b
    exact ⟨rs, c.trans a, d⟩
theorem EL.out {G H G1 H1 : Hp} {σ : L2.St} {l : Addr} (e : Ev K pen H0 G H σ L) (go : Go pen G H G1 H1) (hl : H1 l = none) : H l = none := by
  cases z : H l with
  | none => rfl
  | some o => exact absurd hl (go.dom (by rw [z]; exact fun z => by cases z))
theorem el_sortP (h : E K pen H0 te L fun d => ∃ ps : List (Int × Int), d = .list (pairsL ps) ∧ ∀ qs : List (Int × Int), qs.Perm ps → Pl (pairsL qs)) : EL K pen H0 (tCB (rSortPS K) (tCons te tNil)) L Pl := fun σ G H e Q q => h σ G H e _ fun v d G1 H1 go hd ⟨ps, hds, p⟩ => by
  subst hds
  cases hd with
  | lst hs ha =>
    rename_i a xs
    refine ⟨a, xs, rfl, sqL_mono go.vw.vw hs, fun x hx => ?_, fun ys r hp hr => ?_⟩
    · obtain ⟨i, hi, hg⟩ := List.mem_iff_getElem.mp hx
      obtain ⟨d, hd, dd⟩ := dpa_getV ha (show xs[i]? = some x by rw [List.getElem?_eq_getElem hi, hg])
      unfold pairsL at hd
      rw [List.getElem?_map] at hd
      cases hq : ps[i]? with
      | none => rw [hq] at hd; cases hd
      | some pr =>
        rw [hq] at hd
        cases hd
        cases dd with
        | tup k1 k2 =>
          cases k2 with
          | cons k3 k4 =>
            cases k4 with
            | cons k5 k6 =>
              cases k6
              cases k3
              cases k5
              exact ⟨_, _, _, rfl, sqT_mono go.vw.vw k1⟩
    · obtain ⟨qs, h1, h2⟩ := dpa_perm hp ha
      have e1 := e.go go
      have g2 := Go.hid e1.vw (o := .lst ys) hr
      exact q r ys _ G1 _ (go.trans g2) upd_same (e1.gnone hr) (EL.out e go hr) h2 (p qs h1)
/-! ### max(list of ints), all(list of truths) -/
theorem c_maxL {ns : List Int} (h : 0 < ns.length) (p : ∀ m, m ∈ ns → (∀ y, y ∈ ns → y ≤ m) → P (.int m)) : RCd K pen (rMax K) [.list (intsL ns)] P := fun vs G H v hv Q q => by
  cases hv with
  | cons h1 h2 =>
    cases h2
    cases h1 with
    | lst hs ha =>
      have ex := dpa_ints ha
      subst ex
      exact ⟨_, ns, rfl, sqL_mono v.vw hs, h, fun m h1 h2 => q _ _ G H (.refl v) (.int _) (p m h1 h2)⟩
theorem c_allL {bs : List Bool} (p : P (.bool (bs.all id))) : RCd K pen (rAll K) [.list (bs.map PyData.bool)] P := fun vs G H v hv Q q => by
  cases hv with
  | cons h1 h2 =>
    cases h2
    cases h1 with
    | lst hs ha =>
      have ex := dpa_bls ha
      subst ex
      exact ⟨_, bs, rfl, sqL_mono v.vw hs, q _ _ G H (.refl v) (.bl _) p⟩
/-! ### list * int, tuple(range(n)), list(range(n)) -/
theorem el_rep (h : EL K pen H0 ta L fun ds => E K pen H0 tb L fun b => ∃ k : Nat, b = .int k ∧ k ≤ 100000 ∧ ds.length * k ≤ 100000 ∧ Pl (List.replicate k ds).flatten) : EL K pen H0 (tOp rRep ta tb) L Pl := fun σ G H e Q q => h σ G H e _ fun l vs ds G1 H1 go k1 k2 k3 k4 h1 => by
  refine h1 σ G1 H1 (e.go go) _ fun w b G2 H2 g2 d2 ⟨k, hk, hkk, hz, p⟩ => ?_
  subst hk
  cases d2
  have np : ¬ IsPn pen l := fun z => e.vw.ok.there z k3
  have hlv := dpa_len k4
  refine ⟨l, k, vs, rfl, rfl, g2.od _ _ np k1, by omega, by omega, Nat.le_trans (by rw [hlv]; exact hz) (by decide : 100000 ≤ sizeLine), fun r hr => ?_⟩
  have e2 := (e.go go).go g2
  have g3 := Go.hid e2.vw (o := .lst (List.replicate ((k : Int)).toNat vs).flatten) hr
  exact q r _ _ G2 _ ((go.trans g2).trans g3) upd_same (e2.gnone hr) (EL.out e (go.trans g2) hr) (dpa_rep (dpa_mono g2.gg _ _ k4) k) p
theorem dpa_rng {G : Hp} (n : Nat) : DpAll K G (rgV 0 n) (rngL 0 n) := by
  unfold rgV rngL
  rw [show ((n : Int) - 0).toNat = n by omega]
  induction List.range n with
  | nil => exact .nil
  | cons a r ih => exact .cons (.int _) ih
theorem e_tupRg (h : E K pen H0 te L fun d => ∃ n : Nat, d = .int n ∧ n ≤ 100000 ∧ P (.tuple (rngL 0 n))) : E K pen H0 (tTupRg (tRg1 te)) L P := fun σ G H e Q q => h σ G H e _ fun v d G1 H1 go hd ⟨n, hn, hz, p⟩ => by
  subst hn
  cases hd
  refine ⟨n, rfl, RgOk.of_le (by omega) (by omega) (by omega) (by omega), fun r hr => ?_⟩
  have g2 := Go.new go.vw (o := .tup (rgV 0 n)) hr
  exact q _ _ _ _ (go.trans g2) (.tup (.inl (.inl upd_same)) (dpa_rng n)) p
theorem el_lstRg (h : E K pen H0 te L fun d => ∃ n : Nat, d = .int n ∧ n ≤ 100000 ∧ Pl (rngL 0 n)) : EL K pen H0 (tLstRg (tRg1 te)) L Pl := fun σ G H e Q q => h σ G H e _ fun v d G1 H1 go hd ⟨n, hn, hz, p⟩ => by
  subst hn
  cases hd
  refine ⟨n, rfl, RgOk.of_le (by omega) (by omega) (by omega) (by omega), fun r hr => ?_⟩
  have e1 := e.go go
  have g2 := Go.hid e1.vw (o := .lst (rgV 0 n)) hr
  exact q r _ _ G1 _ (go.trans g2) upd_same (e1.gnone hr) (EL.out e go hr) (dpa_rng n) p
/-- list + list, new -/
theorem el_catL (h : E K pen H0 ta L fun a => E K pen H0 tb L fun b => ∃ as bs, a = .list as ∧ b = .list bs ∧ as.length + bs.length ≤ 100000 ∧ Pl (as ++ bs)) : EL K pen H0 (tOp (rCatL K) ta tb) L Pl := fun σ G H e Q q =>
  h σ G H e _ fun v a G1 H1 g1 d1 h1 => h1 σ G1 H1 (e.go g1) _ fun w b G2 H2 g2 d2 ⟨as, bs, ea, eb, hz, p⟩ => by
    subst ea eb
    have d1 := dp_mono g2.gg _ _ d1
    cases d1 with
    | lst hs ha =>
      cases d2 with
      | lst hs' ha' =>
        rename_i a1 xs a2 ys
        refine ⟨a1, a2, xs, ys, rfl, rfl, sqL_mono g2.vw.vw hs, sqL_mono g2.vw.vw hs', Nat.le_trans (by rw [dpa_len ha, dpa_len ha']; exact hz) (by decide : 100000 ≤ sizeLine), fun r hr => ?_⟩
        have e2 := (e.go g1).go g2
        have g3 := Go.hid e2.vw (o := .lst (xs ++ ys)) hr
        exact q r _ _ G2 _ ((g1.trans g2).trans g3) upd_same (e2.gnone hr) (EL.out e (g1.trans g2) hr) (dpa_app ha ha') p
/-- a call that tells a new list -/
theorem el_callF {α : Type} {pn : Option Pn} {ts : List Addr} {Wf : α → Prop} {enc : α → List PyData} {res : α → PyData → Prop} {X : XK} (h : EA K ⟨pn, ts⟩ H0 tl L fun ds => ∃ x, ds = enc x ∧ Wf x ∧ ∀ d, res x d → ∃ es, d = .list es ∧ noLs es = true ∧ Pl es) : EL K ⟨pn, ts⟩ H0 (tCall (SpXF K ts Wf enc res) [] X tl) L Pl := fun σ G H e Q q =>
  h σ G H e _ fun vs ds G1 H1 go hd ⟨x, hx, h1, h2⟩ => ⟨x, G1, go.vw.plain, by rw [List.append_nil, ← hx]; exact hd, h1, fun v d G' H' go2 hd2 p => by
    obtain ⟨es, rfl, hn, pp⟩ := h2 d p
    cases hd2 with
    | lst hs ha =>
      rename_i l us
      rcases vnew_cases hs with ⟨_, z⟩ | ⟨k, k0, k1, _⟩
      · cases z
      · refine q l us es G' H' (go.trans (go2.lift go.vw)) k1 k (EL.out e go k0) (dpa_nol (fun a xs r => ?_) es us hn (nda_dpa _ _ ha)) pp
        rcases r with r | ⟨o, r⟩
        · rcases vnew_cases r with ⟨g, _⟩ | ⟨_, _, _, ys, z⟩
          · exact .inl g
          · cases z
        · rcases vnew_cases r with ⟨g, _⟩ | ⟨_, _, _, ys, z⟩
          · exact .inr ⟨o, g⟩
          · cases z⟩
end
end Dl
set_option Elab.async false
set_option linter.all false
set_option maxRecDepth 100000
set_option maxHeartbeats 4000000
/-! ### enumerate(tuple) -/
namespace Dl
open PySem PySem.Spec PyProof.Rows L2
abbrev enO (a : Addr) : Obj := { cls := .type "enumerate", data := .fields #[.none, .bool false, .ref a, rawInt 0, .none, .none] }
abbrev tiO (t : Addr) : Obj := { cls := .type "tuple_iterator", data := .fields #[.ref t, .int 0 0] }
theorem enumNewOne {v : Value} {o : Obj} {Hh : Heap → Prop} (B : Begins v o Hh) : Meets (Builtin.«enumerate.__new__» ⟨[.type "enumerate", v], []⟩) (fun _ R s => Hh s.heap ∧ R (.ok (.ret (.ref (s.heap.push o).objs.size))) { s with heap := (s.heap.push o).push (enO s.heap.objs.size) }) :=
  .of_wp fun prog w A R s hyp => by
    obtain ⟨hp, gl, dd, tok, out⟩ := s
    obtain ⟨hB, hR⟩ := hyp
    have sb := sub_enumerate
    have first : ∀ {A' : Around} {E : Value → Shared → Prop} {Q : Value → Shared → Prop}, Q (.ref hp.objs.size) ⟨hp.push o, gl, dd, tok, out⟩ → wpAny (model prog w) A' (pyIter v) Q E ⟨hp, gl, dd, tok, out⟩ := fun q => B.iter prog w _ _ ⟨hp, gl, dd, tok, out⟩ _ hB q
    wp_walk using first
    refine wpAny_stack_any fun frames => wpAny_pure ?_
    split
    · rename_i cl _ _ _ _ _
      cases (cl == Value.type "enumerate") <;> (wp_walk using first; exact ⟨_, rfl, hR⟩)
    · wp_walk using first
      exact ⟨_, rfl, hR⟩
theorem callEnumT {prog : Program} {w : World} {A : Around} {E : Value → Shared → Prop} {s : Shared} {t : Addr} {items : Array Value} {Q : Value → Shared → Prop} (hT : s.heap.IsTuple t items)
    (hq : ∀ h', IsEnum h' (s.heap.objs.size + 1) s.heap.objs.size 0 .none → h'.IsTupleIter s.heap.objs.size t 0 → (∀ b u, s.heap.get? b = some u → h'.get? b = some u) → Q (.ref (s.heap.objs.size + 1)) { s with heap := h' }) :
    wpAny (model prog w) A (call (.type "enumerate") [.ref t]) Q E s := by
  refine callType_new F.called_enumerate (by decide) (F.typeCall_enumerate_1 _) (F.newCall_enumerate_1 _) (fun obj => F.args_object_init_2 obj _) F.entry_enumerate_new (enumNewOne (begins_tuple t items)) ⟨hT, ?_⟩
  have size1 : (s.heap.push (tiO t)).objs.size = s.heap.objs.size + 1 := Heap.size_push ..
  have isE : IsEnum ((s.heap.push (tiO t)).push (enO s.heap.objs.size)) (s.heap.objs.size + 1) s.heap.objs.size 0 .none := by
    have := Heap.get?_push_size (s.heap.push (tiO t)) (o := enO s.heap.objs.size) rfl
    rw [size1] at this
    exact this
  show _ ∧ _
  rw [size1]
  exact ⟨⟨_, isE, rfl⟩, hq _ isE ⟨_, Heap.get?_push_of_some _ (Heap.get?_push_size _ rfl), rfl, rfl⟩ fun b u e => Heap.get?_push_of_some _ (Heap.get?_push_of_some _ e)⟩
/-- the tuple at a, each item in a new pair -/
def ItEt (K : PySem.W.Frag) (a : Addr) : It :=
  ⟨fun i H => ∃ (xs : List V) (x : V), SqT K H a xs ∧ xs[i]? = some x, fun i H v H' => ∃ T x, v = .ref T ∧ H T = none ∧ H' = upd H T (.tup [.int (i : Nat), x]) ∧ ∀ xs, SqT K H a xs → xs[i]? = some x, fun i H => ∃ xs : List V, SqT K H a xs ∧ xs.length ≤ i⟩
theorem turn_enumT {P : Program} {w : World} {K : PySem.W.Frag} {elts : List Expr} {kk : Nat} {tpos : Pos} (a e it : Addr) (hne : e ≠ it) (hea : e ≠ a) (hia : a ≠ it) :
    Turn P w K (.Tuple elts kk tpos) (ItEt K a) [e, it] e (fun i h => (∃ old, IsEnum h e it ((i : Nat) : Int) old) ∧ h.IsTupleIter it a i) where
  mem := List.mem_cons_self ..
  obj := fun i h st b hb => by
    obtain ⟨⟨old, hE⟩, ⟨o, ho, hc, hd⟩⟩ := st
    rcases List.mem_cons.mp hb with rfl | hb
    · exact ⟨_, hE, fun v q => nomatch q⟩
    · rw [List.mem_singleton.mp hb]
      exact ⟨o, ho, fun v q => by rw [hd] at q; cases q⟩
  keep := fun i h h' st k => ⟨st.1.imp fun old hE => k e (List.mem_cons_self ..) _ hE, st.2.at fun o q => k it (List.mem_cons_of_mem _ (List.mem_cons_self ..)) o q⟩
  item := by
    intro X hP hw hK hc i pins s σ H E I hf st hg
    subst hP hw hK
    obtain ⟨⟨old, hE⟩, hI⟩ := st
    obtain ⟨xs, x, hq, hx⟩ := hg
    obtain ⟨its, rv, pt, hz⟩ := I.tuple hq
    obtain ⟨u, hu, ru⟩ := rv.get hx
    have le : e < s.heap.objs.size := Heap.lt_size hE
    have li : it < s.heap.objs.size := by obtain ⟨_, q, _⟩ := hI; exact Heap.lt_size q
    have hil : i < its.toArray.size := by
      have := (List.getElem?_eq_some_iff.mp hu).1
      simpa using this
    refine wpAny_pyNext_enum_itemD (Draws.tuple (A := X.A.in1) (I.ok.hd hc) it a hia its.toArray) hE ⟨hI, pt⟩ hil hne (by simp [hne, hea]) fun y h' tk hy out hst hT hsz hk => ?_
    have ey : y = u := by
      have h1 : its.toArray[i]? = some u := by simpa using hu
      exact Option.some.inj (hy.symm.trans h1)
    subst ey
    refine ⟨_, rfl, wpAny_letOwnedTupleGo_enum (s := { s with heap := h', toks := tk + 1 }) out fun h2 hE2 sb => ?_⟩
    have hT2 : h2.get? s.heap.objs.size = some { cls := .type "tuple", data := .seq #[.int i tk, y] } := (sb.2 _ (Nat.ne_of_gt le)).trans hT
    have okT : ObjOk X.prog X.w (upd H s.heap.objs.size (.tup [.int (i : Nat), x])) h2 s.heap.objs.size (.tup [.int (i : Nat), x]) :=
      ⟨by show 2 ≤ sizeLine; decide, [.int i tk, y], .cons ⟨_, rfl⟩ (.cons ru .nil), ⟨_, hT2, rfl, _, rfl⟩⟩
    have I1 : Inv X pins σ (upd H s.heap.objs.size (.tup [.int (i : Nat), x])) { s with heap := h2, toks := tk + 1 } :=
      I.turnedNew (ch := [e, it]) (fun b ob hb q => (sb.2 b (fun z => hb (z ▸ List.mem_cons_self ..))).trans (hk b ob (fun z => hb (z ▸ List.mem_cons_self ..)) (fun z => hb (z ▸ List.mem_cons_of_mem _ (List.mem_cons_self ..))) q)) hf (Nat.le_refl _) okT
    refine ⟨.ref s.heap.objs.size, _, I1, rfl, ⟨_, x, rfl, I.hok.fresh (Nat.le_refl _), rfl, fun ys hy2 => by rw [I.tuple_inj hy2 hq]; exact hx⟩, ⟨⟨y, ?_⟩, hst.1.at fun o q => (sb.2 it (Ne.symm hne)).trans q⟩, fun b hb => ?_⟩
    · rw [show ((i + 1 : Nat) : Int) = (i : Int) + 1 by omega]
      exact hE2
    · have lb : b < s.heap.objs.size := by
        rcases List.mem_cons.mp hb with rfl | hb
        · exact le
        · rw [List.mem_singleton.mp hb]; exact li
      rw [upd_ne (Nat.ne_of_lt lb)]
      exact (hf b hb).1
  done := by
    intro X hP hw hK hc i pins s σ H E I hf st hg
    subst hP hw hK
    obtain ⟨⟨old, hE⟩, hI⟩ := st
    obtain ⟨xs, hq, hx⟩ := hg
    obtain ⟨its, rv, pt, hz⟩ := I.tuple hq
    obtain ⟨f0, f1, f2, f3, f4, f5⟩ := hf it (List.mem_cons_of_mem _ (List.mem_cons_self ..))
    have hl := rv.length
    have none_ : its.toArray[i]? = none := by simp; omega
    have D0 : Draws X.prog X.w X.A.in1 it [it, a] i (fun _ _ => True) (fun j h => j = i ∧ h.IsTupleIter it a i ∧ h.IsTuple a its.toArray) :=
      { live := fun _ _ st => let ⟨o, ho, _⟩ := st.2.1; ⟨o, ho⟩
        frame := fun _ _ _ st hk => ⟨st.1, st.2.1.at fun o q => hk it (List.mem_cons_self ..) o q, st.2.2.at fun o q => hk a (List.mem_cons_of_mem _ (List.mem_cons_self ..)) o q⟩
        item := fun j s Q E hj st _ => absurd hj (by rw [st.1]; exact Nat.lt_irrefl _)
        done := fun s Q E st hE => wpAny_nextOf_tuple_end (A := X.A.in1) (I.ok.hd hc) st.2.1 st.2.2 none_ hE }
    exact wpAny_pyNext_enum_endD D0 hE ⟨rfl, hI, pt⟩ fun h' eb => ⟨rfl, I.turned (t' := s.toks) (fun b o hb q => eb b o hb q) f0 f1 f3 f4 f5⟩
  self := fun A i s Q E st hQ => let ⟨⟨_, hE⟩, _⟩ := st; wpAny_pyIter_enum hE hQ
def iEnumT (K : PySem.W.Frag) (ta : TA) : TI := fun σ H R => ta σ H fun vs H1 => ∃ a xs, vs = [.ref a] ∧ SqT K H1 a xs ∧ R (ItEt K a) H1
theorem pi_enumT {X : Cx} {e : Expr} {ta : TA} {p pos tpos : Pos} {elts : List Expr} {kk : Nat} (hg : Gl X "enumerate") (hm : X.mg "enumerate" = none) (ha : PA X [e] ta) (hs : starEach [e] X.env = [(false, eval e X.env)] := by rfl) :
    PI X (.Tuple elts kk tpos) (.Call (.Name "enumerate" p) [e] [] pos) (iEnumT X.K ta) := by
  refine ⟨fun pins s σ H R I hyp => ?_⟩
  refine Call_ (ld_blt I hg hm boot_enumerate (PyProof.Rows.callWith_type1 (thn (ha.run pos pins s σ H _ I hyp) fun us s1 ⟨vs, H1, I1, r1, q1⟩ => ?_) hs rfl))
  obtain ⟨a, xs, rfl, hq, q⟩ := q1
  rw [Vals.ref1 r1]
  obtain ⟨its, rv, pt, hz⟩ := I1.tuple hq
  have la : a < s1.heap.objs.size := by obtain ⟨_, q, _⟩ := pt; exact Heap.lt_size q
  refine callEnumT (items := its.toArray) pt fun h' hE hI hk => wpAny_pyIter_enum hE ?_
  have I2 : Inv X pins σ H1 { s1 with heap := h' } := I1.kept (t' := s1.toks) hk
  refine ⟨s1.heap.objs.size + 1, [s1.heap.objs.size + 1, s1.heap.objs.size], _, _, H1, rfl, I2, turn_enumT a (s1.heap.objs.size + 1) s1.heap.objs.size (Nat.succ_ne_self _) (Nat.ne_of_gt (Nat.lt_succ_of_lt la)) (Nat.ne_of_lt la), ⟨⟨.none, hE⟩, hI⟩, fun b hb => ?_, q⟩
  have ge : s1.heap.objs.size ≤ b := by
    rcases List.mem_cons.mp hb with rfl | hb
    · exact Nat.le_succ _
    · rw [List.mem_singleton.mp hb]; exact Nat.le_refl _
  exact I1.fpOk ge (I1.hok.fresh ge)
theorem kx_enumT {K : PySem.W.Frag} {tl : TA} {X : Cx} {e : Expr} {p pos tpos : Pos} {elts : List Expr} {kk : Nat} (h : X.K = K) (hg : Gl X "enumerate") (hm : X.mg "enumerate" = none) (ha : PA X [e] tl) (hs : starEach [e] X.env = [(false, eval e X.env)] := by rfl) :
    PI X (.Tuple elts kk tpos) (.Call (.Name "enumerate" p) [e] [] pos) (iEnumT K tl) := by subst h; exact pi_enumT hg hm ha hs
theorem it_enumT {K : PySem.W.Frag} {pen : Pc} {H0 : Hp} {L : Lv} {P : List PyData → Prop} {tl : TA} (h : EA K pen H0 tl L fun es => ∃ ds, es = [.tuple ds] ∧ P (enumL ds)) : IT K pen H0 (iEnumT K tl) L P := fun σ G H e R r => h σ G H e _ fun vs es G1 H1 go hd ⟨ds, hds, p⟩ => by
  subst hds
  cases hd with
  | cons hd hd2 =>
    cases hd2
    cases hd with
    | tup hs ha =>
      rename_i a xs
      refine ⟨a, xs, rfl, sqT_mono go.vw.vw hs, r _ G1 H1 _ go (fun G' H' s v => ⟨fun i x hx => ?_, ?_⟩) p⟩
      · have z := sqT_mono (s.trans v.vw) hs
        obtain ⟨y', hy', rfl⟩ := enumL_get hx
        obtain ⟨y, hy, dy⟩ := dpa_get ha hy'
        refine ⟨⟨xs, y, z, hy⟩, fun w H2 hw => ?_⟩
        obtain ⟨T, u, rfl, hT, rfl, f⟩ := hw
        have e1 : u = y := Option.some.inj ((f _ z).symm.trans hy)
        subst e1
        have g2 := Go.new v (o := .tup [.int (i : Nat), u]) hT
        exact ⟨_, g2, .tup (.inl (.inl upd_same)) (.cons (.int _) (.cons (dp_mono (s.trans g2.gg) _ _ dy) .nil))⟩
      · exact ⟨xs, sqT_mono (s.trans v.vw) hs, by rw [dpa_len ha, enumL_len]; exact Nat.le_refl _⟩
end Dl
set_option Elab.async false
set_option linter.all false
set_option maxRecDepth 100000
set_option maxHeartbeats 4000000
namespace Dl
open PySem PySem.Spec PyProof.Rows L2
section
variable {K : PySem.W.Frag} {pen : Pc} {H0 : Hp} {L : Lv} {D : Dn}
/-- d[xs.pop(0)] = True -/
theorem s_dputPop {i j : Nat} {m : List (Key × PyData)} {d0 : PyData} {ds : List PyData} {key : Key} {b : Bool} (hj : L[j]? = some (some (.own (.dK m)))) (hi : L[i]? = some (some (.own (.lst (d0 :: ds))))) (hz : m.length < 100000) (hk : KeyD d0 key) (hij : i ≠ j)
    (h : D.nx ((L.set i (some (.own (.lst ds)))).set j (some (.own (.dK (putD m key (.bool b))))))) (nf : noFr L = true := by rfl) (nf2 : noFr (L.set i (some (.own (.lst ds)))) = true := by rfl) :
    S K pen H0 (sDPut (tVar j) (tBM K "list" rPopAt (tVar i) (tCons (tC (.int 0)) tNil)) (tC (.bl b))) L D := fun σ G H N e n1 _ _ _ _ _ => by
  obtain ⟨l, ho, k1, k3, k6⟩ := e.own hi
  obtain ⟨vs, rfl, k6⟩ := k6.lst
  obtain ⟨a, ha, q1, q3, q6⟩ := e.own hj
  cases k6 with
  | cons h1 h2 =>
    rename_i v vs
    obtain ⟨r1, r2⟩ := e.putOwn nf hi k1 (o' := .lst ds) (ho := .lst vs) h2
    have hj2 : (L.set i (some (.own (.lst ds))))[j]? = some (some (.own (.dK m))) := by rw [List.getElem?_set_ne hij]; exact hj
    obtain ⟨ha2, w3, w6⟩ := r1.ownAt hj2 q1
    obtain ⟨kvs, rfl, w6⟩ := w6.dK
    have hv := key_v h1 hk
    subst hv
    obtain ⟨z1, z2⟩ := r1.putOwn nf2 hj2 q1 (o' := .dK (putD m key (.bool b))) (ho := .dK (putK kvs key (.bl b))) (kv_put key (.bl b) w6)
    exact ⟨_, q1, _, k1, .inl ⟨rfl, _, .inl (.inl k3)⟩, l, _ :: vs, 0, 0, _, rfl, rfl, k3, by decide, by decide, by unfold seqIndex?; simp, rfl, a, _, rfl, DPut.k w3 (Nat.lt_of_lt_of_le (by rw [kv_len w6]; exact hz) (by decide : 100000 ≤ sizeLine)), n1 σ G _ _ (r2.trans z2) z1 h⟩
end
end Dl
set_option Elab.async false
set_option linter.all false
set_option maxRecDepth 100000
set_option maxHeartbeats 4000000
namespace Dl
open PySem PySem.Spec PyProof.Rows L2
/-! ### a tuple no time, once, more often -/
theorem tupleMul0 (l : Addr) (items : Array Value) (n : Nat) (dd : Option Addr) (sl : Array (Option Value)) (u : Tok) (he : items.isEmpty = false) :
    Meets (Builtin.«tuple.__mul__» ⟨[.ref l, .int 0 u], []⟩) (fun _ R s => s.heap.get? l = some { cls := .type "tuple", dict := dd, data := .seq items n, slots := sl } ∧ R (.ok (.ret (Value.ref s.heap.objs.size))) { s with heap := s.heap.push { cls := Value.type "tuple", data := Data.seq #[] }, toks := s.toks }) :=
  .of_wp fun prog w A R s hyp => by
    obtain ⟨hp, gl, dd2, tok, out⟩ := s
    obtain ⟨hl, hR⟩ := hyp
    have f1 := AutoSeq1.idx_int
    have a0 : (decide ((0 : Int) < -(2 ^ 63)) || decide ((0 : Int) ≥ 2 ^ 63)) = false := by decide
    have a1 : (items.isEmpty || (0 : Int) == 1) = false := by rw [he]; rfl
    have a2 : (decide ((0 : Int) ≤ 0) || items.isEmpty) = true := by simp
    wp_walk using wpAny_loadPart' hl
    repeat (first
      | (refine wpAny_ite_false (decide_eq_false (by rw [a0]; exact Bool.false_ne_true)) ?_; wp_walk using wpAny_loadPart' hl)
      | (refine wpAny_ite_false (decide_eq_false (by rw [a1]; exact Bool.false_ne_true)) ?_; wp_walk using wpAny_loadPart' hl)
      | (refine wpAny_ite_true (decide_eq_true a2) ?_; wp_walk using wpAny_loadPart' hl))
    exact ⟨_, rfl, hR⟩
def rRepB (K : PySem.W.Frag) : R2 := fun x y H Q => ∃ l xs, x = .ref l ∧ SqT K H l xs ∧ xs ≠ [] ∧ ((y = .int 1 ∧ Q (.ref l) H) ∨ (y = .int 0 ∧ ∀ p, H p = none → Q (.ref p) (upd H p (.tup []))))
section
variable {X : Cx}
theorem op_repB : OpR X (binaryOp .Mult) (rRepB X.K) := by
  intro pins s σ H x y v u Q I rx ry hyp
  obtain ⟨l, xs, rfl, hT, hne, hyp⟩ := hyp
  cases rx
  obtain ⟨its, r, ⟨⟨cls, dd, data, sl⟩, ho, hc, n, hd⟩, hs⟩ := I.tuple hT
  simp only at hc hd
  subst hc hd
  have hie : its.toArray.isEmpty = false := by
    cases its with
    | nil => cases r; exact absurd rfl hne
    | cons a b => rfl
  rcases hyp with ⟨rfl, q⟩ | ⟨rfl, q⟩
  · obtain ⟨t, rfl⟩ := ry
    refine wpAny_binaryOp_repeat_ref (T := "tuple") (U := "int") (by decide) ⟨_, ho, rfl⟩ (fun s2 => typeIs_int s2 1 t) noFill_tuple_mul F.fills_int_mul F.slot_int_rmul repeat_tuple F.slot_int_index.lookup ?_
    refine call_meets F.slot_int_rmul (typeIs_int s 1 t) F.entry_int_rmul (F.args_int_rmul_2 _ _) (int_rmul_tuple 1 t l its.toArray n dd sl) ⟨ho, rfl, ⟨_, ho, rfl⟩, ?_⟩
    exact call_meets F.slot_tuple_mul ⟨_, ho, rfl⟩ F.entry_tuple_mul (F.args_tuple_mul_2 _ _) (tuple_mul1 l its.toArray n dd sl t) ⟨ho, .ref l, H, I, rfl, q⟩
  · obtain ⟨t, rfl⟩ := ry
    refine wpAny_binaryOp_repeat_ref (T := "tuple") (U := "int") (by decide) ⟨_, ho, rfl⟩ (fun s2 => typeIs_int s2 0 t) noFill_tuple_mul F.fills_int_mul F.slot_int_rmul repeat_tuple F.slot_int_index.lookup ?_
    refine call_meets F.slot_int_rmul (typeIs_int s 0 t) F.entry_int_rmul (F.args_int_rmul_2 _ _) (int_rmul_tuple 0 t l its.toArray n dd sl) ⟨ho, rfl, ⟨_, ho, rfl⟩, ?_⟩
    refine call_meets F.slot_tuple_mul ⟨_, ho, rfl⟩ F.entry_tuple_mul (F.args_tuple_mul_2 _ _) (tupleMul0 l its.toArray n dd sl t hie) ⟨ho, ?_⟩
    exact ⟨.ref s.heap.objs.size, upd H s.heap.objs.size (.tup []), I.laid (t' := s.toks) (fun c o e => Heap.get?_push_of_some _ e) (Nat.le_refl _) (show ObjOk X.prog X.w _ _ _ (.tup []) from ⟨Nat.zero_le _, [], .nil, IsTup.new _ _⟩), rfl, q _ I.fresh⟩
theorem kx_repB {K : PySem.W.Frag} (h : X.K = K) : OpR X (binaryOp .Mult) (rRepB K) := by subst h; exact op_repB
end
theorem r_repB {K : PySem.W.Frag} {pen : Pc} {P : PyData → Prop} {ds : List PyData} {b : Bool} (h0 : ds ≠ []) (p : P (.tuple (if b = true then ds else []))) : R2d K pen (rRepB K) (.tuple ds) (.int (if b = true then 1 else 0)) P := fun x y G H v hx hy Q q => by
  cases hx with
  | tup hs ha =>
    cases hy
    rename_i a xs
    have hn : xs ≠ [] := fun z => by subst z; cases ha; exact h0 rfl
    refine ⟨a, xs, rfl, sqT_mono v.vw hs, hn, ?_⟩
    cases b with
    | true => exact .inl ⟨rfl, q _ _ G H (.refl v) (.tup hs ha) p⟩
    | false =>
      refine .inr ⟨rfl, fun r hr => ?_⟩
      have g := Go.new v (o := .tup []) hr
      exact q _ _ _ _ g (.tup (.inl (.inl upd_same)) .nil) p
end Dl
set_option Elab.async false
set_option linter.all false
set_option maxRecDepth 100000
/-! a comprehension that pops from one's own list -/
namespace Dl
open PySem PySem.Spec PyProof.Rows L2
variable {K : PySem.W.Frag} {pen : Pc} {H0 : Hp} {L : Lv} {D : Dn}
theorem set_same {α : Type} {l : List α} {j : Nat} {x : α} (h : l[j]? = some x) : l.set j x = l := by
  apply List.ext_getElem?
  intro i
  rw [List.getElem?_set]
  by_cases e : j = i
  · subst e
    rw [if_pos rfl, h, if_pos (List.getElem?_eq_some_iff.mp h).1]
  · rw [if_neg e]
/-- an object beside the slots is written -/
theorem Ev.aside {G H H1 : Hp} {σ : L2.St} {j : Nat} {o : OO} {l Da : Addr} {ho : HO} (e : Ev K pen H0 G H σ L) (hj : L[j]? = some (some (.own o))) (hs : σ[j]? = some (some (.ref l))) (hl : l ≠ Da)
    (only : ∀ (i : Nat) av, L[i]? = some (some av) → i ≠ j → (∃ x, av = .d x) ∨ av = .pen) (h0 : H0 Da = none) (g0 : G Da = none) (p1 : POk pen H1) (hD : H1 Da = none) : Ev K pen H0 G (upd H Da ho) σ L := by
  refine ⟨⟨fun a u q => by rw [upd_ne (fun z => by rw [z, g0] at q; cases q)]; exact e.vw.vw a u q, e.vw.no, e.vw.ok.upd p1 hD⟩, e.h0, fun a h => ?_, e.len, fun i av hi => ?_, e.ow⟩
  · by_cases z : a = Da
    · rw [z, upd_same]; exact fun q => by cases q
    · rw [upd_ne z]; exact e.dom a h
  · obtain ⟨v, k1, k2⟩ := e.sl i av hi
    refine ⟨v, k1, ?_⟩
    by_cases z : i = j
    · subst z
      have : av = .own o := Option.some.inj (Option.some.inj (hi.symm.trans hj))
      subst this
      obtain ⟨l2, vs, rfl, q1, q2, q3, q4⟩ := k2
      have : l2 = l := by
        have := hs.symm.trans k1
        injection this with this
        injection this with this
        injection this with this
        exact this.symm
      subst this
      exact ⟨l2, vs, rfl, by rw [upd_ne hl]; exact q1, q2, q3, q4⟩
    · rcases only i av hi z with ⟨x, rfl⟩ | rfl
      · exact k2
      · exact k2
theorem s_retLcPop {ti : TI} {tk : TE} {v j : Nat} {ds0 : List PyData} (hj : L[j]? = some (some (.own (.lst ds0)))) (hvj : v ≠ j)
    (only : ∀ (i : Nat) av, L[i]? = some (some av) → i ≠ j → (∃ x, av = .d x) ∨ av = .pen) (nf : noFr L = true)
    (h : IT K pen H0 ti L fun xs => xs.length ≤ 100000 ∧ ∃ J : Nat → List PyData → List PyData → Prop, J 0 ds0 [] ∧
      (∀ (i : Nat) x ds acc, xs[i]? = some x → J i ds acc → E K pen H0 tk (((L.set j (some (.own (.lst ds)))).set v none).set v (some (.d x))) fun d => ∃ m : Nat, d = .int m ∧ m < 100000 ∧ ∃ y, ds[m]? = some y ∧ J (i + 1) (ds.eraseIdx m) (acc ++ [y])) ∧ (∀ ds acc, J xs.length ds acc → D.rt (.list acc)))
    (nfs : ∀ ds, noFr (L.set j (some (.own (.lst ds)))) = true := by intros; rfl) :
    S K pen H0 (tRet (tLc ti (gName v) tYes (tBM K "list" rPopAt (tVar j) (tCons tk tNil)) [v])) L D := fun σ G H N e _ n2 _ _ _ _ => h σ G H e _ fun It G1 H1 xs go w ⟨hn, J, j0, js, je⟩ => fun Dl hD => by
  have e1 := e.go go
  obtain ⟨l, ho, k1, k3, k6⟩ := e1.own hj
  have hl : l ≠ Dl := fun z => by rw [z, hD] at k3; cases k3
  have h0D : H0 Dl = none := by
    cases z : H0 Dl with
    | none => rfl
    | some o => exact absurd hD (e1.dom Dl (by rw [z]; exact fun z => by cases z))
  have g1D : G1 Dl = none := by
    cases q : G1 Dl with
    | none => rfl
    | some o => rw [e1.vw.vw _ _ q] at hD; cases hD
  have np : ¬ IsPn pen Dl := fun p => go.vw.ok.there p hD
  have hjl : j < L.length := (List.getElem?_eq_some_iff.mp hj).1
  have hjs : ∀ ds, (L.set j (some (.own (.lst ds))))[j]? = some (some (.own (.lst ds))) := fun ds => List.getElem?_set_self hjl
  have only' : ∀ (ds : List PyData) (i : Nat) av, (L.set j (some (.own (.lst ds))))[i]? = some (some av) → i ≠ j → (∃ x, av = .d x) ∨ av = .pen := fun ds i av hi hne => only i av (by rw [List.getElem?_set_ne (fun z => hne z.symm)] at hi; exact hi) hne
  refine ⟨fun i m H' => m = xs.length - i ∧ i ≤ xs.length ∧ ∃ G' us ds acc, Gx pen H0 G1 H1 G' H' ∧ Ev K pen H0 G' H' σ (L.set j (some (.own (.lst ds)))) ∧ H' Dl = some (.lst us) ∧ G' Dl = none ∧ DpAll K G' us acc ∧ J i ds acc ∧ acc.length ≤ i,
    ⟨xs.length, rfl, Nat.zero_le _, G1, [], ds0, [], ?_, ?_, upd_same, g1D, .nil, j0, Nat.le_refl _⟩, ?_⟩
  · exact ⟨Same.refl _, fun _ _ => rfl, fun a o p h q => by rw [upd_ne (fun z => h (by rw [z]; exact h0D))]; exact q⟩
  · rw [set_same hj]
    exact e1.aside hj k1 hl only h0D g1D e1.vw.ok hD
  rintro i m H' ⟨rfl, hi, G', us, ds, acc, gx, ev, d1, d2, d3, jj, al⟩
  obtain ⟨w1, w2⟩ := w G' H' gx.gg ev.vw
  by_cases hlt : i < xs.length
  · obtain ⟨q1, q2⟩ := w1 i _ (List.getElem?_eq_getElem hlt)
    refine .inr ⟨q1, fun H' => i + 1 ≤ xs.length ∧ ∃ G' us ds acc, Gx pen H0 G1 H1 G' H' ∧ Ev K pen H0 G' H' σ (L.set j (some (.own (.lst ds)))) ∧ H' Dl = some (.lst us) ∧ G' Dl = none ∧ DpAll K G' us acc ∧ J (i + 1) ds acc ∧ acc.length ≤ i + 1, fun H2 I2 => ⟨xs.length - (i + 1), by omega, rfl, I2⟩, fun u H2 hu => ?_⟩
    obtain ⟨G2, g2, du⟩ := q2 u H2 hu
    have e2 := ev.go g2
    refine ⟨wipe1 _ _ _, ?_⟩
    have e3 := (ev_wipe1 e2 v).set (i := v) du
    have sj : ((wipe σ [v]).set v (some u))[j]? = some (some (.ref l)) := by
      rw [List.getElem?_set_ne hvj]
      show (σ.set v none)[j]? = _
      rw [List.getElem?_set_ne hvj]
      exact k1
    obtain ⟨ho2, r1, r2⟩ := e2.ownAt (hjs ds) k1
    obtain ⟨vs2, rfl, r2⟩ := r2.lst
    show tBM K "list" rPopAt (tVar j) (tCons tk tNil) _ H2 _
    refine ⟨_, sj, .inl ⟨rfl, vs2, .inl (.inl r1)⟩, js i _ ds acc (List.getElem?_eq_getElem hlt) jj _ G2 H2 e3 _ fun uu d G3 H3 g3 d3' hm => ?_⟩
    obtain ⟨m, rfl, hm1, y, hy, jn⟩ := hm
    cases d3'
    have e4 := e2.go g3
    obtain ⟨ho3, t1, t2⟩ := e4.ownAt (hjs ds) k1
    obtain ⟨vs3, rfl, t2⟩ := t2.lst
    obtain ⟨yv, hyv, dy⟩ := dpa_get t2 hy
    have hml : m < vs3.length := (List.getElem?_eq_some_iff.mp hyv).1
    obtain ⟨p1, p2⟩ := e4.putOwn (nfs ds) (hjs ds) k1 (o' := .lst (ds.eraseIdx m)) (ho := .lst (vs3.eraseIdx m)) (dpa_erase m t2)
    rw [List.set_set] at p1
    have b1 : H3 Dl = some (.lst us) := g3.od Dl _ np (g2.od Dl _ np d1)
    have b2 : G3 Dl = none := ((g3.nw Dl (by rw [g2.od Dl _ np d1]; exact fun z => by cases z)).trans (g2.nw Dl (by rw [d1]; exact fun z => by cases z))).trans d2
    refine ⟨l, vs3, m, m, yv, rfl, rfl, t1, by omega, by omega, ?_, hyv, us, ?_, ?_, hlt, G3, us ++ [yv], ds.eraseIdx m, acc ++ [y], ?_, ?_, upd_same, b2, dpa_app (dpa_mono (g2.gg.trans g3.gg) _ _ d3) (.cons dy .nil), jn, ?_⟩
    · unfold seqIndex?
      simp
      omega
    · rw [upd_ne (fun z => hl z.symm)]; exact b1
    · exact Nat.lt_of_lt_of_le (by rw [dpa_len d3]; omega) (by decide : 100000 ≤ sizeLine)
    · refine ((gx.trans (ev.gx g2)).trans (e2.gx g3)).trans (p2.trans ⟨Same.refl _, fun _ _ => rfl, fun a o p h q => ?_⟩)
      rw [upd_ne (fun z => h (by rw [z]; exact h0D))]
      exact q
    · exact p1.aside (hjs _) k1 hl (only' _) h0D b2 go.vw.ok hD
    · rw [List.length_append]
      show acc.length + 1 ≤ i + 1
      omega
  · have e1' : i = xs.length := by omega
    subst e1'
    refine .inl ⟨w2, ?_⟩
    have s : Same G' (upd G' Dl (.lst us)) := fun a o q => by rw [upd_ne (ne_of_none q d2)]; exact q
    refine n2 (.ref Dl) (.list acc) (upd G' Dl (.lst us)) H' ((e.gx go).trans (gx.trans ⟨s, fun a h => upd_ne (fun z => h (by rw [z]; exact h0D)), fun _ _ _ _ q => q⟩)) ⟨fun a o q => ?_, fun a p => ?_, ev.vw.ok⟩ (.lst (.inl (.inl upd_same)) (dpa_mono s _ _ d3)) (je ds acc jj)
    · by_cases z : a = Dl
      · subst z
        rw [upd_same] at q
        rw [← q]
        exact d1
      · rw [upd_ne z] at q
        exact ev.vw.vw a o q
    · rw [upd_ne (fun z => np (by rw [← z]; exact p))]
      exact ev.vw.no a p
theorem kx_bm {X : Cx} {K : PySem.W.Frag} {o e : Expr} {es : List Expr} {to : TE} {t : TA} {name : Str} {apos cpos : Pos} {T id : String} {r : V → List V → Hp → VK → Prop} (h : X.K = K)
    (pa : PlainAttrs T) (slot : Slot T name id) (hty : typeOf (.builtin id) = pure (.type "method_descriptor")) (hm : MtR X id r) (ho : PE X o to) (ha : PA X (e :: es) t)
    (h1 : attributeBase o name X.env (eval o X.env) = eval o X.env := by rfl)
    (h2 : ((backTo cpos (starEach (e :: es) X.env)).all (fun x => !x.1) && (backToKw cpos (keywordEach [] X.env)).all (fun x => x.1.isSome) && decide ((e :: es).length + ([] : List Keyword).length + (if ([] : List Keyword).isEmpty then 0 else 1) < 30)) = true := by rfl)
    (h3 : (apos.endLine == cpos.line) = true := by rfl) (h4 : starEach (e :: es) X.env = (false, eval e X.env) :: starEach es X.env := by rfl) (h5 : (backTo cpos (starEach es X.env)).any (·.1) = false := by rfl) :
    PE X (.Call (.Attribute o name apos) (e :: es) [] cpos) (tBM K T r to t) := by
  subst h
  exact pe_bm pa slot hty hm ho ha h1 h2 h3 h4 h5
/-! defs to which the pen is handed and that tell a new object -/
def SpXPN {α : Type} (b : Bool) (K : PySem.W.Frag) (ts : List Addr) (Wf : α → Prop) (enc : α → List PyData) (res : α → OO → Prop) : Sp := fun vs H Q _ => ∃ (x : α) (p : Pn) (G : Hp) (us : List V), PK.Is b p.k ∧ vs = .ref p.a :: us ∧ Vw ⟨some p, ts⟩ G H ∧ DpAll K G us (enc x) ∧ Wf x ∧ ∀ l ho o G' H', Go ⟨some p, ts⟩ G H G' H' → H' l = some ho → G' l = none → H l = none → OwnOk K G' ho o → res x o → Q (.ref l) H'
theorem ek_callP {tl : TA} {Po : OO → Prop} {α : Type} {b : Bool} {p : Pn} {ts : List Addr} {Wf : α → Prop} {enc : α → List PyData} {res : α → OO → Prop} {X : XK} {i : Nat} (hi : L[i]? = some (some .pen)) (h : EA K ⟨some p, ts⟩ H0 tl L fun ds => ∃ x, ds = enc x ∧ Wf x ∧ ∀ o, res x o → Po o) (hk : PK.Is b p.k := by exact trivial) : EK K ⟨some p, ts⟩ H0 (tCall (SpXPN b K ts Wf enc res) [] X (tCons (tVar i) tl)) L Po := fun σ G H e Q q => by
  obtain ⟨v, hv, p', hp, rfl⟩ := e.sl i _ hi
  refine ⟨_, hv, h σ G H e _ fun vs ds G1 H1 go hd ⟨x, hx, h1, h2⟩ => ?_⟩
  cases hp
  refine ⟨x, p, G1, vs, hk, by rw [List.append_nil], go.vw, by rw [← hx]; exact hd, h1, fun l ho o G' H' go2 k1 k2 k3 k4 pp => ?_⟩
  refine q l ho o G' H' (go.trans go2) k1 k2 ?_ k4 (h2 o pp)
  cases z : H l with
  | none => rfl
  | some u => exact absurd k3 (go.dom (by rw [z]; exact fun z => by cases z))
theorem fnXPN {P : Program} {w : World} {mg : Str → Option Value} {base : Heap} {α : Type} {b : Bool} {x qual : Str} {st : Stmt} {f : Addr} {fd : FuncData} {N ps : List Str} {k : Nat} {ts : List Addr} {Wf : α → Prop} {enc : α → List PyData} {res : α → OO → Prop} (F : Fun K x qual st f fd) (S0 : FnScope N ps (defScope st)) (hN : ∃ x r, N = x :: r) (hl : ∀ x, Wf x → (enc x).length + 1 = ps.length)
    (hbody : ∀ (cdv : Value) (A : Around) (outer : List Env) (s : Shared) (H : Hp) (E : XK), Room k (A.deeper (envOfC qual (defScope st) s.heap.objs.size f cdv)) →
      ∃ t, PSs (cxOf CX0 P w K mg base N qual (defScope st) f cdv A outer s H E).nox (defBody st) t ∧ ∀ (p : Pn) x, PK.Is b p.k → Wf x → S K ⟨some p, ts⟩ H t (stP N (enc x)) { nx := fun _ => False, rt := fun _ => False, ro := res x }) : FnOk P w K mg base CX0 (k + 1) f fd ps (SpXPN b K ts Wf enc res) := by
  refine F.ok S0 (fun vs H Q E h => ?_) (fun cdv A outer s H vs Q E hr h => ?_)
  · obtain ⟨x, p, G, us, hk, rfl, _, h1, h2, _⟩ := h
    rw [List.length_cons, dpa_len h1]
    exact hl x h2
  · obtain ⟨x, p, G, us, hk, rfl, v, h1, h2, q⟩ := h
    obtain ⟨t, ht, hS⟩ := hbody cdv A outer s H E hr
    refine ⟨t, ht, hS p x hk h2 _ G H _ (ev_startP h1 v hN) (fun _ _ _ _ _ _ z => z.elim) (fun _ _ _ _ _ _ _ z => z.elim) (fun _ _ _ _ _ _ z => z.elim) (fun _ _ _ _ _ _ z => z.elim) (fun _ _ _ _ _ _ _ z => z.elim) (fun l ho o G' H' x vw k1 k2 k3 k4 p => ?_)⟩
    exact q l ho o G' H' ⟨x.gg, x.nw, fun a o hp e => x.od a o hp (by rw [e]; exact fun z => by cases z) e, vw⟩ k1 k3 k2 k4 p
/-- one's own list, so many times -/
theorem el_repOwn {tb : TE} {Pl : List PyData → Prop} {j : Nat} {ds : List PyData} (hj : L[j]? = some (some (.own (.lst ds)))) (h : E K pen H0 tb L fun b => ∃ k : Nat, b = .int k ∧ k ≤ 100000 ∧ ds.length * k ≤ 100000 ∧ Pl (List.replicate k ds).flatten) : EL K pen H0 (tOp rRep (tVar j) tb) L Pl := fun σ G H e Q q => by
  obtain ⟨l, ho, q1, q3, q6⟩ := e.own hj
  refine ⟨_, q1, h σ G H e _ fun w b G2 H2 g2 d2 ⟨k, hk, hkk, hz, p⟩ => ?_⟩
  subst hk
  cases d2
  have e2 := e.go g2
  obtain ⟨ho2, r3, r6⟩ := e2.ownAt hj q1
  obtain ⟨vs, rfl, r6⟩ := r6.lst
  have hlv := dpa_len r6
  refine ⟨l, k, vs, rfl, rfl, r3, by omega, by omega, Nat.le_trans (by rw [hlv]; exact hz) (by decide : 100000 ≤ sizeLine), fun r hr => ?_⟩
  have g3 := Go.hid e2.vw (o := .lst (List.replicate ((k : Int)).toNat vs).flatten) hr
  exact q r _ _ G2 _ (g2.trans g3) upd_same (e2.gnone hr) (EL.out e g2 hr) (dpa_rep r6 k) p
end Dl
set_option Elab.async false
set_option linter.all false
set_option maxRecDepth 100000
/-! sum(1 for x in .. if f(x)) -/
namespace Dl
open PySem PySem.Spec PyProof.Rows L2
variable {K : PySem.W.Frag} {pen : Pc} {H0 : Hp} {L : Lv} {D : Dn} {Pd : PyData → Prop} {ti : TI} {g : TG} {tt : TT} {te : TE}
theorem e_sumI {pn : Option Pn} {ts : List Addr} {Tb : Addr} {vs : List Nat} (f : PyData → Bool) (hT : Tb ∈ ts) (h : IT K ⟨pn, ts⟩ H0 ti L fun xs => xs.length ≤ 100000 ∧ (∀ (i : Nat) x, xs[i]? = some x → GTw K ⟨pn, ts⟩ H0 vs g x (wipeL L vs) fun L2 => ET K ⟨pn, ts⟩ H0 tt L2 fun b => b = f x ∧ (b = true → E K ⟨pn, ts⟩ H0 te L2 fun d => d = .int 1)) ∧ Pd (.int ((xs.filter f).length : Int))) :
    E K ⟨pn, ts⟩ H0 (_root_.Gx.tSum Tb ti g tt te vs) L Pd := fun σ G H e Q q => h σ G H e _ fun It G1 H1 xs gg w ⟨hn, js, je⟩ => by
  refine ⟨gg.vw.ok.2 Tb hT, fun H2 htab => ?_⟩
  have g2 := Go.tab gg.vw hT htab
  have hfl : (xs.filter f).length ≤ xs.length := List.length_filter_le ..
  refine ⟨fun i m n H' => m = xs.length - i ∧ i ≤ xs.length ∧ n = ((xs.drop i).filter f).length ∧ ∃ G', Go ⟨pn, ts⟩ G1 H2 G' H', (xs.filter f).length, by omega, ⟨xs.length, rfl, Nat.zero_le _, rfl, G1, .refl g2.vw⟩, ?_⟩
  rintro i m n H' ⟨rfl, hi, rfl, G', g'⟩
  have q' : ∀ v d G' H', Go ⟨pn, ts⟩ G1 H2 G' H' → Dp K G' v d → Pd d → Q v H' := fun v d G' H' g hd p => q v d G' H' ((gg.trans g2).trans g) hd p
  obtain ⟨w1, w2⟩ := w G' H' g'.gg g'.vw
  by_cases hlt : i < xs.length
  · obtain ⟨k1, k2⟩ := w1 i _ (List.getElem?_eq_getElem hlt)
    refine .inr ⟨k1, fun n' H3 => n' = ((xs.drop (i + 1)).filter f).length ∧ ∃ G', Go ⟨pn, ts⟩ G1 H2 G' H3, fun n' H3 ⟨k1, k2⟩ => ⟨xs.length - (i + 1), by omega, rfl, hlt, k1, k2⟩, fun y H3 hy => ?_⟩
    obtain ⟨G3, g3, d3⟩ := k2 y H3 hy
    have hdrop : ((xs.drop i).filter f).length = (if f xs[i] = true then 1 else 0) + ((xs.drop (i + 1)).filter f).length := by
      rw [List.drop_eq_getElem_cons hlt, List.filter_cons]
      split
      · rw [List.length_cons]; omega
      · omega
    refine js i _ (List.getElem?_eq_getElem hlt) (wipe σ vs) G3 H3 y (ev_wipe ((((e.go gg).go g2).go g').go g3) vs) d3 _ fun σ4 L4 ag e4 h4 => ⟨wipe_agree ag, ?_⟩
    refine h4 σ4 G3 H3 e4 _ fun b G4 H4 g4 ⟨hb, h5⟩ => ?_
    cases b with
    | false =>
      show _ ∧ _
      refine ⟨?_, G4, (g'.trans g3).trans g4⟩
      rw [hdrop, if_neg (by rw [← hb]; exact Bool.false_ne_true)]
      omega
    | true =>
      show te σ4 H4 _
      refine h5 rfl σ4 G4 H4 (e4.go g4) _ fun v d G5 H5 g5 d5 p5 => ?_
      subst p5
      cases d5
      refine ⟨rfl, _, ?_, rfl, G5, ((g'.trans g3).trans g4).trans g5⟩
      rw [hdrop, if_pos hb.symm]
      omega
  · have e1 : i = xs.length := by omega
    subst e1
    refine .inl ⟨w2, q' _ _ G' H' g' (.int _) ?_⟩
    rw [List.drop_length]
    show Pd (.int (((xs.filter f).length : Int) - ((0 : Nat) : Int)))
    rw [Int.natCast_zero, Int.sub_zero]
    exact je
theorem dpa_rng2 {G : Hp} (i j : Int) : DpAll K G (rgV i j) (rngL i (j - i).toNat) := by
  unfold rgV rngL
  induction List.range (j - i).toNat with
  | nil => exact .nil
  | cons a r ih => exact .cons (.int _) ih
theorem el_lstRg2 {ta tb : TE} {Pl : List PyData → Prop} (h : E K pen H0 ta L fun a => E K pen H0 tb L fun b => ∃ i j : Int, a = .int i ∧ b = .int j ∧ -100000 ≤ i ∧ i ≤ 100000 ∧ -100000 ≤ j ∧ j ≤ 100000 ∧ Pl (rngL i (j - i).toNat)) : EL K pen H0 (tLstRg (tRg2 ta tb)) L Pl := fun σ G H e Q q =>
  h σ G H e _ fun v a G1 H1 go hd h1 => h1 σ G1 H1 (e.go go) _ fun w b G2 H2 go2 hd2 ⟨i, j, ea, eb, z1, z2, z3, z4, p⟩ => by
    subst ea eb
    cases hd
    cases hd2
    refine ⟨i, j, rfl, rfl, ⟨by omega, by omega, by omega, by omega, by omega⟩, fun r hr => ?_⟩
    have e1 := (e.go go).go go2
    have g2 := Go.hid e1.vw (o := .lst (rgV i j)) hr
    exact q r _ _ G2 _ ((go.trans go2).trans g2) upd_same (e1.gnone hr) (EL.out e (go.trans go2) hr) (dpa_rng2 i j) p
end Dl
set_option Elab.async false
set_option linter.all false
set_option maxRecDepth 100000
/-! one's own list: pop at a place, insert; abs -/
namespace Dl
open PySem PySem.Spec PyProof.Rows L2
variable {K : PySem.W.Frag} {pen : Pc} {H0 : Hp} {L : Lv} {D : Dn} {te ta : TE} {P : PyData → Prop}
theorem s_popAtD {j : Nat} {ds : List PyData} (hj : L[j]? = some (some (.own (.lst ds)))) (h : E K pen H0 te L fun d => ∃ m : Nat, d = .int m ∧ m < ds.length ∧ m < 100000 ∧ D.nx (L.set j (some (.own (.lst (ds.eraseIdx m)))))) (nf : noFr L = true := by rfl) :
    S K pen H0 (tDrop (tBM K "list" rPopAt (tVar j) (tCons te tNil))) L D := fun σ G H N e n1 _ _ _ _ _ => by
  obtain ⟨l, ho, k1, k3, k6⟩ := e.own hj
  obtain ⟨vs, rfl, k6⟩ := k6.lst
  refine ⟨_, k1, .inl ⟨rfl, vs, .inl (.inl k3)⟩, h σ G H e _ fun v d G1 H1 g1 d1 ⟨m, hm, hml, hmz, p⟩ => ?_⟩
  subst hm
  cases d1
  have e1 := e.go g1
  obtain ⟨ho2, q3, q6⟩ := e1.ownAt hj k1
  obtain ⟨vs2, rfl, q6⟩ := q6.lst
  have hl := dpa_len q6
  obtain ⟨r1, r2⟩ := e1.putOwn nf hj k1 (o' := .lst (ds.eraseIdx m)) (ho := .lst (vs2.eraseIdx m)) (dpa_erase m q6)
  refine ⟨l, vs2, m, m, _, rfl, rfl, q3, by omega, by omega, ?_, List.getElem?_eq_getElem (by omega), n1 σ G1 _ _ ((e.gx g1).trans r2) r1 p⟩
  unfold seqIndex?
  simp
  omega
theorem s_insOwn {j : Nat} {ds : List PyData} (hj : L[j]? = some (some (.own (.lst ds)))) (hz : ds.length < 100000) (h : E K pen H0 ta L fun a => E K pen H0 te L fun d => ∃ m : Nat, a = .int m ∧ m < 100000 ∧ D.nx (L.set j (some (.own (.lst (ds.take m ++ [d] ++ ds.drop m)))))) (nf : noFr L = true := by rfl) :
    S K pen H0 (tDrop (tBM K "list" (fun x vs H Q => ∃ (l : Addr) (xs : List V) (i : Int) (y : V), x = .ref l ∧ vs = [.int i, y] ∧ H l = some (.lst xs) ∧ xs.length < sizeLine ∧ 0 ≤ i ∧ i < 2 ^ 63 ∧ Q .non (upd H l (.lst (xs.take i.toNat ++ [y] ++ xs.drop i.toNat)))) (tVar j) (tCons ta (tCons te tNil)))) L D := fun σ G H N e n1 _ _ _ _ _ => by
  obtain ⟨l, ho, k1, k3, k6⟩ := e.own hj
  obtain ⟨vs, rfl, k6⟩ := k6.lst
  refine ⟨_, k1, .inl ⟨rfl, vs, .inl (.inl k3)⟩, h σ G H e _ fun v a G1 H1 g1 d1 h1 => ?_⟩
  refine h1 σ G1 H1 (e.go g1) _ fun u d G2 H2 g2 d2 ⟨m, hm, hmz, p⟩ => ?_
  subst hm
  cases d1
  have e2 := (e.go g1).go g2
  obtain ⟨ho2, q3, q6⟩ := e2.ownAt hj k1
  obtain ⟨vs2, rfl, q6⟩ := q6.lst
  have hl := dpa_len q6
  obtain ⟨r1, r2⟩ := e2.putOwn nf hj k1 (o' := .lst (ds.take m ++ [d] ++ ds.drop m)) (ho := .lst (vs2.take m ++ [u] ++ vs2.drop m)) (dpa_app (dpa_app (dpa_take m q6) (.cons d2 .nil)) (dpa_drop m q6))
  exact ⟨l, vs2, m, u, rfl, rfl, q3, Nat.lt_of_lt_of_le (by omega) (by decide : 100000 ≤ sizeLine), by omega, by omega, n1 σ G2 _ _ (((e.gx g1).trans ((e.go g1).gx g2)).trans r2) r1 p⟩
theorem c_abs {i : Int} (p : P (.int (if i < 0 then -i else i))) : RCd K pen (fun xs H Q => ∃ i, xs = [.int i] ∧ Q (.int (if i < 0 then -i else i)) H) [.int i] P := fun vs G H v hv Q q => by
  cases hv with
  | cons h1 h2 =>
    cases h2
    cases h1
    exact ⟨i, rfl, q _ _ G H (.refl v) (.int _) p⟩
end Dl
set_option Elab.async false
set_option linter.all false
set_option maxRecDepth 100000
/-! programs, stands, ticks as plain data -/
namespace Wm
open PySem Dl
inductive Row where
  | set (p v : Nat) | add (p q : Nat) | jump (p k : Nat) | say (p : Nat) | take (p : Nat) | fin
def Row.D : Row → PyData
  | .set p v => .tuple [.str "set", .int p, .int v]
  | .add p q => .tuple [.str "add", .int p, .int q]
  | .jump p k => .tuple [.str "jump", .int p, .int k]
  | .say p => .tuple [.str "say", .int p]
  | .take p => .tuple [.str "take", .int p]
  | .fin => .tuple [.str "end"]
def Row.Ok (n w many : Nat) : Row → Prop
  | .set p v => p < n ∧ v < w
  | .add p q => p < n ∧ q < n
  | .jump p k => p < n ∧ k < many
  | .say p => p < n
  | .take p => p < n
  | .fin => True
structure Prog where
  n : Nat
  w : Nat
  rows : List Row
structure Prog.Ok (x : Prog) : Prop where
  n1 : 1 ≤ x.n
  n2 : x.n ≤ 12
  w1 : 2 ≤ x.w
  w2 : x.w ≤ 100
  r1 : 1 ≤ x.rows.length
  r2 : x.rows.length ≤ 20
  rs : ∀ r ∈ x.rows, r.Ok x.n x.w x.rows.length
abbrev Prog.D (x : Prog) : PyData := .tuple [.int x.n, .int x.w, .tuple (x.rows.map Row.D)]
structure Stand where
  at_ : Nat
  sh : List Nat
structure Stand.Ok (x : Prog) (s : Stand) : Prop where
  a1 : s.at_ ≤ x.rows.length
  s1 : s.sh.length = x.n
  s2 : ∀ v ∈ s.sh, v < x.w
abbrev natD (v : Nat) : PyData := .int (v : Int)
def natsD (l : List Nat) : List PyData := l.map natD
abbrev Stand.D (s : Stand) : PyData := .tuple [.int s.at_, .tuple (natsD s.sh)]
structure Told where
  st : Stand
  word : Str
  num : Option Nat
  reads : List Nat
  writes : List Nat
def numD : Option Nat → PyData
  | none => .none
  | some v => .int v
abbrev Told.D (t : Told) : PyData := .tuple [t.st.D, .str t.word, numD t.num, .tuple (natsD t.reads), .tuple (natsD t.writes)]
def rowAt (x : Prog) (a : Nat) : Row := x.rows.getD a .fin
def rise (p q : Nat) : List Nat := if p = q then [p] else [min p q, max p q]
def tickF (x : Prog) (s : Stand) (ls : List Nat) : Told := match rowAt x s.at_ with
  | .set p v => ⟨⟨s.at_ + 1, s.sh.set p v⟩, "did", none, [], [p]⟩
  | .add p q => ⟨⟨s.at_ + 1, s.sh.set p ((s.sh.getD p 0 + s.sh.getD q 0) % x.w)⟩, "did", none, rise p q, [p]⟩
  | .jump p k => ⟨⟨if s.sh.getD p 0 = 0 then k else s.at_ + 1, s.sh⟩, "did", none, [p], []⟩
  | .say p => ⟨⟨s.at_ + 1, s.sh⟩, "said", some (s.sh.getD p 0), [p], []⟩
  | .take p => (match ls with
    | [] => ⟨s, "waits", none, [], []⟩
    | l :: _ => ⟨⟨s.at_ + 1, s.sh.set p l⟩, "took", some l, [], [p]⟩)
  | .fin => ⟨s, "ended", none, [], []⟩
theorem natsD_len (l : List Nat) : (natsD l).length = l.length := List.length_map _
theorem natsD_get {l : List Nat} {p : Nat} (h : p < l.length) : (natsD l)[p]? = some (natD (l.getD p 0)) := by
  unfold natsD
  rw [List.getElem?_map, List.getElem?_eq_getElem h, List.getD_eq_getElem?_getD, List.getElem?_eq_getElem h]
  rfl
theorem natsD_at {l : List Nat} {p : Nat} (h : p < l.length) : L2.atI (natsD l) (p : Int) = some (.int ((l.getD p 0 : Nat) : Int)) := L2.atI_nat (natsD_get h)
theorem cut_to (xs : List PyData) (p : Nat) : cutD xs none (some (p : Int)) = xs.take p := by
  unfold cutD
  rw [HT.sIx_none, HT.sIx_nat]
  show (xs.drop 0).take (min p xs.length - 0) = xs.take p
  rw [Nat.sub_zero, List.drop_zero]
  by_cases h : p ≤ xs.length
  · rw [Nat.min_eq_left h]
  · rw [Nat.min_eq_right (by omega), List.take_length, List.take_of_length_le (by omega)]
theorem cut_from (xs : List PyData) (p : Nat) : cutD xs (some (p : Int)) none = xs.drop p := by
  unfold cutD
  rw [HT.sIx_none, HT.sIx_nat]
  by_cases h : p ≤ xs.length
  · rw [Nat.min_eq_left h, List.take_of_length_le]
    rw [List.length_drop]; omega
  · rw [Nat.min_eq_right (by omega), Nat.sub_self, List.take_zero, List.drop_eq_nil_of_le (by omega)]
theorem set_parts {l : List Nat} {p v : Nat} (h : p < l.length) : (natsD l).take p ++ [natD v] ++ (natsD l).drop (p + 1) = natsD (l.set p v) := by
  unfold natsD
  rw [← List.map_take, ← List.map_drop, List.set_eq_take_append_cons_drop, if_pos h, List.map_append, List.map_cons, List.append_assoc]
  rfl
theorem natsD_set (l : List Nat) (p v : Nat) : (natsD l).set p (natD v) = natsD (l.set p v) := by
  unfold natsD
  rw [List.map_set]
end Wm
set_option Elab.async false
set_option linter.all false
set_option maxRecDepth 100000
/-! what is a program, what is a stand, over plain data -/
namespace Wm
open PySem Dl
def whole : PyData → Bool
  | .int _ => true
  | _ => false
def wholeIn (d : PyData) (lo hi : Int) : Bool := match d with
  | .int i => decide (lo ≤ i) && decide (i ≤ hi)
  | _ => false
def tupOf (d : PyData) (m : Int) : Bool := match d with
  | .tuple ds => decide ((ds.length : Int) = m)
  | _ => false
def lims (n w m : Int) : List (Str × List Int) := [("set", [n, w]), ("add", [n, n]), ("jump", [n, m]), ("say", [n]), ("take", [n]), ("end", [])]
def intsD (l : List Int) : List PyData := l.map .int
def limsD (n w m : Int) : List (Str × PyData) := [("set", .tuple [.int n, .int w]), ("add", .tuple [.int n, .int n]), ("jump", .tuple [.int n, .int m]), ("say", .tuple [.int n]), ("take", .tuple [.int n]), ("end", .tuple [])]
theorem limsD_eq (n w m : Int) : limsD n w m = (lims n w m).map fun p => (p.1, PyData.tuple (intsD p.2)) := rfl
theorem lookup_map {β γ : Type} (f : β → γ) (x : Str) : ∀ l : List (Str × β), (l.map fun p => (p.1, f p.2)).lookup x = (l.lookup x).map f
  | [] => rfl
  | (y, b) :: l => by
    rw [List.map_cons, List.lookup_cons, List.lookup_cons]
    cases x == y with
    | true => rfl
    | false => exact lookup_map f x l
theorem limsD_get (n w m : Int) (x : Str) : (limsD n w m).lookup x = ((lims n w m).lookup x).map fun l => PyData.tuple (intsD l) := by rw [limsD_eq, lookup_map (fun l => PyData.tuple (intsD l))]
def partB (x y : PyData) : Bool := match y with
  | .int l => wholeIn x 0 (l - 1)
  | _ => false
def restB (rest : List PyData) (o : Option (List Int)) : Bool := match o with
  | some ls => decide (rest.length = ls.length) && (rest.zip (intsD ls)).all fun p => partB p.1 p.2
  | none => false
def rowB (d : PyData) (n w m : Int) : Bool := match d with
  | .tuple (.str word :: rest) => restB rest ((lims n w m).lookup word)
  | _ => false
def progB3 (a b c : PyData) : Bool := match a, b, c with
  | .int n, .int w, .tuple rs => (decide (1 ≤ n) && decide (n ≤ 12)) && (decide (2 ≤ w) && decide (w ≤ 100)) && (decide (1 ≤ (rs.length : Int)) && decide ((rs.length : Int) ≤ 20)) && rs.all fun r => rowB r n w rs.length
  | _, _, _ => false
def progB (d : PyData) : Bool := match d with
  | .tuple [a, b, c] => progB3 a b c
  | _ => false
def sheetsB (x : Prog) (a s : PyData) : Bool := match s with
  | .tuple ss => wholeIn a 0 x.rows.length && decide ((ss.length : Int) = x.n) && ss.all fun s => wholeIn s 0 (x.w - 1)
  | _ => false
def standB (x : Prog) (d : PyData) : Bool := match d with
  | .tuple [a, s] => sheetsB x a s
  | _ => false
theorem whole_nat (v : Nat) (m : Int) (h : (v : Int) ≤ m) : wholeIn (.int v) 0 m = true := by
  show (decide ((0 : Int) ≤ v) && decide ((v : Int) ≤ m)) = true
  rw [decide_eq_true (by omega), decide_eq_true h]
  rfl
theorem row_B {r : Row} {n w m : Nat} (h : r.Ok n w m) : rowB r.D n w m = true := by
  cases r with
  | set p v => obtain ⟨h1, h2⟩ := h; show (true && (wholeIn (.int p) 0 ((n : Int) - 1) && (wholeIn (.int v) 0 ((w : Int) - 1) && true))) = true; rw [whole_nat _ _ (by omega), whole_nat _ _ (by omega)]; rfl
  | add p v => obtain ⟨h1, h2⟩ := h; show (true && (wholeIn (.int p) 0 ((n : Int) - 1) && (wholeIn (.int v) 0 ((n : Int) - 1) && true))) = true; rw [whole_nat _ _ (by omega), whole_nat _ _ (by omega)]; rfl
  | jump p v => obtain ⟨h1, h2⟩ := h; show (true && (wholeIn (.int p) 0 ((n : Int) - 1) && (wholeIn (.int v) 0 ((m : Int) - 1) && true))) = true; rw [whole_nat _ _ (by omega), whole_nat _ _ (by omega)]; rfl
  | say p => have h1 : p < n := h; show (true && (wholeIn (.int p) 0 ((n : Int) - 1) && true)) = true; rw [whole_nat _ _ (by omega)]; rfl
  | take p => have h1 : p < n := h; show (true && (wholeIn (.int p) 0 ((n : Int) - 1) && true)) = true; rw [whole_nat _ _ (by omega)]; rfl
  | fin => rfl
theorem prog_B {x : Prog} (h : x.Ok) : progB x.D = true := by
  obtain ⟨h1, h2, h3, h4, h5, h6, h7⟩ := h
  show ((decide (1 ≤ (x.n : Int)) && decide ((x.n : Int) ≤ 12)) && (decide (2 ≤ (x.w : Int)) && decide ((x.w : Int) ≤ 100)) && (decide (1 ≤ ((x.rows.map Row.D).length : Int)) && decide (((x.rows.map Row.D).length : Int) ≤ 20)) && (x.rows.map Row.D).all fun r => rowB r x.n x.w (x.rows.map Row.D).length) = true
  rw [List.length_map, decide_eq_true (by omega), decide_eq_true (by omega), decide_eq_true (by omega), decide_eq_true (by omega), decide_eq_true (by omega), decide_eq_true (by omega)]
  show ((x.rows.map Row.D).all fun r => rowB r x.n x.w x.rows.length) = true
  rw [List.all_eq_true]
  intro d hd
  obtain ⟨r, hr, rfl⟩ := List.mem_map.mp hd
  exact row_B (h7 r hr)
theorem stand_B {x : Prog} {s : Stand} (h : s.Ok x) : standB x s.D = true := by
  obtain ⟨h1, h2, h3⟩ := h
  show (wholeIn (.int s.at_) 0 x.rows.length && decide (((natsD s.sh).length : Int) = x.n) && (natsD s.sh).all fun s => wholeIn s 0 ((x.w : Int) - 1)) = true
  rw [natsD_len, whole_nat _ _ (by omega), decide_eq_true (by omega)]
  show ((natsD s.sh).all fun s => wholeIn s 0 ((x.w : Int) - 1)) = true
  rw [List.all_eq_true]
  intro d hd
  obtain ⟨v, hv, rfl⟩ := List.mem_map.mp hd
  have := h3 v hv
  exact whole_nat _ _ (by omega)
theorem wholeIn_int {d : PyData} {lo hi : Int} (h : wholeIn d lo hi = true) : ∃ i, d = .int i ∧ lo ≤ i ∧ i ≤ hi := by
  cases d with
  | int i =>
    have h : (decide (lo ≤ i) && decide (i ≤ hi)) = true := h
    rw [Bool.and_eq_true] at h
    exact ⟨i, rfl, of_decide_eq_true h.1, of_decide_eq_true h.2⟩
  | _ => cases h
theorem progB_no1 {a b c : PyData} (h : wholeIn a 1 12 = false) : progB (.tuple [a, b, c]) = false := by
  cases a <;> try rfl
  cases b <;> try rfl
  cases c <;> try rfl
  rename_i n w rs
  show (wholeIn (.int n) 1 12 && _ && _ && _) = false
  rw [h, Bool.false_and, Bool.false_and, Bool.false_and]
theorem progB_no2 {n : Int} {b c : PyData} (h : wholeIn b 2 100 = false) : progB (.tuple [.int n, b, c]) = false := by
  cases b <;> try rfl
  cases c <;> try rfl
  rename_i w rs
  show (_ && wholeIn (.int w) 2 100 && _ && _) = false
  rw [h, Bool.and_false, Bool.false_and, Bool.false_and]
theorem progB_yes {n w : Int} {rs : List PyData} (h1 : wholeIn (.int n) 1 12 = true) (h2 : wholeIn (.int w) 2 100 = true) : progB (.tuple [.int n, .int w, .tuple rs]) = ((decide (1 ≤ (rs.length : Int)) && decide ((rs.length : Int) ≤ 20)) && rs.all fun r => rowB r n w rs.length) := by
  show (wholeIn (.int n) 1 12 && wholeIn (.int w) 2 100 && (decide (1 ≤ (rs.length : Int)) && decide ((rs.length : Int) ≤ 20)) && rs.all fun r => rowB r n w rs.length) = _
  rw [h1, h2]
  rfl
theorem part_in (i m : Int) : wholeIn (.int i) 0 (m - 1) = (decide (0 ≤ i) && decide (i < m)) := by
  show (decide (0 ≤ i) && decide (i ≤ m - 1)) = _
  rw [show decide (i ≤ m - 1) = decide (i < m) from decide_eq_decide.mpr (by omega)]
theorem all_not (f : PyData → Bool) : ∀ l : List PyData, (!(l.map f).any (!·)) = l.all f
  | [] => rfl
  | a :: l => by
    rw [List.map_cons, List.any_cons, List.all_cons, ← all_not f l, Bool.not_or, Bool.not_not]
end Wm
set_option Elab.async false
set_option linter.all false
set_option maxRecDepth 100000
/-! rulebooks as plain data -/
namespace Wm
open PySem Dl
def isBl : PyData → Bool
  | .bool _ => true
  | _ => false
def houseB : PyData → Bool
  | .tuple ds => (decide (1 ≤ (ds.length : Int)) && decide ((ds.length : Int) ≤ 50)) && ds.all isBl
  | _ => false
def letB (d : PyData) (letters : Int) : Bool := isNone d || wholeIn d 0 (letters - 1)
def partsB (h a he t s : PyData) (lo ln : Int) (letters : Int) : Bool :=
  match h with
  | .int i => (decide (0 ≤ i) && decide (i ≤ 1)) && ((wholeIn a 0 ((if i = 1 then ln else lo) - 1) && wholeIn t 0 ((if i = 1 then ln else lo) - 1)) && (letB he letters && letB s letters))
  | _ => false
def ruleB (d : PyData) (lo ln letters : Int) : Bool := match d with
  | .tuple [h, a, he, t, s] => partsB h a he t s lo ln letters
  | _ => false
def rulesB (r : PyData) (lo ln letters : Int) : Bool := match r with
  | .tuple rs => decide ((rs.length : Int) ≤ 100) && rs.all fun x => ruleB x lo ln letters
  | _ => false
def lenD : PyData → Int
  | .tuple ds => ds.length
  | _ => 0
def intD : PyData → Int
  | .int i => i
  | _ => 0
def bookB (d : PyData) : Bool := match d with
  | .tuple [o, n, l, r] => houseB o && (houseB n && (wholeIn l 0 25 && rulesB r (lenD o) (lenD n) (intD l)))
  | _ => false
end Wm
set_option Elab.async false
set_option linter.all false
set_option maxRecDepth 100000
namespace K32
open PySem PySem.Spec PyProof.Rows L2 Dl Wm
def topS (i : Nat) : Stmt := PySem.Challenge.pw_warmove_k32_what_is_a_rulebook.main.body.getD i (.Pass ⟨0, 0, 0, 0⟩)
abbrev s_is_whole : Stmt := topS 1
theorem sc_is_whole : FnScope ["thing"] ["thing"] (defScope s_is_whole) := ⟨rfl, rfl, rfl, by decide +kernel, rfl, by decide +kernel, by decide +kernel⟩
abbrev s_is_whole_within : Stmt := topS 2
theorem sc_is_whole_within : FnScope ["thing", "least", "most"] ["thing", "least", "most"] (defScope s_is_whole_within) := ⟨rfl, rfl, rfl, by decide +kernel, rfl, by decide +kernel, by decide +kernel⟩
abbrev s_is_tuple_of : Stmt := topS 3
theorem sc_is_tuple_of : FnScope ["thing", "many"] ["thing", "many"] (defScope s_is_tuple_of) := ⟨rfl, rfl, rfl, by decide +kernel, rfl, by decide +kernel, by decide +kernel⟩
abbrev s_is_house : Stmt := topS 8
theorem sc_is_house : FnScope ["thing", "runs"] ["thing"] (defScope s_is_house) := ⟨rfl, rfl, rfl, by decide +kernel, rfl, by decide +kernel, by decide +kernel⟩
abbrev s_is_letter_or_none : Stmt := topS 9
theorem sc_is_letter_or_none : FnScope ["thing", "letters"] ["thing", "letters"] (defScope s_is_letter_or_none) := ⟨rfl, rfl, rfl, by decide +kernel, rfl, by decide +kernel, by decide +kernel⟩
abbrev s_is_rule : Stmt := topS 10
theorem sc_is_rule : FnScope ["thing", "old", "new", "letters", "house", "at", "heard", "to", "said", "last"] ["thing", "old", "new", "letters"] (defScope s_is_rule) := ⟨rfl, rfl, rfl, by decide +kernel, rfl, by decide +kernel, by decide +kernel⟩
abbrev s_is_rulebook : Stmt := topS 11
theorem sc_is_rulebook : FnScope ["thing", "rules", "letters", "new", "old", "rule"] ["thing"] (defScope s_is_rulebook) := ⟨rfl, rfl, rfl, by decide +kernel, rfl, by decide +kernel, by decide +kernel⟩
abbrev s_law_stir : Stmt := topS 13
theorem sc_law_stir : FnScope ["cell", "k", "one"] ["cell", "k"] (defScope s_law_stir) := ⟨rfl, rfl, rfl, by decide +kernel, rfl, by decide +kernel, by decide +kernel⟩
abbrev s_law_some : Stmt := topS 14
theorem sc_law_some : FnScope ["cell", "many", "found", "left", "great", "k"] ["cell", "many"] (defScope s_law_some) := ⟨rfl, rfl, rfl, by decide +kernel, rfl, by decide +kernel, by decide +kernel⟩
abbrev s_law_cell : Stmt := topS 15
theorem sc_law_cell : FnScope ["script", "k"] ["script", "k"] (defScope s_law_cell) := ⟨rfl, rfl, rfl, by decide +kernel, rfl, by decide +kernel, by decide +kernel⟩
abbrev s_law_chain : Stmt := topS 16
theorem sc_law_chain : FnScope ["turns", "letters", "rules", "turn", "giver", "letter"] ["turns", "letters"] (defScope s_law_chain) := ⟨rfl, rfl, rfl, by decide +kernel, rfl, by decide +kernel, by decide +kernel⟩
abbrev s_law_rule : Stmt := topS 17
theorem sc_law_rule : FnScope ["some", "many", "letters", "house", "heard", "said"] ["some", "many", "letters"] (defScope s_law_rule) := ⟨rfl, rfl, rfl, by decide +kernel, rfl, by decide +kernel, by decide +kernel⟩
abbrev s_law_book : Stmt := topS 18
theorem sc_law_book : FnScope ["script", "some", "turns", "letters", "rules", "many", "k", "cell", "one", "old", "new", "stand"] ["script"] (defScope s_law_book) := ⟨rfl, rfl, rfl, by decide +kernel, rfl, by decide +kernel, by decide +kernel⟩
abbrev s_law_spoilt_rule : Stmt := topS 19
theorem sc_law_spoilt_rule : FnScope ["book", "rule", "some", "house", "at", "heard", "to", "said", "many", "wrong"] ["book", "rule", "some"] (defScope s_law_spoilt_rule) := ⟨rfl, rfl, rfl, by decide +kernel, rfl, by decide +kernel, by decide +kernel⟩
abbrev s_law_spoilt : Stmt := topS 20
theorem sc_law_spoilt : FnScope ["book", "some", "old", "new", "letters", "rules", "way", "at", "other", "wrong"] ["book", "some"] (defScope s_law_spoilt) := ⟨rfl, rfl, rfl, by decide +kernel, rfl, by decide +kernel, by decide +kernel⟩
abbrev s_law : Stmt := topS 21
theorem sc_law : FnScope ["script", "book", "k", "stay", "wide", "stays", "one"] ["script"] (defScope s_law) := ⟨rfl, rfl, rfl, by decide +kernel, rfl, by decide +kernel, by decide +kernel⟩
structure Tx (K : PySem.W.Frag) (mg : Str → Option Value) (base : Heap) where
  ts : List Addr
  f_is_whole : Addr
  d_is_whole : FuncData
  F_is_whole : Fun K "is_whole" "is_whole" s_is_whole f_is_whole d_is_whole
  b_is_whole : Binds K d_is_whole ["thing"] []
  g_is_whole : mg "is_whole" = some (.ref f_is_whole)
  f_is_whole_within : Addr
  d_is_whole_within : FuncData
  F_is_whole_within : Fun K "is_whole_within" "is_whole_within" s_is_whole_within f_is_whole_within d_is_whole_within
  b_is_whole_within : Binds K d_is_whole_within ["thing", "least", "most"] []
  g_is_whole_within : mg "is_whole_within" = some (.ref f_is_whole_within)
  f_is_tuple_of : Addr
  d_is_tuple_of : FuncData
  F_is_tuple_of : Fun K "is_tuple_of" "is_tuple_of" s_is_tuple_of f_is_tuple_of d_is_tuple_of
  b_is_tuple_of : Binds K d_is_tuple_of ["thing", "many"] []
  g_is_tuple_of : mg "is_tuple_of" = some (.ref f_is_tuple_of)
  f_is_house : Addr
  k_is_house : Addr
  p_is_house : Addr
  d_is_house : FuncData
  F_is_house : FunC K "is_house" "is_house" s_is_house f_is_house d_is_house k_is_house
  b_is_house : Binds K d_is_house ["thing"] []
  g_is_house : mg "is_house" = some (.ref f_is_house)
  tb_is_house : GxR.TabB base mg k_is_house p_is_house
  ti_is_house : p_is_house ∈ ts
  f_is_letter_or_none : Addr
  d_is_letter_or_none : FuncData
  F_is_letter_or_none : Fun K "is_letter_or_none" "is_letter_or_none" s_is_letter_or_none f_is_letter_or_none d_is_letter_or_none
  b_is_letter_or_none : Binds K d_is_letter_or_none ["thing", "letters"] []
  g_is_letter_or_none : mg "is_letter_or_none" = some (.ref f_is_letter_or_none)
  f_is_rule : Addr
  d_is_rule : FuncData
  F_is_rule : Fun K "is_rule" "is_rule" s_is_rule f_is_rule d_is_rule
  b_is_rule : Binds K d_is_rule ["thing", "old", "new", "letters"] []
  g_is_rule : mg "is_rule" = some (.ref f_is_rule)
  f_is_rulebook : Addr
  k_is_rulebook : Addr
  p_is_rulebook : Addr
  d_is_rulebook : FuncData
  F_is_rulebook : FunC K "is_rulebook" "is_rulebook" s_is_rulebook f_is_rulebook d_is_rulebook k_is_rulebook
  b_is_rulebook : Binds K d_is_rulebook ["thing"] []
  g_is_rulebook : mg "is_rulebook" = some (.ref f_is_rulebook)
  tb_is_rulebook : GxR.TabB base mg k_is_rulebook p_is_rulebook
  ti_is_rulebook : p_is_rulebook ∈ ts
  f_law_stir : Addr
  d_law_stir : FuncData
  F_law_stir : Fun K "_law_stir" "_law_stir" s_law_stir f_law_stir d_law_stir
  b_law_stir : Binds K d_law_stir ["cell", "k"] []
  g_law_stir : mg "_law_stir" = some (.ref f_law_stir)
  f_law_some : Addr
  d_law_some : FuncData
  F_law_some : Fun K "_law_some" "_law_some" s_law_some f_law_some d_law_some
  b_law_some : Binds K d_law_some ["cell", "many"] []
  g_law_some : mg "_law_some" = some (.ref f_law_some)
  f_law_cell : Addr
  d_law_cell : FuncData
  F_law_cell : Fun K "_law_cell" "_law_cell" s_law_cell f_law_cell d_law_cell
  b_law_cell : Binds K d_law_cell ["script", "k"] []
  g_law_cell : mg "_law_cell" = some (.ref f_law_cell)
  f_law_chain : Addr
  d_law_chain : FuncData
  F_law_chain : Fun K "_law_chain" "_law_chain" s_law_chain f_law_chain d_law_chain
  b_law_chain : Binds K d_law_chain ["turns", "letters"] []
  g_law_chain : mg "_law_chain" = some (.ref f_law_chain)
  f_law_rule : Addr
  d_law_rule : FuncData
  F_law_rule : Fun K "_law_rule" "_law_rule" s_law_rule f_law_rule d_law_rule
  b_law_rule : Binds K d_law_rule ["some", "many", "letters"] []
  g_law_rule : mg "_law_rule" = some (.ref f_law_rule)
  f_law_book : Addr
  d_law_book : FuncData
  F_law_book : Fun K "_law_book" "_law_book" s_law_book f_law_book d_law_book
  b_law_book : Binds K d_law_book ["script"] []
  g_law_book : mg "_law_book" = some (.ref f_law_book)
  f_law_spoilt_rule : Addr
  d_law_spoilt_rule : FuncData
  F_law_spoilt_rule : Fun K "_law_spoilt_rule" "_law_spoilt_rule" s_law_spoilt_rule f_law_spoilt_rule d_law_spoilt_rule
  b_law_spoilt_rule : Binds K d_law_spoilt_rule ["book", "rule", "some"] []
  g_law_spoilt_rule : mg "_law_spoilt_rule" = some (.ref f_law_spoilt_rule)
  f_law_spoilt : Addr
  d_law_spoilt : FuncData
  F_law_spoilt : Fun K "_law_spoilt" "_law_spoilt" s_law_spoilt f_law_spoilt d_law_spoilt
  b_law_spoilt : Binds K d_law_spoilt ["book", "some"] []
  g_law_spoilt : mg "_law_spoilt" = some (.ref f_law_spoilt)
  m_abs : mg "abs" = none
  m_all : mg "all" = none
  m_bool : mg "bool" = none
  m_enumerate : mg "enumerate" = none
  m_int : mg "int" = none
  m_isinstance : mg "isinstance" = none
  m_len : mg "len" = none
  m_list : mg "list" = none
  m_range : mg "range" = none
  m_tuple : mg "tuple" = none
  t_MOST_STANDS : Tok
  c_MOST_STANDS : mg "MOST_STANDS" = some (.int 50 t_MOST_STANDS)
  t_MOST_LETTERS : Tok
  c_MOST_LETTERS : mg "MOST_LETTERS" = some (.int 25 t_MOST_LETTERS)
  t_MOST_RULES : Tok
  c_MOST_RULES : mg "MOST_RULES" = some (.int 100 t_MOST_RULES)

local macro_rules | `(tactic| walk_at "e") => `(tactic| first
  | ((with_reducible refine e_var (by with_unfolding_all exact rfl) ?_))
  | with_reducible refine e_int ?_
  | with_reducible refine e_str ?_
  | with_reducible refine e_bl ?_
  | with_reducible refine e_non ?_
  | ((with_reducible refine e_pen (by with_unfolding_all exact rfl) (Or.inr rfl) ?_); intro z hz)
  | ((with_reducible refine e_pen (by with_unfolding_all exact rfl) (Or.inl rfl) ?_); intro z hz)
  | ((with_reducible refine e_penIx (by with_unfolding_all exact rfl) ?_))
  | ((with_reducible refine e_spr (by with_unfolding_all exact rfl) ?_); intro z)
  | with_reducible refine e_op ?_
  | with_reducible refine e_tup ?_
  | with_reducible refine e_lst ?_
  | with_reducible refine ea_cons ?_
  | with_reducible refine ea_nil ?_
  | ((with_reducible refine e_penLen (by with_unfolding_all exact rfl) ?_))
  | ((with_reducible refine e_lenOwn (by with_unfolding_all exact rfl) ?_))
  | ((with_reducible refine e_tupOwn (by with_unfolding_all exact rfl) ?_))
  | ((with_reducible refine s_aug (by with_unfolding_all exact rfl) ?_); (try dsimp only [List.set]))
  | with_reducible refine e_callXF ?_
  | with_reducible refine r_ipI ?_
  | with_reducible refine e_un ?_
  | with_reducible refine r_neg ?_
  | with_reducible refine gws_cons ?_
  | with_reducible refine gws_nil ?_
  | with_reducible refine gw_tup rfl ?_
  | ((with_reducible refine gw_name (by decide) ?_); (try dsimp only [List.set]))
  | with_reducible refine e_isI ?_
  | with_reducible refine e_isB ?_
  | with_reducible refine e_isS ?_
  | with_reducible refine e_isTu ?_
  | with_reducible refine e_isL ?_
  | with_reducible refine e_cb ?_
  | with_reducible refine e_sl ?_
  | with_reducible refine eo_none ?_
  | with_reducible refine eo_some ?_
  | with_reducible refine et_test ?_
  | with_reducible refine et_B ?_
  | with_reducible refine et_and ?_
  | with_reducible refine et_or ?_
  | with_reducible refine et_not ?_
  | with_reducible refine et_yes ?_
  | with_reducible refine e_andV ?_
  | with_reducible refine e_orV ?_
  | with_reducible refine e_notV ?_
  | with_reducible refine e_if ?_
  | with_reducible refine e_chain ?_
  | with_reducible refine e_callX ?_
  | ((with_reducible refine e_callXP (by with_unfolding_all exact rfl) ?_ (by with_unfolding_all exact trivial)))
  | ((with_reducible refine s_seq ?_); (try dsimp only [List.set]))
  | with_reducible refine s_next ?_
  | with_reducible refine s_ret ?_
  | ((with_reducible refine s_pen (by with_unfolding_all exact rfl) (Or.inr rfl) ?_))
  | ((with_reducible refine s_pen (by with_unfolding_all exact rfl) (Or.inl rfl) ?_))
  | ((with_reducible refine s_spr (by with_unfolding_all exact rfl) ?_))
  | ((with_reducible refine s_putOwn (by with_unfolding_all exact rfl) ?_ (by with_unfolding_all exact rfl)))
  | with_reducible refine s_asg ?_
  | with_reducible refine s_asgG ?_
  | with_reducible refine s_if ?_
  | with_reducible refine g_name ?_
  | with_reducible refine g_tup rfl ?_
  | with_reducible refine gs_cons ?_
  | with_reducible refine gs_nil ?_
  | with_reducible refine r_lt ?_
  | with_reducible refine r_le ?_
  | with_reducible refine r_gt ?_
  | with_reducible refine r_ge ?_
  | with_reducible refine r_add ?_
  | with_reducible refine r_sub ?_
  | with_reducible refine r_eqI ?_
  | with_reducible refine r_eqS ?_
  | with_reducible refine r_eqB ?_
  | with_reducible refine r_neI ?_
  | with_reducible refine r_neB ?_
  | with_reducible refine c_min2 ?_
  | with_reducible refine c_max2 ?_
  | with_reducible refine c_intB ?_
  | with_reducible refine c_len (Or.inl rfl) ?_
  | with_reducible refine c_len (Or.inr rfl) ?_
  | with_reducible refine c_list (Or.inl rfl) ?_
  | with_reducible refine c_list (Or.inr rfl) ?_
  | with_reducible refine c_tuple (Or.inl rfl) ?_
  | with_reducible refine c_tuple (Or.inr rfl) ?_
  | with_reducible refine r_ixT (by with_unfolding_all exact rfl) ?_
  | with_reducible refine r_ixL (by with_unfolding_all exact rfl) ?_
  | with_reducible refine r_slT ?_
  | with_reducible refine r_slL ?_
  | with_reducible refine r_isNone ?_
  | with_reducible refine r_notBl ?_
  | with_reducible refine eps_cons ?_
  | with_reducible refine eps_nil ?_
  | with_reducible refine e_dget1 ?_
  | with_reducible refine ed_callX ?_
  | with_reducible refine ⟨_, rfl, ?_⟩
  | with_reducible refine And.intro (Nat.le_of_ble_eq_true rfl) ?_)
local macro_rules | `(tactic| walk_at "t") => `(tactic| first
  | walk_at "e"
  | refine r_modAny (by first | omega | decide) fun z z0 z1 => ?_
  | refine r_mul (by first | exact Or.inr ⟨by decide, by decide⟩ | exact Or.inl ⟨by decide, by decide⟩ | exact Or.inl ⟨by omega, by omega⟩) ?_
  | refine r_pow ⟨by decide, by decide, by decide⟩ ?_
  | refine r_fdivW (by first | assumption | (rename_i hw _; exact hw _) | exact wide_div (b := 200) (by decide) (by decide) (by decide) (by decide)) ?_
  | with_reducible refine And.intro (by omega) ?_)
local macro_rules | `(tactic| walk_at "k") => `(tactic| first
  | walk_at "e"
  | with_reducible refine ⟨fun hb => absurd hb (by decide +kernel), fun _ => ?_⟩
  | with_reducible refine ⟨fun _ => ?_, fun hb => absurd hb (by decide +kernel)⟩
  | refine ⟨fun hb => absurd hb Bool.false_ne_true, fun _ => ?_⟩
  | refine ⟨fun _ => ?_, fun hb => absurd hb.symm Bool.false_ne_true⟩)
local macro_rules | `(tactic| walk_at "d") => `(tactic| first
  | walk_at "k"
  | refine And.intro (show WfTake _ from ⟨by omega, by omega⟩) (take_all fun k hk => ?_))
local macro_rules | `(tactic| walk_at "o") => `(tactic| first
  | with_reducible refine s_ownList ?_
  | walk_at "d"
  | with_reducible refine ⟨_, Or.inl rfl, ?_⟩)

section
variable {P : Program} {w : World} {K : PySem.W.Frag} {mg : Str → Option Value} {base : Heap}
theorem ok_is_whole (T : Tx K mg base) : FnOk P w K mg base CX0 1 T.f_is_whole T.d_is_whole ["thing"] (SpX (α := PyData) K T.ts (fun _ => True) (fun x => [x]) (fun x d => d = .bool (whole x))) := by
  refine fnX T.F_is_whole sc_is_whole (fun _ _ => rfl) (fun cdv A outer s H E hr => ⟨_, (pss_one (ps_ret (pe_and (pe_callB (kx_isi K rfl) (by rfl) T.m_isinstance (by decide +kernel) (pa_cons (pv 0) (pa_cons (pe_bltn (v := .ty "int") (by rfl) T.m_int (by decide +kernel) rfl) pa_nil))) (pe_one (pe_not (pe_callB (kx_isi K rfl) (by rfl) T.m_isinstance (by decide +kernel) (pa_cons (pv 0) (pa_cons (pe_bltn (v := .ty "bool") (by rfl) T.m_bool (by decide +kernel) rfl) pa_nil)))))))), fun x _ => ?_⟩)
  try simp only [nox_K, blk_K, cx_K]
  show S K ⟨none, T.ts⟩ H _ [some (.d _)] _
  cases x <;> (repeat walk_at "k") <;> rfl
theorem ok_is_whole_within (T : Tx K mg base) : FnOk P w K mg base CX0 2 T.f_is_whole_within T.d_is_whole_within ["thing", "least", "most"] (SpX (α := PyData × Int × Int) K T.ts (fun _ => True) (fun x => [x.1, .int x.2.1, .int x.2.2]) (fun x d => d = .bool (wholeIn x.1 x.2.1 x.2.2))) := by
  refine fnX T.F_is_whole_within sc_is_whole_within (fun _ _ => rfl) (fun cdv A outer s H E hr => ⟨_, (pss_one (ps_ret (pe_and (pe_call (ok_is_whole T) (hr.mono (by decide)) (by rfl) T.g_is_whole T.F_is_whole.kp T.b_is_whole .nil pass0 (pa_cons (pv 0) pa_nil)) (pe_one (pe_chain op_le op_le (pv 1) (pv 0) (pv 2)))))), fun x _ => ?_⟩)
  obtain ⟨x, lo, hi⟩ := x
  try simp only [nox_K, blk_K, cx_K]
  show S K ⟨none, T.ts⟩ H _ [some (.d _), some (.d _), some (.d _)] _
  repeat walk_at "k"
  refine ⟨trivial, ?_⟩
  rintro d rfl
  cases x with
  | int i =>
    repeat walk_at "k"
    show (decide (lo ≤ i) = true → _) ∧ (decide (lo ≤ i) = false → _)
    refine ⟨fun h => ?_, fun h => ?_⟩
    · repeat walk_at "k"
      show PyData.bool (decide (i ≤ hi)) = .bool (decide (lo ≤ i) && decide (i ≤ hi))
      rw [h]
      rfl
    · show PyData.bool false = .bool (decide (lo ≤ i) && decide (i ≤ hi))
      rw [h]
      rfl
  | _ =>
    repeat walk_at "k"
    rfl
theorem ok_is_tuple_of (T : Tx K mg base) : FnOk P w K mg base CX0 1 T.f_is_tuple_of T.d_is_tuple_of ["thing", "many"] (SpX (α := PyData × Int) K T.ts (fun _ => True) (fun x => [x.1, .int x.2]) (fun x d => d = .bool (tupOf x.1 x.2))) := by
  refine fnX T.F_is_tuple_of sc_is_tuple_of (fun _ _ => rfl) (fun cdv A outer s H E hr => ⟨_, (pss_one (ps_ret (pe_and (pe_callB (kx_isi K rfl) (by rfl) T.m_isinstance (by decide +kernel) (pa_cons (pv 0) (pa_cons (pe_bltn (v := .ty "tuple") (by rfl) T.m_tuple (by decide +kernel) rfl) pa_nil))) (pe_one (pe_cmpR op_eq (pe_callB (kx_len K rfl) (by rfl) T.m_len PySem.boot_len (pa_cons (pv 0) pa_nil)) (pv 1) (nomark _)))))), fun x _ => ?_⟩)
  obtain ⟨x, m⟩ := x
  try simp only [nox_K, blk_K, cx_K]
  show S K ⟨none, T.ts⟩ H _ [some (.d _), some (.d _)] _
  cases x <;> (repeat walk_at "k") <;> rfl
set_option maxHeartbeats 4000000 in
theorem ok_is_house (T : Tx K mg base) : FnOk P w K mg base CX0 2 T.f_is_house T.d_is_house ["thing"] (SpX (α := PyData) K T.ts (fun _ => True) (fun x => [x]) (fun x d => d = .bool (houseB x))) := by
  refine fnXc T.F_is_house sc_is_house (fun _ _ => rfl) (fun A outer s H E hr => ⟨_, (pss_cons (ps_if (PW.pt (pw_or (pt_not (pt_val (pe_callB (kx_isi K rfl) (by rfl) T.m_isinstance (by decide +kernel) (pa_cons (pv 0) (pa_cons (pe_bltn (v := .ty "tuple") (by rfl) T.m_tuple (by decide +kernel) rfl) pa_nil))))) (pw_or1 (pt_not (pt_chain op_le op_le pe_int (pe_callB (kx_len K rfl) (by rfl) T.m_len PySem.boot_len (pa_cons (pv 0) pa_nil)) (pe_glob (v := .int 50) (by rfl) T.c_MOST_STANDS ⟨_, rfl⟩))))))
      (pss_one (ps_ret pe_bl))
      pss_nil)
      (pss_one (ps_ret (_root_.Gx.pe_allG (own := [("runs", 1)]) (tt := tYes) rfl hr sc_is_house.nd (by rfl) T.m_all (by decide +kernel) T.tb_is_house rfl ⟨blkOk_by (own := [("runs", 1)]) (N := ["thing", "runs"]) (sc := defScope s_is_house) (by decide +kernel), rfl, by decide +kernel, rfl⟩ (kx_piT K rfl (pv 0)) (fun A' s' H' cl C code fp pn hr' => (pg_name (i := 1) sc_is_house.nd rfl (.inl rfl))) (fun A' s' H' cl C code fp pn hr' => pts_nil) (fun A' s' H' cl C code fp pn hr' => (pe_callB (kx_isi K rfl) (by rfl) T.m_isinstance (by decide +kernel) (pa_cons (pv 1) (pa_cons (pe_bltn (v := .ty "bool") (by rfl) T.m_bool (by decide +kernel) rfl) pa_nil)))))))), fun x _ => ?_⟩)
  try simp only [nox_K, blk_K, cx_K]
  show S K ⟨none, T.ts⟩ H _ [some (.d _), none] _
  cases x with
  | tuple ds =>
    repeat walk_at "k"
    show (decide (1 ≤ (ds.length : Int)) = true → _) ∧ (decide (1 ≤ (ds.length : Int)) = false → _)
    refine ⟨fun h1 => ?_, fun h1 => ?_⟩
    · repeat walk_at "k"
      refine ⟨fun h2 => ?_, fun h2 => ?_⟩
      · cases h3 : decide ((ds.length : Int) ≤ 50) with
        | true => rw [h3] at h2; cases h2
        | false =>
          repeat walk_at "k"
          show PyData.bool false = .bool ((decide (1 ≤ (ds.length : Int)) && decide ((ds.length : Int) ≤ 50)) && ds.all isBl)
          rw [h3, Bool.and_false, Bool.false_and]
      · cases h3 : decide ((ds.length : Int) ≤ 50) with
        | false => rw [h3] at h2; cases h2
        | true =>
          repeat walk_at "k"
          refine e_allT isBl T.ti_is_house ?_
          repeat walk_at "k"
          refine ⟨fun x hx => ?_, ?_⟩
          · dsimp only [List.set]
            cases x <;> (repeat walk_at "k") <;> rfl
          · show PyData.bool _ = .bool ((decide (1 ≤ (ds.length : Int)) && decide ((ds.length : Int) ≤ 50)) && ds.all isBl)
            rw [h1, h3]
            rfl
    · repeat walk_at "k"
      show PyData.bool false = .bool ((decide (1 ≤ (ds.length : Int)) && decide ((ds.length : Int) ≤ 50)) && ds.all isBl)
      rw [h1, Bool.false_and, Bool.false_and]
  | _ =>
    repeat walk_at "k"
    rfl
set_option maxHeartbeats 4000000 in
theorem ok_is_letter_or_none (T : Tx K mg base) : FnOk P w K mg base CX0 3 T.f_is_letter_or_none T.d_is_letter_or_none ["thing", "letters"] (SpX (α := PyData × Int) K T.ts (fun _ => True) (fun x => [x.1, .int x.2]) (fun x d => d = .bool (letB x.1 x.2))) := by
  refine fnX T.F_is_letter_or_none sc_is_letter_or_none (fun _ _ => rfl) (fun cdv A outer s H E hr => ⟨_, (pss_one (ps_ret (pe_or (pe_cmpR op_isN (pv 0) pe_non (nomark _)) (pe_one (pe_call (ok_is_whole_within T) (hr.mono (by decide)) (by rfl) T.g_is_whole_within T.F_is_whole_within.kp T.b_is_whole_within .nil pass0 (pa_cons (pv 0) (pa_cons pe_int (pa_cons (pe_op op_sub (pv 1) pe_int) pa_nil)))))))), fun x _ => ?_⟩)
  obtain ⟨x, l⟩ := x
  try simp only [nox_K, blk_K, cx_K]
  show S K ⟨none, T.ts⟩ H _ [some (.d _), some (.d _)] _
  cases x with
  | none =>
    repeat walk_at "k"
    rfl
  | _ =>
    repeat walk_at "k"
    refine ⟨⟨_, 0, l - 1⟩, rfl, trivial, ?_⟩
    rintro d rfl
    rfl
theorem tup5 {x : PyData} (h : tupOf x 5 = true) : ∃ a b c d e, x = .tuple [a, b, c, d, e] := by
  cases x with
  | tuple ds =>
    have h : ((ds.length : Int) = 5) := of_decide_eq_true h
    have h : ds.length = 5 := by omega
    match ds, h with
    | [a, b, c, d, e], _ => exact ⟨a, b, c, d, e, rfl⟩
  | _ => cases h
theorem tup4 {x : PyData} (h : tupOf x 4 = true) : ∃ a b c d, x = .tuple [a, b, c, d] := by
  cases x with
  | tuple ds =>
    have h : ((ds.length : Int) = 4) := of_decide_eq_true h
    have h : ds.length = 4 := by omega
    match ds, h with
    | [a, b, c, d], _ => exact ⟨a, b, c, d, rfl⟩
  | _ => cases h
theorem ruleB_no {x : PyData} {lo ln l : Int} (h : tupOf x 5 = false) : ruleB x lo ln l = false := by
  unfold ruleB
  split
  · exact absurd (show (true : Bool) = false from h) (by decide)
  · rfl
theorem bookB_no {x : PyData} (h : tupOf x 4 = false) : bookB x = false := by
  unfold bookB
  split
  · exact absurd (show (true : Bool) = false from h) (by decide)
  · rfl
theorem ifB {b : Bool} {p : Prop} (h : (!b) = true) (z : b = false → p) : p := z (by cases b <;> first | rfl | cases h)
theorem ifB' {b : Bool} {p : Prop} (h : (!b) = false) (z : b = true → p) : p := z (by cases b <;> first | rfl | cases h)
structure RuA where
  d : PyData
  o : List PyData
  n : List PyData
  l : Int
set_option maxHeartbeats 4000000 in
theorem ok_is_rule (T : Tx K mg base) : FnOk P w K mg base CX0 4 T.f_is_rule T.d_is_rule ["thing", "old", "new", "letters"] (SpX (α := RuA) K T.ts (fun _ => True) (fun x => [x.d, .tuple x.o, .tuple x.n, .int x.l]) (fun x d => d = .bool (ruleB x.d x.o.length x.n.length x.l))) := by
  refine fnX T.F_is_rule sc_is_rule (fun _ _ => rfl) (fun cdv A outer s H E hr => ⟨_, (pss_cons (ps_if (pt_not (pt_val (pe_call (ok_is_tuple_of T) (hr.mono (by decide)) (by rfl) T.g_is_tuple_of T.F_is_tuple_of.kp T.b_is_tuple_of .nil pass0 (pa_cons (pv 0) (pa_cons pe_int pa_nil)))))
      (pss_one (ps_ret pe_bl))
      pss_nil)
      (pss_cons (ps_asg (pv 0) (kx_pgT K (n := 5) rfl rfl (pgs_cons (pg_name (i := 4) sc_is_rule.nd rfl (.inl rfl)) (pgs_cons (pg_name (i := 5) sc_is_rule.nd rfl (.inl rfl)) (pgs_cons (pg_name (i := 6) sc_is_rule.nd rfl (.inl rfl)) (pgs_cons (pg_name (i := 7) sc_is_rule.nd rfl (.inl rfl)) (pgs_cons (pg_name (i := 8) sc_is_rule.nd rfl (.inl rfl)) pgs_nil)))))))
      (pss_cons (ps_if (pt_not (pt_val (pe_call (ok_is_whole_within T) (hr.mono (by decide)) (by rfl) T.g_is_whole_within T.F_is_whole_within.kp T.b_is_whole_within .nil pass0 (pa_cons (pv 4) (pa_cons pe_int (pa_cons pe_int pa_nil))))))
      (pss_one (ps_ret pe_bl))
      pss_nil)
      (pss_cons (ps_set (i := 9) sc_is_rule.nd rfl (.inl rfl) (pe_op op_sub (pe_callB (kx_len K rfl) (by rfl) T.m_len PySem.boot_len (pa_cons (pe_ifExp (pt_cmpR op_eq (pv 4) pe_int (nomark _)) (pv 2) (pv 1)) pa_nil)) pe_int))
      (pss_cons (ps_if (PW.pt (pw_or (pt_not (pt_val (pe_call (ok_is_whole_within T) (hr.mono (by decide)) (by rfl) T.g_is_whole_within T.F_is_whole_within.kp T.b_is_whole_within .nil pass0 (pa_cons (pv 5) (pa_cons pe_int (pa_cons (pv 9) pa_nil)))))) (pw_or1 (pt_not (pt_val (pe_call (ok_is_whole_within T) (hr.mono (by decide)) (by rfl) T.g_is_whole_within T.F_is_whole_within.kp T.b_is_whole_within .nil pass0 (pa_cons (pv 7) (pa_cons pe_int (pa_cons (pv 9) pa_nil)))))))))
      (pss_one (ps_ret pe_bl))
      pss_nil)
      (pss_one (ps_ret (pe_and (pe_call (ok_is_letter_or_none T) (hr.mono (by decide)) (by rfl) T.g_is_letter_or_none T.F_is_letter_or_none.kp T.b_is_letter_or_none .nil pass0 (pa_cons (pv 6) (pa_cons (pv 3) pa_nil))) (pe_one (pe_call (ok_is_letter_or_none T) (hr.mono (by decide)) (by rfl) T.g_is_letter_or_none T.F_is_letter_or_none.kp T.b_is_letter_or_none .nil pass0 (pa_cons (pv 8) (pa_cons (pv 3) pa_nil)))))))))))), fun x _ => ?_⟩)
  obtain ⟨x, o, n, l⟩ := x
  try simp only [nox_K, blk_K, cx_K]
  show S K ⟨none, T.ts⟩ H _ [some (.d _), some (.d _), some (.d _), some (.d _), none, none, none, none, none, none] _
  refine s_seq (s_if ?_)
  repeat walk_at "k"
  refine ⟨(x, 5), rfl, trivial, ?_⟩
  rintro d rfl
  repeat walk_at "k"
  refine ⟨fun h => ifB h fun h => ?_, fun h => ifB' h fun h => ?_⟩
  · repeat walk_at "k"
    rw [ruleB_no h]
  obtain ⟨h0, a, he, t, s0, rfl⟩ := tup5 h
  repeat walk_at "k"
  refine ⟨(h0, 0, 1), rfl, trivial, ?_⟩
  rintro d rfl
  repeat walk_at "k"
  refine ⟨fun h => ifB h fun h => ?_, fun h => ifB' h fun h => ?_⟩
  · repeat walk_at "k"
    show PyData.bool false = .bool (partsB h0 a he t s0 o.length n.length l)
    cases h0 with
    | int i =>
      show PyData.bool false = .bool ((decide (0 ≤ i) && decide (i ≤ 1)) && _)
      rw [show (decide (0 ≤ i) && decide (i ≤ 1)) = false from h, Bool.false_and]
    | _ => rfl
  obtain ⟨i, rfl, hi1, hi2⟩ := wholeIn_int h
  obtain ⟨q, hq⟩ : ∃ q : Int, (if i = 1 then (n.length : Int) else (o.length : Int)) = q := ⟨_, rfl⟩
  refine s_next (s_seq (s_asg (e_op (Dl.E.mono (P := fun d => d = .int q) ?_ ?_))))
  · refine e_cb (ea_cons (e_if ?_))
    repeat walk_at "k"
    refine ⟨fun h => ?_, fun h => ?_⟩
    · repeat walk_at "k"
      rw [← hq, if_pos (of_decide_eq_true h)]
    · repeat walk_at "k"
      rw [← hq, if_neg (of_decide_eq_false h)]
  rintro d rfl
  repeat walk_at "k"
  refine ⟨(a, 0, q - 1), rfl, trivial, ?_⟩
  rintro d rfl
  have fin : ruleB (.tuple [.int i, a, he, t, s0]) o.length n.length l = ((wholeIn a 0 (q - 1) && wholeIn t 0 (q - 1)) && (letB he l && letB s0 l)) := by
    show ((decide (0 ≤ i) && decide (i ≤ 1)) && ((wholeIn a 0 ((if i = 1 then (n.length : Int) else (o.length : Int)) - 1) && wholeIn t 0 ((if i = 1 then (n.length : Int) else (o.length : Int)) - 1)) && (letB he l && letB s0 l))) = _
    rw [hq, decide_eq_true hi1, decide_eq_true hi2]
    rfl
  rw [fin]
  dsimp only
  repeat walk_at "k"
  refine ⟨fun h => ifB h fun h => ⟨fun _ => ?_, fun z => (by cases z)⟩, fun h => ifB' h fun h => ?_⟩
  · repeat walk_at "k"
    rw [h, Bool.false_and, Bool.false_and]
  repeat walk_at "k"
  refine ⟨(t, 0, q - 1), rfl, trivial, ?_⟩
  rintro d rfl
  dsimp only
  repeat walk_at "k"
  refine ⟨fun h2 => ifB h2 fun h2 => ?_, fun h2 => ifB' h2 fun h2 => ?_⟩
  · repeat walk_at "k"
    rw [h2, Bool.and_false, Bool.false_and]
  repeat walk_at "k"
  refine ⟨(he, l), rfl, trivial, ?_⟩
  rintro d rfl
  dsimp only
  rw [h, h2, Bool.true_and, Bool.true_and]
  refine ⟨_, rfl, fun h3 => ?_, fun h3 => ?_⟩
  · repeat walk_at "k"
    refine ⟨(s0, l), rfl, trivial, ?_⟩
    rintro d rfl
    rw [h3, Bool.true_and]
  · rw [h3, Bool.false_and]
end
end K32
set_option Elab.async false
set_option linter.all false
set_option maxRecDepth 100000
namespace K32
open PySem PySem.Spec PyProof.Rows L2 Dl Wm
local macro_rules | `(tactic| walk_at "e") => `(tactic| first
  | ((with_reducible refine e_var (by with_unfolding_all exact rfl) ?_))
  | with_reducible refine e_int ?_
  | with_reducible refine e_str ?_
  | with_reducible refine e_bl ?_
  | with_reducible refine e_non ?_
  | ((with_reducible refine e_pen (by with_unfolding_all exact rfl) (Or.inr rfl) ?_); intro z hz)
  | ((with_reducible refine e_pen (by with_unfolding_all exact rfl) (Or.inl rfl) ?_); intro z hz)
  | ((with_reducible refine e_penIx (by with_unfolding_all exact rfl) ?_))
  | ((with_reducible refine e_spr (by with_unfolding_all exact rfl) ?_); intro z)
  | with_reducible refine e_op ?_
  | with_reducible refine e_tup ?_
  | with_reducible refine e_lst ?_
  | with_reducible refine ea_cons ?_
  | with_reducible refine ea_nil ?_
  | ((with_reducible refine e_penLen (by with_unfolding_all exact rfl) ?_))
  | ((with_reducible refine e_lenOwn (by with_unfolding_all exact rfl) ?_))
  | ((with_reducible refine e_tupOwn (by with_unfolding_all exact rfl) ?_))
  | ((with_reducible refine s_aug (by with_unfolding_all exact rfl) ?_); (try dsimp only [List.set]))
  | with_reducible refine e_callXF ?_
  | with_reducible refine r_ipI ?_
  | with_reducible refine e_un ?_
  | with_reducible refine r_neg ?_
  | with_reducible refine gws_cons ?_
  | with_reducible refine gws_nil ?_
  | with_reducible refine gw_tup rfl ?_
  | ((with_reducible refine gw_name (by decide) ?_); (try dsimp only [List.set]))
  | with_reducible refine e_isI ?_
  | with_reducible refine e_isB ?_
  | with_reducible refine e_isS ?_
  | with_reducible refine e_isTu ?_
  | with_reducible refine e_isL ?_
  | with_reducible refine e_cb ?_
  | with_reducible refine e_sl ?_
  | with_reducible refine eo_none ?_
  | with_reducible refine eo_some ?_
  | with_reducible refine et_test ?_
  | with_reducible refine et_B ?_
  | with_reducible refine et_and ?_
  | with_reducible refine et_or ?_
  | with_reducible refine et_not ?_
  | with_reducible refine et_yes ?_
  | with_reducible refine e_andV ?_
  | with_reducible refine e_orV ?_
  | with_reducible refine e_notV ?_
  | with_reducible refine e_if ?_
  | with_reducible refine e_chain ?_
  | with_reducible refine e_callX ?_
  | ((with_reducible refine e_callXP (by with_unfolding_all exact rfl) ?_ (by with_unfolding_all exact trivial)))
  | ((with_reducible refine s_seq ?_); (try dsimp only [List.set]))
  | with_reducible refine s_next ?_
  | with_reducible refine s_ret ?_
  | ((with_reducible refine s_pen (by with_unfolding_all exact rfl) (Or.inr rfl) ?_))
  | ((with_reducible refine s_pen (by with_unfolding_all exact rfl) (Or.inl rfl) ?_))
  | ((with_reducible refine s_spr (by with_unfolding_all exact rfl) ?_))
  | ((with_reducible refine s_putOwn (by with_unfolding_all exact rfl) ?_ (by with_unfolding_all exact rfl)))
  | with_reducible refine s_asg ?_
  | with_reducible refine s_asgG ?_
  | with_reducible refine s_if ?_
  | with_reducible refine g_name ?_
  | with_reducible refine g_tup rfl ?_
  | with_reducible refine gs_cons ?_
  | with_reducible refine gs_nil ?_
  | with_reducible refine r_lt ?_
  | with_reducible refine r_le ?_
  | with_reducible refine r_gt ?_
  | with_reducible refine r_ge ?_
  | with_reducible refine r_add ?_
  | with_reducible refine r_sub ?_
  | with_reducible refine r_eqI ?_
  | with_reducible refine r_eqS ?_
  | with_reducible refine r_eqB ?_
  | with_reducible refine r_neI ?_
  | with_reducible refine r_neB ?_
  | with_reducible refine c_min2 ?_
  | with_reducible refine c_max2 ?_
  | with_reducible refine c_intB ?_
  | with_reducible refine c_len (Or.inl rfl) ?_
  | with_reducible refine c_len (Or.inr rfl) ?_
  | with_reducible refine c_list (Or.inl rfl) ?_
  | with_reducible refine c_list (Or.inr rfl) ?_
  | with_reducible refine c_tuple (Or.inl rfl) ?_
  | with_reducible refine c_tuple (Or.inr rfl) ?_
  | with_reducible refine r_ixT (by with_unfolding_all exact rfl) ?_
  | with_reducible refine r_ixL (by with_unfolding_all exact rfl) ?_
  | with_reducible refine r_slT ?_
  | with_reducible refine r_slL ?_
  | with_reducible refine r_isNone ?_
  | with_reducible refine r_notBl ?_
  | with_reducible refine eps_cons ?_
  | with_reducible refine eps_nil ?_
  | with_reducible refine e_dget1 ?_
  | with_reducible refine ed_callX ?_
  | with_reducible refine ⟨_, rfl, ?_⟩
  | with_reducible refine And.intro (Nat.le_of_ble_eq_true rfl) ?_)
local macro_rules | `(tactic| walk_at "t") => `(tactic| first
  | walk_at "e"
  | refine r_modAny (by first | omega | decide) fun z z0 z1 => ?_
  | refine r_mul (by first | exact Or.inr ⟨by decide, by decide⟩ | exact Or.inl ⟨by decide, by decide⟩ | exact Or.inl ⟨by omega, by omega⟩) ?_
  | refine r_pow ⟨by decide, by decide, by decide⟩ ?_
  | refine r_fdivW (by first | assumption | (rename_i hw _; exact hw _) | exact wide_div (b := 200) (by decide) (by decide) (by decide) (by decide)) ?_
  | with_reducible refine And.intro (by omega) ?_)
local macro_rules | `(tactic| walk_at "k") => `(tactic| first
  | walk_at "e"
  | with_reducible refine ⟨fun hb => absurd hb (by decide +kernel), fun _ => ?_⟩
  | with_reducible refine ⟨fun _ => ?_, fun hb => absurd hb (by decide +kernel)⟩
  | refine ⟨fun hb => absurd hb Bool.false_ne_true, fun _ => ?_⟩
  | refine ⟨fun _ => ?_, fun hb => absurd hb.symm Bool.false_ne_true⟩)
local macro_rules | `(tactic| walk_at "d") => `(tactic| first
  | walk_at "k"
  | refine And.intro (show WfTake _ from ⟨by omega, by omega⟩) (take_all fun k hk => ?_))
local macro_rules | `(tactic| walk_at "o") => `(tactic| first
  | with_reducible refine s_ownList ?_
  | walk_at "d"
  | with_reducible refine ⟨_, Or.inl rfl, ?_⟩)

section
variable {P : Program} {w : World} {K : PySem.W.Frag} {mg : Str → Option Value} {base : Heap}
set_option maxHeartbeats 4000000 in
theorem ok_is_rulebook (T : Tx K mg base) : FnOk P w K mg base CX0 6 T.f_is_rulebook T.d_is_rulebook ["thing"] (SpX (α := PyData) K T.ts (fun _ => True) (fun x => [x]) (fun x d => d = .bool (bookB x))) := by
  refine fnXc T.F_is_rulebook sc_is_rulebook (fun _ _ => rfl) (fun A outer s H E hr => ⟨_, (pss_cons (ps_if (pt_not (pt_val (pe_call (ok_is_tuple_of T) (hr.mono (by decide)) (by rfl) T.g_is_tuple_of T.F_is_tuple_of.kp T.b_is_tuple_of .nil pass0 (pa_cons (pv 0) (pa_cons pe_int pa_nil)))))
      (pss_one (ps_ret pe_bl))
      pss_nil)
      (pss_cons (ps_asg (pv 0) (kx_pgT K (n := 4) rfl rfl (pgs_cons (pg_name (i := 4) sc_is_rulebook.nd rfl (.inr rfl)) (pgs_cons (pg_name (i := 3) sc_is_rulebook.nd rfl (.inr rfl)) (pgs_cons (pg_name (i := 2) sc_is_rulebook.nd rfl (.inr rfl)) (pgs_cons (pg_name (i := 1) sc_is_rulebook.nd rfl (.inl rfl)) pgs_nil))))))
      (pss_cons (ps_if (PW.pt (pw_or (pt_not (pt_val (pe_call (ok_is_house T) (hr.mono (by decide)) (by rfl) T.g_is_house T.F_is_house.kp T.b_is_house .nil pass0 (pa_cons (pv 4) pa_nil)))) (pw_or (pt_not (pt_val (pe_call (ok_is_house T) (hr.mono (by decide)) (by rfl) T.g_is_house T.F_is_house.kp T.b_is_house .nil pass0 (pa_cons (pv 3) pa_nil)))) (pw_or1 (pt_not (pt_val (pe_call (ok_is_whole_within T) (hr.mono (by decide)) (by rfl) T.g_is_whole_within T.F_is_whole_within.kp T.b_is_whole_within .nil pass0 (pa_cons (pv 2) (pa_cons pe_int (pa_cons (pe_glob (v := .int 25) (by rfl) T.c_MOST_LETTERS ⟨_, rfl⟩) pa_nil))))))))))
      (pss_one (ps_ret pe_bl))
      pss_nil)
      (pss_cons (ps_if (PW.pt (pw_or (pt_not (pt_val (pe_callB (kx_isi K rfl) (by rfl) T.m_isinstance (by decide +kernel) (pa_cons (pv 1) (pa_cons (pe_bltn (v := .ty "tuple") (by rfl) T.m_tuple (by decide +kernel) rfl) pa_nil))))) (pw_or1 (pt_cmpR op_gt (pe_callB (kx_len K rfl) (by rfl) T.m_len PySem.boot_len (pa_cons (pv 1) pa_nil)) (pe_glob (v := .int 100) (by rfl) T.c_MOST_RULES ⟨_, rfl⟩) (nomark _)))))
      (pss_one (ps_ret pe_bl))
      pss_nil)
      (pss_one (ps_ret (_root_.Gx.pe_allG (own := [("rule", 5)]) (tt := tYes) rfl hr sc_is_rulebook.nd (by rfl) T.m_all (by decide +kernel) T.tb_is_rulebook rfl ⟨blkOk_by (own := [("rule", 5)]) (N := ["thing", "rules", "letters", "new", "old", "rule"]) (sc := defScope s_is_rulebook) (by decide +kernel), rfl, by decide +kernel, rfl⟩ (kx_piT K rfl (pv 1)) (fun A' s' H' cl C code fp pn hr' => (pg_name (i := 5) sc_is_rulebook.nd rfl (.inl rfl))) (fun A' s' H' cl C code fp pn hr' => pts_nil) (fun A' s' H' cl C code fp pn hr' => (pe_call (ok_is_rule T) (hr'.mono (by decide)) (by rfl) T.g_is_rule T.F_is_rule.kp T.b_is_rule .nil pass0 (pa_cons (pv 5) (pa_cons (pv 4) (pa_cons (pv 3) (pa_cons (pv 2) pa_nil))))))))))))), fun x _ => ?_⟩)
  try simp only [nox_K, blk_K, cx_K]
  show S K ⟨none, T.ts⟩ H _ [some (.d _), none, none, none, none, none] _
  refine s_seq (s_if ?_)
  repeat walk_at "k"
  refine ⟨(x, 4), rfl, trivial, ?_⟩
  rintro d rfl
  repeat walk_at "k"
  refine ⟨fun h => ifB h fun h => ?_, fun h => ifB' h fun h => ?_⟩
  · repeat walk_at "k"
    rw [bookB_no h]
  obtain ⟨o, n, l, r, rfl⟩ := tup4 h
  rw [show bookB (.tuple [o, n, l, r]) = (houseB o && (houseB n && (wholeIn l 0 25 && rulesB r (lenD o) (lenD n) (Wm.intD l)))) from rfl]
  repeat walk_at "k"
  refine ⟨trivial, ?_⟩
  rintro d rfl
  repeat walk_at "k"
  refine ⟨fun h1 => ifB h1 fun h1 => ⟨fun _ => ?_, fun z => (by cases z)⟩, fun h1 => ifB' h1 fun h1 => ?_⟩
  · repeat walk_at "k"
    rw [h1, Bool.false_and]
  rw [h1, Bool.true_and]
  repeat walk_at "k"
  refine ⟨trivial, ?_⟩
  rintro d rfl
  repeat walk_at "k"
  refine ⟨fun h2 => ifB h2 fun h2 => ⟨fun _ => ?_, fun z => (by cases z)⟩, fun h2 => ifB' h2 fun h2 => ?_⟩
  · repeat walk_at "k"
    rw [h2, Bool.false_and]
  rw [h2, Bool.true_and]
  repeat walk_at "k"
  refine ⟨(l, 0, 25), rfl, trivial, ?_⟩
  rintro d rfl
  dsimp only
  repeat walk_at "k"
  refine ⟨fun h3 => ifB h3 fun h3 => ?_, fun h3 => ifB' h3 fun h3 => ?_⟩
  · repeat walk_at "k"
    rw [h3, Bool.false_and]
  rw [h3, Bool.true_and]
  obtain ⟨li, rfl, _, _⟩ := wholeIn_int h3
  cases o with
  | tuple os =>
    cases n with
    | tuple nss =>
      cases r with
      | tuple rs =>
        repeat walk_at "k"
        have fin : rulesB (.tuple rs) (lenD (.tuple os)) (lenD (.tuple nss)) (Wm.intD (.int li)) = (decide ((rs.length : Int) ≤ 100) && rs.all fun x => ruleB x os.length nss.length li) := rfl
        rw [fin]
        refine ⟨fun h4 => ?_, fun h4 => ?_⟩
        · repeat walk_at "k"
          rw [decide_eq_false (by have := of_decide_eq_true h4; omega), Bool.false_and]
        · rw [decide_eq_true (show (rs.length : Int) ≤ 100 by have := of_decide_eq_false h4; omega), Bool.true_and]
          repeat walk_at "k"
          refine e_allT (fun x => ruleB x os.length nss.length li) T.ti_is_rulebook ?_
          repeat walk_at "k"
          refine ⟨fun x hx => ?_, rfl⟩
          dsimp only [List.set]
          repeat walk_at "k"
          refine ⟨⟨x, os, nss, li⟩, rfl, trivial, ?_⟩
          rintro d rfl
          rfl
      | _ =>
        repeat walk_at "k"
        rfl
    | _ => cases h2
  | _ => cases h1
end
end K32
set_option Elab.async false
set_option linter.all false
set_option maxRecDepth 100000
namespace K32
open PySem PySem.Spec PyProof.Rows L2 Dl Wm
local macro_rules | `(tactic| walk_at "e") => `(tactic| first
  | ((with_reducible refine e_var (by with_unfolding_all exact rfl) ?_))
  | with_reducible refine e_int ?_
  | with_reducible refine e_str ?_
  | with_reducible refine e_bl ?_
  | with_reducible refine e_non ?_
  | ((with_reducible refine e_pen (by with_unfolding_all exact rfl) (Or.inr rfl) ?_); intro z hz)
  | ((with_reducible refine e_pen (by with_unfolding_all exact rfl) (Or.inl rfl) ?_); intro z hz)
  | ((with_reducible refine e_penIx (by with_unfolding_all exact rfl) ?_))
  | ((with_reducible refine e_spr (by with_unfolding_all exact rfl) ?_); intro z)
  | with_reducible refine e_op ?_
  | with_reducible refine e_tup ?_
  | with_reducible refine e_lst ?_
  | with_reducible refine ea_cons ?_
  | with_reducible refine ea_nil ?_
  | ((with_reducible refine e_penLen (by with_unfolding_all exact rfl) ?_))
  | ((with_reducible refine e_lenOwn (by with_unfolding_all exact rfl) ?_))
  | ((with_reducible refine e_tupOwn (by with_unfolding_all exact rfl) ?_))
  | ((with_reducible refine s_aug (by with_unfolding_all exact rfl) ?_); (try dsimp only [List.set]))
  | with_reducible refine e_callXF ?_
  | with_reducible refine r_ipI ?_
  | with_reducible refine e_un ?_
  | with_reducible refine r_neg ?_
  | with_reducible refine gws_cons ?_
  | with_reducible refine gws_nil ?_
  | with_reducible refine gw_tup rfl ?_
  | ((with_reducible refine gw_name (by decide) ?_); (try dsimp only [List.set]))
  | with_reducible refine e_isI ?_
  | with_reducible refine e_isB ?_
  | with_reducible refine e_isS ?_
  | with_reducible refine e_isTu ?_
  | with_reducible refine e_isL ?_
  | with_reducible refine e_cb ?_
  | with_reducible refine e_sl ?_
  | with_reducible refine eo_none ?_
  | with_reducible refine eo_some ?_
  | with_reducible refine et_test ?_
  | with_reducible refine et_B ?_
  | with_reducible refine et_and ?_
  | with_reducible refine et_or ?_
  | with_reducible refine et_not ?_
  | with_reducible refine et_yes ?_
  | with_reducible refine e_andV ?_
  | with_reducible refine e_orV ?_
  | with_reducible refine e_notV ?_
  | with_reducible refine e_if ?_
  | with_reducible refine e_chain ?_
  | with_reducible refine e_callX ?_
  | ((with_reducible refine e_callXP (by with_unfolding_all exact rfl) ?_ (by with_unfolding_all exact trivial)))
  | ((with_reducible refine s_seq ?_); (try dsimp only [List.set]))
  | with_reducible refine s_next ?_
  | with_reducible refine s_ret ?_
  | ((with_reducible refine s_pen (by with_unfolding_all exact rfl) (Or.inr rfl) ?_))
  | ((with_reducible refine s_pen (by with_unfolding_all exact rfl) (Or.inl rfl) ?_))
  | ((with_reducible refine s_spr (by with_unfolding_all exact rfl) ?_))
  | ((with_reducible refine s_putOwn (by with_unfolding_all exact rfl) ?_ (by with_unfolding_all exact rfl)))
  | with_reducible refine s_asg ?_
  | with_reducible refine s_asgG ?_
  | with_reducible refine s_if ?_
  | with_reducible refine g_name ?_
  | with_reducible refine g_tup rfl ?_
  | with_reducible refine gs_cons ?_
  | with_reducible refine gs_nil ?_
  | with_reducible refine r_lt ?_
  | with_reducible refine r_le ?_
  | with_reducible refine r_gt ?_
  | with_reducible refine r_ge ?_
  | with_reducible refine r_add ?_
  | with_reducible refine r_sub ?_
  | with_reducible refine r_eqI ?_
  | with_reducible refine r_eqS ?_
  | with_reducible refine r_eqB ?_
  | with_reducible refine r_neI ?_
  | with_reducible refine r_neB ?_
  | with_reducible refine c_min2 ?_
  | with_reducible refine c_max2 ?_
  | with_reducible refine c_intB ?_
  | with_reducible refine c_len (Or.inl rfl) ?_
  | with_reducible refine c_len (Or.inr rfl) ?_
  | with_reducible refine c_list (Or.inl rfl) ?_
  | with_reducible refine c_list (Or.inr rfl) ?_
  | with_reducible refine c_tuple (Or.inl rfl) ?_
  | with_reducible refine c_tuple (Or.inr rfl) ?_
  | with_reducible refine r_ixT (by with_unfolding_all exact rfl) ?_
  | with_reducible refine r_ixL (by with_unfolding_all exact rfl) ?_
  | with_reducible refine r_slT ?_
  | with_reducible refine r_slL ?_
  | with_reducible refine r_isNone ?_
  | with_reducible refine r_notBl ?_
  | with_reducible refine eps_cons ?_
  | with_reducible refine eps_nil ?_
  | with_reducible refine e_dget1 ?_
  | with_reducible refine ed_callX ?_
  | with_reducible refine ⟨_, rfl, ?_⟩
  | with_reducible refine And.intro (Nat.le_of_ble_eq_true rfl) ?_)
local macro_rules | `(tactic| walk_at "t") => `(tactic| first
  | walk_at "e"
  | refine r_modAny (by first | omega | decide) fun z z0 z1 => ?_
  | refine r_mul (by first | exact Or.inr ⟨by decide, by decide⟩ | exact Or.inl ⟨by decide, by decide⟩ | exact Or.inl ⟨by omega, by omega⟩) ?_
  | refine r_pow ⟨by decide, by decide, by decide⟩ ?_
  | refine r_fdivW (by first | assumption | (rename_i hw _; exact hw _) | exact wide_div (b := 200) (by decide) (by decide) (by decide) (by decide)) ?_
  | with_reducible refine And.intro (by omega) ?_)
local macro_rules | `(tactic| walk_at "k") => `(tactic| first
  | walk_at "e"
  | with_reducible refine ⟨fun hb => absurd hb (by decide +kernel), fun _ => ?_⟩
  | with_reducible refine ⟨fun _ => ?_, fun hb => absurd hb (by decide +kernel)⟩
  | refine ⟨fun hb => absurd hb Bool.false_ne_true, fun _ => ?_⟩
  | refine ⟨fun _ => ?_, fun hb => absurd hb.symm Bool.false_ne_true⟩)
local macro_rules | `(tactic| walk_at "d") => `(tactic| first
  | walk_at "k"
  | refine And.intro (show WfTake _ from ⟨by omega, by omega⟩) (take_all fun k hk => ?_))
local macro_rules | `(tactic| walk_at "o") => `(tactic| first
  | with_reducible refine s_ownList ?_
  | walk_at "d"
  | with_reducible refine ⟨_, Or.inl rfl, ?_⟩)

section
variable {P : Program} {w : World} {K : PySem.W.Frag} {mg : Str → Option Value} {base : Heap}
theorem nats_at {l : List Nat} {i : Nat} (h : i < l.length) : atI (natsD l) (i : Int) = some (.int ((l.getD i 0 : Nat) : Int)) := by
  refine atI_nat ?_
  unfold natsD
  rw [List.getElem?_map, List.getElem?_eq_getElem h, List.getD_eq_getElem?_getD, List.getElem?_eq_getElem h]
  rfl
theorem nats_len (l : List Nat) : (natsD l).length = l.length := List.length_map _
theorem nats_app (l : List Nat) (v : Nat) : natsD l ++ [.int (v : Int)] = natsD (l ++ [v]) := by unfold natsD; rw [List.map_append]; rfl
structure StA where
  c : Int
  k : Nat
abbrev spStir (K : PySem.W.Frag) (ts : List Addr) : Sp := SpX (α := StA) K ts (fun a => a.k ≤ 1000) (fun a => [.int a.c, .int a.k]) (fun _ d => ∃ q : Nat, d = .int (q : Int))
set_option maxHeartbeats 4000000 in
theorem ok_law_stir (T : Tx K mg base) : FnOk P w K mg base CX0 1 T.f_law_stir T.d_law_stir ["cell", "k"] (spStir K T.ts) := by
  refine fnX T.F_law_stir sc_law_stir (fun _ _ => rfl) (fun cdv A outer s H E hr => ⟨_, (pss_cons (ps_set (i := 2) sc_law_stir.nd rfl (.inl rfl) (pe_op op_mod (pe_op op_add (pe_op op_mod (pv 0) pe_int) (pe_op op_mul pe_int (pe_op op_add (pv 1) pe_int))) pe_int))
      (pss_cons (ps_set (i := 2) sc_law_stir.nd rfl (.inl rfl) (pe_op op_mod (pe_op op_mul (pv 2) (pv 2)) pe_int))
      (pss_cons (ps_set (i := 2) sc_law_stir.nd rfl (.inl rfl) (pe_op op_mod (pe_op op_add (pe_op op_mul (pv 2) pe_int) (pe_op op_mul pe_int (pe_op op_add (pv 1) pe_int))) pe_int))
      (pss_one (ps_ret (pe_op op_fdivW (pe_op op_mod (pe_op op_mul (pv 2) (pv 2)) pe_int) pe_int)))))), fun a ha => ?_⟩)
  obtain ⟨c, k⟩ := a
  dsimp only at ha
  try simp only [nox_K, blk_K, cx_K]
  show S K ⟨none, T.ts⟩ H _ [some (.d _), some (.d _), none] _
  have pos : ∀ (x m : Int), 0 < m → 0 ≤ x % m ∧ x % m < m := fun x m hm => ⟨Int.emod_nonneg _ (by omega), Int.emod_lt_of_pos _ hm⟩
  refine s_cut (fun L => ∃ x : Int, 0 ≤ x ∧ x < 1000000007 ∧ Sub [some (.d (.int c)), some (.d (.int (k : Int))), some (.d (.int x))] L) (s_asg ?_) fun L' ⟨x, hx1, hx2, sb⟩ => S.sub ?_ sb
  · repeat walk_at "e"
    refine r_mod (by decide) ?_
    repeat walk_at "e"
    refine r_mul (Or.inl ⟨by decide, by decide⟩) ?_
    repeat walk_at "e"
    refine r_mod (by decide) ?_
    obtain ⟨z1, z2⟩ := pos (c % 998244353 + 104729 * ((k : Int) + 1)) 1000000007 (by decide)
    exact ⟨_, z1, z2, Sub.refl _⟩
  refine s_cut (fun L => ∃ x : Int, 0 ≤ x ∧ x < 2147483647 ∧ Sub [some (.d (.int c)), some (.d (.int (k : Int))), some (.d (.int x))] L) (s_asg ?_) fun L' ⟨y, hy1, hy2, sb⟩ => S.sub ?_ sb
  · repeat walk_at "e"
    refine r_mul (i := x) (Or.inl ⟨by omega, by omega⟩) ?_
    repeat walk_at "e"
    refine r_mod (by decide) ?_
    obtain ⟨z1, z2⟩ := pos (x * x) 2147483647 (by decide)
    exact ⟨_, z1, z2, Sub.refl _⟩
  refine s_cut (fun L => ∃ x : Int, 0 ≤ x ∧ x < 2147483647 ∧ Sub [some (.d (.int c)), some (.d (.int (k : Int))), some (.d (.int x))] L) (s_asg ?_) fun L' ⟨u, hu1, hu2, sb⟩ => S.sub ?_ sb
  · repeat walk_at "e"
    refine r_mul (i := y) (Or.inl ⟨by omega, by omega⟩) ?_
    repeat walk_at "e"
    refine r_mul (Or.inl ⟨by decide, by decide⟩) ?_
    repeat walk_at "e"
    refine r_mod (by decide) ?_
    obtain ⟨z1, z2⟩ := pos (y * 48271 + 7907 * ((k : Int) + 2)) 2147483647 (by decide)
    exact ⟨_, z1, z2, Sub.refl _⟩
  repeat walk_at "e"
  refine r_mul (i := u) (Or.inl ⟨by omega, by omega⟩) ?_
  repeat walk_at "e"
  refine r_mod (by decide) ?_
  repeat walk_at "e"
  refine r_fdivW (wide_div (b := 200) (by decide) (by decide) (by decide) (by decide)) ?_
  obtain ⟨z1, z2⟩ := pos (u * u) 1000000007 (by decide)
  exact ⟨((u * u % 1000000007) / 16).toNat, by rw [Int.toNat_of_nonneg (Int.ediv_nonneg z1 (by decide))]⟩
structure SoA where
  c : Int
  many : Nat
abbrev spSome (K : PySem.W.Frag) (ts : List Addr) : Sp := SpX (α := SoA) K ts (fun a => a.many ≤ 1000) (fun a => [.int a.c, .int a.many]) (fun a d => ∃ l : List Nat, d = .list (natsD l) ∧ l.length = a.many)
abbrev LSo (c : Int) (many : Nat) (l : List Nat) (left : Int) (g : Bool) : Lv := [some (.d (.int c)), some (.d (.int many)), some (.own (.lst (natsD l))), some (.d (.int left)), some (.d (.bool g)), none]
set_option maxHeartbeats 4000000 in
theorem ok_law_some (T : Tx K mg base) : FnOk P w K mg base CX0 2 T.f_law_some T.d_law_some ["cell", "many"] (spSome K T.ts) := by
  refine fnX T.F_law_some sc_law_some (fun _ _ => rfl) (fun cdv A outer s H E hr => ⟨_, (pss_cons (ps_set (i := 2) sc_law_some.nd rfl (.inl rfl) (pe_lst pa_nil))
      (pss_cons (ps_set (i := 3) sc_law_some.nd rfl (.inl rfl) (pe_callB call_abs (by rfl) T.m_abs (by decide +kernel) (pa_cons (pv 0) pa_nil)))
      (pss_cons (ps_set (i := 4) sc_law_some.nd rfl (.inl rfl) (pe_cmpR op_ge (pv 3) (pe_op op_pow pe_int pe_int) (nomark _)))
      (pss_cons (ps_for PassesOwn.never rfl (pi_range1 rfl T.m_range (pa_cons (pv 1) pa_nil)) (pg_name (i := 5) sc_law_some.nd rfl (.inl rfl))
      (pss_one (ps_if (PW.pt (pw_and (pt_val (pv 4)) (pw_and1 (pt_cmpR op_gt (pv 3) pe_int (nomark _)))))
      (pss_cons (ps_expr (pe_bm PySem.F.plainAttrs_list PySem.F.slot_list_append PySem.F.type_list_append mt_append (pv 2) (pa_cons (pe_op op_mod (pv 3) pe_int) pa_nil)))
      (pss_one (ps_set (i := 3) sc_law_some.nd rfl (.inl rfl) (pe_op op_fdivW (pv 3) pe_int))))
      (pss_one (ps_expr (pe_bm PySem.F.plainAttrs_list PySem.F.slot_list_append PySem.F.type_list_append mt_append (pv 2) (pa_cons (pe_call (ok_law_stir T) (hr.mono (by decide)) (by rfl) T.g_law_stir T.F_law_stir.kp T.b_law_stir .nil pass0 (pa_cons (pv 0) (pa_cons (pv 5) pa_nil))) pa_nil)))))))
      (pss_one (ps_ret (pv 2))))))), fun a ha => ?_⟩)
  obtain ⟨c, many⟩ := a
  dsimp only at ha
  try simp only [nox_K, blk_K, cx_K]
  show S K ⟨none, T.ts⟩ H _ [some (.d _), some (.d _), none, none, none, none] _
  refine s_seq (s_ownNil ?_)
  dsimp only [List.set]
  refine s_seq (s_asg ?_)
  refine e_cb (ea_cons (e_var rfl (ea_nil (c_abs ?_))))
  dsimp only [List.set]
  obtain ⟨left0, hl0, hl1⟩ : ∃ x : Int, (if c < 0 then -c else c) = x ∧ 0 ≤ x := ⟨_, rfl, by split <;> omega⟩
  rw [hl0]
  refine s_seq (s_asg ?_)
  repeat walk_at "e"
  refine r_pow ⟨by decide, by decide, by decide⟩ ?_
  repeat walk_at "e"
  obtain ⟨g, hg⟩ : ∃ g : Bool, decide ((10 : Int) ^ (18 : Int).toNat ≤ left0) = g := ⟨_, rfl⟩
  rw [hg]
  refine s_forI (it_rng (ea_cons (e_var rfl (ea_nil ⟨(many : Int), rfl, by omega, by omega, fun i L => ∃ l left, l.length = i ∧ 0 ≤ left ∧ L = LSo c many l left g, ⟨_, Sub.refl _, [], left0, rfl, hl1, rfl⟩, fun i d L' hd ⟨l, left, e1, e2, e⟩ => ?_, fun L' ⟨l, left, e1, e2, e⟩ L4 s4 => ?_⟩))))
  · subst e
    obtain ⟨hi, rfl⟩ := rngL_get hd
    rw [Int.zero_add]
    rw [Int.toNat_natCast] at hi
    refine g_name ?_
    dsimp only [List.set]
    have other : ∀ D : Dn, (∀ L, Wk (fun i L => ∃ l left, l.length = i ∧ 0 ≤ left ∧ L = LSo c many l left g) (i + 1) L → D.nx L) → S K ⟨none, T.ts⟩ H (tDrop (tBM K "list" rAppend (tVar 2) (tCons (tCall (spStir K T.ts) [] E0 (tCons (tVar 0) (tCons (tVar 5) tNil))) tNil))) [some (.d (.int c)), some (.d (.int many)), some (.own (.lst (natsD l))), some (.d (.int left)), some (.d (.bool g)), some (.d (.int (i : Int)))] D := fun D hD => by
      refine s_appOwn rfl (by rw [nats_len]; omega) ?_
      repeat walk_at "e"
      refine ⟨⟨c, i⟩, rfl, by show i ≤ 1000; omega, ?_⟩
      rintro d ⟨q, rfl⟩
      rw [nats_app]
      exact hD _ ⟨LSo c many (l ++ [q]) left g, by repeat (first | exact Sub.nil | apply Sub.keep | apply Sub.drop), l ++ [q], left, by rw [List.length_append, e1]; rfl, e2, rfl⟩
    refine s_if ?_
    repeat walk_at "e"
    refine ⟨fun h => ?_, fun h => ⟨fun z => (by cases z), fun _ => other _ fun L h => h⟩⟩
    repeat walk_at "e"
    refine ⟨fun h2 => ?_, fun h2 => other _ fun L h => h⟩
    refine s_seq (s_appOwn rfl (by rw [nats_len]; omega) ?_)
    repeat walk_at "e"
    refine r_mod (by decide) ?_
    rw [show left % 10007 = (((left % 10007).toNat : Nat) : Int) from by rw [Int.toNat_of_nonneg (Int.emod_nonneg _ (by decide))], nats_app]
    dsimp only [List.set]
    repeat walk_at "e"
    refine r_fdivW (wide_div (b := 200) (by decide) (by decide) (by decide) (by decide)) ?_
    exact ⟨LSo c many (l ++ [(left % 10007).toNat]) (left / 10007) g, by repeat (first | exact Sub.nil | apply Sub.keep | apply Sub.drop), l ++ [(left % 10007).toNat], left / 10007, by rw [List.length_append, e1]; rfl, Int.ediv_nonneg e2 (by decide), rfl⟩
  · subst e
    rw [rngL_len, Int.toNat_natCast] at e1
    refine S.sub ?_ s4
    refine s_retL ?_
    dsimp only [lookL, lookA, List.map]
    repeat walk_at "e"
    exact e1
end
end K32
set_option Elab.async false
set_option linter.all false
set_option maxRecDepth 100000
namespace K32
open PySem PySem.Spec PyProof.Rows L2 Dl Wm
local macro_rules | `(tactic| walk_at "e") => `(tactic| first
  | ((with_reducible refine e_var (by with_unfolding_all exact rfl) ?_))
  | with_reducible refine e_int ?_
  | with_reducible refine e_str ?_
  | with_reducible refine e_bl ?_
  | with_reducible refine e_non ?_
  | ((with_reducible refine e_pen (by with_unfolding_all exact rfl) (Or.inr rfl) ?_); intro z hz)
  | ((with_reducible refine e_pen (by with_unfolding_all exact rfl) (Or.inl rfl) ?_); intro z hz)
  | ((with_reducible refine e_penIx (by with_unfolding_all exact rfl) ?_))
  | ((with_reducible refine e_spr (by with_unfolding_all exact rfl) ?_); intro z)
  | with_reducible refine e_op ?_
  | with_reducible refine e_tup ?_
  | with_reducible refine e_lst ?_
  | with_reducible refine ea_cons ?_
  | with_reducible refine ea_nil ?_
  | ((with_reducible refine e_penLen (by with_unfolding_all exact rfl) ?_))
  | ((with_reducible refine e_lenOwn (by with_unfolding_all exact rfl) ?_))
  | ((with_reducible refine e_tupOwn (by with_unfolding_all exact rfl) ?_))
  | ((with_reducible refine s_aug (by with_unfolding_all exact rfl) ?_); (try dsimp only [List.set]))
  | with_reducible refine e_callXF ?_
  | with_reducible refine r_ipI ?_
  | with_reducible refine e_un ?_
  | with_reducible refine r_neg ?_
  | with_reducible refine gws_cons ?_
  | with_reducible refine gws_nil ?_
  | with_reducible refine gw_tup rfl ?_
  | ((with_reducible refine gw_name (by decide) ?_); (try dsimp only [List.set]))
  | with_reducible refine e_isI ?_
  | with_reducible refine e_isB ?_
  | with_reducible refine e_isS ?_
  | with_reducible refine e_isTu ?_
  | with_reducible refine e_isL ?_
  | with_reducible refine e_cb ?_
  | with_reducible refine e_sl ?_
  | with_reducible refine eo_none ?_
  | with_reducible refine eo_some ?_
  | with_reducible refine et_test ?_
  | with_reducible refine et_B ?_
  | with_reducible refine et_and ?_
  | with_reducible refine et_or ?_
  | with_reducible refine et_not ?_
  | with_reducible refine et_yes ?_
  | with_reducible refine e_andV ?_
  | with_reducible refine e_orV ?_
  | with_reducible refine e_notV ?_
  | with_reducible refine e_if ?_
  | with_reducible refine e_chain ?_
  | with_reducible refine e_callX ?_
  | ((with_reducible refine e_callXP (by with_unfolding_all exact rfl) ?_ (by with_unfolding_all exact trivial)))
  | ((with_reducible refine s_seq ?_); (try dsimp only [List.set]))
  | with_reducible refine s_next ?_
  | with_reducible refine s_ret ?_
  | ((with_reducible refine s_pen (by with_unfolding_all exact rfl) (Or.inr rfl) ?_))
  | ((with_reducible refine s_pen (by with_unfolding_all exact rfl) (Or.inl rfl) ?_))
  | ((with_reducible refine s_spr (by with_unfolding_all exact rfl) ?_))
  | ((with_reducible refine s_putOwn (by with_unfolding_all exact rfl) ?_ (by with_unfolding_all exact rfl)))
  | with_reducible refine s_asg ?_
  | with_reducible refine s_asgG ?_
  | with_reducible refine s_if ?_
  | with_reducible refine g_name ?_
  | with_reducible refine g_tup rfl ?_
  | with_reducible refine gs_cons ?_
  | with_reducible refine gs_nil ?_
  | with_reducible refine r_lt ?_
  | with_reducible refine r_le ?_
  | with_reducible refine r_gt ?_
  | with_reducible refine r_ge ?_
  | with_reducible refine r_add ?_
  | with_reducible refine r_sub ?_
  | with_reducible refine r_eqI ?_
  | with_reducible refine r_eqS ?_
  | with_reducible refine r_eqB ?_
  | with_reducible refine r_neI ?_
  | with_reducible refine r_neB ?_
  | with_reducible refine c_min2 ?_
  | with_reducible refine c_max2 ?_
  | with_reducible refine c_intB ?_
  | with_reducible refine c_len (Or.inl rfl) ?_
  | with_reducible refine c_len (Or.inr rfl) ?_
  | with_reducible refine c_list (Or.inl rfl) ?_
  | with_reducible refine c_list (Or.inr rfl) ?_
  | with_reducible refine c_tuple (Or.inl rfl) ?_
  | with_reducible refine c_tuple (Or.inr rfl) ?_
  | with_reducible refine r_ixT (by with_unfolding_all exact rfl) ?_
  | with_reducible refine r_ixL (by with_unfolding_all exact rfl) ?_
  | with_reducible refine r_slT ?_
  | with_reducible refine r_slL ?_
  | with_reducible refine r_isNone ?_
  | with_reducible refine r_notBl ?_
  | with_reducible refine eps_cons ?_
  | with_reducible refine eps_nil ?_
  | with_reducible refine e_dget1 ?_
  | with_reducible refine ed_callX ?_
  | with_reducible refine ⟨_, rfl, ?_⟩
  | with_reducible refine And.intro (Nat.le_of_ble_eq_true rfl) ?_)
local macro_rules | `(tactic| walk_at "t") => `(tactic| first
  | walk_at "e"
  | refine r_modAny (by first | omega | decide) fun z z0 z1 => ?_
  | refine r_mul (by first | exact Or.inr ⟨by decide, by decide⟩ | exact Or.inl ⟨by decide, by decide⟩ | exact Or.inl ⟨by omega, by omega⟩) ?_
  | refine r_pow ⟨by decide, by decide, by decide⟩ ?_
  | refine r_fdivW (by first | assumption | (rename_i hw _; exact hw _) | exact wide_div (b := 200) (by decide) (by decide) (by decide) (by decide)) ?_
  | with_reducible refine And.intro (by omega) ?_)
local macro_rules | `(tactic| walk_at "k") => `(tactic| first
  | walk_at "e"
  | with_reducible refine ⟨fun hb => absurd hb (by decide +kernel), fun _ => ?_⟩
  | with_reducible refine ⟨fun _ => ?_, fun hb => absurd hb (by decide +kernel)⟩
  | refine ⟨fun hb => absurd hb Bool.false_ne_true, fun _ => ?_⟩
  | refine ⟨fun _ => ?_, fun hb => absurd hb.symm Bool.false_ne_true⟩)
local macro_rules | `(tactic| walk_at "d") => `(tactic| first
  | walk_at "k"
  | refine And.intro (show WfTake _ from ⟨by omega, by omega⟩) (take_all fun k hk => ?_))
local macro_rules | `(tactic| walk_at "o") => `(tactic| first
  | with_reducible refine s_ownList ?_
  | walk_at "d"
  | with_reducible refine ⟨_, Or.inl rfl, ?_⟩)

section
variable {P : Program} {w : World} {K : PySem.W.Frag} {mg : Str → Option Value} {base : Heap}
structure Rl where
  h : Nat
  a : Nat
  he : Option Nat
  t : Nat
  sa : Option Nat
def Rl.D (r : Rl) : PyData := .tuple [.int r.h, .int r.a, numD r.he, .int r.t, numD r.sa]
structure Rl.Ok (mo mn lt : Nat) (r : Rl) : Prop where
  h2 : r.h < 2
  a1 : r.a < if r.h = 1 then mn else mo
  t1 : r.t < if r.h = 1 then mn else mo
  he1 : ∀ v, r.he = some v → v < lt
  sa1 : ∀ v, r.sa = some v → v < lt
theorem Rl.Ok.mono {mo mn lt mo' mn' lt' : Nat} {r : Rl} (h : r.Ok mo mn lt) (h1 : mo ≤ mo') (h2 : mn ≤ mn') (h3 : lt ≤ lt') : r.Ok mo' mn' lt' := by
  have ha := h.a1
  have ht := h.t1
  refine ⟨h.h2, ?_, ?_, fun v e => Nat.lt_of_lt_of_le (h.he1 v e) h3, fun v e => Nat.lt_of_lt_of_le (h.sa1 v e) h3⟩
  · split at ha <;> rename_i q <;> simp only [q, if_true, if_false] <;> omega
  · split at ht <;> rename_i q <;> simp only [q, if_true, if_false] <;> omega
def rlsD (rs : List Rl) : List PyData := rs.map Rl.D
theorem rlsD_len (rs : List Rl) : (rlsD rs).length = rs.length := List.length_map _
structure ChA where
  turns : Nat
  letters : Nat
abbrev spChain (K : PySem.W.Frag) (ts : List Addr) : Sp := SpXN (α := ChA) K ts (fun a => a.turns ≤ 50 ∧ 1 ≤ a.letters ∧ a.letters ≤ 50) (fun a => [.int a.turns, .int a.letters]) (fun a o => ∃ rs : List Rl, o = .lst (rlsD rs) ∧ rs.length = 2 * a.turns ∧ ∀ r ∈ rs, r.Ok (a.turns + 1) (a.turns + 1) a.letters)
abbrev LCh (turns letters : Nat) (rs : List Rl) : Lv := [some (.d (.int turns)), some (.d (.int letters)), some (.own (.lst (rlsD rs))), none, none, none]
set_option maxHeartbeats 4000000 in
theorem ok_law_chain (T : Tx K mg base) : FnOk P w K mg base CX0 1 T.f_law_chain T.d_law_chain ["turns", "letters"] (spChain K T.ts) := by
  refine fnXN T.F_law_chain sc_law_chain (fun _ _ => rfl) (fun cdv A outer s H E hr => ⟨_, (pss_cons (ps_set (i := 2) sc_law_chain.nd rfl (.inl rfl) (pe_lst pa_nil))
      (pss_cons (ps_for PassesOwn.never rfl (pi_range1 rfl T.m_range (pa_cons (pv 0) pa_nil)) (pg_name (i := 3) sc_law_chain.nd rfl (.inl rfl))
      (pss_cons (ps_set (i := 4) sc_law_chain.nd rfl (.inl rfl) (pe_op op_mod (pv 3) pe_int))
      (pss_cons (ps_set (i := 5) sc_law_chain.nd rfl (.inl rfl) (pe_op op_mod (pe_op op_fdivW (pv 3) pe_int) (pv 1)))
      (pss_cons (ps_expr (pe_bm PySem.F.plainAttrs_list PySem.F.slot_list_append PySem.F.type_list_append mt_append (pv 2) (pa_cons (pe_tup (pa_cons (pv 4) (pa_cons (pv 3) (pa_cons pe_non (pa_cons (pe_op op_add (pv 3) pe_int) (pa_cons (pv 5) pa_nil)))))) pa_nil)))
      (pss_one (ps_expr (pe_bm PySem.F.plainAttrs_list PySem.F.slot_list_append PySem.F.type_list_append mt_append (pv 2) (pa_cons (pe_tup (pa_cons (pe_op op_sub pe_int (pv 4)) (pa_cons (pv 3) (pa_cons (pv 5) (pa_cons (pe_op op_add (pv 3) pe_int) (pa_cons pe_non pa_nil)))))) pa_nil))))))))
      (pss_one (ps_ret (pv 2))))), fun a ha => ?_⟩)
  obtain ⟨turns, letters⟩ := a
  obtain ⟨ht, hl1, hl2⟩ := ha
  dsimp only at ht hl1 hl2
  try simp only [nox_K, blk_K, cx_K]
  show S K ⟨none, T.ts⟩ H _ [some (.d _), some (.d _), none, none, none, none] _
  refine s_seq (s_ownNil ?_)
  dsimp only [List.set]
  refine s_seq (s_forI (it_rng (ea_cons (e_var rfl (ea_nil ⟨(turns : Int), rfl, by omega, by omega, fun i L => ∃ rs, rs.length = 2 * i ∧ (∀ r ∈ rs, r.Ok (turns + 1) (turns + 1) letters) ∧ L = LCh turns letters rs, ⟨_, Sub.refl _, [], rfl, fun r hr => (nomatch hr), rfl⟩, fun i d L' hd ⟨rs, e1, e2, e⟩ => ?_, fun L' ⟨rs, e1, e2, e⟩ L4 s4 => ?_⟩)))))
  · subst e
    obtain ⟨hi, rfl⟩ := rngL_get hd
    rw [Int.zero_add]
    rw [Int.toNat_natCast] at hi
    refine g_name ?_
    dsimp only [List.set]
    refine s_seq (s_asg ?_)
    repeat walk_at "e"
    refine r_mod (by decide) ?_
    rw [show ((i : Int) % 2) = ((i % 2 : Nat) : Int) from rfl]
    dsimp only [List.set]
    repeat walk_at "e"
    refine r_fdivW (wide_div (b := 200) (by decide) (by decide) (by decide) (by decide)) ?_
    repeat walk_at "e"
    refine r_mod (by omega) ?_
    rw [show ((i : Int) / 2 % (letters : Int)) = ((i / 2 % letters : Nat) : Int) from rfl]
    dsimp only [List.set]
    have hlt : i / 2 % letters < letters := Nat.mod_lt _ (by omega)
    have hg : i % 2 < 2 := Nat.mod_lt _ (by decide)
    refine s_seq (s_appOwn rfl (by rw [rlsD_len]; omega) ?_)
    repeat walk_at "e"
    rw [show ((i : Int) + 1) = ((i + 1 : Nat) : Int) by omega]
    rw [show rlsD rs ++ [PyData.tuple [.int ((i % 2 : Nat) : Int), .int (i : Int), .none, .int ((i + 1 : Nat) : Int), .int ((i / 2 % letters : Nat) : Int)]] = rlsD (rs ++ [⟨i % 2, i, none, i + 1, some (i / 2 % letters)⟩]) from by unfold rlsD; rw [List.map_append]; rfl]
    refine s_appOwn rfl (by rw [rlsD_len, List.length_append]; show rs.length + 1 < _; omega) ?_
    repeat walk_at "e"
    rw [show ((i : Int) + 1) = ((i + 1 : Nat) : Int) by omega, show (1 : Int) - ((i % 2 : Nat) : Int) = ((1 - i % 2 : Nat) : Int) by omega]
    rw [show rlsD (rs ++ [⟨i % 2, i, none, i + 1, some (i / 2 % letters)⟩]) ++ [PyData.tuple [.int ((1 - i % 2 : Nat) : Int), .int (i : Int), .int ((i / 2 % letters : Nat) : Int), .int ((i + 1 : Nat) : Int), .none]] = rlsD (rs ++ [⟨i % 2, i, none, i + 1, some (i / 2 % letters)⟩] ++ [⟨1 - i % 2, i, some (i / 2 % letters), i + 1, none⟩]) from by unfold rlsD; rw [List.map_append, List.map_append, List.map_append]; rfl]
    refine ⟨LCh turns letters _, by repeat (first | exact Sub.nil | apply Sub.keep | apply Sub.drop), _, by rw [List.length_append, List.length_append, e1]; show 2 * i + 1 + 1 = 2 * (i + 1); omega, fun r hr => ?_, rfl⟩
    rcases List.mem_append.mp hr with hr | hr
    · rcases List.mem_append.mp hr with hr | hr
      · exact e2 r hr
      · rw [List.mem_singleton.mp hr]
        exact ⟨hg, by dsimp only; split <;> omega, by dsimp only; split <;> omega, fun v e => (by cases e), fun v e => by cases e; exact hlt⟩
    · rw [List.mem_singleton.mp hr]
      exact ⟨by dsimp only; omega, by dsimp only; split <;> omega, by dsimp only; split <;> omega, fun v e => by cases e; exact hlt, fun v e => (by cases e)⟩
  · subst e
    rw [rngL_len, Int.toNat_natCast] at e1
    refine S.sub ?_ s4
    exact s_retO rfl ⟨rs, rfl, e1, e2⟩
structure RrA where
  l : List Nat
  mo : Nat
  mn : Nat
  lt : Nat
abbrev spRule (K : PySem.W.Frag) (ts : List Addr) : Sp := SpX (α := RrA) K ts (fun a => a.l.length = 9 ∧ 1 ≤ a.mo ∧ 1 ≤ a.mn ∧ 1 ≤ a.lt) (fun a => [.list (natsD a.l), .tuple [.int a.mo, .int a.mn], .int a.lt]) (fun a d => ∃ r : Rl, d = r.D ∧ r.Ok a.mo a.mn a.lt)
set_option maxHeartbeats 4000000 in
theorem ok_law_rule (T : Tx K mg base) : FnOk P w K mg base CX0 1 T.f_law_rule T.d_law_rule ["some", "many", "letters"] (spRule K T.ts) := by
  refine fnX T.F_law_rule sc_law_rule (fun _ _ => rfl) (fun cdv A outer s H E hr => ⟨_, (pss_cons (ps_set (i := 3) sc_law_rule.nd rfl (.inl rfl) (pe_op op_mod (pe_ix (kx_ixL K rfl) (pv 0) pe_int (fun _ _ => rfl)) pe_int))
      (pss_cons (ps_set (i := 4) sc_law_rule.nd rfl (.inl rfl) (pe_ix (kx_ixL K rfl) (pe_lst (pa_cons pe_non (pa_cons pe_non (pa_cons (pe_op op_mod (pe_ix (kx_ixL K rfl) (pv 0) pe_int (fun _ _ => rfl)) (pv 2)) pa_nil)))) (pe_op op_mod (pe_ix (kx_ixL K rfl) (pv 0) pe_int (fun _ _ => rfl)) pe_int) (fun _ _ => rfl)))
      (pss_cons (ps_set (i := 5) sc_law_rule.nd rfl (.inl rfl) (pe_ix (kx_ixL K rfl) (pe_lst (pa_cons pe_non (pa_cons (pe_op op_mod (pe_ix (kx_ixL K rfl) (pv 0) pe_int (fun _ _ => rfl)) (pv 2)) pa_nil))) (pe_op op_mod (pe_ix (kx_ixL K rfl) (pv 0) pe_int (fun _ _ => rfl)) pe_int) (fun _ _ => rfl)))
      (pss_one (ps_ret (pe_tup (pa_cons (pv 3) (pa_cons (pe_op op_mod (pe_ix (kx_ixL K rfl) (pv 0) pe_int (fun _ _ => rfl)) (pe_ix (kx_ixT K rfl) (pv 1) (pv 3) (fun _ _ => rfl))) (pa_cons (pv 4) (pa_cons (pe_op op_mod (pe_ix (kx_ixL K rfl) (pv 0) pe_int (fun _ _ => rfl)) (pe_ix (kx_ixT K rfl) (pv 1) (pv 3) (fun _ _ => rfl))) (pa_cons (pv 5) pa_nil))))))))))), fun a ha => ?_⟩)
  obtain ⟨l, mo, mn, lt⟩ := a
  obtain ⟨hl, hmo, hmn, hlt⟩ := ha
  dsimp only at hl hmo hmn hlt
  try simp only [nox_K, blk_K, cx_K]
  show S K ⟨none, T.ts⟩ H _ [some (.d _), some (.d _), some (.d _), none, none, none] _
  have modE : ∀ (x m : Nat), ((x : Int) % (m : Int)) = ((x % m : Nat) : Int) := fun _ _ => rfl
  refine s_seq (s_asg ?_)
  repeat walk_at "e"
  refine r_ixL (nats_at (i := 0) (by omega)) ?_
  repeat walk_at "e"
  refine r_mod (by decide) ?_
  rw [show (((l.getD 0 0 : Nat) : Int) % 2) = ((l.getD 0 0 % 2 : Nat) : Int) from rfl]
  have hh : l.getD 0 0 % 2 < 2 := Nat.mod_lt _ (by decide)
  generalize l.getD 0 0 % 2 = h at hh
  dsimp only [List.set]
  repeat walk_at "e"
  refine r_ixL (nats_at (i := 1) (by omega)) ?_
  repeat walk_at "e"
  refine r_mod (by omega) ?_
  repeat walk_at "e"
  refine r_ixL (nats_at (i := 2) (by omega)) ?_
  repeat walk_at "e"
  refine r_mod (by decide) ?_
  obtain ⟨he, hhe, hhe2⟩ : ∃ he : Option Nat, atI [PyData.none, .none, .int (((l.getD 1 0 : Nat) : Int) % (lt : Int))] (((l.getD 2 0 : Nat) : Int) % 3) = some (numD he) ∧ ∀ v, he = some v → v < lt := by
    have hq : l.getD 2 0 % 3 < 3 := Nat.mod_lt _ (by decide)
    rw [show (((l.getD 2 0 : Nat) : Int) % 3) = ((l.getD 2 0 % 3 : Nat) : Int) from rfl]
    generalize l.getD 2 0 % 3 = q at hq
    rcases (by omega : q = 0 ∨ q = 1 ∨ q = 2) with rfl | rfl | rfl
    · exact ⟨none, rfl, fun v e => (by cases e)⟩
    · exact ⟨none, rfl, fun v e => (by cases e)⟩
    · exact ⟨some (l.getD 1 0 % lt), rfl, fun v e => by cases e; exact Nat.mod_lt _ (by omega)⟩
  refine r_ixL hhe ?_
  dsimp only [List.set]
  repeat walk_at "e"
  refine r_ixL (nats_at (i := 3) (by omega)) ?_
  repeat walk_at "e"
  refine r_mod (by omega) ?_
  repeat walk_at "e"
  refine r_ixL (nats_at (i := 4) (by omega)) ?_
  repeat walk_at "e"
  refine r_mod (by decide) ?_
  obtain ⟨sa, hsa, hsa2⟩ : ∃ he : Option Nat, atI [PyData.none, .int (((l.getD 3 0 : Nat) : Int) % (lt : Int))] (((l.getD 4 0 : Nat) : Int) % 2) = some (numD he) ∧ ∀ v, he = some v → v < lt := by
    have hq : l.getD 4 0 % 2 < 2 := Nat.mod_lt _ (by decide)
    rw [show (((l.getD 4 0 : Nat) : Int) % 2) = ((l.getD 4 0 % 2 : Nat) : Int) from rfl]
    generalize l.getD 4 0 % 2 = q at hq
    rcases (by omega : q = 0 ∨ q = 1) with rfl | rfl
    · exact ⟨none, rfl, fun v e => (by cases e)⟩
    · exact ⟨some (l.getD 3 0 % lt), rfl, fun v e => by cases e; exact Nat.mod_lt _ (by omega)⟩
  refine r_ixL hsa ?_
  dsimp only [List.set]
  have hm : atI [PyData.int (mo : Int), .int (mn : Int)] (h : Int) = some (.int ((if h = 1 then mn else mo : Nat) : Int)) := by
    rcases (by omega : h = 0 ∨ h = 1) with rfl | rfl <;> rfl
  have hmp : 0 < (if h = 1 then mn else mo) := by split <;> omega
  repeat walk_at "e"
  refine r_ixL (nats_at (i := 5) (by omega)) ?_
  repeat walk_at "e"
  refine r_ixT hm ?_
  repeat walk_at "e"
  refine r_mod (by omega) ?_
  repeat walk_at "e"
  refine r_ixL (nats_at (i := 6) (by omega)) ?_
  repeat walk_at "e"
  refine r_ixT hm ?_
  repeat walk_at "e"
  refine r_mod (by omega) ?_
  repeat walk_at "e"
  exact ⟨⟨h, l.getD 5 0 % (if h = 1 then mn else mo), he, l.getD 6 0 % (if h = 1 then mn else mo), sa⟩, rfl, ⟨hh, Nat.mod_lt _ hmp, Nat.mod_lt _ hmp, hhe2, hsa2⟩⟩
structure CeA where
  ns : List Int
  k : Nat
abbrev spCell (K : PySem.W.Frag) (ts : List Addr) : Sp := SpX (α := CeA) K ts (fun a => a.k ≤ 1000) (fun a => [.list (intsL a.ns), .int a.k]) (fun _ d => ∃ z : Int, d = .int z)
set_option maxHeartbeats 4000000 in
theorem ok_law_cell (T : Tx K mg base) : FnOk P w K mg base CX0 1 T.f_law_cell T.d_law_cell ["script", "k"] (spCell K T.ts) := by
  refine fnX T.F_law_cell sc_law_cell (fun _ _ => rfl) (fun cdv A outer s H E hr => ⟨_, (pss_cons (ps_if (pt_cmpR op_lt (pv 1) (pe_callB (kx_len K rfl) (by rfl) T.m_len PySem.boot_len (pa_cons (pv 0) pa_nil)) (nomark _))
      (pss_one (ps_ret (pe_ix (kx_ixL K rfl) (pv 0) (pv 1) (fun _ _ => rfl))))
      pss_nil)
      (pss_one (ps_ret (pe_op op_add (pe_op op_add (pe_op op_mul pe_int (pv 1)) pe_int) (pe_callB (kx_len K rfl) (by rfl) T.m_len PySem.boot_len (pa_cons (pv 0) pa_nil)))))), fun a ha => ?_⟩)
  obtain ⟨ns, k⟩ := a
  dsimp only at ha
  try simp only [nox_K, blk_K, cx_K]
  show S K ⟨none, T.ts⟩ H _ [some (.d _), some (.d _)] _
  refine s_seq (s_if ?_)
  repeat walk_at "e"
  refine ⟨fun h => ?_, fun h => ?_⟩
  · have h := of_decide_eq_true h
    have hl : k < ns.length := by rw [show (intsL ns).length = ns.length from List.length_map _] at h; omega
    repeat walk_at "e"
    refine r_ixL (show atI (intsL ns) (k : Int) = some (.int (ns.getD k 0)) from atI_nat (by unfold intsL; rw [List.getElem?_map, List.getElem?_eq_getElem hl, List.getD_eq_getElem?_getD, List.getElem?_eq_getElem hl]; rfl)) ?_
    exact ⟨_, rfl⟩
  · refine s_next ?_
    repeat walk_at "e"
    refine r_mul (Or.inl ⟨by decide, by decide⟩) ?_
    repeat walk_at "e"
    exact ⟨_, rfl⟩
end
end K32
set_option Elab.async false
set_option linter.all false
set_option maxRecDepth 100000
namespace K32
open PySem PySem.Spec PyProof.Rows L2 Dl Wm
local macro_rules | `(tactic| walk_at "e") => `(tactic| first
  | ((with_reducible refine e_var (by with_unfolding_all exact rfl) ?_))
  | with_reducible refine e_int ?_
  | with_reducible refine e_str ?_
  | with_reducible refine e_bl ?_
  | with_reducible refine e_non ?_
  | ((with_reducible refine e_pen (by with_unfolding_all exact rfl) (Or.inr rfl) ?_); intro z hz)
  | ((with_reducible refine e_pen (by with_unfolding_all exact rfl) (Or.inl rfl) ?_); intro z hz)
  | ((with_reducible refine e_penIx (by with_unfolding_all exact rfl) ?_))
  | ((with_reducible refine e_spr (by with_unfolding_all exact rfl) ?_); intro z)
  | with_reducible refine e_op ?_
  | with_reducible refine e_tup ?_
  | with_reducible refine e_lst ?_
  | with_reducible refine ea_cons ?_
  | with_reducible refine ea_nil ?_
  | ((with_reducible refine e_penLen (by with_unfolding_all exact rfl) ?_))
  | ((with_reducible refine e_lenOwn (by with_unfolding_all exact rfl) ?_))
  | ((with_reducible refine e_tupOwn (by with_unfolding_all exact rfl) ?_))
  | ((with_reducible refine s_aug (by with_unfolding_all exact rfl) ?_); (try dsimp only [List.set]))
  | with_reducible refine e_callXF ?_
  | with_reducible refine r_ipI ?_
  | with_reducible refine e_un ?_
  | with_reducible refine r_neg ?_
  | with_reducible refine gws_cons ?_
  | with_reducible refine gws_nil ?_
  | with_reducible refine gw_tup rfl ?_
  | ((with_reducible refine gw_name (by decide) ?_); (try dsimp only [List.set]))
  | with_reducible refine e_isI ?_
  | with_reducible refine e_isB ?_
  | with_reducible refine e_isS ?_
  | with_reducible refine e_isTu ?_
  | with_reducible refine e_isL ?_
  | with_reducible refine e_cb ?_
  | with_reducible refine e_sl ?_
  | with_reducible refine eo_none ?_
  | with_reducible refine eo_some ?_
  | with_reducible refine et_test ?_
  | with_reducible refine et_B ?_
  | with_reducible refine et_and ?_
  | with_reducible refine et_or ?_
  | with_reducible refine et_not ?_
  | with_reducible refine et_yes ?_
  | with_reducible refine e_andV ?_
  | with_reducible refine e_orV ?_
  | with_reducible refine e_notV ?_
  | with_reducible refine e_if ?_
  | with_reducible refine e_chain ?_
  | with_reducible refine e_callX ?_
  | ((with_reducible refine e_callXP (by with_unfolding_all exact rfl) ?_ (by with_unfolding_all exact trivial)))
  | ((with_reducible refine s_seq ?_); (try dsimp only [List.set]))
  | with_reducible refine s_next ?_
  | with_reducible refine s_ret ?_
  | ((with_reducible refine s_pen (by with_unfolding_all exact rfl) (Or.inr rfl) ?_))
  | ((with_reducible refine s_pen (by with_unfolding_all exact rfl) (Or.inl rfl) ?_))
  | ((with_reducible refine s_spr (by with_unfolding_all exact rfl) ?_))
  | ((with_reducible refine s_putOwn (by with_unfolding_all exact rfl) ?_ (by with_unfolding_all exact rfl)))
  | with_reducible refine s_asg ?_
  | with_reducible refine s_asgG ?_
  | with_reducible refine s_if ?_
  | with_reducible refine g_name ?_
  | with_reducible refine g_tup rfl ?_
  | with_reducible refine gs_cons ?_
  | with_reducible refine gs_nil ?_
  | with_reducible refine r_lt ?_
  | with_reducible refine r_le ?_
  | with_reducible refine r_gt ?_
  | with_reducible refine r_ge ?_
  | with_reducible refine r_add ?_
  | with_reducible refine r_sub ?_
  | with_reducible refine r_eqI ?_
  | with_reducible refine r_eqS ?_
  | with_reducible refine r_eqB ?_
  | with_reducible refine r_neI ?_
  | with_reducible refine r_neB ?_
  | with_reducible refine c_min2 ?_
  | with_reducible refine c_max2 ?_
  | with_reducible refine c_intB ?_
  | with_reducible refine c_len (Or.inl rfl) ?_
  | with_reducible refine c_len (Or.inr rfl) ?_
  | with_reducible refine c_list (Or.inl rfl) ?_
  | with_reducible refine c_list (Or.inr rfl) ?_
  | with_reducible refine c_tuple (Or.inl rfl) ?_
  | with_reducible refine c_tuple (Or.inr rfl) ?_
  | with_reducible refine r_ixT (by with_unfolding_all exact rfl) ?_
  | with_reducible refine r_ixL (by with_unfolding_all exact rfl) ?_
  | with_reducible refine r_slT ?_
  | with_reducible refine r_slL ?_
  | with_reducible refine r_isNone ?_
  | with_reducible refine r_notBl ?_
  | with_reducible refine eps_cons ?_
  | with_reducible refine eps_nil ?_
  | with_reducible refine e_dget1 ?_
  | with_reducible refine ed_callX ?_
  | with_reducible refine ⟨_, rfl, ?_⟩
  | with_reducible refine And.intro (Nat.le_of_ble_eq_true rfl) ?_)
local macro_rules | `(tactic| walk_at "t") => `(tactic| first
  | walk_at "e"
  | refine r_modAny (by first | omega | decide) fun z z0 z1 => ?_
  | refine r_mul (by first | exact Or.inr ⟨by decide, by decide⟩ | exact Or.inl ⟨by decide, by decide⟩ | exact Or.inl ⟨by omega, by omega⟩) ?_
  | refine r_pow ⟨by decide, by decide, by decide⟩ ?_
  | refine r_fdivW (by first | assumption | (rename_i hw _; exact hw _) | exact wide_div (b := 200) (by decide) (by decide) (by decide) (by decide)) ?_
  | with_reducible refine And.intro (by omega) ?_)
local macro_rules | `(tactic| walk_at "k") => `(tactic| first
  | walk_at "e"
  | with_reducible refine ⟨fun hb => absurd hb (by decide +kernel), fun _ => ?_⟩
  | with_reducible refine ⟨fun _ => ?_, fun hb => absurd hb (by decide +kernel)⟩
  | refine ⟨fun hb => absurd hb Bool.false_ne_true, fun _ => ?_⟩
  | refine ⟨fun _ => ?_, fun hb => absurd hb.symm Bool.false_ne_true⟩)
local macro_rules | `(tactic| walk_at "d") => `(tactic| first
  | walk_at "k"
  | refine And.intro (show WfTake _ from ⟨by omega, by omega⟩) (take_all fun k hk => ?_))
local macro_rules | `(tactic| walk_at "o") => `(tactic| first
  | with_reducible refine s_ownList ?_
  | walk_at "d"
  | with_reducible refine ⟨_, Or.inl rfl, ?_⟩)

section
variable {P : Program} {w : World} {K : PySem.W.Frag} {mg : Str → Option Value} {base : Heap}
theorem mem3 {α : Type} {a b d : α} (h : d ∈ [a, b]) : d = a ∨ d = b := by
  rcases List.mem_cons.mp h with h | h
  · exact .inl h
  · exact .inr (List.mem_singleton.mp h)
abbrev PyData.Lay (k : Nat) (d : PyData) : Prop := d.canLay0 = true ∧ d.depth ≤ k
theorem lay_all {k : Nat} : ∀ {ds : List PyData}, (∀ d ∈ ds, PyData.Lay k d) → PyData.canLayAll0 ds = true ∧ PyData.depthAll ds ≤ k
  | [], _ => ⟨rfl, Nat.zero_le _⟩
  | d :: ds, h => by
    obtain ⟨h1, h2⟩ := lay_all fun x hx => h x (List.mem_cons_of_mem _ hx)
    obtain ⟨h3, h4⟩ := h d (List.mem_cons_self ..)
    rw [PyData.canLayAll0, PyData.depthAll, h1, h3]
    exact ⟨rfl, Nat.max_le.mpr ⟨h4, h2⟩⟩
theorem lay_tup {k : Nat} {ds : List PyData} (h : ∀ d ∈ ds, PyData.Lay k d) : PyData.Lay (k + 1) (.tuple ds) := by
  obtain ⟨h1, h2⟩ := lay_all h
  exact ⟨by rw [PyData.canLay0]; exact h1, by rw [PyData.depth]; omega⟩
theorem lay_lst {k : Nat} {ds : List PyData} (h : ∀ d ∈ ds, PyData.Lay k d) : PyData.Lay (k + 1) (.list ds) := by
  obtain ⟨h1, h2⟩ := lay_all h
  exact ⟨by rw [PyData.canLay0]; exact h1, by rw [PyData.depth]; omega⟩
theorem lay_int {k : Nat} (i : Int) : PyData.Lay k (.int i) := ⟨rfl, Nat.zero_le _⟩
theorem shaped_lay {k : Nat} {d : PyData} (h : PyData.Lay k d) (hk : k ≤ 64) : SeqAt.shaped d = true := by
  unfold SeqAt.shaped
  rw [h.1, decide_eq_true (Nat.le_trans h.2 hk)]
  rfl
theorem lay_ints (l : List Int) : PyData.Lay 1 (.list (intsL l)) := lay_lst fun d hd => by
  obtain ⟨v, _, rfl⟩ := List.mem_map.mp hd
  exact lay_int _
theorem lay_intsT (l : List Int) : PyData.Lay 1 (.tuple (intsL l)) := lay_tup fun d hd => by
  obtain ⟨v, _, rfl⟩ := List.mem_map.mp hd
  exact lay_int _
theorem lay_mono {k m : Nat} {d : PyData} (h : PyData.Lay k d) (hk : k ≤ m) : PyData.Lay m d := ⟨h.1, Nat.le_trans h.2 hk⟩
structure Bk where
  os : List Bool
  ns : List Bool
  lt : Nat
  rs : List Rl
def blsD (l : List Bool) : List PyData := l.map PyData.bool
theorem blsD_len (l : List Bool) : (blsD l).length = l.length := List.length_map _
def Bk.D (b : Bk) : PyData := .tuple [.tuple (blsD b.os), .tuple (blsD b.ns), .int b.lt, .tuple (rlsD b.rs)]
structure Bk.Ok (b : Bk) : Prop where
  o1 : 1 ≤ b.os.length
  o2 : b.os.length ≤ 10
  n1 : 1 ≤ b.ns.length
  n2 : b.ns.length ≤ 10
  l1 : 1 ≤ b.lt
  l2 : b.lt ≤ 10
  r2 : b.rs.length ≤ 90
  rs : ∀ r ∈ b.rs, r.Ok b.os.length b.ns.length b.lt
abbrev spBook (K : PySem.W.Frag) (ts : List Addr) : Sp := SpX (α := List Int) K ts (fun ns => ns.length ≤ 63) (fun ns => [.list (intsL ns)]) (fun _ d => ∃ b : Bk, d = b.D ∧ b.Ok)
theorem cut_mid (xs : List PyData) (p q : Nat) (h1 : p ≤ q) (h2 : q ≤ xs.length) : cutD xs (some (p : Int)) (some (q : Int)) = (xs.drop p).take (q - p) := by
  unfold Dl.cutD
  rw [HT.sIx_nat, HT.sIx_nat, Nat.min_eq_left h2, Nat.min_eq_left (show p ≤ xs.length by omega)]
theorem cut_sub {xs : List PyData} {lo hi : Option Int} : (Dl.cutD xs lo hi).length ≤ xs.length ∧ ∀ x ∈ Dl.cutD xs lo hi, x ∈ xs := by
  unfold Dl.cutD
  refine ⟨?_, fun x hx => List.mem_of_mem_drop (List.mem_of_mem_take hx)⟩
  rw [List.length_take, List.length_drop]
  omega
theorem eqv_nilL (ds : List PyData) : PyData.eqv (.list ds) (.list []) = ds.isEmpty := by cases ds <;> rfl
theorem lay_num (o : Option Nat) : PyData.Lay 0 (numD o) := by cases o <;> exact ⟨rfl, Nat.le_refl _⟩
theorem lay_rls (rs : List Rl) : PyData.Lay 2 (.list (rlsD rs)) := lay_lst fun d hd => by
  obtain ⟨r, _, rfl⟩ := List.mem_map.mp hd
  refine lay_tup fun d hd => ?_
  rcases List.mem_cons.mp hd with rfl | hd
  · exact lay_int _
  rcases List.mem_cons.mp hd with rfl | hd
  · exact lay_int _
  rcases List.mem_cons.mp hd with rfl | hd
  · exact lay_num _
  rcases List.mem_cons.mp hd with rfl | hd
  · exact lay_int _
  · rw [List.mem_singleton.mp hd]; exact lay_num _
theorem rls_erase (rs : List Rl) (m : Nat) : (rlsD rs).eraseIdx m = rlsD (rs.eraseIdx m) := by
  unfold rlsD
  induction rs generalizing m with
  | nil => rfl
  | cons r rs ih =>
    cases m with
    | zero => rfl
    | succ m => show Rl.D r :: _ = Rl.D r :: _; rw [ih m]
theorem rls_ins (rs : List Rl) (m : Nat) (r : Rl) : (rlsD rs).take m ++ [r.D] ++ (rlsD rs).drop m = rlsD (rs.take m ++ [r] ++ rs.drop m) := by
  unfold rlsD
  rw [List.map_append, List.map_append, List.map_take, List.map_drop]
  rfl
theorem bls_cat (a b : List Bool) : blsD a ++ blsD b = blsD (a ++ b) := by unfold blsD; rw [List.map_append]
theorem bls_set (a : List Bool) (i : Nat) (b : Bool) : (blsD a).set i (.bool b) = blsD (a.set i b) := by unfold blsD; rw [List.map_set]
theorem lc_bools (xs : List PyData) (f : PyData → Bool) : (xs.mapIdx fun _ d => some (PyData.bool (f d))).filterMap id = blsD (xs.map f) := by
  rw [show (xs.mapIdx fun _ d => some (PyData.bool (f d))) = xs.map fun d => some (PyData.bool (f d)) from by
    apply List.ext_getElem?
    intro i
    rw [List.getElem?_mapIdx, List.getElem?_map]]
  unfold blsD
  induction xs with
  | nil => rfl
  | cons x xs ih => rw [List.map_cons, List.filterMap_cons, List.map_cons, List.map_cons, ← ih]; rfl
abbrev LB0 (ns : List Int) (l : List Nat) (t lt mo mn : Nat) (rs : List Rl) : Lv := [some (.d (.list (intsL ns))), some (.d (.list (natsD l))), some (.d (.int t)), some (.d (.int lt)), some (.own (.lst (rlsD rs))), some (.d (.tuple [.int mo, .int mn])), none, none, none, none, none, none]
def evenOf (k : Int) : PyData → Bool
  | .int v => decide (v % 2 = k)
  | _ => false
def boolOf : PyData → Bool
  | .int v => decide (v % 3 = 0)
  | _ => false
set_option maxHeartbeats 8000000 in
theorem ok_law_book (T : Tx K mg base) : FnOk P w K mg base CX0 3 T.f_law_book T.d_law_book ["script"] (spBook K T.ts) := by
  refine fnX T.F_law_book sc_law_book (fun _ _ => rfl) (fun cdv A outer s H E hr => ⟨_, (pss_cons (ps_set (i := 1) sc_law_book.nd rfl (.inl rfl) (pe_call (ok_law_some T) (hr.mono (by decide)) (by rfl) T.g_law_some T.F_law_some.kp T.b_law_some .nil pass0 (pa_cons (pe_call (ok_law_cell T) (hr.mono (by decide)) (by rfl) T.g_law_cell T.F_law_cell.kp T.b_law_cell .nil pass0 (pa_cons (pv 0) (pa_cons pe_int pa_nil))) (pa_cons pe_int pa_nil))))
      (pss_cons (ps_set (i := 2) sc_law_book.nd rfl (.inl rfl) (pe_op op_mod (pe_ix (kx_ixL K rfl) (pv 1) pe_int (fun _ _ => rfl)) pe_int))
      (pss_cons (ps_set (i := 3) sc_law_book.nd rfl (.inl rfl) (pe_op op_add pe_int (pe_op op_mod (pe_ix (kx_ixL K rfl) (pv 1) pe_int (fun _ _ => rfl)) pe_int)))
      (pss_cons (ps_set (i := 4) sc_law_book.nd rfl (.inl rfl) (pe_call (ok_law_chain T) (hr.mono (by decide)) (by rfl) T.g_law_chain T.F_law_chain.kp T.b_law_chain .nil pass0 (pa_cons (pv 2) (pa_cons (pv 3) pa_nil))))
      (pss_cons (ps_set (i := 5) sc_law_book.nd rfl (.inl rfl) (pe_tup (pa_cons (pe_op op_add (pe_op op_add (pv 2) pe_int) (pe_op op_mod (pe_ix (kx_ixL K rfl) (pv 1) pe_int (fun _ _ => rfl)) pe_int)) (pa_cons (pe_op op_add (pe_op op_add (pv 2) pe_int) (pe_op op_mod (pe_ix (kx_ixL K rfl) (pv 1) pe_int (fun _ _ => rfl)) pe_int)) pa_nil))))
      (pss_cons (ps_if (PW.pt (pw_and (pt_cmpR op_eq (pe_op op_mod (pe_ix (kx_ixL K rfl) (pv 1) pe_int (fun _ _ => rfl)) pe_int) pe_int (nomark _)) (pw_and1 (pt_cmpR (kx_neD K rfl hr.units) (pv 4) (pe_lst pa_nil) (nomark _)))))
      (pss_one (ps_expr (pe_bm PySem.F.plainAttrs_list PySem.F.slot_list_pop PySem.F.type_list_pop mt_popAt (pv 4) (pa_cons (pe_op op_mod (pe_ix (kx_ixL K rfl) (pv 1) pe_int (fun _ _ => rfl)) (pe_callB (kx_len K rfl) (by rfl) T.m_len PySem.boot_len (pa_cons (pv 4) pa_nil))) pa_nil))))
      pss_nil)
      (pss_cons (ps_for PassesOwn.never rfl (kx_enum rfl rfl T.m_enumerate (pa_cons (pe_slice (kx_slL K rfl) (pv 0) (po_some pe_int) (po_some pe_int)) pa_nil)) (kx_pgT K (n := 2) rfl rfl (pgs_cons (pg_name (i := 6) sc_law_book.nd rfl (.inl rfl)) (pgs_cons (pg_name (i := 7) sc_law_book.nd rfl (.inl rfl)) pgs_nil)))
      (pss_cons (ps_set (i := 8) sc_law_book.nd rfl (.inl rfl) (pe_call (ok_law_some T) (hr.mono (by decide)) (by rfl) T.g_law_some T.F_law_some.kp T.b_law_some .nil pass0 (pa_cons (pv 7) (pa_cons pe_int pa_nil))))
      (pss_one (ps_if (pt_cmpR op_gt (pe_op op_mod (pe_ix (kx_ixL K rfl) (pv 8) pe_int (fun _ _ => rfl)) pe_int) pe_int (nomark _))
      (pss_one (ps_expr (pe_bm PySem.F.plainAttrs_list PySem.F.slot_list_insert PySem.F.type_list_insert mt_insert (pv 4) (pa_cons (pe_op op_mod (pe_ix (kx_ixL K rfl) (pv 8) pe_int (fun _ _ => rfl)) (pe_op op_add (pe_callB (kx_len K rfl) (by rfl) T.m_len PySem.boot_len (pa_cons (pv 4) pa_nil)) pe_int)) (pa_cons (pe_call (ok_law_rule T) (hr.mono (by decide)) (by rfl) T.g_law_rule T.F_law_rule.kp T.b_law_rule .nil pass0 (pa_cons (pv 8) (pa_cons (pv 5) (pa_cons (pv 3) pa_nil)))) pa_nil)))))
      pss_nil))))
      (pss_cons (ps_set (i := 9) sc_law_book.nd rfl (.inl rfl) (pe_op (kx_catL (K := K) rfl) (pe_lc (own := [("stand", 11)]) (g := gName 11) (tt := tYes) rfl sc_law_book.nd (pi_range1 rfl T.m_range (pa_cons (pe_op op_add (pv 2) pe_int) pa_nil)) (blkOk_by (own := [("stand", 11)]) (N := ["script", "some", "turns", "letters", "rules", "many", "k", "cell", "one", "old", "new", "stand"]) (sc := defScope s_law_book) (by decide +kernel)) (fun _ _ _ _ _ => (pg_name (i := 11) sc_law_book.nd rfl (.inl rfl))) (fun _ _ _ _ _ => pts_nil) (fun _ _ _ _ _ => (pe_cmpR op_eq (pe_op op_mod (pv 11) pe_int) pe_int (nomark _)))) (pe_lc (own := [("one", 8)]) (g := gName 8) (tt := tYes) rfl sc_law_book.nd (kx_piL K rfl (pe_slice (kx_slL K rfl) (pv 1) (po_some pe_int) (po_some (pe_op op_sub (pe_op op_sub (pe_op op_add pe_int (pe_ix (kx_ixT K rfl) (pv 5) pe_int (fun _ _ => rfl))) (pv 2)) pe_int)))) (blkOk_by (own := [("one", 8)]) (N := ["script", "some", "turns", "letters", "rules", "many", "k", "cell", "one", "old", "new", "stand"]) (sc := defScope s_law_book) (by decide +kernel)) (fun _ _ _ _ _ => (pg_name (i := 8) sc_law_book.nd rfl (.inl rfl))) (fun _ _ _ _ _ => pts_nil) (fun _ _ _ _ _ => (pe_cmpR op_eq (pe_op op_mod (pv 8) pe_int) pe_int (nomark _))))))
      (pss_cons (ps_set (i := 10) sc_law_book.nd rfl (.inl rfl) (pe_op (kx_catL (K := K) rfl) (pe_lc (own := [("stand", 11)]) (g := gName 11) (tt := tYes) rfl sc_law_book.nd (pi_range1 rfl T.m_range (pa_cons (pe_op op_add (pv 2) pe_int) pa_nil)) (blkOk_by (own := [("stand", 11)]) (N := ["script", "some", "turns", "letters", "rules", "many", "k", "cell", "one", "old", "new", "stand"]) (sc := defScope s_law_book) (by decide +kernel)) (fun _ _ _ _ _ => (pg_name (i := 11) sc_law_book.nd rfl (.inl rfl))) (fun _ _ _ _ _ => pts_nil) (fun _ _ _ _ _ => (pe_cmpR op_eq (pe_op op_mod (pv 11) pe_int) pe_int (nomark _)))) (pe_lc (own := [("one", 8)]) (g := gName 8) (tt := tYes) rfl sc_law_book.nd (kx_piL K rfl (pe_slice (kx_slL K rfl) (pv 1) (po_some pe_int) (po_some (pe_op op_sub (pe_op op_sub (pe_op op_add pe_int (pe_ix (kx_ixT K rfl) (pv 5) pe_int (fun _ _ => rfl))) (pv 2)) pe_int)))) (blkOk_by (own := [("one", 8)]) (N := ["script", "some", "turns", "letters", "rules", "many", "k", "cell", "one", "old", "new", "stand"]) (sc := defScope s_law_book) (by decide +kernel)) (fun _ _ _ _ _ => (pg_name (i := 8) sc_law_book.nd rfl (.inl rfl))) (fun _ _ _ _ _ => pts_nil) (fun _ _ _ _ _ => (pe_cmpR op_eq (pe_op op_mod (pv 8) pe_int) pe_int (nomark _))))))
      (pss_cons (ps_asg (pe_cmpR op_gt (pe_op op_mod (pe_ix (kx_ixL K rfl) (pv 1) pe_int (fun _ _ => rfl)) pe_int) pe_int (nomark _)) (pg_sub (pv 9) pe_int set_list))
      (pss_cons (ps_asg (pe_cmpR op_eq (pe_op op_mod (pe_ix (kx_ixL K rfl) (pv 1) pe_int (fun _ _ => rfl)) pe_int) pe_int (nomark _)) (pg_sub (pv 10) pe_int set_list))
      (pss_one (ps_ret (pe_tup (pa_cons (pe_callTy (kx_tuple K rfl) (by rfl) T.m_tuple (by decide +kernel) (pa_cons (pv 9) pa_nil)) (pa_cons (pe_callTy (kx_tuple K rfl) (by rfl) T.m_tuple (by decide +kernel) (pa_cons (pv 10) pa_nil)) (pa_cons (pe_op op_add (pv 3) (pe_op op_mod (pe_ix (kx_ixL K rfl) (pv 1) pe_int (fun _ _ => rfl)) pe_int)) (pa_cons (pe_callTy (kx_tuple K rfl) (by rfl) T.m_tuple (by decide +kernel) (pa_cons (pv 4) pa_nil)) pa_nil)))))))))))))))))), fun ns hns => ?_⟩)
  try simp only [nox_K, blk_K, cx_K]
  show S K ⟨none, T.ts⟩ H _ [some (.d _), none, none, none, none, none, none, none, none, none, none, none] _
  refine s_seq (s_asg ?_)
  repeat walk_at "e"
  refine ⟨⟨ns, 0⟩, rfl, Nat.zero_le _, ?_⟩
  rintro d ⟨z, rfl⟩
  repeat walk_at "e"
  refine ⟨⟨z, 30⟩, rfl, by show 30 ≤ 1000; decide, ?_⟩
  rintro d ⟨l, rfl, hl⟩
  dsimp only at hl
  repeat walk_at "e"
  refine r_ixL (nats_at (i := 0) (by omega)) ?_
  repeat walk_at "e"
  refine r_mod (by decide) ?_
  rw [show (((l.getD 0 0 : Nat) : Int) % 6) = ((l.getD 0 0 % 6 : Nat) : Int) from rfl]
  have ht : l.getD 0 0 % 6 < 6 := Nat.mod_lt _ (by decide)
  generalize l.getD 0 0 % 6 = t at ht
  repeat walk_at "e"
  refine r_ixL (nats_at (i := 1) (by omega)) ?_
  repeat walk_at "e"
  refine r_mod (by decide) ?_
  rw [show (((l.getD 1 0 : Nat) : Int) % 3) = ((l.getD 1 0 % 3 : Nat) : Int) from rfl]
  have hlt0 : l.getD 1 0 % 3 < 3 := Nat.mod_lt _ (by decide)
  generalize l.getD 1 0 % 3 = lt0 at hlt0
  refine r_add ?_
  rw [show (1 : Int) + (lt0 : Int) = ((1 + lt0 : Nat) : Int) by omega]
  dsimp only [List.set]
  refine s_seq (s_asgK (ek_call ?_))
  repeat walk_at "e"
  refine ⟨⟨t, 1 + lt0⟩, rfl, ⟨by show t ≤ 50; omega, by show 1 ≤ 1 + lt0; omega, by show 1 + lt0 ≤ 50; omega⟩, ?_⟩
  rintro o ⟨rs0, rfl, hrs1, hrs2⟩
  dsimp only at hrs1 hrs2
  dsimp only [List.set]
  refine s_seq (s_asg ?_)
  repeat walk_at "e"
  refine r_ixL (nats_at (i := 2) (by omega)) ?_
  repeat walk_at "e"
  refine r_mod (by decide) ?_
  repeat walk_at "e"
  refine r_ixL (nats_at (i := 3) (by omega)) ?_
  repeat walk_at "e"
  refine r_mod (by decide) ?_
  refine r_add (ea_nil ⟨Nat.le_of_ble_eq_true rfl, ?_⟩)
  dsimp only [List.set]
  have hx2 : l.getD 2 0 % 3 < 3 := Nat.mod_lt _ (by decide)
  have hx3 : l.getD 3 0 % 3 < 3 := Nat.mod_lt _ (by decide)
  rw [show (t : Int) + 1 + ((l.getD 2 0 : Nat) : Int) % 3 = ((t + 1 + l.getD 2 0 % 3 : Nat) : Int) by omega, show (t : Int) + 1 + ((l.getD 3 0 : Nat) : Int) % 3 = ((t + 1 + l.getD 3 0 % 3 : Nat) : Int) by omega]
  obtain ⟨mo, hmo⟩ : ∃ mo, t + 1 + l.getD 2 0 % 3 = mo := ⟨_, rfl⟩
  obtain ⟨mn, hmn⟩ : ∃ mn, t + 1 + l.getD 3 0 % 3 = mn := ⟨_, rfl⟩
  rw [hmo, hmn]
  have hrs0 : ∀ r ∈ rs0, r.Ok mo mn (1 + lt0) := fun r hr => (hrs2 r hr).mono (by omega) (by omega) (Nat.le_refl _)
  refine s_cut (fun L => ∃ rs : List Rl, rs.length ≤ 12 ∧ (∀ r ∈ rs, r.Ok mo mn (1 + lt0)) ∧ Sub (LB0 ns l t (1 + lt0) mo mn rs) L) (s_if ?_) fun L' ⟨rs1, h1, h2, sb⟩ => S.sub ?_ sb
  · have no : ∃ rs : List Rl, rs.length ≤ 12 ∧ (∀ r ∈ rs, r.Ok mo mn (1 + lt0)) ∧ Sub (LB0 ns l t (1 + lt0) mo mn rs) (LB0 ns l t (1 + lt0) mo mn rs0) := ⟨rs0, by omega, hrs0, Sub.refl _⟩
    repeat walk_at "e"
    refine r_ixL (nats_at (i := 4) (by omega)) ?_
    repeat walk_at "e"
    refine r_mod (by decide) ?_
    repeat walk_at "e"
    refine ⟨fun _ => ?_, fun _ => ⟨fun z => (by cases z), fun _ => s_next no⟩⟩
    refine et_look ?_
    dsimp only [lookL, lookA, List.map]
    repeat walk_at "e"
    refine r_neD (shaped_lay (lay_rls rs0) (by decide)) rfl ?_
    rw [eqv_nilL]
    refine ⟨_, rfl, fun h => ?_, fun h => s_next no⟩
    have hpos : 0 < rs0.length := by
      cases rs0 with
      | nil => cases h
      | cons a b => exact Nat.succ_pos _
    refine s_popAtD rfl ?_
    repeat walk_at "e"
    refine r_ixL (nats_at (i := 5) (by omega)) ?_
    repeat walk_at "e"
    rw [rlsD_len]
    refine r_mod (by omega) ?_
    have hml : l.getD 5 0 % rs0.length < rs0.length := Nat.mod_lt _ hpos
    refine ⟨l.getD 5 0 % rs0.length, rfl, hml, by omega, ?_⟩
    rw [rls_erase]
    exact ⟨rs0.eraseIdx _, by rw [List.length_eraseIdx]; split <;> omega, fun r hr => hrs0 r (List.mem_of_mem_eraseIdx hr), Sub.refl _⟩
  refine s_cut (fun L => ∃ rs : List Rl, rs.length ≤ 80 ∧ (∀ r ∈ rs, r.Ok mo mn (1 + lt0)) ∧ Sub (LB0 ns l t (1 + lt0) mo mn rs) L) (s_forI (it_enum (ea_cons (e_sl (e_var rfl (eo_some (e_int ⟨_, rfl, eo_some (e_int ⟨_, rfl, r_slL (ea_nil ⟨_, rfl, ?_⟩)⟩)⟩))))))) fun L' ⟨rs2, h3, h4, sb2⟩ => S.sub ?_ sb2
  · obtain ⟨c1, c2⟩ := cut_sub (xs := intsL ns) (lo := some 1) (hi := some 9)
    have c1 : (Dl.cutD (intsL ns) (some 1) (some 9)).length ≤ 63 := Nat.le_trans c1 (by rw [show (intsL ns).length = ns.length from List.length_map _]; exact hns)
    refine ⟨fun i L => ∃ rs : List Rl, rs.length ≤ 12 + i ∧ (∀ r ∈ rs, r.Ok mo mn (1 + lt0)) ∧ L = LB0 ns l t (1 + lt0) mo mn rs, ⟨_, Sub.refl _, rs1, by omega, h2, rfl⟩, fun i d L' hd ⟨rs, e1, e2, e⟩ => ?_, fun L' ⟨rs, e1, e2, e⟩ L4 s4 => ⟨rs, by rw [enumL_len] at e1; omega, e2, e ▸ s4⟩⟩
    subst e
    obtain ⟨y, hy, rfl⟩ := enumL_get hd
    have hil : i < 63 := Nat.lt_of_lt_of_le (List.getElem?_eq_some_iff.mp hy).1 c1
    obtain ⟨v, _, rfl⟩ := List.mem_map.mp (c2 y (List.mem_of_getElem? hy))
    refine g_tup rfl (gs_cons (g_name (gs_cons (g_name (gs_nil ?_)))))
    dsimp only [List.set]
    refine s_seq (s_asg ?_)
    repeat walk_at "e"
    refine ⟨⟨v, 9⟩, rfl, by show 9 ≤ 1000; decide, ?_⟩
    rintro d ⟨q, rfl, hq⟩
    dsimp only at hq
    dsimp only [List.set]
    refine s_if ?_
    repeat walk_at "e"
    refine r_ixL (nats_at (i := 7) (by omega)) ?_
    repeat walk_at "e"
    refine r_mod (by decide) ?_
    repeat walk_at "e"
    refine ⟨fun _ => ?_, fun _ => s_next ⟨LB0 ns l t (1 + lt0) mo mn rs, by repeat (first | exact Sub.nil | apply Sub.keep | apply Sub.drop), rs, by omega, e2, rfl⟩⟩
    refine s_insOwn rfl (by rw [rlsD_len]; omega) ?_
    repeat walk_at "e"
    refine r_ixL (nats_at (i := 8) (by omega)) ?_
    repeat walk_at "e"
    rw [rlsD_len]
    refine r_mod (by omega) ?_
    repeat walk_at "e"
    refine ⟨⟨q, mo, mn, 1 + lt0⟩, rfl, ⟨hq, by show 1 ≤ mo; omega, by show 1 ≤ mn; omega, by show 1 ≤ 1 + lt0; omega⟩, ?_⟩
    rintro d ⟨r, rfl, hr⟩
    dsimp only at hr
    have hml : q.getD 8 0 % (rs.length + 1) < rs.length + 1 := Nat.mod_lt _ (Nat.succ_pos _)
    refine ⟨q.getD 8 0 % (rs.length + 1), by show PyData.int (((q.getD 8 0 : Nat) : Int) % ((rs.length : Int) + 1)) = _; rw [show ((rs.length : Int) + 1) = ((rs.length + 1 : Nat) : Int) by omega]; rfl, by omega, ?_⟩
    rw [rls_ins]
    refine ⟨LB0 ns l t (1 + lt0) mo mn _, by repeat (first | exact Sub.nil | apply Sub.keep | apply Sub.drop), _, ?_, fun u hu => ?_, rfl⟩
    · rw [List.length_append, List.length_append, List.length_take, List.length_drop]
      show _ + 1 + _ ≤ _
      omega
    · rcases List.mem_append.mp hu with hu | hu
      · rcases List.mem_append.mp hu with hu | hu
        · exact e2 u (List.mem_of_mem_take hu)
        · rw [List.mem_singleton.mp hu]; exact hr
      · exact e2 u (List.mem_of_mem_drop hu)
  refine s_seq (s_ownL (el_catL (e_ofL (el_lcF (fun _ d => some (.bool (evenOf 0 d))) (it_rng ?_)))))
  repeat walk_at "e"
  refine ⟨by omega, by omega, by rw [rngL_len]; omega, fun i d hd => ?_, ?_⟩
  · obtain ⟨hi, rfl⟩ := rngL_get hd
    refine gw_name (by decide) ?_
    dsimp only [List.map, wipeL, List.set]
    refine et_yes ⟨fun _ => ?_, fun z => (by cases z)⟩
    repeat walk_at "e"
    refine r_mod (by decide) ?_
    repeat walk_at "e"
    rfl
  rw [lc_bools]
  refine e_ofL (el_lcF (fun _ d => some (.bool (boolOf d))) (it_list (e_sl (e_var rfl (eo_some (e_int ⟨_, rfl, eo_some ?_⟩))))))
  repeat walk_at "e"
  rw [show (6 : Int) + (mo : Int) - (t : Int) - 1 = ((6 + (mo - t - 1) : Nat) : Int) by omega, show (6 : Int) = ((6 : Nat) : Int) from rfl, cut_mid _ _ _ (by omega) (by rw [nats_len]; omega)]
  refine ⟨by rw [List.length_take, List.length_drop, nats_len]; omega, fun i d hd => ?_, ?_⟩
  · obtain ⟨v, _, rfl⟩ := List.mem_map.mp (List.mem_of_mem_drop (List.mem_of_mem_take (List.mem_of_getElem? hd)))
    refine gw_name (by decide) ?_
    dsimp only [List.map, wipeL, List.set]
    refine et_yes ⟨fun _ => ?_, fun z => (by cases z)⟩
    repeat walk_at "e"
    refine r_mod (by decide) ?_
    repeat walk_at "e"
    rfl
  rw [lc_bools]
  refine ⟨_, _, rfl, rfl, by rw [blsD_len, blsD_len, List.length_map, List.length_map, rngL_len, List.length_take]; omega, ?_⟩
  rw [bls_cat]
  obtain ⟨oo, hoo, hloo⟩ : ∃ o : List Bool, (rngL 0 ((t : Int) + 1).toNat).map (evenOf 0) ++ (((natsD l).drop 6).take (6 + (mo - t - 1) - 6)).map boolOf = o ∧ o.length = mo := ⟨_, rfl, by rw [List.length_append, List.length_map, List.length_map, rngL_len, List.length_take, List.length_drop, nats_len]; omega⟩
  rw [hoo]
  dsimp only [List.set]
  refine s_seq (s_ownL (el_catL (e_ofL (el_lcF (fun _ d => some (.bool (evenOf 1 d))) (it_rng ?_)))))
  repeat walk_at "e"
  refine ⟨by omega, by omega, by rw [rngL_len]; omega, fun i d hd => ?_, ?_⟩
  · obtain ⟨hi, rfl⟩ := rngL_get hd
    refine gw_name (by decide) ?_
    dsimp only [List.map, wipeL, List.set]
    refine et_yes ⟨fun _ => ?_, fun z => (by cases z)⟩
    repeat walk_at "e"
    refine r_mod (by decide) ?_
    repeat walk_at "e"
    rfl
  rw [lc_bools]
  refine e_ofL (el_lcF (fun _ d => some (.bool (boolOf d))) (it_list (e_sl (e_var rfl (eo_some (e_int ⟨_, rfl, eo_some ?_⟩))))))
  repeat walk_at "e"
  rw [show (9 : Int) + (mn : Int) - (t : Int) - 1 = ((9 + (mn - t - 1) : Nat) : Int) by omega, show (9 : Int) = ((9 : Nat) : Int) from rfl, cut_mid _ _ _ (by omega) (by rw [nats_len]; omega)]
  refine ⟨by rw [List.length_take, List.length_drop, nats_len]; omega, fun i d hd => ?_, ?_⟩
  · obtain ⟨v, _, rfl⟩ := List.mem_map.mp (List.mem_of_mem_drop (List.mem_of_mem_take (List.mem_of_getElem? hd)))
    refine gw_name (by decide) ?_
    dsimp only [List.map, wipeL, List.set]
    refine et_yes ⟨fun _ => ?_, fun z => (by cases z)⟩
    repeat walk_at "e"
    refine r_mod (by decide) ?_
    repeat walk_at "e"
    rfl
  rw [lc_bools]
  refine ⟨_, _, rfl, rfl, by rw [blsD_len, blsD_len, List.length_map, List.length_map, rngL_len, List.length_take]; omega, ?_⟩
  rw [bls_cat]
  obtain ⟨nn, hnn, hlnn⟩ : ∃ o : List Bool, (rngL 0 ((t : Int) + 1).toNat).map (evenOf 1) ++ (((natsD l).drop 9).take (9 + (mn - t - 1) - 9)).map boolOf = o ∧ o.length = mn := ⟨_, rfl, by rw [List.length_append, List.length_map, List.length_map, rngL_len, List.length_take, List.length_drop, nats_len]; omega⟩
  rw [hnn]
  dsimp only [List.set]
  refine s_seq (s_putOwn rfl ?_)
  repeat walk_at "e"
  refine r_ixL (nats_at (i := 13) (by omega)) ?_
  repeat walk_at "e"
  refine r_mod (by decide) ?_
  repeat walk_at "e"
  refine ⟨by show 0 < (blsD oo).length; rw [blsD_len]; omega, ?_⟩
  rw [bls_set]
  dsimp only [List.set]
  refine s_seq (s_putOwn rfl ?_)
  repeat walk_at "e"
  refine r_ixL (nats_at (i := 14) (by omega)) ?_
  repeat walk_at "e"
  refine r_mod (by decide) ?_
  repeat walk_at "e"
  refine ⟨by show 0 < (blsD nn).length; rw [blsD_len]; omega, ?_⟩
  rw [bls_set]
  dsimp only [List.set]
  repeat walk_at "e"
  refine r_ixL (nats_at (i := 12) (by omega)) ?_
  repeat walk_at "e"
  refine r_mod (by decide) ?_
  repeat walk_at "e"
  have hx12 : l.getD 12 0 % 2 < 2 := Nat.mod_lt _ (by decide)
  rw [show ((1 + lt0 : Nat) : Int) + ((l.getD 12 0 : Nat) : Int) % 2 = ((1 + lt0 + l.getD 12 0 % 2 : Nat) : Int) by omega]
  refine ⟨⟨oo.set 0 _, nn.set 0 _, 1 + lt0 + l.getD 12 0 % 2, rs2⟩, rfl, ?_⟩
  refine ⟨by dsimp only; rw [List.length_set]; omega, by dsimp only; rw [List.length_set]; omega, by dsimp only; rw [List.length_set]; omega, by dsimp only; rw [List.length_set]; omega, by dsimp only; omega, by dsimp only; omega, by dsimp only; omega, fun r hr => ?_⟩
  dsimp only
  rw [List.length_set, List.length_set, hloo, hlnn]
  exact (h4 r hr).mono (Nat.le_refl _) (Nat.le_refl _) (by omega)
end
end K32
set_option Elab.async false
set_option linter.all false
set_option maxRecDepth 100000
namespace K32
open PySem PySem.Spec PyProof.Rows L2 Dl Wm
local macro_rules | `(tactic| walk_at "e") => `(tactic| first
  | ((with_reducible refine e_var (by with_unfolding_all exact rfl) ?_))
  | with_reducible refine e_int ?_
  | with_reducible refine e_str ?_
  | with_reducible refine e_bl ?_
  | with_reducible refine e_non ?_
  | ((with_reducible refine e_pen (by with_unfolding_all exact rfl) (Or.inr rfl) ?_); intro z hz)
  | ((with_reducible refine e_pen (by with_unfolding_all exact rfl) (Or.inl rfl) ?_); intro z hz)
  | ((with_reducible refine e_penIx (by with_unfolding_all exact rfl) ?_))
  | ((with_reducible refine e_spr (by with_unfolding_all exact rfl) ?_); intro z)
  | with_reducible refine e_op ?_
  | with_reducible refine e_tup ?_
  | with_reducible refine e_lst ?_
  | with_reducible refine ea_cons ?_
  | with_reducible refine ea_nil ?_
  | ((with_reducible refine e_penLen (by with_unfolding_all exact rfl) ?_))
  | ((with_reducible refine e_lenOwn (by with_unfolding_all exact rfl) ?_))
  | ((with_reducible refine e_tupOwn (by with_unfolding_all exact rfl) ?_))
  | ((with_reducible refine s_aug (by with_unfolding_all exact rfl) ?_); (try dsimp only [List.set]))
  | with_reducible refine e_callXF ?_
  | with_reducible refine r_ipI ?_
  | with_reducible refine e_un ?_
  | with_reducible refine r_neg ?_
  | with_reducible refine gws_cons ?_
  | with_reducible refine gws_nil ?_
  | with_reducible refine gw_tup rfl ?_
  | ((with_reducible refine gw_name (by decide) ?_); (try dsimp only [List.set]))
  | with_reducible refine e_isI ?_
  | with_reducible refine e_isB ?_
  | with_reducible refine e_isS ?_
  | with_reducible refine e_isTu ?_
  | with_reducible refine e_isL ?_
  | with_reducible refine e_cb ?_
  | with_reducible refine e_sl ?_
  | with_reducible refine eo_none ?_
  | with_reducible refine eo_some ?_
  | with_reducible refine et_test ?_
  | with_reducible refine et_B ?_
  | with_reducible refine et_and ?_
  | with_reducible refine et_or ?_
  | with_reducible refine et_not ?_
  | with_reducible refine et_yes ?_
  | with_reducible refine e_andV ?_
  | with_reducible refine e_orV ?_
  | with_reducible refine e_notV ?_
  | with_reducible refine e_if ?_
  | with_reducible refine e_chain ?_
  | with_reducible refine e_callX ?_
  | ((with_reducible refine e_callXP (by with_unfolding_all exact rfl) ?_ (by with_unfolding_all exact trivial)))
  | ((with_reducible refine s_seq ?_); (try dsimp only [List.set]))
  | with_reducible refine s_next ?_
  | with_reducible refine s_ret ?_
  | ((with_reducible refine s_pen (by with_unfolding_all exact rfl) (Or.inr rfl) ?_))
  | ((with_reducible refine s_pen (by with_unfolding_all exact rfl) (Or.inl rfl) ?_))
  | ((with_reducible refine s_spr (by with_unfolding_all exact rfl) ?_))
  | ((with_reducible refine s_putOwn (by with_unfolding_all exact rfl) ?_ (by with_unfolding_all exact rfl)))
  | with_reducible refine s_asg ?_
  | with_reducible refine s_asgG ?_
  | with_reducible refine s_if ?_
  | with_reducible refine g_name ?_
  | with_reducible refine g_tup rfl ?_
  | with_reducible refine gs_cons ?_
  | with_reducible refine gs_nil ?_
  | with_reducible refine r_lt ?_
  | with_reducible refine r_le ?_
  | with_reducible refine r_gt ?_
  | with_reducible refine r_ge ?_
  | with_reducible refine r_add ?_
  | with_reducible refine r_sub ?_
  | with_reducible refine r_eqI ?_
  | with_reducible refine r_eqS ?_
  | with_reducible refine r_eqB ?_
  | with_reducible refine r_neI ?_
  | with_reducible refine r_neB ?_
  | with_reducible refine c_min2 ?_
  | with_reducible refine c_max2 ?_
  | with_reducible refine c_intB ?_
  | with_reducible refine c_len (Or.inl rfl) ?_
  | with_reducible refine c_len (Or.inr rfl) ?_
  | with_reducible refine c_list (Or.inl rfl) ?_
  | with_reducible refine c_list (Or.inr rfl) ?_
  | with_reducible refine c_tuple (Or.inl rfl) ?_
  | with_reducible refine c_tuple (Or.inr rfl) ?_
  | with_reducible refine r_ixT (by with_unfolding_all exact rfl) ?_
  | with_reducible refine r_ixL (by with_unfolding_all exact rfl) ?_
  | with_reducible refine r_slT ?_
  | with_reducible refine r_slL ?_
  | with_reducible refine r_isNone ?_
  | with_reducible refine r_notBl ?_
  | with_reducible refine eps_cons ?_
  | with_reducible refine eps_nil ?_
  | with_reducible refine e_dget1 ?_
  | with_reducible refine ed_callX ?_
  | with_reducible refine ⟨_, rfl, ?_⟩
  | with_reducible refine And.intro (Nat.le_of_ble_eq_true rfl) ?_)
local macro_rules | `(tactic| walk_at "t") => `(tactic| first
  | walk_at "e"
  | refine r_modAny (by first | omega | decide) fun z z0 z1 => ?_
  | refine r_mul (by first | exact Or.inr ⟨by decide, by decide⟩ | exact Or.inl ⟨by decide, by decide⟩ | exact Or.inl ⟨by omega, by omega⟩) ?_
  | refine r_pow ⟨by decide, by decide, by decide⟩ ?_
  | refine r_fdivW (by first | assumption | (rename_i hw _; exact hw _) | exact wide_div (b := 200) (by decide) (by decide) (by decide) (by decide)) ?_
  | with_reducible refine And.intro (by omega) ?_)
local macro_rules | `(tactic| walk_at "k") => `(tactic| first
  | walk_at "e"
  | with_reducible refine ⟨fun hb => absurd hb (by decide +kernel), fun _ => ?_⟩
  | with_reducible refine ⟨fun _ => ?_, fun hb => absurd hb (by decide +kernel)⟩
  | refine ⟨fun hb => absurd hb Bool.false_ne_true, fun _ => ?_⟩
  | refine ⟨fun _ => ?_, fun hb => absurd hb.symm Bool.false_ne_true⟩)
local macro_rules | `(tactic| walk_at "d") => `(tactic| first
  | walk_at "k"
  | refine And.intro (show WfTake _ from ⟨by omega, by omega⟩) (take_all fun k hk => ?_))
local macro_rules | `(tactic| walk_at "o") => `(tactic| first
  | with_reducible refine s_ownList ?_
  | walk_at "d"
  | with_reducible refine ⟨_, Or.inl rfl, ?_⟩)

section
variable {P : Program} {w : World} {K : PySem.W.Frag} {mg : Str → Option Value} {base : Heap}
theorem all_nil {P : PyData → Prop} : ∀ d ∈ ([] : List PyData), P d := fun d hd => nomatch hd
theorem all_cons {P : PyData → Prop} {a : PyData} {l : List PyData} (h : P a) (t : ∀ d ∈ l, P d) : ∀ d ∈ a :: l, P d := fun d hd => by
  rcases List.mem_cons.mp hd with rfl | hd
  · exact h
  · exact t d hd
theorem all_app {P : PyData → Prop} {a b : List PyData} (h : ∀ d ∈ a, P d) (t : ∀ d ∈ b, P d) : ∀ d ∈ a ++ b, P d := fun d hd => by
  rcases List.mem_append.mp hd with hd | hd
  · exact h d hd
  · exact t d hd
section
variable {h : Nat} {mo mn lt : Nat} {a he t s x : PyData}
abbrev qOf (h mo mn : Nat) : Int := if (h : Int) = 1 then (mn : Int) else (mo : Int)
theorem parts_eq (a he t s : PyData) : ruleB (.tuple [.int (h : Int), a, he, t, s]) mo mn lt = ((decide ((0 : Int) ≤ h) && decide ((h : Int) ≤ 1)) && ((wholeIn a 0 (qOf h mo mn - 1) && wholeIn t 0 (qOf h mo mn - 1)) && (letB he lt && letB s lt))) := rfl
theorem bad_at (e : wholeIn a 0 (qOf h mo mn - 1) = false) : ruleB (.tuple [.int (h : Int), a, he, t, s]) mo mn lt = false := by
  rw [parts_eq, e, Bool.false_and, Bool.false_and, Bool.and_false]
theorem bad_to (e : wholeIn t 0 (qOf h mo mn - 1) = false) : ruleB (.tuple [.int (h : Int), a, he, t, s]) mo mn lt = false := by
  rw [parts_eq, e, Bool.and_false, Bool.false_and, Bool.and_false]
theorem bad_he (e : letB he lt = false) : ruleB (.tuple [.int (h : Int), a, he, t, s]) mo mn lt = false := by
  rw [parts_eq, e, Bool.false_and, Bool.and_false, Bool.and_false]
theorem bad_sa (e : letB s lt = false) : ruleB (.tuple [.int (h : Int), a, he, t, s]) mo mn lt = false := by
  rw [parts_eq, e, Bool.and_false, Bool.and_false, Bool.and_false]
theorem wi_q (q : Int) : wholeIn (.int q) 0 (q - 1) = false := by
  show (decide (0 ≤ q) && decide (q ≤ q - 1)) = false
  rw [decide_eq_false (show ¬ q ≤ q - 1 by omega), Bool.and_false]
theorem wi_neg (q : Int) : wholeIn (.int (-1)) 0 q = false := rfl
theorem le_q (q : Int) : letB (.int q) q = false := by
  show (false || wholeIn (.int q) 0 (q - 1)) = false
  rw [wi_q]
  rfl
end
theorem bk_o {o n l r : PyData} (e : houseB o = false) : bookB (.tuple [o, n, l, r]) = false := by
  show (houseB o && _) = false
  rw [e, Bool.false_and]
theorem bk_n {o n l r : PyData} (e : houseB n = false) : bookB (.tuple [o, n, l, r]) = false := by
  show (houseB o && (houseB n && _)) = false
  rw [e, Bool.false_and, Bool.and_false]
theorem bk_l {o n l r : PyData} (e : wholeIn l 0 25 = false) : bookB (.tuple [o, n, l, r]) = false := by
  show (houseB o && (houseB n && (wholeIn l 0 25 && _))) = false
  rw [e, Bool.false_and, Bool.and_false, Bool.and_false]
theorem bk_r {o n l r : PyData} (e : rulesB r (lenD o) (lenD n) (Wm.intD l) = false) : bookB (.tuple [o, n, l, r]) = false := by
  show (houseB o && (houseB n && (wholeIn l 0 25 && rulesB r (lenD o) (lenD n) (Wm.intD l)))) = false
  rw [e, Bool.and_false, Bool.and_false, Bool.and_false]
theorem house_mid {a b : List PyData} {x : PyData} (e : isBl x = false) : houseB (.tuple (a ++ [x] ++ b)) = false := by
  show (_ && (a ++ [x] ++ b).all isBl) = false
  rw [List.all_append, List.all_append, List.all_cons, e, Bool.false_and, Bool.and_false, Bool.false_and, Bool.and_false]
theorem rules_mid {a b : List PyData} {x : PyData} {lo ln l : Int} (e : ruleB x lo ln l = false) : rulesB (.tuple (a ++ [x] ++ b)) lo ln l = false := by
  show (_ && (a ++ [x] ++ b).all fun x => ruleB x lo ln l) = false
  rw [List.all_append, List.all_append, List.all_cons, e, Bool.false_and, Bool.and_false, Bool.false_and, Bool.and_false]
theorem rules_long {a : List PyData} {lo ln l : Int} (e : 100 < a.length) : rulesB (.tuple a) lo ln l = false := by
  show (decide ((a.length : Int) ≤ 100) && _) = false
  rw [decide_eq_false (by omega), Bool.false_and]
structure SrA where
  b : Bk
  r : Rl
  l : List Nat
abbrev spSr (K : PySem.W.Frag) (ts : List Addr) : Sp := SpX (α := SrA) K ts (fun a => a.b.Ok ∧ a.r.Ok a.b.os.length a.b.ns.length a.b.lt ∧ a.l.length = 4) (fun a => [a.b.D, a.r.D, .list (natsD a.l)]) (fun a d => ruleB d a.b.os.length a.b.ns.length a.b.lt = false)
abbrev LSr (b : Bk) (r : Rl) (l : List Nat) (ws : List PyData) : Lv := [some (.d (.tuple [.tuple (blsD b.os), .tuple (blsD b.ns), .int b.lt, .tuple (rlsD b.rs)])), some (.d r.D), some (.d (.list (natsD l))), some (.d (.int r.h)), some (.d (.int r.a)), some (.d (numD r.he)), some (.d (.int r.t)), some (.d (numD r.sa)), some (.d (.int (qOf r.h b.os.length b.ns.length))), some (.d (.list ws))]
local macro_rules | `(tactic| walk_at "spoilr") => `(tactic| first | rfl | exact bad_at (wi_q _) | exact bad_at rfl | exact bad_to (wi_q _) | exact bad_to rfl | exact bad_he (le_q _) | exact bad_he rfl | exact bad_sa (le_q _) | exact bad_sa rfl)
set_option maxHeartbeats 8000000 in
theorem ok_law_spoilt_rule (T : Tx K mg base) : FnOk P w K mg base CX0 1 T.f_law_spoilt_rule T.d_law_spoilt_rule ["book", "rule", "some"] (spSr K T.ts) := by
  refine fnX T.F_law_spoilt_rule sc_law_spoilt_rule (fun _ _ => rfl) (fun cdv A outer s H E hr => ⟨_, (pss_cons (ps_asg (pv 1) (kx_pgT K (n := 5) rfl rfl (pgs_cons (pg_name (i := 3) sc_law_spoilt_rule.nd rfl (.inl rfl)) (pgs_cons (pg_name (i := 4) sc_law_spoilt_rule.nd rfl (.inl rfl)) (pgs_cons (pg_name (i := 5) sc_law_spoilt_rule.nd rfl (.inl rfl)) (pgs_cons (pg_name (i := 6) sc_law_spoilt_rule.nd rfl (.inl rfl)) (pgs_cons (pg_name (i := 7) sc_law_spoilt_rule.nd rfl (.inl rfl)) pgs_nil)))))))
      (pss_cons (ps_set (i := 8) sc_law_spoilt_rule.nd rfl (.inl rfl) (pe_callB (kx_len K rfl) (by rfl) T.m_len PySem.boot_len (pa_cons (pe_ix (kx_ixT K rfl) (pv 0) (pv 3) (fun _ _ => rfl)) pa_nil)))
      (pss_cons (ps_set (i := 9) sc_law_spoilt_rule.nd rfl (.inl rfl) (pe_lst (pa_cons (pe_tup (pa_cons (pv 3) (pa_cons (pv 4) (pa_cons (pv 5) (pa_cons (pv 6) pa_nil))))) (pa_cons (pe_tup (pa_cons (pv 3) (pa_cons (pv 4) (pa_cons (pv 5) (pa_cons (pv 6) (pa_cons (pv 7) (pa_cons pe_non pa_nil))))))) (pa_cons (pe_lst (pa_cons (pv 3) (pa_cons (pv 4) (pa_cons (pv 5) (pa_cons (pv 6) (pa_cons (pv 7) pa_nil)))))) pa_nil)))))
      (pss_cons (ps_set (i := 9) sc_law_spoilt_rule.nd rfl (.inl rfl) (pe_op (kx_catL (K := K) rfl) (pv 9) (pe_lst (pa_cons (pe_tup (pa_cons pe_int (pa_cons (pv 4) (pa_cons (pv 5) (pa_cons (pv 6) (pa_cons (pv 7) pa_nil)))))) (pa_cons (pe_tup (pa_cons (pe_un un_neg pe_int) (pa_cons (pv 4) (pa_cons (pv 5) (pa_cons (pv 6) (pa_cons (pv 7) pa_nil)))))) (pa_cons (pe_tup (pa_cons (pe_cmpR op_eq (pv 3) pe_int (nomark _)) (pa_cons (pv 4) (pa_cons (pv 5) (pa_cons (pv 6) (pa_cons (pv 7) pa_nil)))))) pa_nil))))))
      (pss_cons (ps_set (i := 9) sc_law_spoilt_rule.nd rfl (.inl rfl) (pe_op (kx_catL (K := K) rfl) (pv 9) (pe_lst (pa_cons (pe_tup (pa_cons (pv 3) (pa_cons (pv 8) (pa_cons (pv 5) (pa_cons (pv 6) (pa_cons (pv 7) pa_nil)))))) (pa_cons (pe_tup (pa_cons (pv 3) (pa_cons (pe_un un_neg pe_int) (pa_cons (pv 5) (pa_cons (pv 6) (pa_cons (pv 7) pa_nil)))))) (pa_cons (pe_tup (pa_cons (pv 3) (pa_cons pe_bl (pa_cons (pv 5) (pa_cons (pv 6) (pa_cons (pv 7) pa_nil)))))) pa_nil))))))
      (pss_cons (ps_set (i := 9) sc_law_spoilt_rule.nd rfl (.inl rfl) (pe_op (kx_catL (K := K) rfl) (pv 9) (pe_lst (pa_cons (pe_tup (pa_cons (pv 3) (pa_cons (pv 4) (pa_cons (pe_ix (kx_ixT K rfl) (pv 0) pe_int (fun _ _ => rfl)) (pa_cons (pv 6) (pa_cons (pv 7) pa_nil)))))) (pa_cons (pe_tup (pa_cons (pv 3) (pa_cons (pv 4) (pa_cons (pe_un un_neg pe_int) (pa_cons (pv 6) (pa_cons (pv 7) pa_nil)))))) (pa_cons (pe_tup (pa_cons (pv 3) (pa_cons (pv 4) (pa_cons pe_bl (pa_cons (pv 6) (pa_cons (pv 7) pa_nil)))))) pa_nil))))))
      (pss_cons (ps_set (i := 9) sc_law_spoilt_rule.nd rfl (.inl rfl) (pe_op (kx_catL (K := K) rfl) (pv 9) (pe_lst (pa_cons (pe_tup (pa_cons (pv 3) (pa_cons (pv 4) (pa_cons (pv 5) (pa_cons (pv 8) (pa_cons (pv 7) pa_nil)))))) (pa_cons (pe_tup (pa_cons (pv 3) (pa_cons (pv 4) (pa_cons (pv 5) (pa_cons pe_non (pa_cons (pv 7) pa_nil)))))) (pa_cons (pe_tup (pa_cons (pv 3) (pa_cons (pv 4) (pa_cons (pv 5) (pa_cons (pv 6) (pa_cons (pe_ix (kx_ixT K rfl) (pv 0) pe_int (fun _ _ => rfl)) pa_nil)))))) pa_nil))))))
      (pss_cons (ps_set (i := 9) sc_law_spoilt_rule.nd rfl (.inl rfl) (pe_op (kx_catL (K := K) rfl) (pv 9) (pe_lst (pa_cons (pe_tup (pa_cons (pv 3) (pa_cons (pv 4) (pa_cons (pv 5) (pa_cons (pv 6) (pa_cons pe_bl pa_nil)))))) (pa_cons (pe_tup (pa_cons (pv 3) (pa_cons (pv 4) (pa_cons pe_str (pa_cons (pv 6) (pa_cons (pv 7) pa_nil)))))) (pa_cons pe_non (pa_cons (pe_tup (pa_cons (pv 3) (pa_cons (pv 4) (pa_cons (pv 5) (pa_cons pe_str (pa_cons (pv 7) pa_nil)))))) pa_nil)))))))
      (pss_cons (ps_set (i := 9) sc_law_spoilt_rule.nd rfl (.inl rfl) (pe_op (kx_catL (K := K) rfl) (pv 9) (pe_lst (pa_cons (pe_tup (pa_cons (pv 3) (pa_cons (pv 4) (pa_cons (pv 5) (pa_cons (pe_un un_neg pe_int) (pa_cons (pv 7) pa_nil)))))) (pa_cons (pe_tup (pa_cons (pv 3) (pa_cons (pv 4) (pa_cons (pv 5) (pa_cons pe_bl (pa_cons (pv 7) pa_nil)))))) (pa_cons (pe_tup (pa_cons (pv 3) (pa_cons (pv 4) (pa_cons (pv 5) (pa_cons (pe_tup (pa_cons pe_int pa_nil)) (pa_cons (pv 7) pa_nil)))))) pa_nil))))))
      (pss_cons (ps_set (i := 9) sc_law_spoilt_rule.nd rfl (.inl rfl) (pe_op (kx_catL (K := K) rfl) (pv 9) (pe_lst (pa_cons (pe_tup (pa_cons (pv 3) (pa_cons (pv 4) (pa_cons (pv 5) (pa_cons (pv 6) (pa_cons (pe_un un_neg pe_int) pa_nil)))))) (pa_cons (pe_tup (pa_cons (pv 3) (pa_cons (pv 4) (pa_cons (pv 5) (pa_cons (pv 6) (pa_cons pe_str pa_nil)))))) (pa_cons (pe_tup (pa_cons (pv 3) (pa_cons (pv 4) (pa_cons (pv 5) (pa_cons (pv 6) (pa_cons (pe_lst (pa_cons pe_int pa_nil)) pa_nil)))))) pa_nil))))))
      (pss_cons (ps_set (i := 9) sc_law_spoilt_rule.nd rfl (.inl rfl) (pe_op (kx_catL (K := K) rfl) (pv 9) (pe_lst (pa_cons (pe_tup (pa_cons pe_non (pa_cons (pv 4) (pa_cons (pv 5) (pa_cons (pv 6) (pa_cons (pv 7) pa_nil)))))) (pa_cons (pe_tup (pa_cons pe_str (pa_cons (pv 4) (pa_cons (pv 5) (pa_cons (pv 6) (pa_cons (pv 7) pa_nil)))))) (pa_cons (pe_tup (pa_cons (pv 3) (pa_cons pe_non (pa_cons (pv 5) (pa_cons (pv 6) (pa_cons (pv 7) pa_nil)))))) pa_nil))))))
      (pss_cons (ps_set (i := 9) sc_law_spoilt_rule.nd rfl (.inl rfl) (pe_op (kx_catL (K := K) rfl) (pv 9) (pe_lst (pa_cons (pe_tup (pa_cons (pv 3) (pa_cons pe_str (pa_cons (pv 5) (pa_cons (pv 6) (pa_cons (pv 7) pa_nil)))))) (pa_cons (pe_tup (pa_cons (pv 3) (pa_cons (pv 4) (pa_cons pe_str (pa_cons (pv 6) (pa_cons (pv 7) pa_nil)))))) (pa_cons (pe_tup (pa_cons (pv 3) (pa_cons (pv 4) (pa_cons (pe_tup pa_nil) (pa_cons (pv 6) (pa_cons (pv 7) pa_nil)))))) pa_nil))))))
      (pss_cons (ps_set (i := 9) sc_law_spoilt_rule.nd rfl (.inl rfl) (pe_op (kx_catL (K := K) rfl) (pv 9) (pe_lst (pa_cons (pe_tup (pa_cons (pv 3) (pa_cons (pv 4) (pa_cons (pv 5) (pa_cons (pv 6) (pa_cons (pe_lst pa_nil) pa_nil)))))) (pa_cons pe_int (pa_cons pe_bl (pa_cons pe_str pa_nil)))))))
      (pss_one (ps_ret (pe_ix (kx_ixL K rfl) (pv 9) (pe_op op_mod (pe_ix (kx_ixL K rfl) (pv 2) pe_int (fun _ _ => rfl)) pe_int) (fun _ _ => rfl))))))))))))))))), fun a ha => ?_⟩)
  obtain ⟨b, r, l⟩ := a
  obtain ⟨hb, hr1, hl⟩ := ha
  dsimp only at hb hr1 hl
  have hh := hr1.h2
  try simp only [nox_K, blk_K, cx_K]
  show S K ⟨none, T.ts⟩ H _ [some (.d _), some (.d _), some (.d _), none, none, none, none, none, none, none] _
  refine s_seq (s_asgG (e_var rfl (g_tup (ds := [.int r.h, .int r.a, numD r.he, .int r.t, numD r.sa]) rfl (gs_cons (g_name (gs_cons (g_name (gs_cons (g_name (gs_cons (g_name (gs_cons (g_name (gs_nil ?_))))))))))))))
  dsimp only [List.set]
  have hix : atI [PyData.tuple (blsD b.os), .tuple (blsD b.ns), .int b.lt, .tuple (rlsD b.rs)] (r.h : Int) = some (.tuple (if r.h = 1 then blsD b.ns else blsD b.os)) := by
    generalize r.h = h at hh
    rcases (by omega : h = 0 ∨ h = 1) with rfl | rfl <;> rfl
  refine s_seq (s_asg ?_)
  refine e_cb (ea_cons (e_op (e_var rfl (e_var rfl (r_ixT (ds := [PyData.tuple (blsD b.os), .tuple (blsD b.ns), .int b.lt, .tuple (rlsD b.rs)]) hix (ea_nil ?_))))))
  have hq : ((if r.h = 1 then blsD b.ns else blsD b.os).length : Int) = qOf r.h b.os.length b.ns.length := by
    unfold qOf
    by_cases e : r.h = 1
    · rw [if_pos e, if_pos (by omega), blsD_len]
    · rw [if_neg e, if_neg (by omega), blsD_len]
  refine c_len (.inl rfl) ?_
  rw [hq]
  dsimp only [List.set]
  refine s_cut (fun L => ∃ ws : List PyData, ws.length = 3 ∧ (∀ d ∈ ws, ruleB d b.os.length b.ns.length b.lt = false) ∧ Sub (LSr b r l ws) L) (s_asg ?_) fun L' ⟨w0, k0, g0, sb⟩ => S.sub ?_ sb
  · repeat walk_at "k"
    exact ⟨_, rfl, by repeat (first | exact all_nil | refine all_cons (by walk_at "spoilr") ?_), Sub.refl _⟩
  refine s_cut (fun L => ∃ ws : List PyData, ws.length = 6 ∧ (∀ d ∈ ws, ruleB d b.os.length b.ns.length b.lt = false) ∧ Sub (LSr b r l ws) L) (s_asg ?_) fun L' ⟨w1, k1, g1, sb⟩ => S.sub ?_ sb
  · refine e_ofL (el_catL (e_var rfl ?_))
    repeat walk_at "k"
    refine ⟨_, _, rfl, rfl, by rw [k0]; exact Nat.le_of_ble_eq_true rfl, _, by rw [List.length_append, k0]; rfl, all_app g0 ?_, Sub.refl _⟩
    repeat (first | exact all_nil | refine all_cons (by walk_at "spoilr") ?_)
  refine s_cut (fun L => ∃ ws : List PyData, ws.length = 9 ∧ (∀ d ∈ ws, ruleB d b.os.length b.ns.length b.lt = false) ∧ Sub (LSr b r l ws) L) (s_asg ?_) fun L' ⟨w2, k2, g2, sb⟩ => S.sub ?_ sb
  · refine e_ofL (el_catL (e_var rfl ?_))
    repeat walk_at "k"
    refine ⟨_, _, rfl, rfl, by rw [k1]; exact Nat.le_of_ble_eq_true rfl, _, by rw [List.length_append, k1]; rfl, all_app g1 ?_, Sub.refl _⟩
    repeat (first | exact all_nil | refine all_cons (by walk_at "spoilr") ?_)
  refine s_cut (fun L => ∃ ws : List PyData, ws.length = 12 ∧ (∀ d ∈ ws, ruleB d b.os.length b.ns.length b.lt = false) ∧ Sub (LSr b r l ws) L) (s_asg ?_) fun L' ⟨w3, k3, g3, sb⟩ => S.sub ?_ sb
  · refine e_ofL (el_catL (e_var rfl ?_))
    repeat walk_at "k"
    refine ⟨_, _, rfl, rfl, by rw [k2]; exact Nat.le_of_ble_eq_true rfl, _, by rw [List.length_append, k2]; rfl, all_app g2 ?_, Sub.refl _⟩
    repeat (first | exact all_nil | refine all_cons (by walk_at "spoilr") ?_)
  refine s_cut (fun L => ∃ ws : List PyData, ws.length = 15 ∧ (∀ d ∈ ws, ruleB d b.os.length b.ns.length b.lt = false) ∧ Sub (LSr b r l ws) L) (s_asg ?_) fun L' ⟨w4, k4, g4, sb⟩ => S.sub ?_ sb
  · refine e_ofL (el_catL (e_var rfl ?_))
    repeat walk_at "k"
    refine ⟨_, _, rfl, rfl, by rw [k3]; exact Nat.le_of_ble_eq_true rfl, _, by rw [List.length_append, k3]; rfl, all_app g3 ?_, Sub.refl _⟩
    repeat (first | exact all_nil | refine all_cons (by walk_at "spoilr") ?_)
  refine s_cut (fun L => ∃ ws : List PyData, ws.length = 19 ∧ (∀ d ∈ ws, ruleB d b.os.length b.ns.length b.lt = false) ∧ Sub (LSr b r l ws) L) (s_asg ?_) fun L' ⟨w5, k5, g5, sb⟩ => S.sub ?_ sb
  · refine e_ofL (el_catL (e_var rfl ?_))
    repeat walk_at "k"
    refine ⟨_, _, rfl, rfl, by rw [k4]; exact Nat.le_of_ble_eq_true rfl, _, by rw [List.length_append, k4]; rfl, all_app g4 ?_, Sub.refl _⟩
    repeat (first | exact all_nil | refine all_cons (by walk_at "spoilr") ?_)
  refine s_cut (fun L => ∃ ws : List PyData, ws.length = 22 ∧ (∀ d ∈ ws, ruleB d b.os.length b.ns.length b.lt = false) ∧ Sub (LSr b r l ws) L) (s_asg ?_) fun L' ⟨w6, k6, g6, sb⟩ => S.sub ?_ sb
  · refine e_ofL (el_catL (e_var rfl ?_))
    repeat walk_at "k"
    refine ⟨_, _, rfl, rfl, by rw [k5]; exact Nat.le_of_ble_eq_true rfl, _, by rw [List.length_append, k5]; rfl, all_app g5 ?_, Sub.refl _⟩
    repeat (first | exact all_nil | refine all_cons (by walk_at "spoilr") ?_)
  refine s_cut (fun L => ∃ ws : List PyData, ws.length = 25 ∧ (∀ d ∈ ws, ruleB d b.os.length b.ns.length b.lt = false) ∧ Sub (LSr b r l ws) L) (s_asg ?_) fun L' ⟨w7, k7, g7, sb⟩ => S.sub ?_ sb
  · refine e_ofL (el_catL (e_var rfl ?_))
    repeat walk_at "k"
    refine ⟨_, _, rfl, rfl, by rw [k6]; exact Nat.le_of_ble_eq_true rfl, _, by rw [List.length_append, k6]; rfl, all_app g6 ?_, Sub.refl _⟩
    repeat (first | exact all_nil | refine all_cons (by walk_at "spoilr") ?_)
  refine s_cut (fun L => ∃ ws : List PyData, ws.length = 28 ∧ (∀ d ∈ ws, ruleB d b.os.length b.ns.length b.lt = false) ∧ Sub (LSr b r l ws) L) (s_asg ?_) fun L' ⟨w8, k8, g8, sb⟩ => S.sub ?_ sb
  · refine e_ofL (el_catL (e_var rfl ?_))
    repeat walk_at "k"
    refine ⟨_, _, rfl, rfl, by rw [k7]; exact Nat.le_of_ble_eq_true rfl, _, by rw [List.length_append, k7]; rfl, all_app g7 ?_, Sub.refl _⟩
    repeat (first | exact all_nil | refine all_cons (by walk_at "spoilr") ?_)
  refine s_cut (fun L => ∃ ws : List PyData, ws.length = 31 ∧ (∀ d ∈ ws, ruleB d b.os.length b.ns.length b.lt = false) ∧ Sub (LSr b r l ws) L) (s_asg ?_) fun L' ⟨w9, k9, g9, sb⟩ => S.sub ?_ sb
  · refine e_ofL (el_catL (e_var rfl ?_))
    repeat walk_at "k"
    refine ⟨_, _, rfl, rfl, by rw [k8]; exact Nat.le_of_ble_eq_true rfl, _, by rw [List.length_append, k8]; rfl, all_app g8 ?_, Sub.refl _⟩
    repeat (first | exact all_nil | refine all_cons (by walk_at "spoilr") ?_)
  refine s_cut (fun L => ∃ ws : List PyData, ws.length = 35 ∧ (∀ d ∈ ws, ruleB d b.os.length b.ns.length b.lt = false) ∧ Sub (LSr b r l ws) L) (s_asg ?_) fun L' ⟨w10, k10, g10, sb⟩ => S.sub ?_ sb
  · refine e_ofL (el_catL (e_var rfl ?_))
    repeat walk_at "k"
    refine ⟨_, _, rfl, rfl, by rw [k9]; exact Nat.le_of_ble_eq_true rfl, _, by rw [List.length_append, k9]; rfl, all_app g9 ?_, Sub.refl _⟩
    repeat (first | exact all_nil | refine all_cons (by walk_at "spoilr") ?_)
  repeat walk_at "k"
  refine r_ixL (nats_at (i := 0) (by omega)) ?_
  repeat walk_at "k"
  refine r_mod (by decide) ?_
  have hm : l.getD 0 0 % 35 < w10.length := by rw [k10]; exact Nat.mod_lt _ (by decide)
  refine r_ixL (show atI w10 ((l.getD 0 0 % 35 : Nat) : Int) = some _ from atI_nat (List.getElem?_eq_getElem hm)) ?_
  exact g10 _ (List.getElem_mem hm)
end
end K32
set_option Elab.async false
set_option linter.all false
set_option maxRecDepth 100000
namespace K32
open PySem PySem.Spec PyProof.Rows L2 Dl Wm
local macro_rules | `(tactic| walk_at "e") => `(tactic| first
  | ((with_reducible refine e_var (by with_unfolding_all exact rfl) ?_))
  | with_reducible refine e_int ?_
  | with_reducible refine e_str ?_
  | with_reducible refine e_bl ?_
  | with_reducible refine e_non ?_
  | ((with_reducible refine e_pen (by with_unfolding_all exact rfl) (Or.inr rfl) ?_); intro z hz)
  | ((with_reducible refine e_pen (by with_unfolding_all exact rfl) (Or.inl rfl) ?_); intro z hz)
  | ((with_reducible refine e_penIx (by with_unfolding_all exact rfl) ?_))
  | ((with_reducible refine e_spr (by with_unfolding_all exact rfl) ?_); intro z)
  | with_reducible refine e_op ?_
  | with_reducible refine e_tup ?_
  | with_reducible refine e_lst ?_
  | with_reducible refine ea_cons ?_
  | with_reducible refine ea_nil ?_
  | ((with_reducible refine e_penLen (by with_unfolding_all exact rfl) ?_))
  | ((with_reducible refine e_lenOwn (by with_unfolding_all exact rfl) ?_))
  | ((with_reducible refine e_tupOwn (by with_unfolding_all exact rfl) ?_))
  | ((with_reducible refine s_aug (by with_unfolding_all exact rfl) ?_); (try dsimp only [List.set]))
  | with_reducible refine e_callXF ?_
  | with_reducible refine r_ipI ?_
  | with_reducible refine e_un ?_
  | with_reducible refine r_neg ?_
  | with_reducible refine gws_cons ?_
  | with_reducible refine gws_nil ?_
  | with_reducible refine gw_tup rfl ?_
  | ((with_reducible refine gw_name (by decide) ?_); (try dsimp only [List.set]))
  | with_reducible refine e_isI ?_
  | with_reducible refine e_isB ?_
  | with_reducible refine e_isS ?_
  | with_reducible refine e_isTu ?_
  | with_reducible refine e_isL ?_
  | with_reducible refine e_cb ?_
  | with_reducible refine e_sl ?_
  | with_reducible refine eo_none ?_
  | with_reducible refine eo_some ?_
  | with_reducible refine et_test ?_
  | with_reducible refine et_B ?_
  | with_reducible refine et_and ?_
  | with_reducible refine et_or ?_
  | with_reducible refine et_not ?_
  | with_reducible refine et_yes ?_
  | with_reducible refine e_andV ?_
  | with_reducible refine e_orV ?_
  | with_reducible refine e_notV ?_
  | with_reducible refine e_if ?_
  | with_reducible refine e_chain ?_
  | with_reducible refine e_callX ?_
  | ((with_reducible refine e_callXP (by with_unfolding_all exact rfl) ?_ (by with_unfolding_all exact trivial)))
  | ((with_reducible refine s_seq ?_); (try dsimp only [List.set]))
  | with_reducible refine s_next ?_
  | with_reducible refine s_ret ?_
  | ((with_reducible refine s_pen (by with_unfolding_all exact rfl) (Or.inr rfl) ?_))
  | ((with_reducible refine s_pen (by with_unfolding_all exact rfl) (Or.inl rfl) ?_))
  | ((with_reducible refine s_spr (by with_unfolding_all exact rfl) ?_))
  | ((with_reducible refine s_putOwn (by with_unfolding_all exact rfl) ?_ (by with_unfolding_all exact rfl)))
  | with_reducible refine s_asg ?_
  | with_reducible refine s_asgG ?_
  | with_reducible refine s_if ?_
  | with_reducible refine g_name ?_
  | with_reducible refine g_tup rfl ?_
  | with_reducible refine gs_cons ?_
  | with_reducible refine gs_nil ?_
  | with_reducible refine r_lt ?_
  | with_reducible refine r_le ?_
  | with_reducible refine r_gt ?_
  | with_reducible refine r_ge ?_
  | with_reducible refine r_add ?_
  | with_reducible refine r_sub ?_
  | with_reducible refine r_eqI ?_
  | with_reducible refine r_eqS ?_
  | with_reducible refine r_eqB ?_
  | with_reducible refine r_neI ?_
  | with_reducible refine r_neB ?_
  | with_reducible refine c_min2 ?_
  | with_reducible refine c_max2 ?_
  | with_reducible refine c_intB ?_
  | with_reducible refine c_len (Or.inl rfl) ?_
  | with_reducible refine c_len (Or.inr rfl) ?_
  | with_reducible refine c_list (Or.inl rfl) ?_
  | with_reducible refine c_list (Or.inr rfl) ?_
  | with_reducible refine c_tuple (Or.inl rfl) ?_
  | with_reducible refine c_tuple (Or.inr rfl) ?_
  | with_reducible refine r_ixT (by with_unfolding_all exact rfl) ?_
  | with_reducible refine r_ixL (by with_unfolding_all exact rfl) ?_
  | with_reducible refine r_slT ?_
  | with_reducible refine r_slL ?_
  | with_reducible refine r_isNone ?_
  | with_reducible refine r_notBl ?_
  | with_reducible refine eps_cons ?_
  | with_reducible refine eps_nil ?_
  | with_reducible refine e_dget1 ?_
  | with_reducible refine ed_callX ?_
  | with_reducible refine ⟨_, rfl, ?_⟩
  | with_reducible refine And.intro (Nat.le_of_ble_eq_true rfl) ?_)
local macro_rules | `(tactic| walk_at "t") => `(tactic| first
  | walk_at "e"
  | refine r_modAny (by first | omega | decide) fun z z0 z1 => ?_
  | refine r_mul (by first | exact Or.inr ⟨by decide, by decide⟩ | exact Or.inl ⟨by decide, by decide⟩ | exact Or.inl ⟨by omega, by omega⟩) ?_
  | refine r_pow ⟨by decide, by decide, by decide⟩ ?_
  | refine r_fdivW (by first | assumption | (rename_i hw _; exact hw _) | exact wide_div (b := 200) (by decide) (by decide) (by decide) (by decide)) ?_
  | with_reducible refine And.intro (by omega) ?_)
local macro_rules | `(tactic| walk_at "k") => `(tactic| first
  | walk_at "e"
  | with_reducible refine ⟨fun hb => absurd hb (by decide +kernel), fun _ => ?_⟩
  | with_reducible refine ⟨fun _ => ?_, fun hb => absurd hb (by decide +kernel)⟩
  | refine ⟨fun hb => absurd hb Bool.false_ne_true, fun _ => ?_⟩
  | refine ⟨fun _ => ?_, fun hb => absurd hb.symm Bool.false_ne_true⟩)
local macro_rules | `(tactic| walk_at "d") => `(tactic| first
  | walk_at "k"
  | refine And.intro (show WfTake _ from ⟨by omega, by omega⟩) (take_all fun k hk => ?_))
local macro_rules | `(tactic| walk_at "o") => `(tactic| first
  | with_reducible refine s_ownList ?_
  | walk_at "d"
  | with_reducible refine ⟨_, Or.inl rfl, ?_⟩)

section
variable {P : Program} {w : World} {K : PySem.W.Frag} {mg : Str → Option Value} {base : Heap}
theorem lay_rlsT (rs : List Rl) : PyData.Lay 2 (.tuple (rlsD rs)) := lay_tup fun d hd => by
  obtain ⟨r, _, rfl⟩ := List.mem_map.mp hd
  refine lay_tup fun d hd => ?_
  rcases List.mem_cons.mp hd with rfl | hd
  · exact lay_int _
  rcases List.mem_cons.mp hd with rfl | hd
  · exact lay_int _
  rcases List.mem_cons.mp hd with rfl | hd
  · exact lay_num _
  rcases List.mem_cons.mp hd with rfl | hd
  · exact lay_int _
  · rw [List.mem_singleton.mp hd]; exact lay_num _
theorem eqv_nilT (ds : List PyData) : PyData.eqv (.tuple ds) (.tuple []) = ds.isEmpty := by cases ds <;> rfl
theorem rls_at {rs : List Rl} {i : Nat} {r : Rl} (h : rs[i]? = some r) : atI (rlsD rs) (i : Int) = some r.D := by
  refine atI_nat ?_
  unfold rlsD
  rw [List.getElem?_map, h]
  rfl
structure SpA where
  b : Bk
  l : List Nat
abbrev spSpo (K : PySem.W.Frag) (ts : List Addr) : Sp := SpX (α := SpA) K ts (fun a => a.b.Ok ∧ a.l.length = 4) (fun a => [a.b.D, .list (natsD a.l)]) (fun _ d => bookB d = false)
abbrev LSp (b : Bk) (l : List Nat) (A O : Nat) (ws : List PyData) : Lv := [some (.d (.tuple [.tuple (blsD b.os), .tuple (blsD b.ns), .int b.lt, .tuple (rlsD b.rs)])), some (.d (.list (natsD l))), some (.d (.tuple (blsD b.os))), some (.d (.tuple (blsD b.ns))), some (.d (.int b.lt)), some (.d (.tuple (rlsD b.rs))), none, some (.d (.int (A : Int))), some (.d (.int (O : Int))), some (.d (.list ws))]
local macro_rules | `(tactic| walk_at "spoilb") => `(tactic| first | exact bk_o rfl | exact bk_n rfl | exact bk_l rfl | exact bk_o (house_mid rfl) | exact bk_n (house_mid rfl) | exact bk_r rfl | rfl)
set_option maxHeartbeats 8000000 in
theorem ok_law_spoilt (T : Tx K mg base) : FnOk P w K mg base CX0 2 T.f_law_spoilt T.d_law_spoilt ["book", "some"] (spSpo K T.ts) := by
  refine fnX T.F_law_spoilt sc_law_spoilt (fun _ _ => rfl) (fun cdv A outer s H E hr => ⟨_, (pss_cons (ps_asg (pv 0) (kx_pgT K (n := 4) rfl rfl (pgs_cons (pg_name (i := 2) sc_law_spoilt.nd rfl (.inl rfl)) (pgs_cons (pg_name (i := 3) sc_law_spoilt.nd rfl (.inl rfl)) (pgs_cons (pg_name (i := 4) sc_law_spoilt.nd rfl (.inl rfl)) (pgs_cons (pg_name (i := 5) sc_law_spoilt.nd rfl (.inl rfl)) pgs_nil))))))
      (pss_cons (ps_set (i := 6) sc_law_spoilt.nd rfl (.inl rfl) (pe_op op_mod (pe_ix (kx_ixL K rfl) (pv 1) pe_int (fun _ _ => rfl)) pe_int))
      (pss_cons (ps_if (PW.pt (pw_and (pt_cmpR op_lt (pv 6) pe_int (nomark _)) (pw_and1 (pt_cmpR (kx_neD K rfl hr.units) (pv 5) (pe_tup pa_nil) (nomark _)))))
      (pss_cons (ps_set (i := 7) sc_law_spoilt.nd rfl (.inl rfl) (pe_op op_mod (pe_ix (kx_ixL K rfl) (pv 1) pe_int (fun _ _ => rfl)) (pe_callB (kx_len K rfl) (by rfl) T.m_len PySem.boot_len (pa_cons (pv 5) pa_nil))))
      (pss_one (ps_ret (pe_tup (pa_cons (pv 2) (pa_cons (pv 3) (pa_cons (pv 4) (pa_cons (pe_op (kx_catT K rfl) (pe_op (kx_catT K rfl) (pe_slice (kx_slT K rfl) (pv 5) po_none (po_some (pv 7))) (pe_tup (pa_cons (pe_call (ok_law_spoilt_rule T) (hr.mono (by decide)) (by rfl) T.g_law_spoilt_rule T.F_law_spoilt_rule.kp T.b_law_spoilt_rule .nil pass0 (pa_cons (pv 0) (pa_cons (pe_ix (kx_ixT K rfl) (pv 5) (pv 7) (fun _ _ => rfl)) (pa_cons (pv 1) pa_nil)))) pa_nil))) (pe_slice (kx_slT K rfl) (pv 5) (po_some (pe_op op_add (pv 7) pe_int)) po_none)) pa_nil))))))))
      pss_nil)
      (pss_cons (ps_set (i := 7) sc_law_spoilt.nd rfl (.inl rfl) (pe_op op_mod (pe_ix (kx_ixL K rfl) (pv 1) pe_int (fun _ _ => rfl)) (pe_callB (kx_len K rfl) (by rfl) T.m_len PySem.boot_len (pa_cons (pv 2) pa_nil))))
      (pss_cons (ps_set (i := 8) sc_law_spoilt.nd rfl (.inl rfl) (pe_op op_mod (pe_ix (kx_ixL K rfl) (pv 1) pe_int (fun _ _ => rfl)) (pe_callB (kx_len K rfl) (by rfl) T.m_len PySem.boot_len (pa_cons (pv 3) pa_nil))))
      (pss_cons (ps_set (i := 9) sc_law_spoilt.nd rfl (.inl rfl) (pe_lst (pa_cons (pe_tup (pa_cons (pe_tup pa_nil) (pa_cons (pv 3) (pa_cons (pv 4) (pa_cons (pe_tup pa_nil) pa_nil))))) (pa_cons (pe_tup (pa_cons (pv 2) (pa_cons (pe_tup pa_nil) (pa_cons (pv 4) (pa_cons (pe_tup pa_nil) pa_nil))))) (pa_cons (pe_tup (pa_cons (pe_callTy (kx_list K rfl) (by rfl) T.m_list (by decide +kernel) (pa_cons (pv 2) pa_nil)) (pa_cons (pv 3) (pa_cons (pv 4) (pa_cons (pv 5) pa_nil))))) (pa_cons (pe_tup (pa_cons (pv 2) (pa_cons (pv 3) (pa_cons (pe_un un_neg pe_int) (pa_cons (pe_tup pa_nil) pa_nil))))) pa_nil))))))
      (pss_cons (ps_set (i := 9) sc_law_spoilt.nd rfl (.inl rfl) (pe_op (kx_catL (K := K) rfl) (pv 9) (pe_lst (pa_cons (pe_tup (pa_cons (pv 2) (pa_cons (pe_op (kx_repA (K := K) rfl) (pe_tup (pa_cons pe_bl pa_nil)) pe_int) (pa_cons (pv 4) (pa_cons (pv 5) pa_nil))))) (pa_cons (pe_tup (pa_cons (pe_op (kx_catT K rfl) (pe_op (kx_catT K rfl) (pe_slice (kx_slT K rfl) (pv 2) po_none (po_some (pv 7))) (pe_tup (pa_cons pe_int pa_nil))) (pe_slice (kx_slT K rfl) (pv 2) (po_some (pe_op op_add (pv 7) pe_int)) po_none)) (pa_cons (pv 3) (pa_cons (pv 4) (pa_cons (pv 5) pa_nil))))) pa_nil)))))
      (pss_cons (ps_set (i := 9) sc_law_spoilt.nd rfl (.inl rfl) (pe_op (kx_catL (K := K) rfl) (pv 9) (pe_lst (pa_cons pe_non (pa_cons (pe_lst (pa_cons (pv 0) pa_nil)) pa_nil)))))
      (pss_cons (ps_set (i := 9) sc_law_spoilt.nd rfl (.inl rfl) (pe_op (kx_catL (K := K) rfl) (pv 9) (pe_lst (pa_cons (pe_tup (pa_cons (pv 2) (pa_cons (pv 3) (pa_cons pe_int (pa_cons (pv 5) pa_nil))))) (pa_cons (pe_tup (pa_cons (pv 2) (pa_cons (pv 3) (pa_cons pe_bl (pa_cons (pe_tup pa_nil) pa_nil))))) (pa_cons (pe_tup (pa_cons (pv 2) (pa_cons (pv 3) (pa_cons pe_non (pa_cons (pv 5) pa_nil))))) (pa_cons (pe_callTy (kx_list K rfl) (by rfl) T.m_list (by decide +kernel) (pa_cons (pv 0) pa_nil)) (pa_cons (pe_slice (kx_slT K rfl) (pv 0) po_none (po_some pe_int)) pa_nil))))))))
      (pss_cons (ps_set (i := 9) sc_law_spoilt.nd rfl (.inl rfl) (pe_op (kx_catL (K := K) rfl) (pv 9) (pe_lst (pa_cons (pe_tup (pa_cons (pv 2) (pa_cons (pv 3) (pa_cons (pv 4) (pa_cons (pe_callTy (kx_list K rfl) (by rfl) T.m_list (by decide +kernel) (pa_cons (pv 5) pa_nil)) pa_nil))))) (pa_cons (pe_tup (pa_cons (pv 2) (pa_cons (pv 3) (pa_cons (pv 4) (pa_cons (pe_op (kx_repA (K := K) rfl) (pe_tup (pa_cons (pe_tup (pa_cons pe_int (pa_cons pe_int (pa_cons pe_non (pa_cons pe_int (pa_cons pe_non pa_nil)))))) pa_nil)) pe_int) pa_nil))))) pa_nil)))))
      (pss_cons (ps_set (i := 9) sc_law_spoilt.nd rfl (.inl rfl) (pe_op (kx_catL (K := K) rfl) (pv 9) (pe_lst (pa_cons (pe_tup (pa_cons (pv 2) (pa_cons (pv 3) (pa_cons (pv 4) (pa_cons pe_non pa_nil))))) (pa_cons (pe_tup (pa_cons (pv 2) (pa_cons (pe_op (kx_catT K rfl) (pe_op (kx_catT K rfl) (pe_slice (kx_slT K rfl) (pv 3) po_none (po_some (pv 8))) (pe_tup (pa_cons pe_non pa_nil))) (pe_slice (kx_slT K rfl) (pv 3) (po_some (pe_op op_add (pv 8) pe_int)) po_none)) (pa_cons (pv 4) (pa_cons (pe_tup pa_nil) pa_nil))))) pa_nil)))))
      (pss_cons (ps_set (i := 9) sc_law_spoilt.nd rfl (.inl rfl) (pe_op (kx_catL (K := K) rfl) (pv 9) (pe_lst (pa_cons (pe_op (kx_catT K rfl) (pv 0) (pe_tup (pa_cons pe_non pa_nil))) (pa_cons pe_int pa_nil)))))
      (pss_cons (ps_set (i := 9) sc_law_spoilt.nd rfl (.inl rfl) (pe_op (kx_catL (K := K) rfl) (pv 9) (pe_lst (pa_cons (pe_tup (pa_cons (pv 2) (pa_cons (pe_callTy (kx_list K rfl) (by rfl) T.m_list (by decide +kernel) (pa_cons (pv 3) pa_nil)) (pa_cons (pv 4) (pa_cons (pe_tup pa_nil) pa_nil))))) (pa_cons (pe_tup (pa_cons pe_non (pa_cons (pv 3) (pa_cons (pv 4) (pa_cons (pe_tup pa_nil) pa_nil))))) (pa_cons (pe_tup (pa_cons (pv 2) (pa_cons pe_non (pa_cons (pv 4) (pa_cons (pe_tup pa_nil) pa_nil))))) (pa_cons (pe_tup pa_nil) pa_nil)))))))
      (pss_cons (ps_set (i := 9) sc_law_spoilt.nd rfl (.inl rfl) (pe_op (kx_catL (K := K) rfl) (pv 9) (pe_lst (pa_cons (pe_tup (pa_cons pe_int (pa_cons (pv 3) (pa_cons (pv 4) (pa_cons (pe_tup pa_nil) pa_nil))))) (pa_cons (pe_tup (pa_cons (pv 2) (pa_cons pe_bl (pa_cons (pv 4) (pa_cons (pe_tup pa_nil) pa_nil))))) (pa_cons (pe_tup (pa_cons (pe_op (kx_repA (K := K) rfl) (pe_tup (pa_cons pe_bl pa_nil)) pe_int) (pa_cons (pv 3) (pa_cons (pv 4) (pa_cons (pe_tup pa_nil) pa_nil))))) pa_nil))))))
      (pss_cons (ps_set (i := 9) sc_law_spoilt.nd rfl (.inl rfl) (pe_op (kx_catL (K := K) rfl) (pv 9) (pe_lst (pa_cons (pe_tup (pa_cons (pe_op (kx_catT K rfl) (pe_op (kx_catT K rfl) (pe_slice (kx_slT K rfl) (pv 2) po_none (po_some (pv 7))) (pe_tup (pa_cons pe_non pa_nil))) (pe_slice (kx_slT K rfl) (pv 2) (po_some (pe_op op_add (pv 7) pe_int)) po_none)) (pa_cons (pv 3) (pa_cons (pv 4) (pa_cons (pe_tup pa_nil) pa_nil))))) (pa_cons (pe_tup (pa_cons (pv 2) (pa_cons (pv 3) (pa_cons pe_str (pa_cons (pe_tup pa_nil) pa_nil))))) (pa_cons (pe_tup (pa_cons (pv 2) (pa_cons (pv 3) (pa_cons (pe_tup pa_nil) (pa_cons (pe_tup pa_nil) pa_nil))))) pa_nil))))))
      (pss_cons (ps_set (i := 9) sc_law_spoilt.nd rfl (.inl rfl) (pe_op (kx_catL (K := K) rfl) (pv 9) (pe_lst (pa_cons (pe_tup (pa_cons (pv 2) (pa_cons (pe_op (kx_catT K rfl) (pe_op (kx_catT K rfl) (pe_slice (kx_slT K rfl) (pv 3) po_none (po_some (pv 8))) (pe_tup (pa_cons pe_int pa_nil))) (pe_slice (kx_slT K rfl) (pv 3) (po_some (pe_op op_add (pv 8) pe_int)) po_none)) (pa_cons (pv 4) (pa_cons (pe_tup pa_nil) pa_nil))))) (pa_cons (pe_tup (pa_cons (pv 2) (pa_cons (pv 3) (pa_cons (pv 4) (pa_cons pe_int pa_nil))))) pa_nil)))))
      (pss_one (ps_ret (pe_ix (kx_ixL K rfl) (pe_op (kx_catL (K := K) rfl) (pv 9) (pe_lst (pa_cons (pe_tup (pa_cons (pv 2) (pa_cons (pv 3) (pa_cons (pv 4) (pa_cons pe_bl pa_nil))))) pa_nil))) (pe_op op_mod (pe_ix (kx_ixL K rfl) (pv 1) pe_int (fun _ _ => rfl)) pe_int) (fun _ _ => rfl)))))))))))))))))))), fun a ha => ?_⟩)
  obtain ⟨b, l⟩ := a
  obtain ⟨hb, hl⟩ := ha
  dsimp only at hb hl
  try simp only [nox_K, blk_K, cx_K]
  show S K ⟨none, T.ts⟩ H _ [some (.d (.tuple [.tuple (blsD b.os), .tuple (blsD b.ns), .int b.lt, .tuple (rlsD b.rs)])), some (.d (.list (natsD l))), none, none, none, none, none, none, none, none] _
  have o1 := hb.o1
  have o2 := hb.o2
  have n1 := hb.n1
  have n2 := hb.n2
  have r2 := hb.r2
  have hco : ∀ lo hi, (Dl.cutD (blsD b.os) lo hi).length ≤ 10 := fun lo hi => Nat.le_trans cut_sub.1 (by rw [blsD_len]; exact o2)
  have hcn : ∀ lo hi, (Dl.cutD (blsD b.ns) lo hi).length ≤ 10 := fun lo hi => Nat.le_trans cut_sub.1 (by rw [blsD_len]; exact n2)
  have hcr : ∀ lo hi, (Dl.cutD (rlsD b.rs) lo hi).length ≤ 90 := fun lo hi => Nat.le_trans cut_sub.1 (by rw [rlsD_len]; exact r2)
  refine s_seq (s_asgG (e_var rfl (g_tup rfl (gs_cons (g_name (gs_cons (g_name (gs_cons (g_name (gs_cons (g_name (gs_nil ?_))))))))))))
  dsimp only [List.set]
  refine s_seq (s_asg ?_)
  repeat walk_at "k"
  refine r_ixL (nats_at (i := 1) (by omega)) ?_
  repeat walk_at "k"
  refine r_mod (by decide) ?_
  dsimp only [List.set]
  refine s_cut (fun L => Sub [some (.d (.tuple [.tuple (blsD b.os), .tuple (blsD b.ns), .int b.lt, .tuple (rlsD b.rs)])), some (.d (.list (natsD l))), some (.d (.tuple (blsD b.os))), some (.d (.tuple (blsD b.ns))), some (.d (.int b.lt)), some (.d (.tuple (rlsD b.rs))), none, none, none, none] L) (s_if ?_) fun L' sb => S.sub ?_ sb
  · have sub : ∀ x : Option AV, Sub [some (.d (.tuple [.tuple (blsD b.os), .tuple (blsD b.ns), .int b.lt, .tuple (rlsD b.rs)])), some (.d (.list (natsD l))), some (.d (.tuple (blsD b.os))), some (.d (.tuple (blsD b.ns))), some (.d (.int b.lt)), some (.d (.tuple (rlsD b.rs))), none, none, none, none] [some (.d (.tuple [.tuple (blsD b.os), .tuple (blsD b.ns), .int b.lt, .tuple (rlsD b.rs)])), some (.d (.list (natsD l))), some (.d (.tuple (blsD b.os))), some (.d (.tuple (blsD b.ns))), some (.d (.int b.lt)), some (.d (.tuple (rlsD b.rs))), x, none, none, none] := fun x => by repeat (first | exact Sub.nil | apply Sub.keep | apply Sub.drop)
    repeat walk_at "k"
    refine ⟨fun _ => ?_, fun _ => ⟨fun z => (by cases z), fun _ => s_next (sub _)⟩⟩
    repeat walk_at "k"
    refine r_neD (shaped_lay (lay_rlsT b.rs) (by decide)) rfl ?_
    rw [eqv_nilT]
    refine ⟨_, rfl, fun h => ?_, fun h => s_next (sub _)⟩
    have hpos : 0 < b.rs.length := by
      cases q : b.rs with
      | nil => rw [q] at h; cases h
      | cons a c => exact Nat.succ_pos _
    refine s_seq (s_asg ?_)
    repeat walk_at "k"
    refine r_ixL (nats_at (i := 2) (by omega)) ?_
    repeat walk_at "k"
    rw [rlsD_len]
    refine r_mod (by omega) ?_
    rw [show (((l.getD 2 0 : Nat) : Int) % (b.rs.length : Int)) = ((l.getD 2 0 % b.rs.length : Nat) : Int) from rfl]
    have hA : l.getD 2 0 % b.rs.length < b.rs.length := Nat.mod_lt _ hpos
    generalize l.getD 2 0 % b.rs.length = A at hA
    dsimp only [List.set]
    repeat walk_at "k"
    refine r_ixT (rls_at (List.getElem?_eq_getElem hA)) ?_
    repeat walk_at "k"
    refine ⟨⟨b, b.rs[A], l⟩, rfl, ⟨hb, hb.rs _ (List.getElem_mem hA), hl⟩, ?_⟩
    intro d hd
    dsimp only at hd
    repeat walk_at "k"
    have q1 := hcr none (some (A : Int))
    have q2 := hcr (some ((A : Int) + 1)) none
    refine r_catT (by simp only [List.length_cons, List.length_nil]; omega) ?_
    repeat walk_at "k"
    refine r_catT (by simp only [List.length_append, List.length_cons, List.length_nil]; omega) ?_
    repeat walk_at "k"
    refine bk_r (rules_mid ?_)
    show ruleB d ((blsD b.os).length : Int) ((blsD b.ns).length : Int) (b.lt : Int) = false
    rw [blsD_len, blsD_len]
    exact hd
  refine s_seq (s_asg ?_)
  repeat walk_at "k"
  refine r_ixL (nats_at (i := 2) (by omega)) ?_
  repeat walk_at "k"
  rw [blsD_len]
  refine r_mod (by omega) ?_
  rw [show (((l.getD 2 0 : Nat) : Int) % (b.os.length : Int)) = ((l.getD 2 0 % b.os.length : Nat) : Int) from rfl]
  generalize l.getD 2 0 % b.os.length = A
  dsimp only [List.set]
  refine s_seq (s_asg ?_)
  repeat walk_at "k"
  refine r_ixL (nats_at (i := 2) (by omega)) ?_
  repeat walk_at "k"
  rw [blsD_len]
  refine r_mod (by omega) ?_
  rw [show (((l.getD 2 0 : Nat) : Int) % (b.ns.length : Int)) = ((l.getD 2 0 % b.ns.length : Nat) : Int) from rfl]
  generalize l.getD 2 0 % b.ns.length = O
  dsimp only [List.set]
  have q1 := hco none (some (A : Int))
  have q2 := hco (some ((A : Int) + 1)) none
  have q3 := hcn none (some (O : Int))
  have q4 := hcn (some ((O : Int) + 1)) none
  refine s_cut (fun L => ∃ ws : List PyData, ws.length = 4 ∧ (∀ d ∈ ws, bookB d = false) ∧ Sub (LSp b l A O ws) L) (s_asg ?_) fun L' ⟨w0, k0, g0, sb⟩ => S.sub ?_ sb
  · repeat walk_at "k"
    exact ⟨_, rfl, by repeat (first | exact all_nil | refine all_cons (by walk_at "spoilb") ?_), Sub.refl _⟩
  refine s_cut (fun L => ∃ ws : List PyData, ws.length = 6 ∧ (∀ d ∈ ws, bookB d = false) ∧ Sub (LSp b l A O ws) L) (s_asg ?_) fun L' ⟨w1, k1, g1, sb⟩ => S.sub ?_ sb
  · refine e_ofL (el_catL (e_var rfl ?_))
    repeat walk_at "k"
    refine r_repA (k := 51) (by intro z; cases z) (by decide) (by decide) (Nat.le_of_ble_eq_true rfl) ?_
    repeat walk_at "k"
    refine r_catT (by simp only [List.length_cons, List.length_nil]; omega) ?_
    repeat walk_at "k"
    refine r_catT (by simp only [List.length_append, List.length_cons, List.length_nil]; omega) ?_
    repeat walk_at "k"
    refine ⟨_, _, rfl, rfl, by rw [k0]; exact Nat.le_of_ble_eq_true rfl, _, by rw [List.length_append, k0]; rfl, all_app g0 ?_, Sub.refl _⟩
    repeat (first | exact all_nil | refine all_cons (by walk_at "spoilb") ?_)
  refine s_cut (fun L => ∃ ws : List PyData, ws.length = 8 ∧ (∀ d ∈ ws, bookB d = false) ∧ Sub (LSp b l A O ws) L) (s_asg ?_) fun L' ⟨w2, k2, g2, sb⟩ => S.sub ?_ sb
  · refine e_ofL (el_catL (e_var rfl ?_))
    repeat walk_at "k"
    refine ⟨_, _, rfl, rfl, by rw [k1]; exact Nat.le_of_ble_eq_true rfl, _, by rw [List.length_append, k1]; rfl, all_app g1 ?_, Sub.refl _⟩
    repeat (first | exact all_nil | refine all_cons (by walk_at "spoilb") ?_)
  refine s_cut (fun L => ∃ ws : List PyData, ws.length = 13 ∧ (∀ d ∈ ws, bookB d = false) ∧ Sub (LSp b l A O ws) L) (s_asg ?_) fun L' ⟨w3, k3, g3, sb⟩ => S.sub ?_ sb
  · refine e_ofL (el_catL (e_var rfl ?_))
    repeat walk_at "k"
    refine ⟨_, _, rfl, rfl, by rw [k2]; exact Nat.le_of_ble_eq_true rfl, _, by rw [List.length_append, k2]; rfl, all_app g2 ?_, Sub.refl _⟩
    repeat (first | exact all_nil | refine all_cons (by walk_at "spoilb") ?_)
  refine s_cut (fun L => ∃ ws : List PyData, ws.length = 15 ∧ (∀ d ∈ ws, bookB d = false) ∧ Sub (LSp b l A O ws) L) (s_asg ?_) fun L' ⟨w4, k4, g4, sb⟩ => S.sub ?_ sb
  · refine e_ofL (el_catL (e_var rfl ?_))
    repeat walk_at "k"
    refine r_repA (k := 101) (by intro z; cases z) (by decide) (by decide) (Nat.le_of_ble_eq_true rfl) ?_
    repeat walk_at "k"
    refine ⟨_, _, rfl, rfl, by rw [k3]; exact Nat.le_of_ble_eq_true rfl, _, by rw [List.length_append, k3]; rfl, all_app g3 ?_, Sub.refl _⟩
    repeat (first | exact all_nil | refine all_cons (by walk_at "spoilb") ?_)
  refine s_cut (fun L => ∃ ws : List PyData, ws.length = 17 ∧ (∀ d ∈ ws, bookB d = false) ∧ Sub (LSp b l A O ws) L) (s_asg ?_) fun L' ⟨w5, k5, g5, sb⟩ => S.sub ?_ sb
  · refine e_ofL (el_catL (e_var rfl ?_))
    repeat walk_at "k"
    refine r_catT (by simp only [List.length_cons, List.length_nil]; omega) ?_
    repeat walk_at "k"
    refine r_catT (by simp only [List.length_append, List.length_cons, List.length_nil]; omega) ?_
    repeat walk_at "k"
    refine ⟨_, _, rfl, rfl, by rw [k4]; exact Nat.le_of_ble_eq_true rfl, _, by rw [List.length_append, k4]; rfl, all_app g4 ?_, Sub.refl _⟩
    repeat (first | exact all_nil | refine all_cons (by walk_at "spoilb") ?_)
  refine s_cut (fun L => ∃ ws : List PyData, ws.length = 19 ∧ (∀ d ∈ ws, bookB d = false) ∧ Sub (LSp b l A O ws) L) (s_asg ?_) fun L' ⟨w6, k6, g6, sb⟩ => S.sub ?_ sb
  · refine e_ofL (el_catL (e_var rfl ?_))
    repeat walk_at "k"
    refine r_catT (Nat.le_of_ble_eq_true rfl) ?_
    repeat walk_at "k"
    refine ⟨_, _, rfl, rfl, by rw [k5]; exact Nat.le_of_ble_eq_true rfl, _, by rw [List.length_append, k5]; rfl, all_app g5 ?_, Sub.refl _⟩
    repeat (first | exact all_nil | refine all_cons (by walk_at "spoilb") ?_)
  refine s_cut (fun L => ∃ ws : List PyData, ws.length = 23 ∧ (∀ d ∈ ws, bookB d = false) ∧ Sub (LSp b l A O ws) L) (s_asg ?_) fun L' ⟨w7, k7, g7, sb⟩ => S.sub ?_ sb
  · refine e_ofL (el_catL (e_var rfl ?_))
    repeat walk_at "k"
    refine ⟨_, _, rfl, rfl, by rw [k6]; exact Nat.le_of_ble_eq_true rfl, _, by rw [List.length_append, k6]; rfl, all_app g6 ?_, Sub.refl _⟩
    repeat (first | exact all_nil | refine all_cons (by walk_at "spoilb") ?_)
  refine s_cut (fun L => ∃ ws : List PyData, ws.length = 26 ∧ (∀ d ∈ ws, bookB d = false) ∧ Sub (LSp b l A O ws) L) (s_asg ?_) fun L' ⟨w8, k8, g8, sb⟩ => S.sub ?_ sb
  · refine e_ofL (el_catL (e_var rfl ?_))
    repeat walk_at "k"
    refine r_repA (k := 51) (by intro z; cases z) (by decide) (by decide) (Nat.le_of_ble_eq_true rfl) ?_
    repeat walk_at "k"
    refine ⟨_, _, rfl, rfl, by rw [k7]; exact Nat.le_of_ble_eq_true rfl, _, by rw [List.length_append, k7]; rfl, all_app g7 ?_, Sub.refl _⟩
    repeat (first | exact all_nil | refine all_cons (by walk_at "spoilb") ?_)
  refine s_cut (fun L => ∃ ws : List PyData, ws.length = 29 ∧ (∀ d ∈ ws, bookB d = false) ∧ Sub (LSp b l A O ws) L) (s_asg ?_) fun L' ⟨w9, k9, g9, sb⟩ => S.sub ?_ sb
  · refine e_ofL (el_catL (e_var rfl ?_))
    repeat walk_at "k"
    refine r_catT (by simp only [List.length_cons, List.length_nil]; omega) ?_
    repeat walk_at "k"
    refine r_catT (by simp only [List.length_append, List.length_cons, List.length_nil]; omega) ?_
    repeat walk_at "k"
    refine ⟨_, _, rfl, rfl, by rw [k8]; exact Nat.le_of_ble_eq_true rfl, _, by rw [List.length_append, k8]; rfl, all_app g8 ?_, Sub.refl _⟩
    repeat (first | exact all_nil | refine all_cons (by walk_at "spoilb") ?_)
  refine s_cut (fun L => ∃ ws : List PyData, ws.length = 31 ∧ (∀ d ∈ ws, bookB d = false) ∧ Sub (LSp b l A O ws) L) (s_asg ?_) fun L' ⟨w10, k10, g10, sb⟩ => S.sub ?_ sb
  · refine e_ofL (el_catL (e_var rfl ?_))
    repeat walk_at "k"
    refine r_catT (by simp only [List.length_cons, List.length_nil]; omega) ?_
    repeat walk_at "k"
    refine r_catT (by simp only [List.length_append, List.length_cons, List.length_nil]; omega) ?_
    repeat walk_at "k"
    refine ⟨_, _, rfl, rfl, by rw [k9]; exact Nat.le_of_ble_eq_true rfl, _, by rw [List.length_append, k9]; rfl, all_app g9 ?_, Sub.refl _⟩
    repeat (first | exact all_nil | refine all_cons (by walk_at "spoilb") ?_)
  refine s_ret (e_op (e_ofL (el_catL (e_var rfl ?_))))
  repeat walk_at "k"
  refine ⟨_, _, rfl, rfl, by rw [k10]; exact Nat.le_of_ble_eq_true rfl, ?_⟩
  have kz : (w10 ++ [PyData.tuple [.tuple (blsD b.os), .tuple (blsD b.ns), .int b.lt, .bool true]]).length = 32 := by rw [List.length_append, k10]; rfl
  have gz : ∀ d ∈ w10 ++ [PyData.tuple [.tuple (blsD b.os), .tuple (blsD b.ns), .int b.lt, .bool true]], bookB d = false := all_app g10 (all_cons (by walk_at "spoilb") all_nil)
  repeat walk_at "k"
  refine r_ixL (nats_at (i := 3) (by omega)) ?_
  repeat walk_at "k"
  refine r_mod (by decide) ?_
  have hm : l.getD 3 0 % 32 < (w10 ++ [PyData.tuple [.tuple (blsD b.os), .tuple (blsD b.ns), .int b.lt, .bool true]]).length := by rw [kz]; exact Nat.mod_lt _ (by decide)
  refine r_ixL (show atI _ ((l.getD 3 0 % 32 : Nat) : Int) = some _ from atI_nat (List.getElem?_eq_getElem hm)) ?_
  exact gz _ (List.getElem_mem hm)
end
end K32
set_option Elab.async false
set_option linter.all false
set_option maxRecDepth 100000
namespace K32
open PySem PySem.Spec PyProof.Rows L2 Dl Wm
local macro_rules | `(tactic| walk_at "e") => `(tactic| first
  | ((with_reducible refine e_var (by with_unfolding_all exact rfl) ?_))
  | with_reducible refine e_int ?_
  | with_reducible refine e_str ?_
  | with_reducible refine e_bl ?_
  | with_reducible refine e_non ?_
  | ((with_reducible refine e_pen (by with_unfolding_all exact rfl) (Or.inr rfl) ?_); intro z hz)
  | ((with_reducible refine e_pen (by with_unfolding_all exact rfl) (Or.inl rfl) ?_); intro z hz)
  | ((with_reducible refine e_penIx (by with_unfolding_all exact rfl) ?_))
  | ((with_reducible refine e_spr (by with_unfolding_all exact rfl) ?_); intro z)
  | with_reducible refine e_op ?_
  | with_reducible refine e_tup ?_
  | with_reducible refine e_lst ?_
  | with_reducible refine ea_cons ?_
  | with_reducible refine ea_nil ?_
  | ((with_reducible refine e_penLen (by with_unfolding_all exact rfl) ?_))
  | ((with_reducible refine e_lenOwn (by with_unfolding_all exact rfl) ?_))
  | ((with_reducible refine e_tupOwn (by with_unfolding_all exact rfl) ?_))
  | ((with_reducible refine s_aug (by with_unfolding_all exact rfl) ?_); (try dsimp only [List.set]))
  | with_reducible refine e_callXF ?_
  | with_reducible refine r_ipI ?_
  | with_reducible refine e_un ?_
  | with_reducible refine r_neg ?_
  | with_reducible refine gws_cons ?_
  | with_reducible refine gws_nil ?_
  | with_reducible refine gw_tup rfl ?_
  | ((with_reducible refine gw_name (by decide) ?_); (try dsimp only [List.set]))
  | with_reducible refine e_isI ?_
  | with_reducible refine e_isB ?_
  | with_reducible refine e_isS ?_
  | with_reducible refine e_isTu ?_
  | with_reducible refine e_isL ?_
  | with_reducible refine e_cb ?_
  | with_reducible refine e_sl ?_
  | with_reducible refine eo_none ?_
  | with_reducible refine eo_some ?_
  | with_reducible refine et_test ?_
  | with_reducible refine et_B ?_
  | with_reducible refine et_and ?_
  | with_reducible refine et_or ?_
  | with_reducible refine et_not ?_
  | with_reducible refine et_yes ?_
  | with_reducible refine e_andV ?_
  | with_reducible refine e_orV ?_
  | with_reducible refine e_notV ?_
  | with_reducible refine e_if ?_
  | with_reducible refine e_chain ?_
  | with_reducible refine e_callX ?_
  | ((with_reducible refine e_callXP (by with_unfolding_all exact rfl) ?_ (by with_unfolding_all exact trivial)))
  | ((with_reducible refine s_seq ?_); (try dsimp only [List.set]))
  | with_reducible refine s_next ?_
  | with_reducible refine s_ret ?_
  | ((with_reducible refine s_pen (by with_unfolding_all exact rfl) (Or.inr rfl) ?_))
  | ((with_reducible refine s_pen (by with_unfolding_all exact rfl) (Or.inl rfl) ?_))
  | ((with_reducible refine s_spr (by with_unfolding_all exact rfl) ?_))
  | ((with_reducible refine s_putOwn (by with_unfolding_all exact rfl) ?_ (by with_unfolding_all exact rfl)))
  | with_reducible refine s_asg ?_
  | with_reducible refine s_asgG ?_
  | with_reducible refine s_if ?_
  | with_reducible refine g_name ?_
  | with_reducible refine g_tup rfl ?_
  | with_reducible refine gs_cons ?_
  | with_reducible refine gs_nil ?_
  | with_reducible refine r_lt ?_
  | with_reducible refine r_le ?_
  | with_reducible refine r_gt ?_
  | with_reducible refine r_ge ?_
  | with_reducible refine r_add ?_
  | with_reducible refine r_sub ?_
  | with_reducible refine r_eqI ?_
  | with_reducible refine r_eqS ?_
  | with_reducible refine r_eqB ?_
  | with_reducible refine r_neI ?_
  | with_reducible refine r_neB ?_
  | with_reducible refine c_min2 ?_
  | with_reducible refine c_max2 ?_
  | with_reducible refine c_intB ?_
  | with_reducible refine c_len (Or.inl rfl) ?_
  | with_reducible refine c_len (Or.inr rfl) ?_
  | with_reducible refine c_list (Or.inl rfl) ?_
  | with_reducible refine c_list (Or.inr rfl) ?_
  | with_reducible refine c_tuple (Or.inl rfl) ?_
  | with_reducible refine c_tuple (Or.inr rfl) ?_
  | with_reducible refine r_ixT (by with_unfolding_all exact rfl) ?_
  | with_reducible refine r_ixL (by with_unfolding_all exact rfl) ?_
  | with_reducible refine r_slT ?_
  | with_reducible refine r_slL ?_
  | with_reducible refine r_isNone ?_
  | with_reducible refine r_notBl ?_
  | with_reducible refine eps_cons ?_
  | with_reducible refine eps_nil ?_
  | with_reducible refine e_dget1 ?_
  | with_reducible refine ed_callX ?_
  | with_reducible refine ⟨_, rfl, ?_⟩
  | with_reducible refine And.intro (Nat.le_of_ble_eq_true rfl) ?_)
local macro_rules | `(tactic| walk_at "t") => `(tactic| first
  | walk_at "e"
  | refine r_modAny (by first | omega | decide) fun z z0 z1 => ?_
  | refine r_mul (by first | exact Or.inr ⟨by decide, by decide⟩ | exact Or.inl ⟨by decide, by decide⟩ | exact Or.inl ⟨by omega, by omega⟩) ?_
  | refine r_pow ⟨by decide, by decide, by decide⟩ ?_
  | refine r_fdivW (by first | assumption | (rename_i hw _; exact hw _) | exact wide_div (b := 200) (by decide) (by decide) (by decide) (by decide)) ?_
  | with_reducible refine And.intro (by omega) ?_)
local macro_rules | `(tactic| walk_at "k") => `(tactic| first
  | walk_at "e"
  | with_reducible refine ⟨fun hb => absurd hb (by decide +kernel), fun _ => ?_⟩
  | with_reducible refine ⟨fun _ => ?_, fun hb => absurd hb (by decide +kernel)⟩
  | refine ⟨fun hb => absurd hb Bool.false_ne_true, fun _ => ?_⟩
  | refine ⟨fun _ => ?_, fun hb => absurd hb.symm Bool.false_ne_true⟩)
local macro_rules | `(tactic| walk_at "d") => `(tactic| first
  | walk_at "k"
  | refine And.intro (show WfTake _ from ⟨by omega, by omega⟩) (take_all fun k hk => ?_))
local macro_rules | `(tactic| walk_at "o") => `(tactic| first
  | with_reducible refine s_ownList ?_
  | walk_at "d"
  | with_reducible refine ⟨_, Or.inl rfl, ?_⟩)

section
variable {P : Program} {w : World} {K : PySem.W.Frag} {mg : Str → Option Value} {base : Heap}
theorem oD_let {o : Option Nat} {lt : Nat} (h : ∀ v, o = some v → v < lt) : letB (numD o) lt = true := by
  cases o with
  | none => rfl
  | some v =>
    have := h v rfl
    show (false || (decide ((0 : Int) ≤ v) && decide ((v : Int) ≤ (lt : Int) - 1))) = true
    rw [decide_eq_true (by omega), decide_eq_true (by omega)]
    rfl
theorem Rl.good {r : Rl} {mo mn lt : Nat} (h : r.Ok mo mn lt) : ruleB r.D mo mn lt = true := by
  have h2 := h.h2
  have ha := h.a1
  have ht := h.t1
  have hq : qOf r.h mo mn = ((if r.h = 1 then mn else mo : Nat) : Int) := by
    unfold qOf
    by_cases e : r.h = 1
    · rw [if_pos e, if_pos (by omega)]
    · rw [if_neg e, if_neg (by omega)]
  show ruleB (.tuple [.int (r.h : Int), .int r.a, numD r.he, .int r.t, numD r.sa]) mo mn lt = true
  rw [parts_eq, oD_let h.he1, oD_let h.sa1, hq]
  generalize (if r.h = 1 then mn else mo) = q at ha ht
  show ((decide ((0 : Int) ≤ r.h) && decide ((r.h : Int) ≤ 1)) && (((decide ((0 : Int) ≤ r.a) && decide ((r.a : Int) ≤ (q : Int) - 1)) && (decide ((0 : Int) ≤ r.t) && decide ((r.t : Int) ≤ (q : Int) - 1))) && (true && true))) = true
  rw [decide_eq_true (by omega), decide_eq_true (by omega), decide_eq_true (by omega), decide_eq_true (by omega), decide_eq_true (by omega), decide_eq_true (by omega)]
  rfl
theorem house_bls {l : List Bool} (h1 : 1 ≤ l.length) (h2 : l.length ≤ 50) : houseB (.tuple (blsD l)) = true := by
  show ((decide (1 ≤ ((blsD l).length : Int)) && decide (((blsD l).length : Int) ≤ 50)) && (blsD l).all isBl) = true
  rw [blsD_len, decide_eq_true (by omega), decide_eq_true (by omega), Bool.true_and, Bool.true_and, List.all_eq_true]
  intro d hd
  obtain ⟨b, _, rfl⟩ := List.mem_map.mp hd
  rfl
theorem Bk.good {b : Bk} (h : b.Ok) : bookB b.D = true := by
  have o1 := h.o1
  have o2 := h.o2
  have n1 := h.n1
  have n2 := h.n2
  have l1 := h.l1
  have l2 := h.l2
  have r2 := h.r2
  show (houseB (.tuple (blsD b.os)) && (houseB (.tuple (blsD b.ns)) && ((decide ((0 : Int) ≤ b.lt) && decide ((b.lt : Int) ≤ 25)) && (decide (((rlsD b.rs).length : Int) ≤ 100) && (rlsD b.rs).all fun x => ruleB x ((blsD b.os).length : Int) ((blsD b.ns).length : Int) (b.lt : Int))))) = true
  rw [house_bls o1 (by omega), house_bls n1 (by omega), decide_eq_true (by omega), decide_eq_true (by omega), rlsD_len, decide_eq_true (by omega), blsD_len, blsD_len]
  show (rlsD b.rs).all _ = true
  rw [List.all_eq_true]
  intro d hd
  obtain ⟨r, hr, rfl⟩ := List.mem_map.mp hd
  exact Rl.good (h.rs r hr)
theorem r_isBl {pen : Pc} {P : PyData → Prop} {i j : Bool} (p : P (.bool (decide (i = j)))) : R2d K pen rIsB (.bool i) (.bool j) P := fun x y G H v hx hy Q q => by
  cases hx
  cases hy
  exact ⟨i, j, rfl, rfl, q _ _ G H (.refl v) (.bl _) p⟩
abbrev L0 (ns : List Int) : Lv := [some (.d (.list (intsL ns))), none, none, none, none, none, none]
abbrev L1 (ns : List Int) (b : Bk) : Lv := [some (.d (.list (intsL ns))), some (.d b.D), none, none, none, none, none]
theorem drop4 (l : List Nat) : cutD (natsD l) (some 4) none = natsD (l.drop 4) := by
  rw [show (4 : Int) = ((4 : Nat) : Int) from rfl, cut_from]
  unfold natsD
  rw [List.map_drop]
abbrev staysD : PyData := .tuple [.tuple [.int 0, .int 0, .none, .int 0, .none], .tuple [.int 1, .int 0, .none, .int 0, .none]]
abbrev LZ : Lv := [none, none, none, none, none, some (.d staysD), none]
set_option maxHeartbeats 8000000 in
theorem ok_law {f : Addr} {fd : FuncData} (F : Fun K "law" "law" s_law f fd) (T : Tx K mg base) : FnOk P w K mg base CX0 7 f fd ["script"] (spLawT K T.ts) := by
  refine F.ok sc_law (fun vs H Q E h => ?_) (fun cdv A outer s H vs Q E hr h => ?_)
  · obtain ⟨a, ns, rfl, _⟩ := h
    rfl
  · obtain ⟨a, ns, rfl, hS, hlen, hT, q⟩ := h
    refine ⟨_, (pss_cons (ps_set (i := 1) sc_law.nd rfl (.inl rfl) (pe_call (ok_law_book T) (hr.mono (by decide)) (by rfl) T.g_law_book T.F_law_book.kp T.b_law_book .nil pass0 (pa_cons (pv 0) pa_nil)))
      (pss_cons (ps_if (pt_cmpR op_notBl (pe_call (ok_is_rulebook T) (hr.mono (by decide)) (by rfl) T.g_is_rulebook T.F_is_rulebook.kp T.b_is_rulebook .nil pass0 (pa_cons (pv 1) pa_nil)) pe_bl (nomark _))
      (pss_one (ps_ret pe_bl))
      pss_nil)
      (pss_cons (ps_for PassesOwn.never rfl (pi_range1 rfl T.m_range (pa_cons pe_int pa_nil)) (pg_name (i := 2) sc_law.nd rfl (.inl rfl))
      (pss_one (ps_if (pt_cmpR op_notBl (pe_call (ok_is_rulebook T) (hr.mono (by decide)) (by rfl) T.g_is_rulebook T.F_is_rulebook.kp T.b_is_rulebook .nil pass0 (pa_cons (pe_call (ok_law_spoilt T) (hr.mono (by decide)) (by rfl) T.g_law_spoilt T.F_law_spoilt.kp T.b_law_spoilt .nil pass0 (pa_cons (pv 1) (pa_cons (pe_slice (kx_slL K rfl) (pe_call (ok_law_some T) (hr.mono (by decide)) (by rfl) T.g_law_some T.F_law_some.kp T.b_law_some .nil pass0 (pa_cons (pe_call (ok_law_cell T) (hr.mono (by decide)) (by rfl) T.g_law_cell T.F_law_cell.kp T.b_law_cell .nil pass0 (pa_cons (pv 0) (pa_cons (pv 2) pa_nil))) (pa_cons pe_int pa_nil))) (po_some pe_int) po_none) pa_nil))) pa_nil)) pe_bl (nomark _))
      (pss_one (ps_ret pe_bl))
      pss_nil)))
      (pss_cons (ps_set (i := 3) sc_law.nd rfl (.inl rfl) (pe_tup (pa_cons pe_int (pa_cons pe_int (pa_cons pe_int (pa_cons pe_int (pa_cons pe_int pa_nil)))))))
      (pss_cons (ps_set (i := 4) sc_law.nd rfl (.inl rfl) (pe_tup (pa_cons (pe_op (kx_repA (K := K) rfl) (pe_tup (pa_cons pe_bl pa_nil)) pe_int) (pa_cons (pe_op (kx_repA (K := K) rfl) (pe_tup (pa_cons pe_bl pa_nil)) pe_int) (pa_cons pe_int (pa_cons (pe_op (kx_repA (K := K) rfl) (pe_tup (pa_cons (pv 3) pa_nil)) pe_int) pa_nil))))))
      (pss_cons (ps_set (i := 5) sc_law.nd rfl (.inl rfl) (pe_tup (pa_cons (pe_tup (pa_cons pe_int (pa_cons pe_int (pa_cons pe_non (pa_cons pe_int (pa_cons pe_non pa_nil)))))) (pa_cons (pe_tup (pa_cons pe_int (pa_cons pe_int (pa_cons pe_non (pa_cons pe_int (pa_cons pe_non pa_nil)))))) pa_nil))))
      (pss_cons (ps_for PassesOwn.never rfl (kx_piL K rfl (pe_lst (pa_cons (pv 4) (pa_cons (pe_tup (pa_cons (pe_tup (pa_cons pe_bl pa_nil)) (pa_cons (pe_tup (pa_cons pe_bl pa_nil)) (pa_cons pe_int (pa_cons (pe_tup pa_nil) pa_nil))))) (pa_cons (pe_tup (pa_cons (pe_tup (pa_cons pe_bl pa_nil)) (pa_cons (pe_tup (pa_cons pe_bl pa_nil)) (pa_cons pe_int (pa_cons (pe_tup pa_nil) pa_nil))))) (pa_cons (pe_tup (pa_cons (pe_tup (pa_cons pe_bl pa_nil)) (pa_cons (pe_tup (pa_cons pe_bl pa_nil)) (pa_cons pe_int (pa_cons (pv 5) pa_nil))))) pa_nil)))))) (pg_name (i := 6) sc_law.nd rfl (.inl rfl))
      (pss_one (ps_if (pt_cmpR op_notBl (pe_call (ok_is_rulebook T) (hr.mono (by decide)) (by rfl) T.g_is_rulebook T.F_is_rulebook.kp T.b_is_rulebook .nil pass0 (pa_cons (pv 6) pa_nil)) pe_bl (nomark _))
      (pss_one (ps_ret pe_bl))
      pss_nil)))
      (pss_one (ps_ret (pe_cmpR op_isBl (pe_call (ok_is_rulebook T) (hr.mono (by decide)) (by rfl) T.g_is_rulebook T.F_is_rulebook.kp T.b_is_rulebook .nil pass0 (pa_cons (pe_tup (pa_cons (pe_tup (pa_cons pe_bl pa_nil)) (pa_cons (pe_tup (pa_cons pe_bl pa_nil)) (pa_cons pe_int (pa_cons (pe_slice (kx_slT K rfl) (pv 5) po_none (po_some pe_int)) pa_nil))))) pa_nil)) pe_bl (nomark _))))))))))), ?_⟩
    refine law_start (K := K) (ts := T.ts) (L := L0 ns) hS rfl (fun i av hi => ?_) hT ?_ q
    · rcases i with _ | i
      · cases hi
        exact ⟨rfl, rfl⟩
      · iterate 6 (rcases i with _ | i; (· cases hi))
        cases hi
    · refine s_seq (s_asg ?_)
      repeat walk_at "k"
      refine ⟨hlen, ?_⟩
      rintro d ⟨b, rfl, hb⟩
      repeat walk_at "k"
      refine ⟨trivial, ?_⟩
      rintro d rfl
      rw [Bk.good hb]
      repeat walk_at "k"
      refine s_cut (fun L => Sub (L1 ns b) L) (s_forI (it_rng ?_)) fun L' sb => S.sub ?_ sb
      · repeat walk_at "k"
        refine ⟨by decide, by decide, fun _ L => L = L1 ns b, ⟨L1 ns b, by repeat (first | exact Sub.nil | apply Sub.keep | apply Sub.drop), rfl⟩, fun k d L' hd e => ?_, fun L' e L4 s4 => e ▸ s4⟩
        subst e
        obtain ⟨hk, rfl⟩ := rngL_get hd
        rw [Int.zero_add]
        have hk8 : k < 8 := hk
        refine g_name ?_
        dsimp only [List.set]
        refine s_if ?_
        repeat walk_at "k"
        refine ⟨⟨ns, k⟩, rfl, by show k ≤ 1000; omega, ?_⟩
        rintro d ⟨z, rfl⟩
        repeat walk_at "k"
        refine ⟨⟨z, 8⟩, rfl, by show 8 ≤ 1000; decide, ?_⟩
        rintro d ⟨l, rfl, hl⟩
        dsimp only at hl
        repeat walk_at "k"
        rw [drop4]
        refine ⟨⟨b, l.drop 4⟩, rfl, ⟨hb, by show (l.drop 4).length = 4; rw [List.length_drop]; omega⟩, ?_⟩
        intro d hd
        repeat walk_at "k"
        refine ⟨trivial, ?_⟩
        rintro d rfl
        rw [hd]
        repeat walk_at "k"
        exact ⟨L1 ns b, by repeat (first | exact Sub.nil | apply Sub.keep | apply Sub.drop), rfl⟩
      refine s_next ?_
      refine s_seq (s_asg ?_)
      repeat walk_at "k"
      refine r_repA (k := 50) (by intro z; cases z) (by decide) (by decide) (Nat.le_of_ble_eq_true rfl) ?_
      repeat walk_at "k"
      refine r_repA (k := 50) (by intro z; cases z) (by decide) (by decide) (Nat.le_of_ble_eq_true rfl) ?_
      repeat walk_at "k"
      refine r_repA (k := 100) (by intro z; cases z) (by decide) (by decide) (Nat.le_of_ble_eq_true rfl) ?_
      repeat walk_at "k"
      refine s_cut (fun L => Sub LZ L) (s_forI (it_list ?_)) fun L' sb => S.sub ?_ sb
      · repeat walk_at "k"
        refine ⟨fun _ L => L = LZ, ⟨LZ, by repeat (first | exact Sub.nil | apply Sub.keep | apply Sub.drop), rfl⟩, fun k d L' hd e => ?_, fun L' e L4 s4 => e ▸ s4⟩
        subst e
        have hgood : bookB d = true := by
          refine (all_cons (P := fun d => bookB d = true) ?_ (all_cons ?_ (all_cons ?_ (all_cons ?_ all_nil)))) d (List.mem_of_getElem? hd) <;> decide +kernel
        refine g_name ?_
        dsimp only [List.set]
        refine s_if ?_
        repeat walk_at "k"
        refine ⟨trivial, ?_⟩
        rintro d rfl
        rw [hgood]
        repeat walk_at "k"
        exact ⟨LZ, by repeat (first | exact Sub.nil | apply Sub.keep | apply Sub.drop), rfl⟩
      refine s_next ?_
      repeat walk_at "k"
      refine ⟨trivial, ?_⟩
      rintro d rfl
      rw [show bookB (.tuple [.tuple [.bool false], .tuple [.bool false], .int 0, .tuple (Dl.cutD [.tuple [.int 0, .int 0, .none, .int 0, .none], .tuple [.int 1, .int 0, .none, .int 0, .none]] none (some 1))]) = true from by decide +kernel]
      refine e_bl (r_isBl ?_)
      rfl
end
end K32
set_option Elab.async false
set_option linter.all false
set_option maxRecDepth 100000
namespace K32
open PySem PySem.Spec PyProof.Rows L2 Dl
set_option maxHeartbeats 0 in
theorem all_mk {l : PySem.W.OpenLaw} {q : Program} {w : World} {K : PySem.W.Frag} {h : Heap} {mg : Str → Option Value} {fa f1 f2 f3 f4 f5 f6 f7 f8 f9 f10 f11 f12 f13 f14 f15 f16 kc4 pt4 kc7 pt7 : Addr} (X : K.In h) (G : h.Ns mainGlobals mg) (hfa : mg "law" = some (.ref fa)) (AT : Dl.AllTabs q K mg h)
    {od1 an1 od2 an2 od3 an3 od4 an4 od5 an5 od6 an6 od7 an7 od8 an8 od9 an9 od10 an10 od11 an11 od12 an12 od13 an13 od14 an14 od15 an15 od16 an16 : Option Addr} {sl1 sl2 sl3 sl4 sl5 sl6 sl7 sl8 sl9 sl10 sl11 sl12 sl13 sl14 sl15 sl16 : Array (Option Value)} {oc1 kV1 dc1 pm1 ct1 cd1 oc2 kV2 dc2 pm2 ct2 cd2 oc3 kV3 dc3 pm3 ct3 cd3 oc4 kV4 dc4 pm4 ct4 oc5 kV5 dc5 pm5 ct5 cd5 oc6 kV6 dc6 pm6 ct6 cd6 oc7 kV7 dc7 pm7 ct7 oc8 kV8 dc8 pm8 ct8 cd8 oc9 kV9 dc9 pm9 ct9 cd9 oc10 kV10 dc10 pm10 ct10 cd10 oc11 kV11 dc11 pm11 ct11 cd11 oc12 kV12 dc12 pm12 ct12 cd12 oc13 kV13 dc13 pm13 ct13 cd13 oc14 kV14 dc14 pm14 ct14 cd14 oc15 kV15 dc15 pm15 ct15 cd15 oc16 kV16 dc16 pm16 ct16 cd16 : Value}
    {te4 te7 : Value} {td4 td7 : Option Addr} {tv4 tv7 : Array Value} {tl4 tl7 : Array (Option Value)}
    {t_MOST_STANDS t_MOST_LETTERS t_MOST_RULES : Tok}
    (a1 : PySem.W.nsIn K mainGlobals "is_whole" = some (some (.ref f1))) (l1 : K.lookup f1 = some ⟨oc1, od1, .func (PySem.W.fnOf "is_whole" "is_whole" (defArgs s_is_whole) (defBody s_is_whole) (defScope s_is_whole) .none kV1 dc1 pm1 an1 cd1 ct1), sl1⟩) (c1 : PySem.W.codeIn K cd1 "is_whole" = true) (k1 : PySem.W.keepIn K (.ref f1) = true)
    (a2 : PySem.W.nsIn K mainGlobals "is_whole_within" = some (some (.ref f2))) (l2 : K.lookup f2 = some ⟨oc2, od2, .func (PySem.W.fnOf "is_whole_within" "is_whole_within" (defArgs s_is_whole_within) (defBody s_is_whole_within) (defScope s_is_whole_within) .none kV2 dc2 pm2 an2 cd2 ct2), sl2⟩) (c2 : PySem.W.codeIn K cd2 "is_whole_within" = true) (k2 : PySem.W.keepIn K (.ref f2) = true)
    (a3 : PySem.W.nsIn K mainGlobals "is_tuple_of" = some (some (.ref f3))) (l3 : K.lookup f3 = some ⟨oc3, od3, .func (PySem.W.fnOf "is_tuple_of" "is_tuple_of" (defArgs s_is_tuple_of) (defBody s_is_tuple_of) (defScope s_is_tuple_of) .none kV3 dc3 pm3 an3 cd3 ct3), sl3⟩) (c3 : PySem.W.codeIn K cd3 "is_tuple_of" = true) (k3 : PySem.W.keepIn K (.ref f3) = true)
    (a4 : PySem.W.nsIn K mainGlobals "is_house" = some (some (.ref f4))) (l4 : K.lookup f4 = some ⟨oc4, od4, .func (PySem.W.fnOf "is_house" "is_house" (defArgs s_is_house) (defBody s_is_house) (defScope s_is_house) .none kV4 dc4 pm4 an4 (.ref kc4) ct4), sl4⟩) (c4 : PySem.W.codeIn K (.ref kc4) "is_house" = true) (k4 : PySem.W.keepIn K (.ref f4) = true)
    (h4 : K.lookup kc4 = some ⟨te4, td4, .fields tv4, tl4⟩) (v4 : tv4[11]? = some (.ref pt4)) (n4 : K.lookup pt4 = none) (q4 : PySem.W.codeHdIn K kc4 pt4 = true) (r4 : ((recsOf q).any fun e => e.name == "is_house") = true)
    (a5 : PySem.W.nsIn K mainGlobals "is_letter_or_none" = some (some (.ref f5))) (l5 : K.lookup f5 = some ⟨oc5, od5, .func (PySem.W.fnOf "is_letter_or_none" "is_letter_or_none" (defArgs s_is_letter_or_none) (defBody s_is_letter_or_none) (defScope s_is_letter_or_none) .none kV5 dc5 pm5 an5 cd5 ct5), sl5⟩) (c5 : PySem.W.codeIn K cd5 "is_letter_or_none" = true) (k5 : PySem.W.keepIn K (.ref f5) = true)
    (a6 : PySem.W.nsIn K mainGlobals "is_rule" = some (some (.ref f6))) (l6 : K.lookup f6 = some ⟨oc6, od6, .func (PySem.W.fnOf "is_rule" "is_rule" (defArgs s_is_rule) (defBody s_is_rule) (defScope s_is_rule) .none kV6 dc6 pm6 an6 cd6 ct6), sl6⟩) (c6 : PySem.W.codeIn K cd6 "is_rule" = true) (k6 : PySem.W.keepIn K (.ref f6) = true)
    (a7 : PySem.W.nsIn K mainGlobals "is_rulebook" = some (some (.ref f7))) (l7 : K.lookup f7 = some ⟨oc7, od7, .func (PySem.W.fnOf "is_rulebook" "is_rulebook" (defArgs s_is_rulebook) (defBody s_is_rulebook) (defScope s_is_rulebook) .none kV7 dc7 pm7 an7 (.ref kc7) ct7), sl7⟩) (c7 : PySem.W.codeIn K (.ref kc7) "is_rulebook" = true) (k7 : PySem.W.keepIn K (.ref f7) = true)
    (h7 : K.lookup kc7 = some ⟨te7, td7, .fields tv7, tl7⟩) (v7 : tv7[11]? = some (.ref pt7)) (n7 : K.lookup pt7 = none) (q7 : PySem.W.codeHdIn K kc7 pt7 = true) (r7 : ((recsOf q).any fun e => e.name == "is_rulebook") = true)
    (a8 : PySem.W.nsIn K mainGlobals "_law_stir" = some (some (.ref f8))) (l8 : K.lookup f8 = some ⟨oc8, od8, .func (PySem.W.fnOf "_law_stir" "_law_stir" (defArgs s_law_stir) (defBody s_law_stir) (defScope s_law_stir) .none kV8 dc8 pm8 an8 cd8 ct8), sl8⟩) (c8 : PySem.W.codeIn K cd8 "_law_stir" = true) (k8 : PySem.W.keepIn K (.ref f8) = true)
    (a9 : PySem.W.nsIn K mainGlobals "_law_some" = some (some (.ref f9))) (l9 : K.lookup f9 = some ⟨oc9, od9, .func (PySem.W.fnOf "_law_some" "_law_some" (defArgs s_law_some) (defBody s_law_some) (defScope s_law_some) .none kV9 dc9 pm9 an9 cd9 ct9), sl9⟩) (c9 : PySem.W.codeIn K cd9 "_law_some" = true) (k9 : PySem.W.keepIn K (.ref f9) = true)
    (a10 : PySem.W.nsIn K mainGlobals "_law_cell" = some (some (.ref f10))) (l10 : K.lookup f10 = some ⟨oc10, od10, .func (PySem.W.fnOf "_law_cell" "_law_cell" (defArgs s_law_cell) (defBody s_law_cell) (defScope s_law_cell) .none kV10 dc10 pm10 an10 cd10 ct10), sl10⟩) (c10 : PySem.W.codeIn K cd10 "_law_cell" = true) (k10 : PySem.W.keepIn K (.ref f10) = true)
    (a11 : PySem.W.nsIn K mainGlobals "_law_chain" = some (some (.ref f11))) (l11 : K.lookup f11 = some ⟨oc11, od11, .func (PySem.W.fnOf "_law_chain" "_law_chain" (defArgs s_law_chain) (defBody s_law_chain) (defScope s_law_chain) .none kV11 dc11 pm11 an11 cd11 ct11), sl11⟩) (c11 : PySem.W.codeIn K cd11 "_law_chain" = true) (k11 : PySem.W.keepIn K (.ref f11) = true)
    (a12 : PySem.W.nsIn K mainGlobals "_law_rule" = some (some (.ref f12))) (l12 : K.lookup f12 = some ⟨oc12, od12, .func (PySem.W.fnOf "_law_rule" "_law_rule" (defArgs s_law_rule) (defBody s_law_rule) (defScope s_law_rule) .none kV12 dc12 pm12 an12 cd12 ct12), sl12⟩) (c12 : PySem.W.codeIn K cd12 "_law_rule" = true) (k12 : PySem.W.keepIn K (.ref f12) = true)
    (a13 : PySem.W.nsIn K mainGlobals "_law_book" = some (some (.ref f13))) (l13 : K.lookup f13 = some ⟨oc13, od13, .func (PySem.W.fnOf "_law_book" "_law_book" (defArgs s_law_book) (defBody s_law_book) (defScope s_law_book) .none kV13 dc13 pm13 an13 cd13 ct13), sl13⟩) (c13 : PySem.W.codeIn K cd13 "_law_book" = true) (k13 : PySem.W.keepIn K (.ref f13) = true)
    (a14 : PySem.W.nsIn K mainGlobals "_law_spoilt_rule" = some (some (.ref f14))) (l14 : K.lookup f14 = some ⟨oc14, od14, .func (PySem.W.fnOf "_law_spoilt_rule" "_law_spoilt_rule" (defArgs s_law_spoilt_rule) (defBody s_law_spoilt_rule) (defScope s_law_spoilt_rule) .none kV14 dc14 pm14 an14 cd14 ct14), sl14⟩) (c14 : PySem.W.codeIn K cd14 "_law_spoilt_rule" = true) (k14 : PySem.W.keepIn K (.ref f14) = true)
    (a15 : PySem.W.nsIn K mainGlobals "_law_spoilt" = some (some (.ref f15))) (l15 : K.lookup f15 = some ⟨oc15, od15, .func (PySem.W.fnOf "_law_spoilt" "_law_spoilt" (defArgs s_law_spoilt) (defBody s_law_spoilt) (defScope s_law_spoilt) .none kV15 dc15 pm15 an15 cd15 ct15), sl15⟩) (c15 : PySem.W.codeIn K cd15 "_law_spoilt" = true) (k15 : PySem.W.keepIn K (.ref f15) = true)
    (a16 : PySem.W.nsIn K mainGlobals "law" = some (some (.ref f16))) (l16 : K.lookup f16 = some ⟨oc16, od16, .func (PySem.W.fnOf "law" "law" (defArgs s_law) (defBody s_law) (defScope s_law) .none kV16 dc16 pm16 an16 cd16 ct16), sl16⟩) (c16 : PySem.W.codeIn K cd16 "law" = true) (k16 : PySem.W.keepIn K (.ref f16) = true)
    (z_abs : PySem.W.nsIn K mainGlobals "abs" = some none)
    (z_all : PySem.W.nsIn K mainGlobals "all" = some none)
    (z_bool : PySem.W.nsIn K mainGlobals "bool" = some none)
    (z_enumerate : PySem.W.nsIn K mainGlobals "enumerate" = some none)
    (z_int : PySem.W.nsIn K mainGlobals "int" = some none)
    (z_isinstance : PySem.W.nsIn K mainGlobals "isinstance" = some none)
    (z_len : PySem.W.nsIn K mainGlobals "len" = some none)
    (z_list : PySem.W.nsIn K mainGlobals "list" = some none)
    (z_range : PySem.W.nsIn K mainGlobals "range" = some none)
    (z_tuple : PySem.W.nsIn K mainGlobals "tuple" = some none)
    (y_MOST_STANDS : PySem.W.nsIn K mainGlobals "MOST_STANDS" = some (some (.int 50 t_MOST_STANDS)))
    (y_MOST_LETTERS : PySem.W.nsIn K mainGlobals "MOST_LETTERS" = some (some (.int 25 t_MOST_LETTERS)))
    (y_MOST_RULES : PySem.W.nsIn K mainGlobals "MOST_RULES" = some (some (.int 100 t_MOST_RULES)))
    : LamX.LawAtS l w K CX0 7 63 "script" mg fa h := by
  have e := hfa.symm.trans (PySem.W.mg_of X G a16)
  cases e
  have F1 := fun_mk (st := s_is_whole) l1 c1 k1
  have F2 := fun_mk (st := s_is_whole_within) l2 c2 k2
  have F3 := fun_mk (st := s_is_tuple_of) l3 c3 k3
  have F4 := funC_mk (st := s_is_house) l4 c4 k4
  have T4 := AT "is_house" f4 kc4 pt4 _ _ _ _ _ _ r4 (PySem.W.mg_of X G a4) l4 rfl rfl h4 v4
  have F5 := fun_mk (st := s_is_letter_or_none) l5 c5 k5
  have F6 := fun_mk (st := s_is_rule) l6 c6 k6
  have F7 := funC_mk (st := s_is_rulebook) l7 c7 k7
  have T7 := AT "is_rulebook" f7 kc7 pt7 _ _ _ _ _ _ r7 (PySem.W.mg_of X G a7) l7 rfl rfl h7 v7
  have F8 := fun_mk (st := s_law_stir) l8 c8 k8
  have F9 := fun_mk (st := s_law_some) l9 c9 k9
  have F10 := fun_mk (st := s_law_cell) l10 c10 k10
  have F11 := fun_mk (st := s_law_chain) l11 c11 k11
  have F12 := fun_mk (st := s_law_rule) l12 c12 k12
  have F13 := fun_mk (st := s_law_book) l13 c13 k13
  have F14 := fun_mk (st := s_law_spoilt_rule) l14 c14 k14
  have F15 := fun_mk (st := s_law_spoilt) l15 c15 k15
  have F16 := fun_mk (st := s_law) l16 c16 k16
  have b1 := F1.binds (ps := ["thing"]) fun _ _ _ _ _ _ us hl => match us, hl with | [_], _ => rfl
  have b2 := F2.binds (ps := ["thing", "least", "most"]) fun _ _ _ _ _ _ us hl => match us, hl with | [_, _, _], _ => rfl
  have b3 := F3.binds (ps := ["thing", "many"]) fun _ _ _ _ _ _ us hl => match us, hl with | [_, _], _ => rfl
  have b4 := F4.plain.binds (ps := ["thing"]) fun _ _ _ _ _ _ us hl => match us, hl with | [_], _ => rfl
  have b5 := F5.binds (ps := ["thing", "letters"]) fun _ _ _ _ _ _ us hl => match us, hl with | [_, _], _ => rfl
  have b6 := F6.binds (ps := ["thing", "old", "new", "letters"]) fun _ _ _ _ _ _ us hl => match us, hl with | [_, _, _, _], _ => rfl
  have b7 := F7.plain.binds (ps := ["thing"]) fun _ _ _ _ _ _ us hl => match us, hl with | [_], _ => rfl
  have b8 := F8.binds (ps := ["cell", "k"]) fun _ _ _ _ _ _ us hl => match us, hl with | [_, _], _ => rfl
  have b9 := F9.binds (ps := ["cell", "many"]) fun _ _ _ _ _ _ us hl => match us, hl with | [_, _], _ => rfl
  have b10 := F10.binds (ps := ["script", "k"]) fun _ _ _ _ _ _ us hl => match us, hl with | [_, _], _ => rfl
  have b11 := F11.binds (ps := ["turns", "letters"]) fun _ _ _ _ _ _ us hl => match us, hl with | [_, _], _ => rfl
  have b12 := F12.binds (ps := ["some", "many", "letters"]) fun _ _ _ _ _ _ us hl => match us, hl with | [_, _, _], _ => rfl
  have b13 := F13.binds (ps := ["script"]) fun _ _ _ _ _ _ us hl => match us, hl with | [_], _ => rfl
  have b14 := F14.binds (ps := ["book", "rule", "some"]) fun _ _ _ _ _ _ us hl => match us, hl with | [_, _, _], _ => rfl
  have b15 := F15.binds (ps := ["book", "some"]) fun _ _ _ _ _ _ us hl => match us, hl with | [_, _], _ => rfl
  refine ⟨PySem.W.fnOf "law" "law" (defArgs s_law) (defBody s_law) (defScope s_law) .none kV16 dc16 pm16 an16 cd16 ct16, [(kc4, pt4), (kc7, pt7)], Dl.spLawT K [pt4, pt7], (List.forall_mem_cons.mpr ⟨T4, List.forall_mem_cons.mpr ⟨T7, fun _ h => nomatch h⟩⟩), (List.forall_mem_cons.mpr ⟨n4, List.forall_mem_cons.mpr ⟨n7, fun _ h => nomatch h⟩⟩), (List.forall_mem_cons.mpr ⟨PySem.W.codeHd_of_K X q4, List.forall_mem_cons.mpr ⟨PySem.W.codeHd_of_K X q7, fun _ h => nomatch h⟩⟩), fun s v => .of_eq rfl, fun H a ns hl _ hH hS => ⟨a, ns, rfl, hS, hl, ?_, fun _ => rfl⟩, fun base _ _ TB => ?_⟩
  · intro P hP
    have hP : P ∈ ([(kc4, pt4), (kc7, pt7)] : List (Addr × Addr)).map (·.2) := hP
    obtain ⟨p, hp, rfl⟩ := List.mem_map.mp hP
    exact Dl.tabG_nil (hH p hp)
  · exact ok_law (base := base) F16 { ts := [pt4, pt7], f_is_whole := f1, d_is_whole := _, F_is_whole := F1, b_is_whole := b1, g_is_whole := PySem.W.mg_of X G a1, f_is_whole_within := f2, d_is_whole_within := _, F_is_whole_within := F2, b_is_whole_within := b2, g_is_whole_within := PySem.W.mg_of X G a2, f_is_tuple_of := f3, d_is_tuple_of := _, F_is_tuple_of := F3, b_is_tuple_of := b3, g_is_tuple_of := PySem.W.mg_of X G a3, f_is_house := f4, d_is_house := _, F_is_house := F4, b_is_house := b4, g_is_house := PySem.W.mg_of X G a4, k_is_house := kc4, p_is_house := pt4, tb_is_house := Dl.tabB_of (TB (kc4, pt4) (List.mem_cons_self ..)), ti_is_house := List.mem_cons_self .., f_is_letter_or_none := f5, d_is_letter_or_none := _, F_is_letter_or_none := F5, b_is_letter_or_none := b5, g_is_letter_or_none := PySem.W.mg_of X G a5, f_is_rule := f6, d_is_rule := _, F_is_rule := F6, b_is_rule := b6, g_is_rule := PySem.W.mg_of X G a6, f_is_rulebook := f7, d_is_rulebook := _, F_is_rulebook := F7, b_is_rulebook := b7, g_is_rulebook := PySem.W.mg_of X G a7, k_is_rulebook := kc7, p_is_rulebook := pt7, tb_is_rulebook := Dl.tabB_of (TB (kc7, pt7) (List.mem_cons_of_mem _ (List.mem_cons_self ..))), ti_is_rulebook := List.mem_cons_of_mem _ (List.mem_cons_self ..), f_law_stir := f8, d_law_stir := _, F_law_stir := F8, b_law_stir := b8, g_law_stir := PySem.W.mg_of X G a8, f_law_some := f9, d_law_some := _, F_law_some := F9, b_law_some := b9, g_law_some := PySem.W.mg_of X G a9, f_law_cell := f10, d_law_cell := _, F_law_cell := F10, b_law_cell := b10, g_law_cell := PySem.W.mg_of X G a10, f_law_chain := f11, d_law_chain := _, F_law_chain := F11, b_law_chain := b11, g_law_chain := PySem.W.mg_of X G a11, f_law_rule := f12, d_law_rule := _, F_law_rule := F12, b_law_rule := b12, g_law_rule := PySem.W.mg_of X G a12, f_law_book := f13, d_law_book := _, F_law_book := F13, b_law_book := b13, g_law_book := PySem.W.mg_of X G a13, f_law_spoilt_rule := f14, d_law_spoilt_rule := _, F_law_spoilt_rule := F14, b_law_spoilt_rule := b14, g_law_spoilt_rule := PySem.W.mg_of X G a14, f_law_spoilt := f15, d_law_spoilt := _, F_law_spoilt := F15, b_law_spoilt := b15, g_law_spoilt := PySem.W.mg_of X G a15, m_abs := PySem.W.mg_none_of X G z_abs, m_all := PySem.W.mg_none_of X G z_all, m_bool := PySem.W.mg_none_of X G z_bool, m_enumerate := PySem.W.mg_none_of X G z_enumerate, m_int := PySem.W.mg_none_of X G z_int, m_isinstance := PySem.W.mg_none_of X G z_isinstance, m_len := PySem.W.mg_none_of X G z_len, m_list := PySem.W.mg_none_of X G z_list, m_range := PySem.W.mg_none_of X G z_range, m_tuple := PySem.W.mg_none_of X G z_tuple, t_MOST_STANDS := t_MOST_STANDS, c_MOST_STANDS := PySem.W.mg_of X G y_MOST_STANDS, t_MOST_LETTERS := t_MOST_LETTERS, c_MOST_LETTERS := PySem.W.mg_of X G y_MOST_LETTERS, t_MOST_RULES := t_MOST_RULES, c_MOST_RULES := PySem.W.mg_of X G y_MOST_RULES }
end K32
open PySem PySem.W PyProof.Rows
set_option maxHeartbeats 0 in
theorem PySem.Challenge.cw_warmove_k32_what_is_a_rulebook_holds : PySem.Challenge.rw_warmove_k32_what_is_a_rulebook.Holds := by
  w_on; o_law; k_head; (case hw => w_witness2)
  k_fill
  refine Dl.walk_ofTabs (l := PySem.Challenge.rw_warmove_k32_what_is_a_rulebook) (n := 63) (k := 7) (x := "script") (CX := fun _ => L2.CX0) rfl (by decide) rfl ⟨rfl, by decide, by decide⟩ (fun w h Y => PySem.W.kIn_of Y) ?F (fun _ _ _ _ _ h => h)
  case F =>
    intro w mg fa h KX G hmg AT
    refine' K32.all_mk KX G hmg AT ?a1 ?l1 ?c1 ?k1 ?a2 ?l2 ?c2 ?k2 ?a3 ?l3 ?c3 ?k3 ?a4 ?l4 ?c4 ?k4 ?h4 ?v4 ?n4 ?q4 ?r4 ?a5 ?l5 ?c5 ?k5 ?a6 ?l6 ?c6 ?k6 ?a7 ?l7 ?c7 ?k7 ?h7 ?v7 ?n7 ?q7 ?r7 ?a8 ?l8 ?c8 ?k8 ?a9 ?l9 ?c9 ?k9 ?a10 ?l10 ?c10 ?k10 ?a11 ?l11 ?c11 ?k11 ?a12 ?l12 ?c12 ?k12 ?a13 ?l13 ?c13 ?k13 ?a14 ?l14 ?c14 ?k14 ?a15 ?l15 ?c15 ?k15 ?a16 ?l16 ?c16 ?k16 ?z_abs ?z_all ?z_bool ?z_enumerate ?z_int ?z_isinstance ?z_len ?z_list ?z_range ?z_tuple ?y_MOST_STANDS ?y_MOST_LETTERS ?y_MOST_RULES
    (case a1 => k_is); (case l1 => k_is); (case c1 => k_is); (case k1 => k_is); (case a2 => k_is); (case l2 => k_is); (case c2 => k_is); (case k2 => k_is); (case a3 => k_is); (case l3 => k_is); (case c3 => k_is); (case k3 => k_is); (case a4 => k_is); (case l4 => k_is); (case c4 => k_is); (case k4 => k_is); (case h4 => k_is); (case v4 => exact rfl); (case n4 => kernel_rfl); (case q4 => kernel_rfl); (case r4 => kernel_rfl); (case a5 => k_is); (case l5 => k_is); (case c5 => k_is); (case k5 => k_is); (case a6 => k_is); (case l6 => k_is); (case c6 => k_is); (case k6 => k_is); (case a7 => k_is); (case l7 => k_is); (case c7 => k_is); (case k7 => k_is); (case h7 => k_is); (case v7 => exact rfl); (case n7 => kernel_rfl); (case q7 => kernel_rfl); (case r7 => kernel_rfl); (case a8 => k_is); (case l8 => k_is); (case c8 => k_is); (case k8 => k_is); (case a9 => k_is); (case l9 => k_is); (case c9 => k_is); (case k9 => k_is); (case a10 => k_is); (case l10 => k_is); (case c10 => k_is); (case k10 => k_is); (case a11 => k_is); (case l11 => k_is); (case c11 => k_is); (case k11 => k_is); (case a12 => k_is); (case l12 => k_is); (case c12 => k_is); (case k12 => k_is); (case a13 => k_is); (case l13 => k_is); (case c13 => k_is); (case k13 => k_is); (case a14 => k_is); (case l14 => k_is); (case c14 => k_is); (case k14 => k_is); (case a15 => k_is); (case l15 => k_is); (case c15 => k_is); (case k15 => k_is); (case a16 => k_is); (case l16 => k_is); (case c16 => k_is); (case k16 => k_is); (case z_abs => k_is); (case z_all => k_is); (case z_bool => k_is); (case z_enumerate => k_is); (case z_int => k_is); (case z_isinstance => k_is); (case z_len => k_is); (case z_list => k_is); (case z_range => k_is); (case z_tuple => k_is); (case y_MOST_STANDS => k_is); (case y_MOST_LETTERS => k_is); (case y_MOST_RULES => k_is)
