import PyProof.Rows.All
import Wide.All
import OpenK.AllK
import Wide.FinOn
import HandS.Base
import HandS.Call
import HandS.List
import HandS.Comp
import HandS.Ends
import HandS.Words
import HandS.GenList
import HandS.AnyAll
import HandS.WordsList
import HandS.TupAny
import HandS.Zip
import HandS.Wide
import HandS.IsInst
import HandS.Dict
import HandS.TupMul
import HandS.Style
import HandS.EndOwn
import KE.KNestM
import HandS.SetFor
import HandS.Strs
import HandS.Text
import PySem.Challenge.RW_warmove_k01_what_is_a_program
set_option Elab.async false
set_option linter.all false
set_option maxRecDepth 100000
/-! a generator expression whose element calls defs: all(..), any(..) -/
namespace Gx
open PySem PySem.Spec PyProof.Rows L2 GenW GxR
/-- the context of a generator expression's frame -/
abbrev gcx (X : Cx) (A' : Around) (s : Shared) (H : Hp) (cenv : Env) (fp : List Addr) (pn : List (Addr × Obj)) : Cx :=
  { X with A := A', s_0 := s, H_0 := H, env := cenv, outer := X.stack, stack := cenv :: X.stack, ex := fp, fn := fun _ => false, pn := pn, xe := fun _ _ => False }
section
variable {X : Cx} {pins : List (Addr × Obj)} {σ : L2.St} {H : Hp} {s : Shared}
theorem inv_woke {s' : Shared} (I : Inv X pins σ H s) (hh : s'.heap = s.heap) (ho : s'.os = s.os) (hb : AllBare s'.gens) : Inv X pins σ H s' :=
  ⟨I.ok, ho.trans I.os, hb, by rw [hh]; exact I.base, by rw [hh]; exact I.loc, by rw [hh]; exact I.cell, I.free, I.freeC, by rw [hh]; exact I.pin, by rw [hh]; exact I.hok, I.len⟩
theorem gen_start {scope : Scope} {own : List (Str × Nat)} {fp : List Addr} {A' : Around} {code : Value} {s5 : Shared} {m : Str → Option Value} {pn : List (Addr × Obj)} {cenv : Env}
    (I : Inv X pins σ H s) (ok : BlkOk X.N X.env.scope scope own) (hN : X.N.Nodup) (hcell : ∀ y ∈ scope.names, y.2 ≠ .cell) (hfp : ∀ b ∈ fp, FpOk X pins H b ∧ b < s.heap.objs.size) (hA : A'.handled = none)
    (hcenv : cenv = genEnv scope (cloFrom X.env.cells scope.names []) s.heap.objs.size code builtinsNs X.env) (hfr : A'.frames = some (cenv :: X.stack)) (hos : s5.os = s.os) (hb : AllBare s5.gens)
    (kp : ∀ b o, s.heap.get? b = some o → s5.heap.get? b = some o) (ns : s5.heap.Ns s.heap.objs.size m) (hpn : ∀ p ∈ pn, s5.heap.get? p.1 = some p.2 ∧ s.heap.objs.size < p.1 ∧ ∀ v, p.2.data ≠ .cell v) :
    Inv (gcx X A' s H cenv fp pn) [] (wipe σ (own.map (·.2))) H s5 := by
  have hfree : ∀ y ∈ scope.names, y.2 = .free → ∃ c, X.env.cells.lookup y.1 = some c := fun y hy e => by
    rcases ok.free y hy e with k | k
    · exact I.ok.has _ (.inl k)
    · exact I.ok.has _ (.inr k)
  have hL : cenv.locals = s.heap.objs.size := by rw [hcenv]; rfl
  have hcl : cenv.cells = cloFrom X.env.cells scope.names [] := by rw [hcenv]; rfl
  have hsc : cenv.scope = scope := by rw [hcenv]; rfl
  have cm : ∀ {y c}, (y, c) ∈ cloFrom X.env.cells scope.names [] → X.env.cells.lookup y = some c ∧ c < s.heap.objs.size := fun {y c} hm => by
    rcases cloFrom_mem hm with hm | ⟨h1, rfl⟩
    · cases hm
    · obtain ⟨c, hc⟩ := hfree _ h1 rfl
      rw [hc]
      obtain ⟨w, z⟩ := I.cell _ _ hc
      exact ⟨rfl, z.lt⟩
  have mem : ∀ {y c}, cenv.cells.lookup y = some c → X.env.cells.lookup y = some c ∧ c < s.heap.objs.size := fun {y c} e => by
    rw [hcl] at e
    exact cm (PySem.mem_of_lookup e)
  have look : ∀ {y}, scope.names.lookup y = some .free → ∃ c, cenv.cells.lookup y = some c ∧ X.env.cells.lookup y = some c := fun {y} hl => by
    have hy : (y, NameKind.free) ∈ scope.names := PySem.mem_of_lookup hl
    obtain ⟨c', e'⟩ := mem_lookup (cloFrom_has (cells := X.env.cells) (acc := []) hy)
    rw [← hcl] at e'
    exact ⟨c', e', (mem e').1⟩
  have okB : (gcx X A' s H cenv fp pn).Ok := by
    refine ⟨I.ok.mod, by show cenv.scope.kind = _; rw [hsc]; exact ok.kind, by show cenv.globals = _; rw [hcenv]; exact I.ok.glob, by show cenv.builtins = _; rw [hcenv]; rfl, by show s.heap.objs.size ≤ cenv.locals; rw [hL]; exact Nat.le_refl _,
      fun y z c e1 e2 => I.ok.inj y z c (mem e1).1 (mem e2).1, fun y hy => ?_, fun y c z e => (by cases z), fun _ => hA, hfr, .inr ⟨rfl, by show cenv.frame = some cenv.locals; rw [hcenv]; rfl⟩, fun b hb => ⟨?_, fun y c e z => ?_⟩, I.bs, Nat.le_trans I.ok.bsz I.sz, fun b o e hb => ?_, fun b hb z => ?_, I.stack, I.stkFree⟩
    · show ∃ c, cenv.cells.lookup y = some c
      have key : ∀ k, cenv.kindOf y = some k → (k = .cell ∨ k = .free) → ∃ c, cenv.cells.lookup y = some c := fun k hk hk' => by
        unfold Env.kindOf at hk
        rw [hsc] at hk
        rcases hk' with rfl | rfl
        · exact absurd rfl (hcell _ (PySem.mem_of_lookup hk))
        · obtain ⟨c, h1, _⟩ := look hk
          exact ⟨c, h1⟩
      rcases hy with hy | hy
      · exact key _ hy (.inl rfl)
      · exact key _ hy (.inr rfl)
    · show b ≠ cenv.locals
      rw [hL]; exact Nat.ne_of_lt (hfp b hb).2
    · exact (hfp b hb).1.2.2.2.2.1 y c (mem e).1 z
    · rcases (hfp b hb).1.2.2.2.1 with z | z
      · exact I.ok.noex b o e z
      · exact absurd (Nat.lt_of_lt_of_le (Heap.lt_size e) (Nat.le_trans I.ok.bsz z)) (Nat.lt_irrefl _)
    · rcases List.mem_cons.mp (I.stkSub b z) with z | z
      · exact (hfp b hb).1.2.1 z
      · exact (hfp b hb).1.2.2.1 z
  refine ⟨okB, hos, hb, Un.kept kp, ⟨m, by show s5.heap.Ns cenv.locals m; rw [hL]; exact ns, fun i y av e1 e2 e3 => ?_⟩, fun y c e => ?_, ?_, fun y c e => I.freeC y c (mem e).1, fun p hp => ?_, I.hok.kept kp, by rw [wipe_length]; exact I.len⟩
  · obtain ⟨e2, hne⟩ := wipe_some e2
    have hfr : scope.names.lookup y = some .free := by
      have key : ∀ k, scope.names.lookup y = some k → k = .local ∨ k = .cell ∨ k = .free → scope.names.lookup y = some .free := fun k hk hk' => by
        have no : ¬ (k = .local ∨ k = .cell) := fun hh => by
          rcases ok.own _ (PySem.mem_of_lookup hk) hh with e' | e'
          · obtain ⟨p, hp, hpy⟩ := List.mem_map.mp e'
            have e3 := ok.ix p hp
            have : p.1 = y := hpy
            rw [this] at e3
            exact hne (List.mem_map.mpr ⟨p, hp, nodup_ix hN e3 e1⟩)
          · exact e' (List.mem_of_getElem? e1)
        rcases hk' with rfl | rfl | rfl
        · exact absurd (.inl rfl) no
        · exact absurd (.inr rfl) no
        · exact hk
      have e3 : Vis cenv.scope y := e3
      rw [hsc] at e3
      rcases e3 with e3 | e3 | e3
      · exact key _ e3 (.inl rfl)
      · exact key _ e3 (.inr (.inl rfl))
      · exact key _ e3 (.inr (.inr rfl))
    obtain ⟨m', hn, hl⟩ := I.loc
    have hvis : Vis X.env.scope y := (ok.free _ (PySem.mem_of_lookup hfr) rfl).elim (fun k => .inr (.inl k)) (fun k => .inr (.inr k))
    obtain ⟨w, r, q⟩ := hl i y av e1 e2 hvis
    refine ⟨w, r, .inr ⟨.inr (by show cenv.kindOf y = some .free; unfold Env.kindOf; rw [hsc]; exact hfr), ?_⟩⟩
    obtain ⟨c, h1, h2⟩ := look hfr
    rcases q with ⟨k, _⟩ | ⟨_, c', e', z⟩
    · have k : X.env.scope.names.lookup y = some .local := k
      rcases ok.free _ (PySem.mem_of_lookup hfr) rfl with k' | k' <;> rw [show X.env.scope.names.lookup y = _ from k'] at k <;> cases k
    · rw [h2] at e'; cases e'
      exact ⟨c, h1, z.keeps kp⟩
  · obtain ⟨w, z⟩ := I.cell y c (mem e).1
    exact ⟨w, z.keeps kp⟩
  · show H cenv.locals = none
    rw [hL]; exact I.hok.fresh (Nat.le_refl _)
  · have hp : p ∈ pn := by simpa using hp
    obtain ⟨h1, h2, h3⟩ := hpn p hp
    refine ⟨h1, I.hok.fresh (Nat.le_of_lt h2), ?_, fun z => ?_, h3⟩
    · show p.1 ≠ cenv.locals
      rw [hL]; exact Nat.ne_of_gt h2
    · have z : p.1 ∈ frs X.stack := z
      obtain ⟨_, o, ho, _⟩ := I.stack.mem z
      exact absurd (Nat.lt_trans h2 (Heap.lt_size ho)) (Nat.lt_irrefl _)
end
end Gx
set_option Elab.async false
set_option linter.all false
set_option maxRecDepth 100000
set_option maxHeartbeats 1000000
namespace Gx
open PySem PySem.Spec PyProof.Rows L2 GenW GxR
/-- slept: nothing but the table of generators has changed -/
structure Woke (s s' : Shared) : Prop where
  heap : s'.heap = s.heap
  os : s'.os = s.os
  bare : AllBare s'.gens
/-- what a turn asks: W a word of the turn, a measure and the heap; Qt behind the last turn, D at each value handed out -/
def Turns (J : It) (g : TG) (tt : TT) (te : TE) (vs : List Nat) (σ0 : L2.St) (W : Nat → Nat → Hp → Prop) (Qt : Hp → Prop) (Yd : V → Hp → (Hp → Prop) → Prop) : Prop :=
  ∀ i m H, W i m H → (J.stop i H ∧ Qt H) ∨ (J.go i H ∧ ∃ Nx : Hp → Prop, (∀ H', Nx H' → ∃ m', m' < m ∧ W (i + 1) m' H') ∧ ∀ x H', J.yld i H x H' → g x σ0 H' fun σ2 H2 => wipe σ2 vs = σ0 ∧ tt σ2 H2 fun b H3 => if b = true then te σ2 H3 fun y H4 => Yd y H4 Nx else Nx H3)
/-- a truth is handed out: one way goes on, the other ends -/
def YdB (go : Bool) (Qf : Hp → Prop) : V → Hp → (Hp → Prop) → Prop := fun y H Nx => ∃ b, y = .bl b ∧ (if b = go then Nx H else Qf H)
abbrev RG (Y : Cx) (σ0 : L2.St) (Qt : Hp → Prop) : GenEnd := fun n s₀ r s₁ => ((r = .ok (.ret .none) ∨ r = .ok .next) ∧ (∃ H, Inv Y [] σ0 H s₁ ∧ Qt H)) ∨ ∃ e, r = .error e ∧ False
abbrev YG (Y : Cx) (go : Bool) (Qf : Hp → Prop) : Protocol := fun n s₀ v s kap => ∃ b H σ2, v = .bool b ∧ Inv Y [] σ2 H s ∧ (b ≠ go → Qf H) ∧ (b = go → ∀ s', Woke s s' → kap (.send .none) s')
section
variable {X : Cx} {A' B : Around} {s4 : Shared} {H4 : Hp} {cenv : Env} {fp : List Addr} {pn : List (Addr × Obj)} {it : Addr} {tn : Nat → Heap → Prop} {J : It} {elt tg iter : Expr} {ifs : List Expr} {scope : Scope} {pos : Pos} {g : TG} {tt : TT} {te : TE} {vs : List Nat} {σ0 : L2.St} {W : Nat → Nat → Hp → Prop} {Qt Qf : Hp → Prop} {go : Bool}
theorem seg_gx (hA : B.over (.compLoop (.GeneratorExp elt [⟨tg, iter, ifs, 0⟩] scope pos) 0 (.ref it) .none cenv) [] = A') (hc : X.calm = true) (hco : cenv.scope.isCoroutine = false) (T : Turn X.prog X.w X.K tg J fp it tn)
    (hst : ∀ H : Hp, (∀ b ∈ fp, H b = none) → ∀ b ∈ fp, FpOk (gcx X A' s4 H4 cenv fp pn) [] H b) (hσ : wipe σ0 vs = σ0)
    (hg : PG (gcx X A' s4 H4 cenv fp pn) tg g) (ht : PTs (gcx X A' s4 H4 cenv fp pn) ifs tt) (he : PE (gcx X A' s4 H4 cenv fp pn) elt te) (hturn : Turns J g tt te vs σ0 W Qt (YdB go Qf)) :
    ∀ (m n i : Nat) (H : Hp) (s₀ s : Shared), m + 1 ≤ n → Inv (gcx X A' s4 H4 cenv fp pn) [] σ0 H s → tn i s.heap → (∀ b ∈ fp, H b = none) → W i m H →
      Seg (model X.prog X.w) B (RG (gcx X A' s4 H4 cenv fp pn) σ0 Qt) (YG (gcx X A' s4 H4 cenv fp pn) go Qf) n s₀ (.compLoop (.GeneratorExp elt [⟨tg, iter, ifs, 0⟩] scope pos) 0 (.ref it) .none cenv)
        ((model X.prog X.w).den (.compLoop (.GeneratorExp elt [⟨tg, iter, ifs, 0⟩] scope pos) 0 (.ref it) .none cenv)) [] s := by
  intro m
  induction m using Nat.strongRecOn with
  | _ m ih =>
  intro n i H s₀ s hmn I st fr w
  show Seg _ B _ _ _ s₀ _ ((compTurn (.GeneratorExp elt [⟨tg, iter, ifs, 0⟩] scope pos) 0 (.ref it) .none cenv).onRaise (leaving cenv)) [] s
  rw [compTurn_gen, Sem.onRaise_eq_wrap]
  refine seg_bind_wrap (wpAny_standAt ?_)
  rcases hturn i m H w with ⟨stop, qn⟩ | ⟨goes, Nx, hN, step⟩
  · refine seg_bind_wrap ?_
    rw [hA]
    refine wpAny_mono (T.done (gcx X A' s4 H4 cenv fp pn) rfl rfl rfl hc i [] s σ0 H _ I (hst H fr) st stop) (fun r s1 hr => ?_) fun _ _ e => e
    obtain ⟨rfl, I1⟩ := hr
    exact seg_end (.ok .next) (.inl ⟨.inr rfl, H, I1, qn⟩)
  · refine seg_bind_wrap ?_
    rw [hA]
    refine wpAny_mono (T.item (gcx X A' s4 H4 cenv fp pn) rfl rfl rfl hc i [] s σ0 H _ I (hst H fr) st goes) (fun r s1 hr => ?_) fun _ _ e => e
    obtain ⟨u, rfl, h1⟩ := hr
    refine seg_bind_wrap ?_
    rw [hA]
    refine wpAny_mono h1 (fun _ s2 h2 => ?_) fun _ _ e => e
    obtain ⟨x, H2, I2, rx, yl, st2, fr2⟩ := h2
    have I2' := I2.pinned (hst H2 fr2) (T.obj _ _ st2)
    refine seg_bind_wrap ?_
    rw [hA]
    refine wpAny_mono (hg.run _ s2 σ0 H2 x u _ I2' rx (step x H2 yl)) (fun _ s3 h3 => ?_) fun _ _ e => e.elim
    obtain ⟨σ3, H3, I3, hw3, q3⟩ := h3
    -- the records of the iterator stand
    have keeps : ∀ {σ' : L2.St} {H' : Hp} {s' : Shared}, Inv (gcx X A' s4 H4 cenv fp pn) ([] ++ pinsAt fp s2.heap) σ' H' s' → tn (i + 1) s'.heap ∧ ∀ b ∈ fp, H' b = none := fun {σ' H' s'} I' =>
      ⟨T.keep _ _ _ st2 fun b hb o e => (I'.pin (b, o) (List.mem_append_right _ (List.mem_append_right _ (mem_pinsAt hb e)))).1, fun b hb => by
        obtain ⟨o, e, _⟩ := T.obj _ _ st2 b hb
        exact (I'.pin (b, o) (List.mem_append_right _ (List.mem_append_right _ (mem_pinsAt hb e)))).2.1⟩
    have back : ∀ {H' : Hp} {s' : Shared}, Inv (gcx X A' s4 H4 cenv fp pn) ([] ++ pinsAt fp s2.heap) σ3 H' s' → Inv (gcx X A' s4 H4 cenv fp pn) [] σ0 H' s' := fun {H' s'} I' => by
      refine I'.unpinned.weak ?_ fun j v e => ?_
      · rw [← hw3, wipe_length]
      · rw [← hw3] at e
        exact (wipe_some e).1
    refine seg_bind_wrap ?_
    rw [hA]
    refine wpAny_mono (ht.run _ s3 σ3 H3 _ I3 q3) (fun b s5 h5 => ?_) fun _ _ e => e.elim
    obtain ⟨H5, I5, q5⟩ := h5
    cases b with
    | false =>
      simp only [Bool.false_eq_true, if_false]
      obtain ⟨m', hm, w'⟩ := hN H5 q5
      obtain ⟨k1, k2⟩ := keeps I5
      exact seg_again rfl (ih m' hm n (i + 1) H5 s₀ s5 (by omega) (back I5) k1 k2 w')
    | true =>
      simp only [if_true]
      have hy : ∀ v, yieldOut cenv v = yieldValue v := fun v => by simp only [yieldOut, hco, Bool.false_eq_true, if_false]
      simp only [hy]
      rw [Sem.bind_eq_wrap', Sem.bind_eq_wrap', Sem.wrap_wrap, Sem.wrap_wrap]
      refine seg_wrap ?_
      rw [hA]
      refine wpAny_mono (he.run _ s5 σ3 H5 _ I5 q5) (fun v s6 h6 => ?_) fun _ _ e => e.elim
      obtain ⟨y, H6, I6, ry, b, rfl, q6⟩ := h6
      have ev : v = .bool b := ry
      subst ev
      obtain ⟨n', rfl⟩ : ∃ n', n = n' + 1 := ⟨n - 1, by omega⟩
      refine seg_at (seg_yield rfl rfl rfl ⟨b, H6, σ3, rfl, I6.unpinned, fun hb => ?_, fun hb s' wk => ?_⟩)
      · rw [if_neg hb] at q6; exact q6
      · rw [if_pos hb] at q6
        obtain ⟨m', hm, w'⟩ := hN H6 q6
        obtain ⟨k1, k2⟩ := keeps I6
        exact seg_again rfl (ih m' hm n' (i + 1) H6 s' s' (by omega) (inv_woke (back I6) wk.heap wk.os wk.bare) (by rw [wk.heap]; exact k1) k2 w')
/-- from its start -/
theorem seg_gx0 (hA : B.over (.compLoop (.GeneratorExp elt [⟨tg, iter, ifs, 0⟩] scope pos) 0 (.ref it) .none cenv) [] = A') (hc : X.calm = true) (hco : cenv.scope.isCoroutine = false) (T : Turn X.prog X.w X.K tg J fp it tn)
    (hst : ∀ H : Hp, (∀ b ∈ fp, H b = none) → ∀ b ∈ fp, FpOk (gcx X A' s4 H4 cenv fp pn) [] H b) (hσ : wipe σ0 vs = σ0)
    (hg : PG (gcx X A' s4 H4 cenv fp pn) tg g) (ht : PTs (gcx X A' s4 H4 cenv fp pn) ifs tt) (he : PE (gcx X A' s4 H4 cenv fp pn) elt te) (hturn : Turns J g tt te vs σ0 W Qt (YdB go Qf))
    (m : Nat) (H : Hp) (s₀ s : Shared) (I : Inv (gcx X A' s4 H4 cenv fp pn) [] σ0 H s) (st : tn 0 s.heap) (fr : ∀ b ∈ fp, H b = none) (w : W 0 m H) :
      Seg (model X.prog X.w) B (RG (gcx X A' s4 H4 cenv fp pn) σ0 Qt) (YG (gcx X A' s4 H4 cenv fp pn) go Qf) (m + 1) s₀ (.compStart (.GeneratorExp elt [⟨tg, iter, ifs, 0⟩] scope pos) 0 (.ref it) .none cenv)
        ((model X.prog X.w).den (.compStart (.GeneratorExp elt [⟨tg, iter, ifs, 0⟩] scope pos) 0 (.ref it) .none cenv)) [] s := by
  have loop := seg_gx hA hc hco T hst hσ hg ht he hturn m (m + 1) 0 H s₀ s (Nat.le_refl _) I st fr w
  show Seg _ B _ _ _ s₀ _ ((compStart (.GeneratorExp elt [⟨tg, iter, ifs, 0⟩] scope pos) 0 (.ref it) .none cenv).onRaise (leaving cenv)) [] s
  unfold compStart
  rw [Sem.onRaise_eq_wrap]
  show Seg _ B _ _ _ s₀ _ ((ask >>= _).wrap _ _ _ _) [] s
  refine seg_bind_wrap (wpAny_askSetting ?_)
  split
  · exact seg_again rfl loop
  · first
      | exact seg_bind_wrap (wpAny_rule (seg_bind_wrap (wpAny_standAt (seg_bind_wrap (T.self _ 0 s _ _ st (seg_again rfl loop))))))
      | (refine seg_bind_wrap (wpAny_rule ?_); show Seg _ B _ _ _ s₀ _ ((standAt iter.pos >>= _).wrap _ _ _ _) [] s; exact seg_bind_wrap (wpAny_standAt (seg_bind_wrap (T.self _ 0 s _ _ st (seg_again rfl loop)))))
end
/-! ### the consumer -/
section
variable {P : Program} {w : World} {Y : Cx} {σ0 : L2.St} {Qt Qf : Hp → Prop} {A : Around} {R : Result → Shared → Prop} {a : Addr} {g : Nat} {gobj : Obj}
theorem all_loop (hY : Y.prog = P ∧ Y.w = w) (hh : A.handled = none) (hd : A.depth < recursionLimit) (hp : (a, gobj) ∈ Y.pn) (hgo : ∀ s : Shared, s.heap.get? a = some gobj → s.heap.IsGen a g)
    (hT : ∀ s₁ H s', Inv Y [] σ0 H s₁ → Qt H → (∀ b o, s₁.heap.get? b = some o → s'.heap.get? b = some o) → s'.os = s₁.os → AllBare s'.gens → R (.ok (.ret (.bool true))) s')
    (hF : ∀ s₁ H σ2 s', Inv Y [] σ2 H s₁ → Qf H → (∀ b o, s₁.heap.get? b = some o → s'.heap.get? b = some o) → s'.os = s₁.os → AllBare s'.gens → R (.ok (.ret (.bool false))) s') :
    ∀ (n : Nat) (s : Shared), s.heap.IsGen a g → s.heap.NoLimit → (∃ gs, s.gens[g]? = some gs ∧ gs.Goes (model P w) A.in1.in1 (RG Y σ0 Qt) (YG Y true Qf) n (.send .none) (s.setGen g .running)) →
      codeAny (model P w) A (.builtin "all.loop" ⟨[.ref a], []⟩) R s := by
  intro n
  induction n with
  | zero =>
    intro s hg hl ⟨gs, hgs, hgoes⟩
    refine codeAny_builtin F.entry_all_loop ?_
    rw [Around.under_plainId F.plain_all_loop _]
    show wpAny _ A.in1 (pyNext (.ref a) >>= _) _ _ s
    refine wpAny_bind (next_genG (A := A.in1) hh hl hd hg hgs hgoes (fun v s₁ gs' hbare hv => ?_) (fun s₁ hq h' hk => ?_) fun e s₁ he => he.elim)
    · obtain ⟨b, H, σ2, rfl, I, h1, h2⟩ := hv
      cases b with
      | true => exact (h2 rfl _ ⟨rfl, rfl, I.bare⟩).elim
      | false =>
        refine wpAny_bind (wpAny_holding (wpAny_truthy_bool ?_))
        refine wpAny_bind (wpAny_letGo ?_)
        simp only [Bool.false_eq_true, if_false]
        refine wpAny_bind (wpAny_rule (wpAny_pure ?_))
        exact hF s₁ H σ2 _ I (h1 (by decide)) (fun _ _ e => e) rfl (allBare_setGen I.bare hbare)
    · obtain ⟨H, I, q⟩ := hq
      refine wpAny_bind (wpAny_rule (wpAny_pure ?_))
      exact hT s₁ H _ I q hk rfl (allBare_setGen I.bare rfl)
  | succ n ih =>
    intro s hg hl ⟨gs, hgs, hgoes⟩
    have hgl : g < s.gens.size := (Array.getElem?_eq_some_iff.mp hgs).1
    refine codeAny_builtin F.entry_all_loop ?_
    rw [Around.under_plainId F.plain_all_loop _]
    show wpAny _ A.in1 (pyNext (.ref a) >>= _) _ _ s
    refine wpAny_bind (wpAny_gsz (n := g + 1) hgl (next_genG (A := A.in1) hh hl hd hg hgs hgoes (fun v s₁ gs' hbare hv => ?_) (fun s₁ hq h' hk => ?_) fun e s₁ he => he.elim))
    · intro hsz
      obtain ⟨b, H, σ2, rfl, I, h1, h2⟩ := hv
      have hsz1 : g < s₁.gens.size := by
        have q : (s₁.setGen g gs').gens.size = s₁.gens.size := setGen_size _ _ _
        have hsz' : g + 1 ≤ (s₁.setGen g gs').gens.size := hsz
        omega
      refine wpAny_bind (wpAny_holding (wpAny_truthy_bool ?_))
      refine wpAny_bind (wpAny_letGo ?_)
      cases b with
      | true =>
        simp only [if_true]
        refine wpAny_pure ⟨plainId_quiet F.plain_all_loop _, ih (s₁.setGen g gs') (hgo _ (I.pin (a, gobj) (List.mem_append_left _ hp)).1) I.nolimit ⟨gs', setGen_at hsz1, ?_⟩⟩
        exact h2 rfl _ ⟨rfl, rfl, allBare_setGen (s := s₁.setGen g gs') (allBare_setGen I.bare hbare) rfl⟩
      | false =>
        simp only [Bool.false_eq_true, if_false]
        refine wpAny_bind (wpAny_rule (wpAny_pure ?_))
        exact hF s₁ H σ2 _ I (h1 (by decide)) (fun _ _ e => e) rfl (allBare_setGen I.bare hbare)
    · intro hsz
      obtain ⟨H, I, q⟩ := hq
      refine wpAny_bind (wpAny_rule (wpAny_pure ?_))
      exact hT s₁ H _ I q hk rfl (allBare_setGen I.bare rfl)
theorem any_loop (hY : Y.prog = P ∧ Y.w = w) (hh : A.handled = none) (hd : A.depth < recursionLimit) (hp : (a, gobj) ∈ Y.pn) (hgo : ∀ s : Shared, s.heap.get? a = some gobj → s.heap.IsGen a g)
    (hT : ∀ s₁ H s', Inv Y [] σ0 H s₁ → Qt H → (∀ b o, s₁.heap.get? b = some o → s'.heap.get? b = some o) → s'.os = s₁.os → AllBare s'.gens → R (.ok (.ret (.bool false))) s')
    (hF : ∀ s₁ H σ2 s', Inv Y [] σ2 H s₁ → Qf H → (∀ b o, s₁.heap.get? b = some o → s'.heap.get? b = some o) → s'.os = s₁.os → AllBare s'.gens → R (.ok (.ret (.bool true))) s') :
    ∀ (n : Nat) (s : Shared), s.heap.IsGen a g → s.heap.NoLimit → (∃ gs, s.gens[g]? = some gs ∧ gs.Goes (model P w) A.in1.in1 (RG Y σ0 Qt) (YG Y false Qf) n (.send .none) (s.setGen g .running)) →
      codeAny (model P w) A (.builtin "any.loop" ⟨[.ref a], []⟩) R s := by
  intro n
  induction n with
  | zero =>
    intro s hg hl ⟨gs, hgs, hgoes⟩
    refine codeAny_builtin F.entry_any_loop ?_
    rw [Around.under_plainId F.plain_any_loop _]
    show wpAny _ A.in1 (pyNext (.ref a) >>= _) _ _ s
    refine wpAny_bind (next_genG (A := A.in1) hh hl hd hg hgs hgoes (fun v s₁ gs' hbare hv => ?_) (fun s₁ hq h' hk => ?_) fun e s₁ he => he.elim)
    · obtain ⟨b, H, σ2, rfl, I, h1, h2⟩ := hv
      cases b with
      | false => exact (h2 rfl _ ⟨rfl, rfl, I.bare⟩).elim
      | true =>
        refine wpAny_bind (wpAny_holding (wpAny_truthy_bool ?_))
        refine wpAny_bind (wpAny_letGo ?_)
        simp only [if_true]
        refine wpAny_bind (wpAny_rule (wpAny_pure ?_))
        exact hF s₁ H σ2 _ I (h1 (by decide)) (fun _ _ e => e) rfl (allBare_setGen I.bare hbare)
    · obtain ⟨H, I, q⟩ := hq
      refine wpAny_bind (wpAny_rule (wpAny_pure ?_))
      exact hT s₁ H _ I q hk rfl (allBare_setGen I.bare rfl)
  | succ n ih =>
    intro s hg hl ⟨gs, hgs, hgoes⟩
    have hgl : g < s.gens.size := (Array.getElem?_eq_some_iff.mp hgs).1
    refine codeAny_builtin F.entry_any_loop ?_
    rw [Around.under_plainId F.plain_any_loop _]
    show wpAny _ A.in1 (pyNext (.ref a) >>= _) _ _ s
    refine wpAny_bind (wpAny_gsz (n := g + 1) hgl (next_genG (A := A.in1) hh hl hd hg hgs hgoes (fun v s₁ gs' hbare hv => ?_) (fun s₁ hq h' hk => ?_) fun e s₁ he => he.elim))
    · intro hsz
      obtain ⟨b, H, σ2, rfl, I, h1, h2⟩ := hv
      have hsz1 : g < s₁.gens.size := by
        have q : (s₁.setGen g gs').gens.size = s₁.gens.size := setGen_size _ _ _
        have hsz' : g + 1 ≤ (s₁.setGen g gs').gens.size := hsz
        omega
      refine wpAny_bind (wpAny_holding (wpAny_truthy_bool ?_))
      refine wpAny_bind (wpAny_letGo ?_)
      cases b with
      | false =>
        simp only [Bool.false_eq_true, if_false]
        refine wpAny_pure ⟨plainId_quiet F.plain_any_loop _, ih (s₁.setGen g gs') (hgo _ (I.pin (a, gobj) (List.mem_append_left _ hp)).1) I.nolimit ⟨gs', setGen_at hsz1, ?_⟩⟩
        exact h2 rfl _ ⟨rfl, rfl, allBare_setGen (s := s₁.setGen g gs') (allBare_setGen I.bare hbare) rfl⟩
      | true =>
        simp only [if_true]
        refine wpAny_bind (wpAny_rule (wpAny_pure ?_))
        exact hF s₁ H σ2 _ I (h1 (by decide)) (fun _ _ e => e) rfl (allBare_setGen I.bare hbare)
    · intro hsz
      obtain ⟨H, I, q⟩ := hq
      refine wpAny_bind (wpAny_rule (wpAny_pure ?_))
      exact hT s₁ H _ I q hk rfl (allBare_setGen I.bare rfl)
end
end Gx
set_option Elab.async false
set_option linter.all false
set_option maxRecDepth 100000
set_option maxHeartbeats 2000000
namespace Gx
open PySem PySem.Spec PyProof.Rows L2 GenW GxR
/-- a generator expression's own scope -/
structure GenOk (env : Env) (N : List Str) (scope : Scope) (own : List (Str × Nat)) : Prop where
  blk : BlkOk N env.scope scope own
  co : scope.isCoroutine = false
  cell : ∀ y ∈ scope.names, y.2 ≠ .cell
  dot : scope.names.lookup (".0" : Str) = some NameKind.local
section
variable {X : Cx} {pins : List (Addr × Obj)} {σ : L2.St} {H : Hp} {s : Shared}
theorem wipe_wipe (σ : L2.St) : ∀ vs : List Nat, wipe (wipe σ vs) vs = wipe σ vs := fun vs => by
  apply List.ext_getElem?
  intro i
  by_cases h : i ∈ vs
  · have z : ∀ σ' : L2.St, ∀ ws : List Nat, i ∈ ws → (wipe σ' ws)[i]? = if i < σ'.length then some none else none := fun σ' ws => by
      induction ws with
      | nil => intro h; cases h
      | cons w ws ih =>
        intro h
        show ((wipe σ' ws).set w none)[i]? = _
        rw [List.getElem?_set]
        by_cases e : w = i
        · rw [if_pos e, wipe_length, e]
        · rw [if_neg e]
          rcases List.mem_cons.mp h with h | h
          · exact absurd h.symm e
          · exact ih h
    rw [z _ _ h, z _ _ h, wipe_length]
  · rw [wipe_out h]
theorem room_gen {k : Nat} {A : Around} {elt tg iter : Expr} {ifs : List Expr} {scope : Scope} {pos : Pos} {it : Value} {cenv : Env} (hr : Room (k + 1) A) : Room k (A.in1.in1.over (.compLoop (.GeneratorExp elt [⟨tg, iter, ifs, 0⟩] scope pos) 0 it .none cenv) []) :=
  ⟨hr.hd, by have := hr.dp; show A.depth + 1 + 3 * k + 5 < _; omega, by have := hr.un; show A.units + 1 + 1 + 3 + 16 * k + 200 < _; omega⟩
theorem gen_ready {c P : Addr} {elt tg iter : Expr} {ifs : List Expr} {scope : Scope} {own : List (Str × Nat)} {gpos : Pos} {wi : TI} {g : TG} {tt : TT} {te : TE} {k : Nat} {Q' : Value → Shared → Prop} {Qt Qf : Hp → Prop} {go : Bool}
    (hc : X.calm = true) (hr : Room (k + 1) X.A) (hN : X.N.Nodup) (TB : TabB X.base X.mg c P) (hcode : X.env.code = .ref c) (S : GenOk X.env X.N scope own) (hi : PI X tg iter wi)
    (hg : ∀ (A' : Around) (s : Shared) (H : Hp) (cl : List (Str × Addr)) (C : Addr) (code : Value) (fp : List Addr) (pn : List (Addr × Obj)), Room k A' → PG (gcx X A' s H (genEnv scope cl C code builtinsNs X.env) fp pn) tg g)
    (ht : ∀ (A' : Around) (s : Shared) (H : Hp) (cl : List (Str × Addr)) (C : Addr) (code : Value) (fp : List Addr) (pn : List (Addr × Obj)), Room k A' → PTs (gcx X A' s H (genEnv scope cl C code builtinsNs X.env) fp pn) ifs tt)
    (he : ∀ (A' : Around) (s : Shared) (H : Hp) (cl : List (Str × Addr)) (C : Addr) (code : Value) (fp : List Addr) (pn : List (Addr × Obj)), Room k A' → PE (gcx X A' s H (genEnv scope cl C code builtinsNs X.env) fp pn) elt te)
    (hs : ∀ v, genFold iter X.env v = pure v) (I : Inv X pins σ H s)
    (h : wi σ H fun J H1 => TabG H1 P ∧ ∀ H2, Tabbed P H1 H2 → ∃ W : Nat → Nat → Hp → Prop, (∃ m, W 0 m H2) ∧ Turns J g tt te (own.map (·.2)) (wipe σ (own.map (·.2))) W Qt (YdB go Qf))
    (hQ : ∀ (a : Addr) (gi n : Nat) (s5 : Shared) (Y : Cx) (gobj : Obj), Y.prog = X.prog ∧ Y.w = X.w → (a, gobj) ∈ Y.pn → (∀ s : Shared, s.heap.get? a = some gobj → s.heap.IsGen a gi) → s5.heap.IsGen a gi → s5.heap.NoLimit →
      (∃ gs, s5.gens[gi]? = some gs ∧ gs.Goes (model X.prog X.w) X.A.in1.in1 (RG Y (wipe σ (own.map (·.2))) Qt) (YG Y go Qf) n (.send .none) (s5.setGen gi .running)) →
      (∀ s₁ H σ2 s', Inv Y [] σ2 H s₁ → (∀ b o, s₁.heap.get? b = some o → s'.heap.get? b = some o) → s'.os = s₁.os → AllBare s'.gens → Inv X pins σ H s') → Q' (.ref a) s5) :
    wpAny (model X.prog X.w) X.A (eval (.GeneratorExp elt [⟨tg, iter, ifs, 0⟩] scope gpos) X.env) Q' X.xe s := by
  have hfree : ∀ y ∈ scope.names, y.2 = .free → ∃ c, X.env.cells.lookup y.1 = some c := fun y hy e => by
    rcases S.blk.free y hy e with k | k
    · exact I.ok.has _ (.inl k)
    · exact I.ok.has _ (.inr k)
  refine wpAny_GeneratorExp_make S.co (closure_ok hfree) S.cell S.dot S.blk.kind (by have := hr.dp; omega) ?_ hs
  refine thn (hi.run pins s σ H _ I h) fun v s1 h1 => thn h1 fun itv s2 h2 => ?_
  obtain ⟨it, fp, tn, J, H1, rfl, I1, T, st1, f1, ⟨ps, hP, htr⟩, q1⟩ := h2
  have hPs : s2.heap.get? P = some { cls := .none, data := .fields ps } := I1.hok P _ hP
  have cd : PySem.W.CodeHd s2.heap c P := TB.code.keeps fun b u e => I1.bk b u e
  refine ⟨I1.nolimit, ?_⟩
  have nfP : ∀ b ∈ fp, b ≠ P := fun b hb z => by
    have := (f1 b hb).1
    rw [z, hP] at this
    cases this
  have cont : ∀ (code : Value) (h3 : Heap) (tk : Nat) (more : Array Value), Heap.ExtBut P s2.heap h3 → s2.heap.objs.size ≤ h3.objs.size → h3.get? P = some { cls := .none, data := .fields (ps ++ more) } → TriplesOk (ps ++ more).toList →
      wpAny (model X.prog X.w) X.A (builtinsFor X.env.globals X.env.builtins) (fun bi s₄ =>
        ∀ h', h'.Ns s₄.heap.objs.size (fun y => if y = ".0" then some (.ref it) else none) → Heap.SameBut s₄.heap.objs.size (s₄.heap.push { cls := .type "frame", data := .dict #[] }) h' →
          Q' (.ref h'.objs.size) { s₄ with
            gens := s₄.gens.push (.fresh (.compStart (.GeneratorExp elt [⟨tg, iter, ifs, 0⟩] scope gpos) 0 (.ref it) .none (genEnv scope (cloFrom X.env.cells scope.names []) s₄.heap.objs.size code bi X.env))),
            toks := s₄.toks + 1 + 1 + 1,
            heap := h'.push { cls := .type "generator", data := .fields #[.int s₄.gens.size 0, .str "<genexpr>" (s₄.toks + 1), .str (X.env.qual ++ "<genexpr>") (s₄.toks + 1 + 1)] } }) X.xe { s2 with heap := h3, toks := tk } := by
    intro code h3 tk more hx hsz hP3 ht3
    obtain ⟨bm, ob, e1, e2, e3, e4, e5, e6, e7, e8⟩ := TB.bm
    refine wpAny_builtinsFor (m := X.mg) (by rw [I1.ok.glob]; exact (I1.mod.glob.keeps I1.bk).extBut hx TB.gP) e1 e2 (hx _ _ e4 (I1.bk _ _ e5)) e6 e7 e8 ?_
    intro h' hns hsb
    have J2 : Inv X pins σ (upd H1 P (.tbl (ps ++ more))) { s2 with heap := h3, toks := tk } := inv_tab (more := more) (g' := s2.gens) (d' := s2.drawn) I1 hP (fun b u hb e => hx b u hb e) hP3 I1.bare
    obtain ⟨W, ⟨m, w0⟩, hturn⟩ := q1 _ ⟨⟨ps ++ more, upd_same, ht3⟩, fun b hb => upd_ne hb⟩
    -- the new objects
    have szp : (h3.push { cls := .type "frame", data := .dict #[] }).objs.size = h3.objs.size + 1 := Heap.size_push ..
    have sz' : h'.objs.size = h3.objs.size + 1 := by rw [← szp]; exact hsb.1
    have kp : ∀ b o, h3.get? b = some o → (h'.push { cls := .type "generator", data := .fields #[.int s2.gens.size 0, .str "<genexpr>" (tk + 1), .str (X.env.qual ++ "<genexpr>") (tk + 1 + 1)] }).get? b = some o := fun b o e =>
      Heap.get?_push_of_some _ ((hsb.2 b (Nat.ne_of_lt (Heap.lt_size e))).trans (Heap.get?_push_of_some _ e))
    have f2 : ∀ b ∈ fp, FpOk X pins (upd H1 P (.tbl (ps ++ more))) b ∧ b < h3.objs.size := fun b hb => by
      obtain ⟨o, e, _⟩ := T.obj _ _ st1 b hb
      refine ⟨⟨by rw [upd_ne (nfP b hb)]; exact (f1 b hb).1, (f1 b hb).2⟩, Nat.lt_of_lt_of_le (Heap.lt_size e) hsz⟩
    have st3 : tn 0 h3 := T.keep _ _ _ st1 fun b hb o e => hx b o (nfP b hb) e
    obtain ⟨A', hA'⟩ : ∃ A', X.A.in1.in1.over (.compLoop (.GeneratorExp elt [⟨tg, iter, ifs, 0⟩] scope gpos) 0 (.ref it) .none (genEnv scope (cloFrom X.env.cells scope.names []) h3.objs.size code builtinsNs X.env)) [] = A' := ⟨_, rfl⟩
    have hroom : Room k A' := by rw [← hA']; exact room_gen hr
    have hfrm : A'.frames = some (genEnv scope (cloFrom X.env.cells scope.names []) h3.objs.size code builtinsNs X.env :: X.stack) := by
      have e : X.A.frames = some X.stack := I1.ok.frames
      rw [← hA']
      unfold Around.over
      dsimp only
      rw [e]
      rfl
    have start : ∀ gens' : Array GenState, AllBare gens' → ∀ tk', Inv (gcx X A' { s2 with heap := h3, toks := tk } (upd H1 P (.tbl (ps ++ more))) (genEnv scope (cloFrom X.env.cells scope.names []) h3.objs.size code builtinsNs X.env) fp [(h'.objs.size, _)]) [] (wipe σ (own.map (·.2))) (upd H1 P (.tbl (ps ++ more)))
        { s2 with gens := gens', toks := tk', heap := h'.push { cls := .type "generator", data := .fields #[.int s2.gens.size 0, .str "<genexpr>" (tk + 1), .str (X.env.qual ++ "<genexpr>") (tk + 1 + 1)] } } := fun gens' hb tk' =>
      gen_start (code := code) J2 S.blk hN S.cell f2 hroom.hd rfl hfrm rfl hb kp (Heap.Ns.keeps hns fun b o e => Heap.get?_push_of_some _ e) (fun p hp => by
        rw [List.mem_singleton.mp hp]
        exact ⟨Heap.get?_push_size _ rfl, by show h3.objs.size < h'.objs.size; rw [sz']; exact Nat.lt_succ_self _, fun v z => by cases z⟩)
    have hgen : ∀ s : Shared, s.heap.get? h'.objs.size = some { cls := .type "generator", data := .fields #[.int s2.gens.size 0, .str "<genexpr>" (tk + 1), .str (X.env.qual ++ "<genexpr>") (tk + 1 + 1)] } → s.heap.IsGen h'.objs.size s2.gens.size := fun s e => ⟨_, _, _, e, rfl, rfl, rfl⟩
    refine hQ h'.objs.size s2.gens.size (m + 1) _ (gcx X A' { s2 with heap := h3, toks := tk } (upd H1 P (.tbl (ps ++ more))) (genEnv scope (cloFrom X.env.cells scope.names []) h3.objs.size code builtinsNs X.env) fp [(h'.objs.size, _)]) _ ⟨rfl, rfl⟩ (List.mem_singleton.mpr rfl) hgen (hgen _ (Heap.get?_push_size _ rfl)) (start #[] (fun _ z => by simp at z) 0).nolimit ⟨_, Array.getElem?_push_size, rfl, ?_⟩ fun s₁ Hz σ2 s' Iz ext hos hbz => ?_
    · have bare5 : AllBare (s2.gens.push (.fresh (.compStart (.GeneratorExp elt [⟨tg, iter, ifs, 0⟩] scope gpos) 0 (.ref it) .none (genEnv scope (cloFrom X.env.cells scope.names []) h3.objs.size code builtinsNs X.env)))) := I1.bare.push rfl
      have hst : ∀ H : Hp, (∀ b ∈ fp, H b = none) → ∀ b ∈ fp, FpOk (gcx X A' { s2 with heap := h3, toks := tk } (upd H1 P (.tbl (ps ++ more))) (genEnv scope (cloFrom X.env.cells scope.names []) h3.objs.size code builtinsNs X.env) fp [(h'.objs.size, _)]) [] H b := fun Hq hq b hb => by
        have ok := (start s2.gens I1.bare 0).ok
        refine ⟨hq b hb, (ok.exf b hb).1, ok.exfs b hb, .inl hb, (ok.exf b hb).2, fun p hp => ?_⟩
        rw [List.append_nil] at hp
        rw [List.mem_singleton.mp hp]
        show h'.objs.size ≠ b
        have := (f2 b hb).2
        rw [sz']
        exact Nat.ne_of_gt (Nat.lt_succ_of_lt this)
      have wf : wipe (wipe σ (own.map (·.2))) (own.map (·.2)) = wipe σ (own.map (·.2)) := wipe_wipe _ _
      exact seg_gx0 hA' hc S.co T hst wf (hg _ _ _ _ _ _ _ _ hroom) (ht _ _ _ _ _ _ _ _ hroom) (he _ _ _ _ _ _ _ _ hroom) hturn m _ _ _ (start _ (allBare_setGen (s := { s2 with gens := _ }) bare5 rfl) _) (T.keep _ _ _ st3 fun b hb o e => kp b o e) (fun b hb => (f2 b hb).1.1) w0
    · have u : Un (frs X.stack) fp (upd H1 P (.tbl (ps ++ more))) Hz h3 s'.heap := Iz.base.trans (Un.kept ext)
      refine J2.call' (s' := s') (hos.trans Iz.os) u (Iz.hok.kept ext) hbz fun b hb => ?_
      obtain ⟨⟨_, a1, _, a3, a4, a5⟩, _⟩ := f2 b hb
      exact ⟨a3, a1, a4, a5⟩
  cases hf : codeAmong gpos ps.toList with
  | none =>
    refine wpAny_genexprCodeX hcode (cd.code hPs htr) (cd.tab hPs) hf fun c' h' tk hx hge hlt hco' _ htab' _ => ?_
    obtain ⟨o1, vs, f1, tf, fl, tg, inF, tx, tt, op, _, _, _, _, _, _, _, _, _, htr', _⟩ := hco'
    exact cont _ h' tk _ hx (Nat.le_trans hge (Nat.le_of_lt hlt)) htab'.2 htr'
  | some cv =>
    refine wpAny_genexprCode_hit hcode (cd.code hPs htr) hf ?_
    exact cont cv s2.heap s2.toks #[] (Heap.ExtBut.refl _ _) (Nat.le_refl _) (by rw [Array.append_empty]; exact hPs) (by rw [Array.append_empty]; exact htr)
end
end Gx
set_option Elab.async false
set_option linter.all false
set_option maxRecDepth 100000
set_option maxHeartbeats 2000000
namespace Gx
open PySem PySem.Spec PyProof.Rows L2 GenW GxR
/-- all(e for x in ..) (go true), any(..) (go false) -/
def tGen (P : Addr) (go : Bool) (wi : TI) (g : TG) (tt : TT) (te : TE) (vs : List Nat) : TE := fun σ H Q => wi σ H fun J H1 => TabG H1 P ∧ ∀ H2, Tabbed P H1 H2 →
  ∃ W : Nat → Nat → Hp → Prop, (∃ m, W 0 m H2) ∧ Turns J g tt te vs (wipe σ vs) W (fun H => Q (.bl go) H) (YdB go fun H => Q (.bl (!go)) H)
section
variable {X : Cx} {c P : Addr} {elt tg iter : Expr} {ifs : List Expr} {scope : Scope} {own : List (Str × Nat)} {p pos gpos : Pos} {wi : TI} {g : TG} {tt : TT} {te : TE} {k : Nat}
theorem pe_allG (hc : X.calm = true) (hr : Room (k + 1) X.A) (hN : X.N.Nodup) (hgl : Gl X "all") (hm : X.mg "all" = none) (hb : bootBuiltins "all" = some (.builtin "all")) (TB : TabB X.base X.mg c P) (hcode : X.env.code = .ref c) (S : GenOk X.env X.N scope own) (hi : PI X tg iter wi)
    (hg : ∀ (A' : Around) (s : Shared) (H : Hp) (cl : List (Str × Addr)) (C : Addr) (code : Value) (fp : List Addr) (pn : List (Addr × Obj)), Room k A' → PG (gcx X A' s H (genEnv scope cl C code builtinsNs X.env) fp pn) tg g)
    (ht : ∀ (A' : Around) (s : Shared) (H : Hp) (cl : List (Str × Addr)) (C : Addr) (code : Value) (fp : List Addr) (pn : List (Addr × Obj)), Room k A' → PTs (gcx X A' s H (genEnv scope cl C code builtinsNs X.env) fp pn) ifs tt)
    (he : ∀ (A' : Around) (s : Shared) (H : Hp) (cl : List (Str × Addr)) (C : Addr) (code : Value) (fp : List Addr) (pn : List (Addr × Obj)), Room k A' → PE (gcx X A' s H (genEnv scope cl C code builtinsNs X.env) fp pn) elt te)
    (hs : ∀ v, genFold iter X.env v = pure v := by intro _; rfl)
    (hst : starEach [.GeneratorExp elt [⟨tg, iter, ifs, 0⟩] scope gpos] X.env = (false, eval (.GeneratorExp elt [⟨tg, iter, ifs, 0⟩] scope gpos) X.env) :: starEach [] X.env := by rfl) :
    PE X (.Call (.Name "all" p) [.GeneratorExp elt [⟨tg, iter, ifs, 0⟩] scope gpos] [] pos) (tGen P true wi g tt te (own.map (·.2))) := by
  refine ⟨fun pins s σ H Q I h => ?_⟩
  refine wpAny_Call_Name_kw (ld_blt I hgl hm hb ?_)
  refine PyProof.Rows.callWith_builtin1 ?_ hst (by rfl)
  rw [hst]
  show wpAny _ _ (spliced ((false, eval (.GeneratorExp elt [⟨tg, iter, ifs, 0⟩] scope gpos) X.env) :: backTo pos (starEach [] X.env))) _ _ s
  refine Calls.spliced_cons (gen_ready hc hr hN TB hcode S hi hg ht he hs I h fun a gi n s5 Y gobj hY hpn hgo hg5 hl5 hgoes back => ?_)
  refine Calls.spliced_nil ?_
  refine call_function_tree F.kind_all F.plain_all F.entry_all (F.args_all1 _) ?_
  unfold Builtin.«all»
  refine wpAny_bind (m := oneArg "all" _) (wpAny_pure ?_)
  refine wpAny_bind (wpAny_pyIter_gen hg5 ?_)
  exact wpAny_pure ⟨plainId_quiet F.plain_all_loop _, all_loop hY hr.hd hr.depth hpn hgo (fun s₁ Hz s' Iz q ext hos hb => ⟨.bl true, Hz, back s₁ Hz _ s' Iz ext hos hb, rfl, q⟩) (fun s₁ Hz σ2 s' Iz q ext hos hb => ⟨.bl false, Hz, back s₁ Hz σ2 s' Iz ext hos hb, rfl, q⟩) n s5 hg5 hl5 hgoes⟩
theorem pe_anyG (hc : X.calm = true) (hr : Room (k + 1) X.A) (hN : X.N.Nodup) (hgl : Gl X "any") (hm : X.mg "any" = none) (hb : bootBuiltins "any" = some (.builtin "any")) (TB : TabB X.base X.mg c P) (hcode : X.env.code = .ref c) (S : GenOk X.env X.N scope own) (hi : PI X tg iter wi)
    (hg : ∀ (A' : Around) (s : Shared) (H : Hp) (cl : List (Str × Addr)) (C : Addr) (code : Value) (fp : List Addr) (pn : List (Addr × Obj)), Room k A' → PG (gcx X A' s H (genEnv scope cl C code builtinsNs X.env) fp pn) tg g)
    (ht : ∀ (A' : Around) (s : Shared) (H : Hp) (cl : List (Str × Addr)) (C : Addr) (code : Value) (fp : List Addr) (pn : List (Addr × Obj)), Room k A' → PTs (gcx X A' s H (genEnv scope cl C code builtinsNs X.env) fp pn) ifs tt)
    (he : ∀ (A' : Around) (s : Shared) (H : Hp) (cl : List (Str × Addr)) (C : Addr) (code : Value) (fp : List Addr) (pn : List (Addr × Obj)), Room k A' → PE (gcx X A' s H (genEnv scope cl C code builtinsNs X.env) fp pn) elt te)
    (hs : ∀ v, genFold iter X.env v = pure v := by intro _; rfl)
    (hst : starEach [.GeneratorExp elt [⟨tg, iter, ifs, 0⟩] scope gpos] X.env = (false, eval (.GeneratorExp elt [⟨tg, iter, ifs, 0⟩] scope gpos) X.env) :: starEach [] X.env := by rfl) :
    PE X (.Call (.Name "any" p) [.GeneratorExp elt [⟨tg, iter, ifs, 0⟩] scope gpos] [] pos) (tGen P false wi g tt te (own.map (·.2))) := by
  refine ⟨fun pins s σ H Q I h => ?_⟩
  refine wpAny_Call_Name_kw (ld_blt I hgl hm hb ?_)
  refine PyProof.Rows.callWith_builtin1 ?_ hst (by rfl)
  rw [hst]
  show wpAny _ _ (spliced ((false, eval (.GeneratorExp elt [⟨tg, iter, ifs, 0⟩] scope gpos) X.env) :: backTo pos (starEach [] X.env))) _ _ s
  refine Calls.spliced_cons (gen_ready hc hr hN TB hcode S hi hg ht he hs I h fun a gi n s5 Y gobj hY hpn hgo hg5 hl5 hgoes back => ?_)
  refine Calls.spliced_nil ?_
  refine call_function_tree F.kind_any F.plain_any F.entry_any (F.args_any1 _) ?_
  unfold Builtin.«any»
  refine wpAny_bind (m := oneArg "any" _) (wpAny_pure ?_)
  refine wpAny_bind (wpAny_pyIter_gen hg5 ?_)
  exact wpAny_pure ⟨plainId_quiet F.plain_any_loop _, any_loop hY hr.hd hr.depth hpn hgo (fun s₁ Hz s' Iz q ext hos hb => ⟨.bl false, Hz, back s₁ Hz _ s' Iz ext hos hb, rfl, q⟩) (fun s₁ Hz σ2 s' Iz q ext hos hb => ⟨.bl true, Hz, back s₁ Hz σ2 s' Iz ext hos hb, rfl, q⟩) n s5 hg5 hl5 hgoes⟩
end
end Gx
set_option Elab.async false
set_option linter.all false
set_option maxRecDepth 100000
/-! Data layer: what readings ask, said of data (PyData) and of a list of slots. -/
namespace Dl
open PySem PySem.Spec PyProof.Rows L2

/-! ### data stand where the heap only grows -/
theorem rd_mono {G G' : Hp} (e : Same G G') {a : Addr} {u : HO} (h : Rd G a u) : Rd G' a u := by
  rcases h with h | ⟨o, h⟩
  · exact .inl (e _ _ h)
  · exact .inr ⟨o, e _ _ h⟩
theorem sqT_mono {K : PySem.W.Frag} {G G' : Hp} (e : Same G G') {a : Addr} {xs : List V} (h : SqT K G a xs) : SqT K G' a xs := by
  rcases h with h | h
  · exact .inl (rd_mono e h)
  · exact .inr h
theorem sqL_mono {K : PySem.W.Frag} {G G' : Hp} (e : Same G G') {a : Addr} {xs : List V} (h : SqL K G a xs) : SqL K G' a xs := e.seq h
mutual
theorem dp_mono {K : PySem.W.Frag} {G G' : Hp} (e : Same G G') : ∀ (d : PyData) (v : V), Dp K G v d → Dp K G' v d
  | .none, _, h => by cases h; exact .non
  | .bool b, _, h => by cases h; exact .bl b
  | .int i, _, h => by cases h; exact .int i
  | .str x, _, h => by cases h; exact .str x
  | .list ds, _, h => by
    cases h with
    | lst hs ha => exact .lst (sqL_mono e hs) (dpa_mono e ds _ ha)
  | .tuple ds, _, h => by
    cases h with
    | tup hs ha => exact .tup (sqT_mono e hs) (dpa_mono e ds _ ha)
  | .dict _, _, h => by cases h
theorem dpa_mono {K : PySem.W.Frag} {G G' : Hp} (e : Same G G') : ∀ (ds : List PyData) (vs : List V), DpAll K G vs ds → DpAll K G' vs ds
  | [], _, h => by cases h; exact .nil
  | d :: ds, _, h => by
    cases h with
    | cons h1 h2 => exact .cons (dp_mono e d _ h1) (dpa_mono e ds _ h2)
end
theorem dpa_len {K : PySem.W.Frag} {G : Hp} : ∀ {vs : List V} {ds : List PyData}, DpAll K G vs ds → vs.length = ds.length
  | _, _, .nil => rfl
  | _, _, .cons _ h => by rw [List.length_cons, List.length_cons, dpa_len h]
theorem dpa_get {K : PySem.W.Frag} {G : Hp} : ∀ {vs : List V} {ds : List PyData} {i : Nat} {d : PyData}, DpAll K G vs ds → ds[i]? = some d → ∃ v, vs[i]? = some v ∧ Dp K G v d
  | _, _, _, _, .nil, e => by simp at e
  | _, _, 0, _, .cons (v := v) h _, e => by
    have e' := Option.some.inj e
    subst e'
    exact ⟨v, rfl, h⟩
  | _, _, i + 1, d, .cons _ t, e => dpa_get (i := i) (d := d) t e
theorem dpa_getV {K : PySem.W.Frag} {G : Hp} : ∀ {vs : List V} {ds : List PyData} {i : Nat} {v : V}, DpAll K G vs ds → vs[i]? = some v → ∃ d, ds[i]? = some d ∧ Dp K G v d
  | _, _, _, _, .nil, e => by simp at e
  | _, _, 0, _, .cons (d := d) h _, e => by
    have e' := Option.some.inj e
    subst e'
    exact ⟨d, rfl, h⟩
  | _, _, i + 1, v, .cons _ t, e => dpa_getV (i := i) (v := v) t e
theorem dpa_app {K : PySem.W.Frag} {G : Hp} : ∀ {vs ws : List V} {ds es : List PyData}, DpAll K G vs ds → DpAll K G ws es → DpAll K G (vs ++ ws) (ds ++ es)
  | _, _, _, _, .nil, h => h
  | _, _, _, _, .cons h t, h' => .cons h (dpa_app t h')
theorem dpa_take {K : PySem.W.Frag} {G : Hp} : ∀ (n : Nat) {vs : List V} {ds : List PyData}, DpAll K G vs ds → DpAll K G (vs.take n) (ds.take n)
  | 0, _, _, _ => .nil
  | _ + 1, _, _, .nil => .nil
  | n + 1, _, _, .cons h t => .cons h (dpa_take n t)
theorem dpa_drop {K : PySem.W.Frag} {G : Hp} : ∀ (n : Nat) {vs : List V} {ds : List PyData}, DpAll K G vs ds → DpAll K G (vs.drop n) (ds.drop n)
  | 0, _, _, h => h
  | _ + 1, _, _, .nil => .nil
  | n + 1, _, _, .cons _ t => dpa_drop n t
theorem dpa_set {K : PySem.W.Frag} {G : Hp} {v : V} {d : PyData} (hd : Dp K G v d) : ∀ (n : Nat) {vs : List V} {ds : List PyData}, DpAll K G vs ds → DpAll K G (vs.set n v) (ds.set n d)
  | _, _, _, .nil => .nil
  | 0, _, _, .cons _ t => .cons hd t
  | n + 1, _, _, .cons h t => .cons h (dpa_set hd n t)

/-! ### the pen -/
structure Pn where
  a : Addr
  c : Addr
  n : Nat
def PenOk (p : Pn) (H : Hp) : Prop := ∃ (cells : List Int) (at_ rest : Int), H p.a = some (.lst [.ref p.c, .int at_, .int rest]) ∧ H p.c = some (.lst (cells.map V.int)) ∧ 0 ≤ at_ ∧ 0 ≤ rest ∧ cells.length = p.n
/-- what may change: the pen, the tables of code objects -/
structure Pc where
  pen : Option Pn
  ts : List Addr
def POk (c : Pc) (H : Hp) : Prop := (∀ p, c.pen = some p → PenOk p H) ∧ ∀ P ∈ c.ts, GxR.TabG H P
/-- a is the pen's own list or a table -/
def IsPn (c : Pc) (a : Addr) : Prop := (∃ p, c.pen = some p ∧ a = p.a) ∨ a ∈ c.ts
theorem PenOk.ne {p : Pn} {H : Hp} (h : PenOk p H) : p.c ≠ p.a := by
  obtain ⟨cells, at_, rest, h1, h2, _⟩ := h
  intro e
  rw [e, h1] at h2
  cases cells with
  | nil => cases h2
  | cons x r => cases h2
theorem POk.keep {pen : Pc} {H H' : Hp} (h : POk pen H) (k : ∀ a o, H a = some o → H' a = some o) : POk pen H' := by
  refine ⟨fun p hp => ?_, fun P hP => ?_⟩
  · obtain ⟨cells, at_, rest, h1, h2, h3⟩ := h.1 p hp
    exact ⟨cells, at_, rest, k _ _ h1, k _ _ h2, h3⟩
  · obtain ⟨ps, e, t⟩ := h.2 P hP
    exact ⟨ps, k _ _ e, t⟩
/-- tables and the pen stand apart -/
theorem POk.apart {pen : Pc} {H : Hp} (h : POk pen H) {p : Pn} (hp : pen.pen = some p) {P : Addr} (hP : P ∈ pen.ts) : P ≠ p.a ∧ P ≠ p.c := by
  obtain ⟨cells, at_, rest, h1, h2, h3⟩ := h.1 p hp
  obtain ⟨ps, e, t⟩ := h.2 P hP
  refine ⟨fun z => ?_, fun z => ?_⟩
  · rw [z, h1] at e; cases e
  · rw [z, h2] at e; cases e

structure Vw (pen : Pc) (G H : Hp) : Prop where
  vw : Same G H
  no : ∀ a, IsPn pen a → G a = none
  ok : POk pen H
structure Go (pen : Pc) (G H G' H' : Hp) : Prop where
  gg : Same G G'
  nw : ∀ a, H a ≠ none → G' a = G a
  od : ∀ a o, ¬ IsPn pen a → H a = some o → H' a = some o
  vw : Vw pen G' H'
theorem POk.there {pen : Pc} {H : Hp} {a : Addr} (h : POk pen H) (p : IsPn pen a) : H a ≠ none := by
  rcases p with ⟨q, hq, rfl⟩ | hP
  · obtain ⟨cells, at_, rest, h1, _⟩ := h.1 q hq
    rw [h1]
    exact fun z => by cases z
  · obtain ⟨ps, e, t⟩ := h.2 a hP
    rw [e]
    exact fun z => by cases z
theorem Go.dom {pen : Pc} {G H G' H' : Hp} (g : Go pen G H G' H') {a : Addr} (h : H a ≠ none) : H' a ≠ none := by
  by_cases p : IsPn pen a
  · exact g.vw.ok.there p
  · cases e : H a with
    | none => exact absurd e h
    | some o =>
      rw [g.od a o p e]
      exact fun z => by cases z
theorem Go.refl {pen : Pc} {G H : Hp} (v : Vw pen G H) : Go pen G H G H := ⟨Same.refl _, fun _ _ => rfl, fun _ _ _ e => e, v⟩
theorem Go.trans {pen : Pc} {G H G1 H1 G2 H2 : Hp} (a : Go pen G H G1 H1) (b : Go pen G1 H1 G2 H2) : Go pen G H G2 H2 :=
  ⟨a.gg.trans b.gg, fun x h => (b.nw x (a.dom h)).trans (a.nw x h), fun x o p e => b.od x o p (a.od x o p e), b.vw⟩
/-- a new object that never changes -/
theorem Go.new {pen : Pc} {G H : Hp} (v : Vw pen G H) {p : Addr} {o : HO} (h : H p = none) : Go pen G H (upd G p o) (upd H p o) := by
  have np : ∀ a, IsPn pen a → a ≠ p := fun a q e => v.ok.there q (e ▸ h)
  have kH : ∀ a u, H a = some u → upd H p o a = some u := fun a u e => by rw [upd_ne (ne_of_none e h)]; exact e
  refine ⟨fun a u e => ?_, fun a e => ?_, fun a u _ e => kH a u e, ⟨fun a u e => ?_, fun a q => ?_, v.ok.keep kH⟩⟩
  · have h' : G p = none := by
      cases q : G p with
      | none => rfl
      | some u => rw [v.vw _ _ q] at h; cases h
    rw [upd_ne (ne_of_none e h')]; exact e
  · rw [upd_ne (fun (z : a = p) => e (by rw [z]; exact h))]
  · by_cases q : a = p
    · subst q; rw [upd_same] at e ⊢; exact e
    · rw [upd_ne q] at e ⊢; exact v.vw _ _ e
  · rw [upd_ne (np a q)]; exact v.no a q
/-- a new object that is not looked at as data -/
theorem Go.hid {pen : Pc} {G H : Hp} (v : Vw pen G H) {p : Addr} {o : HO} (h : H p = none) : Go pen G H G (upd H p o) := by
  have kH : ∀ a u, H a = some u → upd H p o a = some u := fun a u e => by rw [upd_ne (ne_of_none e h)]; exact e
  exact ⟨Same.refl _, fun _ _ => rfl, fun a u _ e => kH a u e, ⟨fun a u e => kH a u (v.vw a u e), v.no, v.ok.keep kH⟩⟩
/-- what a def without the pen does, seen by one who has it -/
theorem Go.lift {pn : Option Pn} {ts : List Addr} {G H G' H' : Hp} (v : Vw ⟨pn, ts⟩ G H) (g : Go ⟨none, ts⟩ G H G' H') : Go ⟨pn, ts⟩ G H G' H' := by
  have k : ∀ a o, a ∉ ts → H a = some o → H' a = some o := fun a o n e => g.od a o (fun z => by
    rcases z with ⟨p, z, _⟩ | z
    · cases z
    · exact n z) e
  refine ⟨g.gg, g.nw, fun a o n e => k a o (fun z => n (.inr z)) e, ⟨g.vw.vw, fun a q => (g.nw a (v.ok.there q)).trans (v.no a q), fun p hp => ?_, g.vw.ok.2⟩⟩
  obtain ⟨cells, at_, rest, h1, h2, h3⟩ := v.ok.1 p hp
  exact ⟨cells, at_, rest, k _ _ (fun z => (v.ok.apart hp z).1 rfl) h1, k _ _ (fun z => (v.ok.apart hp z).2 rfl) h2, h3⟩
theorem Vw.plain {pn : Option Pn} {ts : List Addr} {G H : Hp} (v : Vw ⟨pn, ts⟩ G H) : Vw ⟨none, ts⟩ G H := by
  refine ⟨v.vw, fun a q => ?_, fun p z => (nomatch z), v.ok.2⟩
  rcases q with ⟨p, z, _⟩ | z
  · cases z
  · exact v.no a (.inr z)

/-! ### slots -/
inductive AV where
  | d (x : PyData)
  | pen
  | own (xs : List PyData)
abbrev Lv := List (Option AV)
def AvOk (K : PySem.W.Frag) (pen : Pc) (H0 G H : Hp) (v : V) : AV → Prop
  | .d x => Dp K G v x
  | .pen => ∃ p, pen.pen = some p ∧ v = .ref p.a
  | .own ds => ∃ l vs, v = .ref l ∧ H l = some (.lst vs) ∧ H0 l = none ∧ G l = none ∧ DpAll K G vs ds
structure Ev (K : PySem.W.Frag) (pen : Pc) (H0 G H : Hp) (σ : L2.St) (L : Lv) : Prop where
  vw : Vw pen G H
  h0 : POk pen H0
  dom : ∀ a, H0 a ≠ none → H a ≠ none
  len : σ.length = L.length
  sl : ∀ (i : Nat) av, L[i]? = some (some av) → ∃ v, σ[i]? = some (some v) ∧ AvOk K pen H0 G H v av
  ow : ∀ (i j : Nat) ds es l, L[i]? = some (some (.own ds)) → L[j]? = some (some (.own es)) → σ[i]? = some (some (.ref l)) → σ[j]? = some (some (.ref l)) → i = j
section
variable {K : PySem.W.Frag} {pen : Pc} {H0 G H G' H' : Hp} {σ : L2.St} {L : Lv}
theorem POk.dom0 {a : Addr} (h : POk pen H0) (p : IsPn pen a) : H0 a ≠ none := h.there p
theorem AvOk.go {v : V} {av : AV} (h : AvOk K pen H0 G H v av) (h0 : POk pen H0) (g : Go pen G H G' H') : AvOk K pen H0 G' H' v av := by
  cases av with
  | d x => exact dp_mono g.gg _ _ h
  | pen => exact h
  | own ds =>
    obtain ⟨l, vs, e, h1, h2, h3, h4⟩ := h
    have np : ¬ IsPn pen l := fun q => h0.there q h2
    refine ⟨l, vs, e, g.od _ _ np h1, h2, ?_, dpa_mono g.gg _ _ h4⟩
    rw [g.nw l (by rw [h1]; exact fun z => by cases z)]
    exact h3
theorem Ev.go (e : Ev K pen H0 G H σ L) (g : Go pen G H G' H') : Ev K pen H0 G' H' σ L :=
  ⟨g.vw, e.h0, fun a h => g.dom (e.dom a h), e.len, fun i av h => by
    obtain ⟨v, h1, h2⟩ := e.sl i av h
    exact ⟨v, h1, h2.go e.h0 g⟩, e.ow⟩
/-- a slot stored with data -/
theorem Ev.set (e : Ev K pen H0 G H σ L) {i : Nat} {v : V} {x : PyData} (h : Dp K G v x) : Ev K pen H0 G H (σ.set i (some v)) (L.set i (some (.d x))) := by
  refine ⟨e.vw, e.h0, e.dom, by rw [List.length_set, List.length_set]; exact e.len, fun j av hj => ?_, fun j k ds es l h1 h2 h3 h4 => ?_⟩
  · by_cases q : i = j
    · subst q
      have hl : i < L.length := by
        have := (List.getElem?_eq_some_iff.mp hj).1
        rw [List.length_set] at this; exact this
      rw [List.getElem?_set_self hl] at hj
      have := Option.some.inj (Option.some.inj hj)
      subst this
      exact ⟨v, List.getElem?_set_self (by rw [e.len]; exact hl), h⟩
    · rw [List.getElem?_set_ne q] at hj
      obtain ⟨w, h1, h2⟩ := e.sl j av hj
      exact ⟨w, by rw [List.getElem?_set_ne q]; exact h1, h2⟩
  · have nj : ∀ (j : Nat) (ds : List PyData), (L.set i (some (.d x)))[j]? = some (some (.own ds)) → i ≠ j := fun j ds hj q => by
      subst q
      have hl : i < L.length := by
        have := (List.getElem?_eq_some_iff.mp hj).1
        rw [List.length_set] at this; exact this
      rw [List.getElem?_set_self hl] at hj
      cases hj
    have q1 := nj j ds h1
    have q2 := nj k es h2
    rw [List.getElem?_set_ne q1] at h1 h3
    rw [List.getElem?_set_ne q2] at h2 h4
    exact e.ow j k ds es l h1 h2 h3 h4
end

/-! ### expressions -/
section
variable (K : PySem.W.Frag) (pen : Pc) (H0 : Hp)
def E (te : TE) (L : Lv) (P : PyData → Prop) : Prop := ∀ (σ : L2.St) (G H : Hp), Ev K pen H0 G H σ L → ∀ Q : VK, (∀ v d G' H', Go pen G H G' H' → Dp K G' v d → P d → Q v H') → te σ H Q
def EA (ta : TA) (L : Lv) (P : List PyData → Prop) : Prop := ∀ (σ : L2.St) (G H : Hp), Ev K pen H0 G H σ L → ∀ Q : List V → Hp → Prop, (∀ vs ds G' H', Go pen G H G' H' → DpAll K G' vs ds → P ds → Q vs H') → ta σ H Q
def ET (tt : TT) (L : Lv) (P : Bool → Prop) : Prop := ∀ (σ : L2.St) (G H : Hp), Ev K pen H0 G H σ L → ∀ Q : Bool → Hp → Prop, (∀ b G' H', Go pen G H G' H' → P b → Q b H') → tt σ H Q
def EO (to : TO) (L : Lv) (P : Option Int → Prop) : Prop := ∀ (σ : L2.St) (G H : Hp), Ev K pen H0 G H σ L → ∀ Q : Option Int → Hp → Prop, (∀ b G' H', Go pen G H G' H' → P b → Q b H') → to σ H Q
/-- an operation by values -/
def R2d (r : R2) (a b : PyData) (P : PyData → Prop) : Prop := ∀ (x y : V) (G H : Hp), Vw pen G H → Dp K G x a → Dp K G y b → ∀ Q : VK, (∀ v d G' H', Go pen G H G' H' → Dp K G' v d → P d → Q v H') → r x y H Q
def RCd (r : List V → Hp → VK → Prop) (ds : List PyData) (P : PyData → Prop) : Prop := ∀ (vs : List V) (G H : Hp), Vw pen G H → DpAll K G vs ds → ∀ Q : VK, (∀ v d G' H', Go pen G H G' H' → Dp K G' v d → P d → Q v H') → r vs H Q
def RSd (r : V → Option Int → Option Int → Hp → VK → Prop) (a : PyData) (lo hi : Option Int) (P : PyData → Prop) : Prop := ∀ (x : V) (G H : Hp), Vw pen G H → Dp K G x a → ∀ Q : VK, (∀ v d G' H', Go pen G H G' H' → Dp K G' v d → P d → Q v H') → r x lo hi H Q
def RUd (r : V → Hp → VK → Prop) (a : PyData) (P : PyData → Prop) : Prop := ∀ (x : V) (G H : Hp), Vw pen G H → Dp K G x a → ∀ Q : VK, (∀ v d G' H', Go pen G H G' H' → Dp K G' v d → P d → Q v H') → r x H Q
end
section
variable {K : PySem.W.Frag} {pen : Pc} {H0 : Hp} {L : Lv} {P P' : PyData → Prop} {ta tb tc te : TE} {tl tr : TA} {t u : TT} {Pb : Bool → Prop}
theorem E.mono (h : E K pen H0 te L P) (k : ∀ d, P d → P' d) : E K pen H0 te L P' := fun σ G H e Q q => h σ G H e Q fun v d G' H' g hd p => q v d G' H' g hd (k d p)
theorem ET.mono {Pb' : Bool → Prop} (h : ET K pen H0 t L Pb) (k : ∀ d, Pb d → Pb' d) : ET K pen H0 t L Pb' := fun σ G H e Q q => h σ G H e Q fun v G' H' g p => q v G' H' g (k v p)
theorem e_var {i : Nat} {x : PyData} (h : L[i]? = some (some (.d x))) (p : P x) : E K pen H0 (tVar i) L P := fun σ G H e Q q => by
  obtain ⟨v, h1, h2⟩ := e.sl i _ h
  exact ⟨v, h1, q v x G H (.refl e.vw) h2 p⟩
theorem e_int {i : Int} (p : P (.int i)) : E K pen H0 (tC (.int i)) L P := fun σ G H e Q q => q _ _ G H (.refl e.vw) (.int i) p
theorem e_str {i : Str} (p : P (.str i)) : E K pen H0 (tC (.str i)) L P := fun σ G H e Q q => q _ _ G H (.refl e.vw) (.str i) p
theorem e_bl {i : Bool} (p : P (.bool i)) : E K pen H0 (tC (.bl i)) L P := fun σ G H e Q q => q _ _ G H (.refl e.vw) (.bl i) p
theorem e_non (p : P .none) : E K pen H0 (tC .non) L P := fun σ G H e Q q => q _ _ G H (.refl e.vw) .non p
theorem e_op {r : R2} (h : E K pen H0 ta L fun a => E K pen H0 tb L fun b => R2d K pen r a b P) : E K pen H0 (tOp r ta tb) L P := fun σ G H e Q q =>
  h σ G H e _ fun v a G1 H1 g1 d1 h1 => h1 σ G1 H1 (e.go g1) _ fun w b G2 H2 g2 d2 h2 =>
    h2 v w G2 H2 g2.vw (dp_mono g2.gg _ _ d1) d2 Q fun z c G3 H3 g3 d3 p => q z c G3 H3 ((g1.trans g2).trans g3) d3 p
theorem e_un {r : V → Hp → VK → Prop} (h : E K pen H0 ta L fun a => RUd K pen r a P) : E K pen H0 (tUn r ta) L P := fun σ G H e Q q =>
  h σ G H e _ fun v a G1 H1 g1 d1 h1 => h1 v G1 H1 g1.vw d1 Q fun z c G3 H3 g3 d3 p => q z c G3 H3 (g1.trans g3) d3 p
theorem ea_nil {Pl : List PyData → Prop} (p : Pl []) : EA K pen H0 tNil L Pl := fun σ G H e Q q => q [] [] G H (.refl e.vw) .nil p
theorem ea_cons {Pl : List PyData → Prop} (h : E K pen H0 ta L fun a => EA K pen H0 tr L fun ds => Pl (a :: ds)) : EA K pen H0 (tCons ta tr) L Pl := fun σ G H e Q q =>
  h σ G H e _ fun v a G1 H1 g1 d1 h1 => h1 σ G1 H1 (e.go g1) _ fun vs ds G2 H2 g2 d2 p => q _ _ G2 H2 (g1.trans g2) (.cons (dp_mono g2.gg _ _ d1) d2) p
theorem e_tup (h : EA K pen H0 tl L fun ds => ds.length ≤ 100000 ∧ P (.tuple ds)) : E K pen H0 (tTup tl) L P := fun σ G H e Q q =>
  h σ G H e _ fun vs ds G1 H1 g1 d1 h1 => ⟨Nat.le_trans (by rw [dpa_len d1]; exact h1.1) (by decide : 100000 ≤ sizeLine), fun p hp => by
    have g2 := Go.new g1.vw (o := .tup vs) hp
    exact q _ _ _ _ (g1.trans g2) (.tup (.inl (.inl upd_same)) (dpa_mono g2.gg _ _ d1)) h1.2⟩
theorem e_lst (h : EA K pen H0 tl L fun ds => ds.length ≤ 100000 ∧ P (.list ds)) : E K pen H0 (tLst tl) L P := fun σ G H e Q q =>
  h σ G H e _ fun vs ds G1 H1 g1 d1 h1 => ⟨Nat.le_trans (by rw [dpa_len d1]; exact h1.1) (by decide : 100000 ≤ sizeLine), fun p hp => by
    have g2 := Go.new g1.vw (o := .lst vs) hp
    exact q _ _ _ _ (g1.trans g2) (.lst (.inl (.inl upd_same)) (dpa_mono g2.gg _ _ d1)) h1.2⟩
theorem e_cb {r : List V → Hp → VK → Prop} (h : EA K pen H0 tl L fun ds => RCd K pen r ds P) : E K pen H0 (tCB r tl) L P := fun σ G H e Q q =>
  h σ G H e _ fun vs ds G1 H1 g1 d1 h1 => h1 vs G1 H1 g1.vw d1 Q fun z c G3 H3 g3 d3 p => q z c G3 H3 (g1.trans g3) d3 p
theorem e_sl {r : V → Option Int → Option Int → Hp → VK → Prop} {to th : TO} (h : E K pen H0 te L fun a => EO K pen H0 to L fun lo => EO K pen H0 th L fun hi => RSd K pen r a lo hi P) : E K pen H0 (tSl r te to th) L P := fun σ G H e Q q =>
  h σ G H e _ fun v a G1 H1 g1 d1 h1 => h1 σ G1 H1 (e.go g1) _ fun lo G2 H2 g2 h2 => h2 σ G2 H2 (e.go (g1.trans g2)) _ fun hi G3 H3 g3 h3 =>
    h3 v G3 H3 g3.vw (dp_mono (g2.gg.trans g3.gg) _ _ d1) Q fun z c G4 H4 g4 d4 p => q z c G4 H4 (((g1.trans g2).trans g3).trans g4) d4 p
theorem eo_none {Po : Option Int → Prop} (p : Po none) : EO K pen H0 tNoPart L Po := fun σ G H e Q q => q _ G H (.refl e.vw) p
theorem eo_some {Po : Option Int → Prop} (h : E K pen H0 te L fun d => ∃ i, d = .int i ∧ Po (some i)) : EO K pen H0 (tPart te) L Po := fun σ G H e Q q =>
  h σ G H e _ fun v d G1 H1 g1 d1 ⟨i, hi, p⟩ => by
    subst hi
    cases d1
    exact ⟨i, rfl, q _ G1 H1 g1 p⟩
/-! tests -/
theorem et_test (h : E K pen H0 te L fun d => ∃ b, d = .bool b ∧ Pb b) : ET K pen H0 (tTest te) L Pb := fun σ G H e Q q =>
  h σ G H e _ fun v d G1 H1 g1 d1 ⟨b, hb, p⟩ => by
    subst hb
    cases d1
    exact ⟨b, rfl, q _ G1 H1 g1 p⟩
theorem et_B (h : E K pen H0 te L fun d => ∃ b, d = .bool b ∧ Pb b) : ET K pen H0 (tB te) L Pb := fun σ G H e Q q =>
  h σ G H e _ fun v d G1 H1 g1 d1 ⟨b, hb, p⟩ => by
    subst hb
    cases d1
    exact ⟨b, rfl, q _ G1 H1 g1 p⟩
theorem et_and (h : ET K pen H0 t L fun a => (a = true → ET K pen H0 u L Pb) ∧ (a = false → Pb false)) : ET K pen H0 (tAnd t u) L Pb := fun σ G H e Q q =>
  h σ G H e _ fun a G1 H1 g1 h1 => by
    cases a with
    | true => exact h1.1 rfl σ G1 H1 (e.go g1) Q fun b G2 H2 g2 p => q b G2 H2 (g1.trans g2) p
    | false => exact q false G1 H1 g1 (h1.2 rfl)
theorem et_or (h : ET K pen H0 t L fun a => (a = true → Pb true) ∧ (a = false → ET K pen H0 u L Pb)) : ET K pen H0 (tOr t u) L Pb := fun σ G H e Q q =>
  h σ G H e _ fun a G1 H1 g1 h1 => by
    cases a with
    | false => exact h1.2 rfl σ G1 H1 (e.go g1) Q fun b G2 H2 g2 p => q b G2 H2 (g1.trans g2) p
    | true => exact q true G1 H1 g1 (h1.1 rfl)
theorem et_not (h : ET K pen H0 t L fun a => Pb (!a)) : ET K pen H0 (tNot t) L Pb := fun σ G H e Q q => h σ G H e _ fun a G1 H1 g1 h1 => q (!a) G1 H1 g1 h1
theorem e_andV (h : E K pen H0 ta L fun d => ∃ a, d = .bool a ∧ (a = true → E K pen H0 tb L P) ∧ (a = false → P (.bool false))) : E K pen H0 (tAndV ta tb) L P := fun σ G H e Q q =>
  h σ G H e _ fun v d G1 H1 g1 d1 ⟨a, ha, h1, h2⟩ => by
    subst ha
    cases d1
    refine ⟨a, rfl, ?_⟩
    cases a with
    | true => exact h1 rfl σ G1 H1 (e.go g1) Q fun w b G2 H2 g2 d2 p => q w b G2 H2 (g1.trans g2) d2 p
    | false => exact q _ _ G1 H1 g1 (.bl false) (h2 rfl)
theorem e_orV (h : E K pen H0 ta L fun d => ∃ a, d = .bool a ∧ (a = true → P (.bool true)) ∧ (a = false → E K pen H0 tb L P)) : E K pen H0 (tOrV ta tb) L P := fun σ G H e Q q =>
  h σ G H e _ fun v d G1 H1 g1 d1 ⟨a, ha, h1, h2⟩ => by
    subst ha
    cases d1
    refine ⟨a, rfl, ?_⟩
    cases a with
    | false => exact h2 rfl σ G1 H1 (e.go g1) Q fun w b G2 H2 g2 d2 p => q w b G2 H2 (g1.trans g2) d2 p
    | true => exact q _ _ G1 H1 g1 (.bl true) (h1 rfl)
theorem e_notV (h : E K pen H0 ta L fun d => ∃ a, d = .bool a ∧ P (.bool (!a))) : E K pen H0 (tNotV ta) L P := fun σ G H e Q q =>
  h σ G H e _ fun v d G1 H1 g1 d1 ⟨a, ha, h1⟩ => by
    subst ha
    cases d1
    exact ⟨a, rfl, q _ _ G1 H1 g1 (.bl _) h1⟩
theorem e_if (h : ET K pen H0 t L fun a => (a = true → E K pen H0 ta L P) ∧ (a = false → E K pen H0 tb L P)) : E K pen H0 (tIf t ta tb) L P := fun σ G H e Q q =>
  h σ G H e _ fun a G1 H1 g1 h1 => by
    cases a with
    | true => exact h1.1 rfl σ G1 H1 (e.go g1) Q fun w b G2 H2 g2 d2 p => q w b G2 H2 (g1.trans g2) d2 p
    | false => exact h1.2 rfl σ G1 H1 (e.go g1) Q fun w b G2 H2 g2 d2 p => q w b G2 H2 (g1.trans g2) d2 p
theorem e_chain {r r' : R2} (h : E K pen H0 ta L fun a => E K pen H0 tb L fun b => R2d K pen r a b fun z => ∃ k, z = .bool k ∧ (k = true → E K pen H0 tc L fun c => R2d K pen r' b c P) ∧ (k = false → P (.bool false))) : E K pen H0 (tChain r r' ta tb tc) L P := fun σ G H e Q q =>
  h σ G H e _ fun v a G1 H1 g1 d1 h1 => h1 σ G1 H1 (e.go g1) _ fun w b G2 H2 g2 d2 h2 =>
    h2 v w G2 H2 g2.vw (dp_mono g2.gg _ _ d1) d2 _ fun z c G3 H3 g3 d3 ⟨k, hk, p1, p2⟩ => by
      subst hk
      cases d3
      refine ⟨k, rfl, ?_⟩
      cases k with
      | true =>
        exact p1 rfl σ G3 H3 (e.go ((g1.trans g2).trans g3)) _ fun y c G4 H4 g4 d4 p => p w y G4 H4 g4.vw (dp_mono (g3.gg.trans g4.gg) _ _ d2) d4 Q fun z c G5 H5 g5 d5 p' =>
          q z c G5 H5 ((((g1.trans g2).trans g3).trans g4).trans g5) d5 p'
      | false => exact q _ _ G3 H3 ((g1.trans g2).trans g3) (.bl false) (p2 rfl)
/-! operators by values -/
theorem r_I0 {g : Int → Int → V} {f : Int → Int → PyData} {i j : Int} (hg : ∀ G, Dp K G (g i j) (f i j)) (p : P (f i j)) : R2d K pen (rI0 g) (.int i) (.int j) P := fun x y G H v hx hy Q q => by
  cases hx
  cases hy
  exact ⟨i, j, rfl, rfl, q _ _ G H (.refl v) (hg G) p⟩
theorem r_I {C : Int → Int → Prop} {g : Int → Int → V} {f : Int → Int → PyData} {i j : Int} (hg : ∀ G, Dp K G (g i j) (f i j)) (hc : C i j) (p : P (f i j)) : R2d K pen (rI C g) (.int i) (.int j) P := fun x y G H v hx hy Q q => by
  cases hx
  cases hy
  exact ⟨i, j, rfl, rfl, hc, q _ _ G H (.refl v) (hg G) p⟩
theorem r_add {i j : Int} (p : P (.int (i + j))) : R2d K pen (rI0 fun i j => .int (i + j)) (.int i) (.int j) P := r_I0 (f := fun i j => .int (i + j)) (fun _ => .int _) p
theorem r_sub {i j : Int} (p : P (.int (i - j))) : R2d K pen (rI0 fun i j => .int (i - j)) (.int i) (.int j) P := r_I0 (f := fun i j => .int (i - j)) (fun _ => .int _) p
theorem r_mul {i j : Int} (hc : CMul i j) (p : P (.int (i * j))) : R2d K pen (rI CMul fun i j => .int (i * j)) (.int i) (.int j) P := r_I (f := fun i j => .int (i * j)) (fun _ => .int _) hc p
theorem r_mod {i j : Int} (hc : 0 < j) (p : P (.int (i % j))) : R2d K pen (rI (fun _ j => 0 < j) fun i j => .int (i % j)) (.int i) (.int j) P := r_I (f := fun i j => .int (i % j)) (fun _ => .int _) hc p
theorem r_lt {i j : Int} (p : P (.bool (decide (i < j)))) : R2d K pen (rI0 fun i j => .bl (decide (i < j))) (.int i) (.int j) P := r_I0 (f := fun i j => .bool (decide (i < j))) (fun _ => .bl _) p
theorem r_le {i j : Int} (p : P (.bool (decide (i ≤ j)))) : R2d K pen (rI0 fun i j => .bl (decide (i ≤ j))) (.int i) (.int j) P := r_I0 (f := fun i j => .bool (decide (i ≤ j))) (fun _ => .bl _) p
theorem r_gt {i j : Int} (p : P (.bool (decide (j < i)))) : R2d K pen (rI0 fun i j => .bl (decide (j < i))) (.int i) (.int j) P := r_I0 (f := fun i j => .bool (decide (j < i))) (fun _ => .bl _) p
theorem r_ge {i j : Int} (p : P (.bool (decide (j ≤ i)))) : R2d K pen (rI0 fun i j => .bl (decide (j ≤ i))) (.int i) (.int j) P := r_I0 (f := fun i j => .bool (decide (j ≤ i))) (fun _ => .bl _) p
theorem r_eqI {i j : Int} (p : P (.bool (decide (i = j)))) : R2d K pen rEq (.int i) (.int j) P := fun x y G H v hx hy Q q => by
  cases hx
  cases hy
  refine ⟨rfl, ?_⟩
  rw [show decide (V.int i = V.int j) = decide (i = j) by rw [dec_int]; exact Bool.beq_eq_decide_eq i j]
  exact q _ _ G H (.refl v) (.bl _) p
theorem r_neI {i j : Int} (p : P (.bool (!decide (i = j)))) : R2d K pen rNe (.int i) (.int j) P := fun x y G H v hx hy Q q => by
  cases hx
  cases hy
  refine ⟨rfl, ?_⟩
  rw [show decide (V.int i = V.int j) = decide (i = j) by rw [dec_int]; exact Bool.beq_eq_decide_eq i j]
  exact q _ _ G H (.refl v) (.bl _) p
theorem r_eqB {i j : Bool} (p : P (.bool (decide (i = j)))) : R2d K pen rEq (.bool i) (.bool j) P := fun x y G H v hx hy Q q => by
  cases hx
  cases hy
  refine ⟨rfl, ?_⟩
  rw [show decide (V.bl i = V.bl j) = decide (i = j) by rw [dec_bl]; exact Bool.beq_eq_decide_eq i j]
  exact q _ _ G H (.refl v) (.bl _) p
theorem r_eqS {i j : Str} (p : P (.bool (decide (i = j)))) : R2d K pen rEq (.str i) (.str j) P := fun x y G H v hx hy Q q => by
  cases hx
  cases hy
  refine ⟨rfl, ?_⟩
  rw [show decide (V.str i = V.str j) = decide (i = j) by rw [dec_str]; exact Bool.beq_eq_decide_eq i j]
  exact q _ _ G H (.refl v) (.bl _) p
theorem r_eqD {a b : PyData} (ha : SeqAt.shaped a = true) (hb : SeqAt.shaped b = true) (p : P (.bool (PyData.eqv a b))) : R2d K pen (rEqD K) a b P := fun x y G H v hx hy Q q =>
  ⟨a, b, dp_mono v.vw _ _ hx, dp_mono v.vw _ _ hy, ha, hb, q _ _ G H (.refl v) (.bl _) p⟩
theorem r_neD {a b : PyData} (ha : SeqAt.shaped a = true) (hb : SeqAt.shaped b = true) (p : P (.bool (!PyData.eqv a b))) : R2d K pen (rNeD K) a b P := fun x y G H v hx hy Q q =>
  ⟨a, b, dp_mono v.vw _ _ hx, dp_mono v.vw _ _ hy, ha, hb, q _ _ G H (.refl v) (.bl _) p⟩
theorem r_isN {a : PyData} (p : P (.bool (match a with | .none => true | _ => false))) : R2d K pen (fun x y H Q => y = .non ∧ Q (.bl (decide (x = .non))) H) a .none P := fun x y G H v hx hy Q q => by
  cases hy
  refine ⟨rfl, q _ _ G H (.refl v) ?_ p⟩
  cases hx <;> exact .bl _
theorem r_ixT {ds : List PyData} {i : Int} {d : PyData} (h : atI ds i = some d) (p : P d) : R2d K pen (rIxT K) (.tuple ds) (.int i) P := fun x y G H v hx hy Q q => by
  cases hy
  cases hx with
  | tup hs ha =>
    rename_i a xs
    unfold atI at h
    cases hj : ixN ds.length i with
    | none => rw [hj] at h; cases h
    | some j =>
      rw [hj] at h
      obtain ⟨w, h1, h2⟩ := dpa_get ha (show ds[j]? = some d from h)
      refine ⟨_, xs, i, w, rfl, rfl, sqT_mono v.vw hs, ?_, q w d G H (.refl v) h2 p⟩
      unfold atI
      rw [dpa_len ha, hj]
      exact h1
theorem r_ixL {ds : List PyData} {i : Int} {d : PyData} (h : atI ds i = some d) (p : P d) : R2d K pen (rIxL K) (.list ds) (.int i) P := fun x y G H v hx hy Q q => by
  cases hy
  cases hx with
  | lst hs ha =>
    rename_i a xs
    unfold atI at h
    cases hj : ixN ds.length i with
    | none => rw [hj] at h; cases h
    | some j =>
      rw [hj] at h
      obtain ⟨w, h1, h2⟩ := dpa_get ha (show ds[j]? = some d from h)
      refine ⟨_, xs, i, w, rfl, rfl, sqL_mono v.vw hs, ?_, q w d G H (.refl v) h2 p⟩
      unfold atI
      rw [dpa_len ha, hj]
      exact h1
/-- len -/
theorem c_len {ds es : List PyData} (h : ds = [.tuple es] ∨ ds = [.list es]) (p : P (.int es.length)) : RCd K pen (fun xs H Q => ∃ p ys, xs = [.ref p] ∧ (SqL K H p ys ∨ SqT K H p ys) ∧ Q (.int ys.length) H) ds P := fun vs G H v hv Q q => by
  rcases h with rfl | rfl
  · cases hv with
    | cons h1 h2 =>
      cases h2
      cases h1 with
      | tup hs ha =>
        refine ⟨_, _, rfl, .inr (sqT_mono v.vw hs), ?_⟩
        rw [dpa_len ha]
        exact q _ _ G H (.refl v) (.int _) p
  · cases hv with
    | cons h1 h2 =>
      cases h2
      cases h1 with
      | lst hs ha =>
        refine ⟨_, _, rfl, .inl (sqL_mono v.vw hs), ?_⟩
        rw [dpa_len ha]
        exact q _ _ G H (.refl v) (.int _) p
/-- list(xs) -/
theorem c_list {ds es : List PyData} (h : ds = [.tuple es] ∨ ds = [.list es]) (p : P (.list es)) : RCd K pen (fun xs H Q => ∃ p ys, xs = [.ref p] ∧ (SqL K H p ys ∨ SqT K H p ys) ∧ ∀ l, H l = none → Q (.ref l) (upd H l (.lst ys))) ds P := fun vs G H v hv Q q => by
  rcases h with rfl | rfl
  · cases hv with
    | cons h1 h2 =>
      cases h2
      cases h1 with
      | tup hs ha =>
        refine ⟨_, _, rfl, .inr (sqT_mono v.vw hs), fun l hl => ?_⟩
        rename_i xs
        have g := Go.new v (o := .lst xs) hl
        exact q _ _ _ _ g (.lst (.inl (.inl upd_same)) (dpa_mono g.gg _ _ ha)) p
  · cases hv with
    | cons h1 h2 =>
      cases h2
      cases h1 with
      | lst hs ha =>
        refine ⟨_, _, rfl, .inl (sqL_mono v.vw hs), fun l hl => ?_⟩
        rename_i xs
        have g := Go.new v (o := .lst xs) hl
        exact q _ _ _ _ g (.lst (.inl (.inl upd_same)) (dpa_mono g.gg _ _ ha)) p
/-- tuple(xs) -/
theorem c_tuple {ds es : List PyData} (h : ds = [.tuple es] ∨ ds = [.list es]) (p : P (.tuple es)) : RCd K pen (fun xs H Q => ∃ p ys, xs = [.ref p] ∧ ((SqL K H p ys ∧ ∀ l, H l = none → Q (.ref l) (upd H l (.tup ys))) ∨ (SqT K H p ys ∧ Q (.ref p) H))) ds P := fun vs G H v hv Q q => by
  rcases h with rfl | rfl
  · cases hv with
    | cons h1 h2 =>
      cases h2
      cases h1 with
      | tup hs ha => exact ⟨_, _, rfl, .inr ⟨sqT_mono v.vw hs, q _ _ G H (.refl v) (.tup hs ha) p⟩⟩
  · cases hv with
    | cons h1 h2 =>
      cases h2
      cases h1 with
      | lst hs ha =>
        refine ⟨_, _, rfl, .inl ⟨sqL_mono v.vw hs, fun l hl => ?_⟩⟩
        rename_i xs
        have g := Go.new v (o := .tup xs) hl
        exact q _ _ _ _ g (.tup (.inl (.inl upd_same)) (dpa_mono g.gg _ _ ha)) p
theorem c_min2 {i j : Int} (p : P (.int (if j < i then j else i))) : RCd K pen (fun xs H Q => ∃ i j, xs = [.int i, .int j] ∧ Q (.int (if j < i then j else i)) H) [.int i, .int j] P := fun vs G H v hv Q q => by
  cases hv with
  | cons h1 h2 =>
    cases h2 with
    | cons h3 h4 =>
      cases h4
      cases h1
      cases h3
      exact ⟨i, j, rfl, q _ _ G H (.refl v) (.int _) p⟩
theorem c_max2 {i j : Int} (p : P (.int (if j > i then j else i))) : RCd K pen (fun xs H Q => ∃ i j, xs = [.int i, .int j] ∧ Q (.int (if j > i then j else i)) H) [.int i, .int j] P := fun vs G H v hv Q q => by
  cases hv with
  | cons h1 h2 =>
    cases h2 with
    | cons h3 h4 =>
      cases h4
      cases h1
      cases h3
      exact ⟨i, j, rfl, q _ _ G H (.refl v) (.int _) p⟩
theorem c_intB {b : Bool} (p : P (.int (if b then 1 else 0))) : RCd K pen (fun xs H Q => (∃ i, xs = [.int i] ∧ Q (.int i) H) ∨ ∃ k, xs = [.bl k] ∧ Q (.int (if k then 1 else 0)) H) [.bool b] P := fun vs G H v hv Q q => by
  cases hv with
  | cons h1 h2 =>
    cases h2
    cases h1
    exact .inr ⟨b, rfl, q _ _ G H (.refl v) (.int _) p⟩
end
end Dl
set_option Elab.async false
set_option linter.all false
set_option maxRecDepth 100000
namespace Dl
open PySem PySem.Spec PyProof.Rows L2

/-! ### statements -/
structure Dn where
  nx : Lv → Prop
  rt : PyData → Prop
  bk : Lv → Prop := fun _ => False
  ct : Lv → Prop := fun _ => False
structure Gx (pen : Pc) (H0 G H G' H' : Hp) : Prop where
  gg : Same G G'
  nw : ∀ a, H0 a ≠ none → G' a = G a
  od : ∀ a o, ¬ IsPn pen a → H0 a ≠ none → H a = some o → H' a = some o
theorem Gx.refl {pen : Pc} {H0 G H : Hp} : Gx pen H0 G H G H := ⟨Same.refl _, fun _ _ => rfl, fun _ _ _ _ e => e⟩
theorem Gx.trans {pen : Pc} {H0 G H G1 H1 G2 H2 : Hp} (a : Gx pen H0 G H G1 H1) (b : Gx pen H0 G1 H1 G2 H2) : Gx pen H0 G H G2 H2 :=
  ⟨a.gg.trans b.gg, fun x h => (b.nw x h).trans (a.nw x h), fun x o p h e => b.od x o p h (a.od x o p h e)⟩
section
variable {K : PySem.W.Frag} {pen : Pc} {H0 G H G' H' : Hp} {σ : L2.St} {L : Lv}
theorem Ev.gx (e : Ev K pen H0 G H σ L) (g : Go pen G H G' H') : Gx pen H0 G H G' H' := ⟨g.gg, fun a h => g.nw a (e.dom a h), fun a o p _ q => g.od a o p q⟩
/-- a slot forgotten -/
theorem Ev.unset (e : Ev K pen H0 G H σ L) (i : Nat) : Ev K pen H0 G H (σ.set i none) (L.set i none) := by
  have nj : ∀ (j : Nat) (av : AV), (L.set i none)[j]? = some (some av) → i ≠ j := fun j av hj q => by
    subst q
    have hl : i < L.length := by
      have := (List.getElem?_eq_some_iff.mp hj).1
      rw [List.length_set] at this; exact this
    rw [List.getElem?_set_self hl] at hj
    cases hj
  refine ⟨e.vw, e.h0, e.dom, by rw [List.length_set, List.length_set]; exact e.len, fun j av hj => ?_, fun j k ds es l h1 h2 h3 h4 => ?_⟩
  · have q := nj j av hj
    rw [List.getElem?_set_ne q] at hj
    obtain ⟨w, h1, h2⟩ := e.sl j av hj
    exact ⟨w, by rw [List.getElem?_set_ne q]; exact h1, h2⟩
  · have q1 := nj j _ h1
    have q2 := nj k _ h2
    rw [List.getElem?_set_ne q1] at h1 h3
    rw [List.getElem?_set_ne q2] at h2 h4
    exact e.ow j k ds es l h1 h2 h3 h4
end
section
variable (K : PySem.W.Frag) (pen : Pc) (H0 : Hp)
def S (t : TS) (L : Lv) (D : Dn) : Prop := ∀ (σ : L2.St) (G H : Hp) (N : Ends), Ev K pen H0 G H σ L →
  (∀ σ' G' H' L', Gx pen H0 G H G' H' → Ev K pen H0 G' H' σ' L' → D.nx L' → N.nx σ' H') →
  (∀ v d G' H', Gx pen H0 G H G' H' → Vw pen G' H' → Dp K G' v d → D.rt d → N.rt v H') →
  (∀ σ' G' H' L', Gx pen H0 G H G' H' → Ev K pen H0 G' H' σ' L' → D.bk L' → N.bk σ' H') →
  (∀ σ' G' H' L', Gx pen H0 G H G' H' → Ev K pen H0 G' H' σ' L' → D.ct L' → N.ct σ' H') → t N σ H
def GT (g : TG) (d : PyData) (L : Lv) (P : Lv → Prop) : Prop := ∀ (σ : L2.St) (G H : Hp) (v : V), Ev K pen H0 G H σ L → Dp K G v d → ∀ R : L2.St → Hp → Prop, (∀ σ' L', Ev K pen H0 G H σ' L' → P L' → R σ' H) → g v σ H R
def GTs (g : TGs) (ds : List PyData) (L : Lv) (P : Lv → Prop) : Prop := ∀ (σ : L2.St) (G H : Hp) (vs : List V), Ev K pen H0 G H σ L → DpAll K G vs ds → ∀ R : L2.St → Hp → Prop, (∀ σ' L', Ev K pen H0 G H σ' L' → P L' → R σ' H) → g vs σ H R
end
section
variable {K : PySem.W.Frag} {pen : Pc} {H0 : Hp} {L : Lv} {P P' : PyData → Prop} {ta tb tc te ti : TE} {tl tr : TA} {tt : TT} {t u : TS} {Pb : Bool → Prop} {D : Dn} {g : TG} {gs : TGs}
theorem g_name {i : Nat} {d : PyData} {P : Lv → Prop} (h : P (L.set i (some (.d d)))) : GT K pen H0 (gName i) d L P := fun σ G H v e hd R r => r _ _ (e.set hd) h
theorem g_tup {n : Nat} {ds : List PyData} {P : Lv → Prop} (hn : ds.length = n) (h : GTs K pen H0 gs ds L P) : GT K pen H0 (gTup K n gs) (.tuple ds) L P := fun σ G H v e hd R r => by
  cases hd with
  | tup hs ha => exact ⟨_, _, rfl, sqT_mono e.vw.vw hs, (dpa_len ha).trans hn, h σ G H _ e ha R r⟩
theorem gs_nil {P : Lv → Prop} (h : P L) : GTs K pen H0 gNil [] L P := fun σ G H vs e hd R r => by
  cases hd
  exact ⟨rfl, r _ _ e h⟩
theorem gs_cons {d : PyData} {ds : List PyData} {P : Lv → Prop} (h : GT K pen H0 g d L fun L' => GTs K pen H0 gs ds L' P) : GTs K pen H0 (gCons g gs) (d :: ds) L P := fun σ G H vs e hd R r => by
  cases hd with
  | cons h1 h2 =>
    refine ⟨_, _, rfl, h σ G H _ e h1 _ fun σ' L' e' h' => ?_⟩
    exact h' σ' G H _ e' h2 R r
theorem s_seq (h : S K pen H0 t L { D with nx := fun L' => S K pen H0 u L' D }) : S K pen H0 (tSeq t u) L D := fun σ G H N e n1 n2 n3 n4 =>
  h σ G H _ e (fun σ' G' H' L' x e' h' => h' σ' G' H' N e' (fun σ2 G2 H2 L2 x2 e2 q => n1 σ2 G2 H2 L2 (x.trans x2) e2 q) (fun v d G2 H2 x2 vw hd q => n2 v d G2 H2 (x.trans x2) vw hd q)
    (fun σ2 G2 H2 L2 x2 e2 q => n3 σ2 G2 H2 L2 (x.trans x2) e2 q) (fun σ2 G2 H2 L2 x2 e2 q => n4 σ2 G2 H2 L2 (x.trans x2) e2 q)) n2 n3 n4
theorem s_next (h : D.nx L) : S K pen H0 tNext L D := fun σ G H N e n1 _ _ _ => n1 σ G H L .refl e h
theorem s_ret (h : E K pen H0 te L D.rt) : S K pen H0 (tRet te) L D := fun σ G H N e _ n2 _ _ => h σ G H e _ fun v d G' H' g hd p => n2 v d G' H' (e.gx g) g.vw hd p
theorem s_asg {i : Nat} (h : E K pen H0 te L fun d => D.nx (L.set i (some (.d d)))) : S K pen H0 (tAsg te (gName i)) L D := fun σ G H N e n1 _ _ _ =>
  h σ G H e _ fun v d G' H' g hd p => n1 _ G' H' _ (e.gx g) ((e.go g).set hd) p
theorem s_asgG (h : E K pen H0 te L fun d => GT K pen H0 g d L D.nx) : S K pen H0 (tAsg te g) L D := fun σ G H N e n1 _ _ _ =>
  h σ G H e _ fun v d G' H' go hd p => p σ G' H' v (e.go go) hd _ fun σ' L' e' p' => n1 σ' G' H' L' (e.gx go) e' p'
theorem s_drop (h : E K pen H0 te L fun _ => D.nx L) : S K pen H0 (tDrop te) L D := fun σ G H N e n1 _ _ _ => h σ G H e _ fun v d G' H' go _ p => n1 σ G' H' L (e.gx go) (e.go go) p
theorem s_if (h : ET K pen H0 tt L fun b => (b = true → S K pen H0 t L D) ∧ (b = false → S K pen H0 u L D)) : S K pen H0 (tIfS tt t u) L D := fun σ G H N e n1 n2 n3 n4 =>
  h σ G H e _ fun b G' H' go p => by
    have x := e.gx go
    have go2 : ∀ {t : TS}, S K pen H0 t L D → t N σ H' := fun {t} h => h σ G' H' N (e.go go) (fun σ2 G2 H2 L2 x2 e2 q => n1 σ2 G2 H2 L2 (x.trans x2) e2 q) (fun v d G2 H2 x2 vw hd q => n2 v d G2 H2 (x.trans x2) vw hd q)
      (fun σ2 G2 H2 L2 x2 e2 q => n3 σ2 G2 H2 L2 (x.trans x2) e2 q) (fun σ2 G2 H2 L2 x2 e2 q => n4 σ2 G2 H2 L2 (x.trans x2) e2 q)
    cases b with
    | true => exact go2 (p.1 rfl)
    | false => exact go2 (p.2 rfl)
theorem S.mono {D' : Dn} (h : S K pen H0 t L D) (h1 : ∀ L, D.nx L → D'.nx L) (h2 : ∀ d, D.rt d → D'.rt d) (h3 : ∀ L, D.bk L → D'.bk L) (h4 : ∀ L, D.ct L → D'.ct L) : S K pen H0 t L D' := fun σ G H N e n1 n2 n3 n4 =>
  h σ G H N e (fun σ' G' H' L' x e' q => n1 σ' G' H' L' x e' (h1 _ q)) (fun v d G' H' x vw hd q => n2 v d G' H' x vw hd (h2 _ q)) (fun σ' G' H' L' x e' q => n3 σ' G' H' L' x e' (h3 _ q)) (fun σ' G' H' L' x e' q => n4 σ' G' H' L' x e' (h4 _ q))
/-! loops -/
theorem s_forT (h : E K pen H0 te L fun d => ∃ ds, d = .tuple ds ∧ ∃ I : Nat → Lv → Prop, I 0 L ∧ (∀ (i : Nat) x L', ds[i]? = some x → I i L' → GT K pen H0 g x L' fun L2 => S K pen H0 t L2 { D with nx := I (i + 1), ct := I (i + 1), bk := D.nx }) ∧ (∀ L', I ds.length L' → D.nx L')) :
    S K pen H0 (tFor (iTup K te) g t) L D := fun σ G H N e n1 n2 n3 n4 => h σ G H e _ fun v d G1 H1 go hd ⟨ds, hds, I, i0, is, id⟩ => by
  subst hds
  cases hd with
  | tup hs ha =>
    rename_i a xs
    have x1 := e.gx go
    refine ⟨a, rfl, ⟨xs, sqT_mono go.vw.vw hs⟩, ?_⟩
    refine for_tup (fun i σ' H' => ∃ G' L', Gx pen H0 G1 H1 G' H' ∧ Ev K pen H0 G' H' σ' L' ∧ I i L') ⟨G1, L, .refl, e.go go, i0⟩ (fun i σ' H' _ ⟨G', L', x, e', _⟩ => sqT_mono (x.gg.trans e'.vw.vw) hs) (fun i y σ' H' hy ⟨G', L', x, e', q⟩ => ?_) (fun σ' H' ⟨G', L', x, e', q⟩ => ?_)
    · obtain ⟨z, hz, hd⟩ := dpa_getV ha hy
      refine is i z L' hz q σ' G' H' y e' (dp_mono x.gg _ _ hd) _ fun σ2 L2 e2 h2 => ?_
      exact h2 σ2 G' H' _ e2 (fun σ3 G3 H3 L3 x3 e3 q3 => ⟨G3, L3, x.trans x3, e3, q3⟩) (fun v d G3 H3 x3 vw hd q3 => n2 v d G3 H3 (x1.trans (x.trans x3)) vw hd q3)
        (fun σ3 G3 H3 L3 x3 e3 q3 => n1 σ3 G3 H3 L3 (x1.trans (x.trans x3)) e3 q3) (fun σ3 G3 H3 L3 x3 e3 q3 => ⟨G3, L3, x.trans x3, e3, q3⟩)
    · rw [dpa_len ha] at q
      exact n1 σ' G' H' L' (x1.trans x) e' (id L' q)
theorem s_forL (h : E K pen H0 te L fun d => ∃ ds, d = .list ds ∧ ∃ I : Nat → Lv → Prop, I 0 L ∧ (∀ (i : Nat) x L', ds[i]? = some x → I i L' → GT K pen H0 g x L' fun L2 => S K pen H0 t L2 { D with nx := I (i + 1), ct := I (i + 1), bk := D.nx }) ∧ (∀ L', I ds.length L' → D.nx L')) :
    S K pen H0 (tFor (iList K te) g t) L D := fun σ G H N e n1 n2 n3 n4 => h σ G H e _ fun v d G1 H1 go hd ⟨ds, hds, I, i0, is, id⟩ => by
  subst hds
  cases hd with
  | lst hs ha =>
    rename_i a xs
    have x1 := e.gx go
    refine ⟨a, rfl, ⟨xs, sqL_mono go.vw.vw hs⟩, ?_⟩
    refine for_list (fun i σ' H' => ∃ G' L', Gx pen H0 G1 H1 G' H' ∧ Ev K pen H0 G' H' σ' L' ∧ I i L') ⟨G1, L, .refl, e.go go, i0⟩ (fun i σ' H' _ ⟨G', L', x, e', _⟩ => sqL_mono (x.gg.trans e'.vw.vw) hs) (fun i y σ' H' hy ⟨G', L', x, e', q⟩ => ?_) (fun σ' H' ⟨G', L', x, e', q⟩ => ?_)
    · obtain ⟨z, hz, hd⟩ := dpa_getV ha hy
      refine is i z L' hz q σ' G' H' y e' (dp_mono x.gg _ _ hd) _ fun σ2 L2 e2 h2 => ?_
      exact h2 σ2 G' H' _ e2 (fun σ3 G3 H3 L3 x3 e3 q3 => ⟨G3, L3, x.trans x3, e3, q3⟩) (fun v d G3 H3 x3 vw hd q3 => n2 v d G3 H3 (x1.trans (x.trans x3)) vw hd q3)
        (fun σ3 G3 H3 L3 x3 e3 q3 => n1 σ3 G3 H3 L3 (x1.trans (x.trans x3)) e3 q3) (fun σ3 G3 H3 L3 x3 e3 q3 => ⟨G3, L3, x.trans x3, e3, q3⟩)
    · rw [dpa_len ha] at q
      exact n1 σ' G' H' L' (x1.trans x) e' (id L' q)
theorem s_forR (h : EA K pen H0 tl L fun ds => ∃ n : Nat, ds = [.int n] ∧ n ≤ 100000 ∧ ∃ I : Nat → Lv → Prop, I 0 L ∧ (∀ (i : Nat) L', i < n → I i L' → GT K pen H0 g (.int i) L' fun L2 => S K pen H0 t L2 { D with nx := I (i + 1), ct := I (i + 1), bk := D.nx }) ∧ (∀ L', I n L' → D.nx L')) :
    S K pen H0 (tFor (iRng1 tl) g t) L D := fun σ G H N e n1 n2 n3 n4 => h σ G H e _ fun vs ds G1 H1 go hd ⟨n, hds, hn, I, i0, is, id⟩ => by
  subst hds
  cases hd with
  | cons hd hd2 =>
    cases hd2
    cases hd
    have x1 := e.gx go
    refine ⟨(n : Int), rfl, by omega, by omega, ?_⟩
    rw [Int.toNat_natCast]
    refine for_range (lo := 0) (n := n) (fun i σ' H' => ∃ G' L', Gx pen H0 G1 H1 G' H' ∧ Ev K pen H0 G' H' σ' L' ∧ I i L') ⟨G1, L, .refl, e.go go, i0⟩ (fun i σ' H' hi ⟨G', L', x, e', q⟩ => ?_) (fun σ' H' ⟨G', L', x, e', q⟩ => ?_)
    · refine is i L' hi q σ' G' H' _ e' (by rw [Int.zero_add]; exact .int _) _ fun σ2 L2 e2 h2 => ?_
      exact h2 σ2 G' H' _ e2 (fun σ3 G3 H3 L3 x3 e3 q3 => ⟨G3, L3, x.trans x3, e3, q3⟩) (fun v d G3 H3 x3 vw hd q3 => n2 v d G3 H3 (x1.trans (x.trans x3)) vw hd q3)
        (fun σ3 G3 H3 L3 x3 e3 q3 => n1 σ3 G3 H3 L3 (x1.trans (x.trans x3)) e3 q3) (fun σ3 G3 H3 L3 x3 e3 q3 => ⟨G3, L3, x.trans x3, e3, q3⟩)
    · exact n1 σ' G' H' L' (x1.trans x) e' (id L' q)
/-! calls -/
def SpX {α : Type} (K : PySem.W.Frag) (ts : List Addr) (Wf : α → Prop) (enc : α → List PyData) (res : α → PyData → Prop) : Sp := fun vs H Q _ => ∃ (x : α) (G : Hp), Vw ⟨none, ts⟩ G H ∧ DpAll K G vs (enc x) ∧ Wf x ∧ ∀ v d G' H', Go ⟨none, ts⟩ G H G' H' → Dp K G' v d → res x d → Q v H'
def SpXP {α : Type} (K : PySem.W.Frag) (ts : List Addr) (Wf : α → Prop) (enc : α → List PyData) (res : α → PyData → Prop) : Sp := fun vs H Q _ => ∃ (x : α) (p : Pn) (G : Hp) (us : List V), vs = .ref p.a :: us ∧ Vw ⟨some p, ts⟩ G H ∧ DpAll K G us (enc x) ∧ Wf x ∧ ∀ v d G' H', Go ⟨some p, ts⟩ G H G' H' → Dp K G' v d → res x d → Q v H'
theorem e_callX {α : Type} {pn : Option Pn} {ts : List Addr} {Wf : α → Prop} {enc : α → List PyData} {res : α → PyData → Prop} {X : XK} (h : EA K ⟨pn, ts⟩ H0 tl L fun ds => ∃ x, ds = enc x ∧ Wf x ∧ ∀ d, res x d → P d) : E K ⟨pn, ts⟩ H0 (tCall (SpX K ts Wf enc res) [] X tl) L P := fun σ G H e Q q =>
  h σ G H e _ fun vs ds G1 H1 go hd ⟨x, hx, h1, h2⟩ => ⟨x, G1, go.vw.plain, by rw [List.append_nil, ← hx]; exact hd, h1, fun v d G' H' go2 hd2 p => q v d G' H' (go.trans (go2.lift go.vw)) hd2 (h2 d p)⟩
theorem e_callXP {α : Type} {pn : Option Pn} {ts : List Addr} {Wf : α → Prop} {enc : α → List PyData} {res : α → PyData → Prop} {X : XK} {i : Nat} (hi : L[i]? = some (some .pen)) (h : EA K ⟨pn, ts⟩ H0 tl L fun ds => ∃ x, ds = enc x ∧ Wf x ∧ ∀ d, res x d → P d) : E K ⟨pn, ts⟩ H0 (tCall (SpXP K ts Wf enc res) [] X (tCons (tVar i) tl)) L P := fun σ G H e Q q => by
  obtain ⟨v, hv, p, hp, rfl⟩ := e.sl i _ hi
  refine ⟨_, hv, h σ G H e _ fun vs ds G1 H1 go hd ⟨x, hx, h1, h2⟩ => ?_⟩
  have hp : pn = some p := hp
  subst hp
  exact ⟨x, p, G1, vs, by rw [List.append_nil], go.vw, by rw [← hx]; exact hd, h1, fun v d G' H' go2 hd2 p => q v d G' H' (go.trans go2) hd2 (h2 d p)⟩
/-! defs -/
def st0 (N : List Str) (ds : List PyData) : Lv := ds.map (fun d => some (.d d)) ++ List.replicate (N.length - ds.length) none
def stP (N : List Str) (ds : List PyData) : Lv := some .pen :: (ds.map (fun d => some (.d d)) ++ List.replicate (N.length - (ds.length + 1)) none)
theorem start_get {N : List Str} {vs : List V} {ds : List PyData} {G : Hp} (h : DpAll K G vs ds) : ∀ (i : Nat) av, (st0 N ds)[i]? = some (some av) → ∃ v d, av = .d d ∧ (start N vs)[i]? = some (some v) ∧ Dp K G v d := fun i av hi => by
  unfold st0 at hi
  unfold L2.start
  by_cases q : i < ds.length
  · rw [List.getElem?_append_left (by rw [List.length_map]; exact q), List.getElem?_map] at hi
    cases hd : ds[i]? with
    | none => rw [hd] at hi; cases hi
    | some d =>
      rw [hd] at hi
      obtain ⟨v, h1, h2⟩ := dpa_get h hd
      refine ⟨v, d, (Option.some.inj (Option.some.inj hi)).symm, ?_, h2⟩
      rw [List.getElem?_append_left (by rw [List.length_map, dpa_len h]; exact q), List.getElem?_map, h1]
      rfl
  · rw [List.getElem?_append_right (by rw [List.length_map]; omega)] at hi
    have z := List.mem_of_getElem? hi
    have z2 := (List.mem_replicate.mp z).2
    cases z2
theorem ev_start {ts : List Addr} {N : List Str} {vs : List V} {ds : List PyData} {G H : Hp} (h : DpAll K G vs ds) (v : Vw ⟨none, ts⟩ G H) : Ev K ⟨none, ts⟩ H G H (start N vs) (st0 N ds) := by
  refine ⟨v, v.ok, fun _ h => h, ?_, fun i av hi => ?_, fun i j ds' es l h1 _ _ _ => ?_⟩
  · unfold L2.start st0
    rw [List.length_append, List.length_append, List.length_map, List.length_map, List.length_replicate, List.length_replicate, dpa_len h]
  · obtain ⟨v, d, rfl, h1, h2⟩ := start_get h i av hi
    exact ⟨v, h1, h2⟩
  · obtain ⟨v, d, e, _⟩ := start_get h i _ h1
    cases e
theorem ev_startP {ts : List Addr} {N : List Str} {p : Pn} {vs : List V} {ds : List PyData} {G H : Hp} (h : DpAll K G vs ds) (v : Vw ⟨some p, ts⟩ G H) (hN : ∃ x r, N = x :: r) : Ev K ⟨some p, ts⟩ H G H (start N (.ref p.a :: vs)) (stP N ds) := by
  obtain ⟨x, r, rfl⟩ := hN
  have e1 : start (x :: r) (.ref p.a :: vs) = some (.ref p.a) :: start r vs := by
    unfold L2.start
    rw [List.length_cons, List.length_cons, Nat.add_sub_add_right]
    rfl
  have e2 : stP (x :: r) ds = some .pen :: st0 r ds := by
    unfold stP st0
    rw [List.length_cons, Nat.add_sub_add_right]
  rw [e1, e2]
  have l0 : (start r vs).length = (st0 r ds).length := by
    unfold L2.start st0
    rw [List.length_append, List.length_append, List.length_map, List.length_map, List.length_replicate, List.length_replicate, dpa_len h]
  refine ⟨v, v.ok, fun _ h => h, ?_, fun i av hi => ?_, fun i j ds' es l h1 _ _ _ => ?_⟩
  · rw [List.length_cons, List.length_cons, l0]
  · cases i with
    | zero =>
      have e := Option.some.inj (Option.some.inj hi)
      subst e
      exact ⟨_, rfl, p, rfl, rfl⟩
    | succ i =>
      obtain ⟨v, d, rfl, h1, h2⟩ := start_get h i av hi
      exact ⟨v, h1, h2⟩
  · cases i with
    | zero => cases h1
    | succ i =>
      obtain ⟨v, d, e, _⟩ := start_get h i _ h1
      cases e
end
section
variable {P : Program} {w : World} {K : PySem.W.Frag} {mg : Str → Option Value} {base : Heap}
/-- a def without the pen -/
theorem fnX {α : Type} {x qual : Str} {st : Stmt} {f : Addr} {fd : FuncData} {N ps : List Str} {k : Nat} {ts : List Addr} {Wf : α → Prop} {enc : α → List PyData} {res : α → PyData → Prop} (F : Fun K x qual st f fd) (S0 : FnScope N ps (defScope st)) (hl : ∀ x, Wf x → (enc x).length = ps.length)
    (hbody : ∀ (cdv : Value) (A : Around) (outer : List Env) (s : Shared) (H : Hp) (E : XK), Room k (A.deeper (envOfC qual (defScope st) s.heap.objs.size f cdv)) →
      ∃ t, PSs (cxOf CX0 P w K mg base N qual (defScope st) f cdv A outer s H E).nox (defBody st) t ∧ ∀ x, Wf x → S K ⟨none, ts⟩ H t (st0 N (enc x)) { nx := fun _ => res x .none, rt := res x }) : FnOk P w K mg base CX0 (k + 1) f fd ps (SpX K ts Wf enc res) := by
  refine F.ok S0 (fun vs H Q E h => ?_) (fun cdv A outer s H vs Q E hr h => ?_)
  · obtain ⟨x, G, _, h1, h2, _⟩ := h
    rw [dpa_len h1]
    exact hl x h2
  · obtain ⟨x, G, v, h1, h2, q⟩ := h
    obtain ⟨t, ht, hS⟩ := hbody cdv A outer s H E hr
    refine ⟨t, ht, hS x h2 (L2.start N vs) G H _ (ev_start h1 v) (fun σ' G' H' L' x e' p => ?_) (fun v d G' H' x vw hd p => ?_) (fun _ _ _ _ _ _ z => z.elim) (fun _ _ _ _ _ _ z => z.elim)⟩
    · exact q .non .none G' H' ⟨x.gg, x.nw, fun a o hp e => x.od a o hp (by rw [e]; exact fun z => by cases z) e, e'.vw⟩ .non p
    · exact q v d G' H' ⟨x.gg, x.nw, fun a o hp e => x.od a o hp (by rw [e]; exact fun z => by cases z) e, vw⟩ hd p
/-- a def whose first argument is the pen -/
theorem fnXP {α : Type} {x qual : Str} {st : Stmt} {f : Addr} {fd : FuncData} {N ps : List Str} {k : Nat} {ts : List Addr} {Wf : α → Prop} {enc : α → List PyData} {res : α → PyData → Prop} (F : Fun K x qual st f fd) (S0 : FnScope N ps (defScope st)) (hN : ∃ x r, N = x :: r) (hl : ∀ x, Wf x → (enc x).length + 1 = ps.length)
    (hbody : ∀ (cdv : Value) (A : Around) (outer : List Env) (s : Shared) (H : Hp) (E : XK), Room k (A.deeper (envOfC qual (defScope st) s.heap.objs.size f cdv)) →
      ∃ t, PSs (cxOf CX0 P w K mg base N qual (defScope st) f cdv A outer s H E).nox (defBody st) t ∧ ∀ (p : Pn) x, Wf x → S K ⟨some p, ts⟩ H t (stP N (enc x)) { nx := fun _ => res x .none, rt := res x }) : FnOk P w K mg base CX0 (k + 1) f fd ps (SpXP K ts Wf enc res) := by
  refine F.ok S0 (fun vs H Q E h => ?_) (fun cdv A outer s H vs Q E hr h => ?_)
  · obtain ⟨x, p, G, us, rfl, _, h1, h2, _⟩ := h
    rw [List.length_cons, dpa_len h1]
    exact hl x h2
  · obtain ⟨x, p, G, us, rfl, v, h1, h2, q⟩ := h
    obtain ⟨t, ht, hS⟩ := hbody cdv A outer s H E hr
    refine ⟨t, ht, hS p x h2 _ G H _ (ev_startP h1 v hN) (fun σ' G' H' L' x e' p => ?_) (fun v d G' H' x vw hd p => ?_) (fun _ _ _ _ _ _ z => z.elim) (fun _ _ _ _ _ _ z => z.elim)⟩
    · exact q .non .none G' H' ⟨x.gg, x.nw, fun a o hp e => x.od a o hp (by rw [e]; exact fun z => by cases z) e, e'.vw⟩ .non p
    · exact q v d G' H' ⟨x.gg, x.nw, fun a o hp e => x.od a o hp (by rw [e]; exact fun z => by cases z) e, vw⟩ hd p
end
end Dl
set_option Elab.async false
set_option linter.all false
set_option maxRecDepth 100000
namespace Dl
open PySem PySem.Spec PyProof.Rows L2
section
variable {K : PySem.W.Frag} {pen : Pc} {H0 : Hp} {L : Lv} {P P' : PyData → Prop} {ta tb tc te ti : TE} {tl tr : TA} {tt : TT} {t u : TS} {Pb : Bool → Prop} {D : Dn} {g : TG} {gs : TGs}
/-! ### comprehensions -/
theorem POk.ne2 {H1 : Hp} {a : Addr} (h : POk pen H1) (p : ∃ q, pen.pen = some q ∧ (a = q.a ∨ a = q.c)) : H1 a ≠ none := by
  obtain ⟨q, hq, z⟩ := p
  obtain ⟨cells, at_, rest, h1, h2, _⟩ := h.1 q hq
  rcases z with rfl | rfl
  · rw [h1]; exact fun z => by cases z
  · rw [h2]; exact fun z => by cases z
/-- POk behind a write elsewhere -/
theorem POk.upd {H H1 : Hp} {D : Addr} {o : HO} (h : POk pen H) (h1 : POk pen H1) (hD : H1 D = none) : POk pen (L2.upd H D o) := by
  refine ⟨fun p hp => ?_, fun P hP => ?_⟩
  · obtain ⟨cells, at_, rest, k1, k2, k3⟩ := h.1 p hp
    refine ⟨cells, at_, rest, ?_, ?_, k3⟩
    · rw [upd_ne (fun z => h1.ne2 ⟨p, hp, .inl rfl⟩ (by rw [z]; exact hD))]
      exact k1
    · rw [upd_ne (fun z => h1.ne2 ⟨p, hp, .inr rfl⟩ (by rw [z]; exact hD))]
      exact k2
  · obtain ⟨ps, e, t⟩ := h.2 P hP
    exact ⟨ps, by rw [upd_ne (fun z => h1.there (.inr hP) (by rw [z]; exact hD))]; exact e, t⟩
/-- an object that was new at H1 and is not data changes -/
theorem Go.mut {G H1 G' H' : Hp} {D : Addr} {o : HO} (v1 : Vw pen G H1) (hD : H1 D = none) (gd : G' D = none) (g : Go pen G H1 G' H') : Go pen G H1 G' (upd H' D o) := by
  refine ⟨g.gg, g.nw, fun a o hp e => ?_, ⟨fun a o e => ?_, g.vw.no, ?_⟩⟩
  · rw [upd_ne (ne_of_none e hD)]
    exact g.od a o hp e
  · rw [upd_ne (fun z => by rw [z, gd] at e; cases e)]
    exact g.vw.vw a o e
  · exact g.vw.ok.upd v1.ok hD
def LcI (K : PySem.W.Frag) (pen : Pc) (G H1 : Hp) (D : Addr) (J : Nat → List PyData → Prop) (i : Nat) (H' : Hp) : Prop :=
  ∃ G' vs acc, Go pen G H1 G' H' ∧ H' D = some (.lst vs) ∧ G' D = none ∧ DpAll K G' vs acc ∧ J i acc ∧ acc.length ≤ i
theorem lc_start {G H1 : Hp} {D : Addr} {J : Nat → List PyData → Prop} (v : Vw pen G H1) (hD : H1 D = none) (j0 : J 0 []) : LcI K pen G H1 D J 0 (upd H1 D (.lst [])) := by
  refine ⟨G, [], [], Go.hid v hD, upd_same, ?_, .nil, j0, Nat.le_refl _⟩
  cases q : G D with
  | none => rfl
  | some o => rw [v.vw _ _ q] at hD; cases hD
theorem lc_end {G H1 H' : Hp} {D : Addr} {J : Nat → List PyData → Prop} {n : Nat} {Q : VK} (v1 : Vw pen G H1) (hD : H1 D = none) (I : LcI K pen G H1 D J n H') (j1 : ∀ acc, J n acc → P (.list acc)) (q : ∀ v d G' H', Go pen G H1 G' H' → Dp K G' v d → P d → Q v H') : Q (.ref D) H' := by
  obtain ⟨G', vs, acc, g, h1, h2, h3, h4, _⟩ := I
  have s : Same G' (upd G' D (.lst vs)) := fun a o e => by
    rw [upd_ne (ne_of_none e h2)]
    exact e
  refine q _ _ (upd G' D (.lst vs)) H' ⟨g.gg.trans s, fun a h => ?_, g.od, ⟨fun a o e => ?_, fun a p => ?_, g.vw.ok⟩⟩ (.lst (.inl (.inl upd_same)) (dpa_mono s _ _ h3)) (j1 acc h4)
  · rw [upd_ne (fun z => h (by rw [z]; exact hD))]
    exact g.nw a h
  · by_cases z : a = D
    · subst z
      rw [upd_same] at e
      rw [h1]; exact e
    · rw [upd_ne z] at e
      exact g.vw.vw a o e
  · rw [upd_ne (fun z => v1.ok.there p (by rw [z]; exact hD))]
    exact g.vw.no a p
theorem lc_turn {G H1 G' H' : Hp} {D : Addr} {J : Nat → List PyData → Prop} {i : Nat} {vs : List V} {acc : List PyData} {σ2 : L2.St} {L2 : Lv} (v1 : Vw pen G H1) (hD : H1 D = none) (hi : i < 100000) (go : Go pen G H1 G' H') (h1 : H' D = some (.lst vs)) (h2 : G' D = none) (h3 : DpAll K G' vs acc) (h5 : acc.length ≤ i)
    (e2 : Ev K pen H0 G' H' σ2 L2) (h : ET K pen H0 tt L2 fun b => (b = true → E K pen H0 te L2 fun d => J (i + 1) (acc ++ [d])) ∧ (b = false → J (i + 1) acc)) :
    tt σ2 H' fun b H3 => if b = true then te σ2 H3 fun y H4 => ∃ acc, H4 D = some (.lst acc) ∧ acc.length < sizeLine ∧ LcI K pen G H1 D J (i + 1) (upd H4 D (.lst (acc ++ [y]))) else LcI K pen G H1 D J (i + 1) H3 := by
  have np : ¬ IsPn pen D := fun p => v1.ok.there p hD
  have hz : H' D ≠ none := by rw [h1]; exact fun z => by cases z
  refine h σ2 G' H' e2 _ fun b G3 H3 g3 p => ?_
  have k1 : H3 D = some (.lst vs) := g3.od D _ np h1
  have k2 : G3 D = none := (g3.nw D hz).trans h2
  cases b with
  | true =>
    show te σ2 H3 _
    refine p.1 rfl σ2 G3 H3 (e2.go g3) _ fun y d G4 H4 g4 d4 p4 => ?_
    have m1 : H4 D = some (.lst vs) := g4.od D _ np k1
    have m2 : G4 D = none := (g4.nw D (by rw [k1]; exact fun z => by cases z)).trans k2
    have m3 := dpa_mono (g3.gg.trans g4.gg) _ _ h3
    refine ⟨vs, m1, Nat.lt_of_lt_of_le (Nat.lt_of_le_of_lt (by rw [dpa_len h3]; exact h5) hi) (by decide : 100000 ≤ sizeLine), G4, vs ++ [y], acc ++ [d], Go.mut v1 hD m2 ((go.trans g3).trans g4), upd_same, m2, dpa_app m3 (.cons d4 .nil), p4, ?_⟩
    rw [List.length_append]
    show acc.length + 1 ≤ i + 1
    omega
  | false =>
    show LcI K pen G H1 D J (i + 1) H3
    exact ⟨G3, vs, acc, go.trans g3, k1, k2, dpa_mono g3.gg _ _ h3, p.2 rfl, by omega⟩
theorem wipe1 (σ : L2.St) (j : Nat) (x : Option V) : wipe ((wipe σ [j]).set j x) [j] = wipe σ [j] := by
  show ((σ.set j none).set j x).set j none = σ.set j none
  rw [List.set_set, List.set_set]
theorem wipe2 (σ : L2.St) (j k : Nat) (x y : Option V) : wipe (((wipe σ [j, k]).set j x).set k y) [j, k] = wipe σ [j, k] := by
  show (((((σ.set k none).set j none).set j x).set k y).set k none).set j none = (σ.set k none).set j none
  apply List.ext_getElem?
  intro m
  simp only [List.getElem?_set, List.length_set]
  by_cases h1 : j = m <;> by_cases h2 : k = m <;> simp [h1, h2] <;> (try split) <;> simp_all
theorem ev_wipe1 {G H : Hp} {σ : L2.St} (e : Ev K pen H0 G H σ L) (j : Nat) : Ev K pen H0 G H (wipe σ [j]) (L.set j none) := e.unset j
theorem ev_wipe2 {G H : Hp} {σ : L2.St} (e : Ev K pen H0 G H σ L) (j k : Nat) : Ev K pen H0 G H (wipe σ [j, k]) ((L.set k none).set j none) := (e.unset k).unset j
/-- one turn, by data -/
abbrev LcT (K : PySem.W.Frag) (pen : Pc) (H0 : Hp) (tt : TT) (te : TE) (L2 : Lv) (acc : List PyData) (Jn : List PyData → Prop) : Prop :=
  ET K pen H0 tt L2 fun b => (b = true → E K pen H0 te L2 fun d => Jn (acc ++ [d])) ∧ (b = false → Jn acc)
theorem e_lcR {j : Nat} (h : EA K pen H0 tl L fun ds => ∃ n : Nat, ds = [.int n] ∧ n ≤ 100000 ∧ ∃ J : Nat → List PyData → Prop, J 0 [] ∧
    (∀ (i : Nat) acc, i < n → J i acc → LcT K pen H0 tt te ((L.set j none).set j (some (.d (.int i)))) acc (J (i + 1))) ∧ (∀ acc, J n acc → P (.list acc))) :
    E K pen H0 (tLc (iRng1 tl) (gName j) tt te [j]) L P := fun σ G H e Q q => h σ G H e _ fun vs ds G1 H1 go hd ⟨n, hds, hn, J, j0, js, je⟩ => by
  subst hds
  cases hd with
  | cons hd hd2 =>
    cases hd2
    cases hd
    refine ⟨(n : Int), rfl, by omega, by omega, fun Dl hD => ?_⟩
    rw [Int.toNat_natCast]
    refine lc_range (lo := 0) (n := n) (LcI K pen G1 H1 Dl J) (lc_start go.vw hD j0) (fun i H' hi ⟨G', vs, acc, g, h1, h2, h3, h4, h5⟩ => ?_) (fun H' I => lc_end go.vw hD I je fun v d G' H' g hd p => q v d G' H' (go.trans g) hd p)
    show wipe ((wipe σ [j]).set j (some (.int ((0 : Int) + (i : Int))))) [j] = wipe σ [j] ∧ tt ((wipe σ [j]).set j (some (.int ((0 : Int) + (i : Int))))) H' _
    refine ⟨wipe1 _ _ _, ?_⟩
    rw [Int.zero_add]
    exact lc_turn go.vw hD (by omega) g h1 h2 h3 h5 ((ev_wipe1 ((e.go go).go g) j).set (.int _)) (js i acc hi h4)
theorem e_lcT {j : Nat} (h : E K pen H0 ta L fun d => ∃ ds, d = .tuple ds ∧ ds.length ≤ 100000 ∧ ∃ J : Nat → List PyData → Prop, J 0 [] ∧
    (∀ (i : Nat) x acc, ds[i]? = some x → J i acc → LcT K pen H0 tt te ((L.set j none).set j (some (.d x))) acc (J (i + 1))) ∧ (∀ acc, J ds.length acc → P (.list acc))) :
    E K pen H0 (tLc (iTup K ta) (gName j) tt te [j]) L P := fun σ G H e Q q => h σ G H e _ fun v d G1 H1 go hd ⟨ds, hds, hn, J, j0, js, je⟩ => by
  subst hds
  cases hd with
  | tup hs ha =>
    rename_i a xs
    refine ⟨a, rfl, ⟨xs, sqT_mono go.vw.vw hs⟩, fun Dl hD => ?_⟩
    refine lc_tup (xs := xs) (LcI K pen G1 H1 Dl J) (lc_start go.vw hD j0) (fun i H' _ ⟨G', vs, acc, g, _⟩ => sqT_mono (g.gg.trans g.vw.vw) hs) (fun i x H' hx ⟨G', vs, acc, g, h1, h2, h3, h4, h5⟩ => ?_) (fun H' I => ?_)
    · obtain ⟨z, hz, hd⟩ := dpa_getV ha hx
      refine ⟨wipe1 _ _ _, ?_⟩
      have := (List.getElem?_eq_some_iff.mp hz).1
      exact lc_turn go.vw hD (by omega) g h1 h2 h3 h5 ((ev_wipe1 ((e.go go).go g) j).set (dp_mono g.gg _ _ hd)) (js i z acc hz h4)
    · rw [dpa_len ha] at I
      exact lc_end go.vw hD I je fun v d G' H' g hd p => q v d G' H' (go.trans g) hd p
theorem e_lcL {j : Nat} (h : E K pen H0 ta L fun d => ∃ ds, d = .list ds ∧ ds.length ≤ 100000 ∧ ∃ J : Nat → List PyData → Prop, J 0 [] ∧
    (∀ (i : Nat) x acc, ds[i]? = some x → J i acc → LcT K pen H0 tt te ((L.set j none).set j (some (.d x))) acc (J (i + 1))) ∧ (∀ acc, J ds.length acc → P (.list acc))) :
    E K pen H0 (tLc (iList K ta) (gName j) tt te [j]) L P := fun σ G H e Q q => h σ G H e _ fun v d G1 H1 go hd ⟨ds, hds, hn, J, j0, js, je⟩ => by
  subst hds
  cases hd with
  | lst hs ha =>
    rename_i a xs
    refine ⟨a, rfl, ⟨xs, sqL_mono go.vw.vw hs⟩, fun Dl hD => ?_⟩
    refine lc_list (xs := xs) (LcI K pen G1 H1 Dl J) (lc_start go.vw hD j0) (fun i H' _ ⟨G', vs, acc, g, _⟩ => sqL_mono (g.gg.trans g.vw.vw) hs) (fun i x H' hx ⟨G', vs, acc, g, h1, h2, h3, h4, h5⟩ => ?_) (fun H' I => ?_)
    · obtain ⟨z, hz, hd⟩ := dpa_getV ha hx
      refine ⟨wipe1 _ _ _, ?_⟩
      have := (List.getElem?_eq_some_iff.mp hz).1
      exact lc_turn go.vw hD (by omega) g h1 h2 h3 h5 ((ev_wipe1 ((e.go go).go g) j).set (dp_mono g.gg _ _ hd)) (js i z acc hz h4)
    · rw [dpa_len ha] at I
      exact lc_end go.vw hD I je fun v d G' H' g hd p => q v d G' H' (go.trans g) hd p
/-- [e for a, b in zip(x, y)], two tuples or two lists of one length -/
theorem e_lcZ {j k : Nat} (h : EA K pen H0 tl L fun ds => ∃ as bs, (ds = [.tuple as, .tuple bs] ∨ ds = [.list as, .list bs]) ∧ as.length = bs.length ∧ as.length ≤ 100000 ∧ ∃ J : Nat → List PyData → Prop, J 0 [] ∧
    (∀ (i : Nat) x y acc, as[i]? = some x → bs[i]? = some y → J i acc → LcT K pen H0 tt te ((((L.set k none).set j none).set j (some (.d x))).set k (some (.d y))) acc (J (i + 1))) ∧ (∀ acc, J as.length acc → P (.list acc))) :
    E K pen H0 (tLc (RZ.iZipA K tl) (gTup K 2 (gCons (gName j) (gCons (gName k) gNil))) tt te [j, k]) L P := fun σ G H e Q q => h σ G H e _ fun vs ds G1 H1 go hd ⟨as, bs, hds, hl, hn, J, j0, js, je⟩ => by
  have turn : ∀ (Dl : Addr) (i : Nat) (H' : Hp) (x y : V) (T : Addr) (a b : PyData), H1 Dl = none → as[i]? = some a → bs[i]? = some b → (∀ G', Same G1 G' → Dp K G' x a ∧ Dp K G' y b) → LcI K pen G1 H1 Dl J i H' → H' T = none →
      gTup K 2 (gCons (gName j) (gCons (gName k) gNil)) (.ref T) (wipe σ [j, k]) (upd H' T (.tup [x, y])) fun σ2 H2 => wipe σ2 [j, k] = wipe σ [j, k] ∧ tt σ2 H2 fun b H3 =>
        if b = true then te σ2 H3 fun y H4 => ∃ acc, H4 Dl = some (.lst acc) ∧ acc.length < sizeLine ∧ LcI K pen G1 H1 Dl J (i + 1) (upd H4 Dl (.lst (acc ++ [y]))) else LcI K pen G1 H1 Dl J (i + 1) H3 := fun Dl i H' x y T a b hD ha hb hxy ⟨G', vs, acc, g, h1, h2, h3, h4, h5⟩ hT => by
    have g2 := Go.new g.vw (o := .tup [x, y]) hT
    have nT : Dl ≠ T := ne_of_none h1 hT
    refine ⟨T, [x, y], rfl, .inl (.inl upd_same), rfl, x, [y], rfl, y, [], rfl, rfl, wipe2 _ _ _ _ _, ?_⟩
    have hi := (List.getElem?_eq_some_iff.mp ha).1
    have ex := ((((ev_wipe2 ((e.go go).go g) j k).go g2).set (i := j) (dp_mono g2.gg _ _ (hxy G' g.gg).1)).set (i := k) (dp_mono g2.gg _ _ (hxy G' g.gg).2))
    refine lc_turn go.vw hD (by omega) (g.trans g2) ?_ ?_ (dpa_mono g2.gg _ _ h3) h5 ex (js i a b acc ha hb h4)
    · rw [upd_ne nT]; exact h1
    · rw [upd_ne nT]; exact h2
  rcases hds with rfl | rfl
  · cases hd with
    | cons hd hd2 =>
      cases hd2 with
      | cons hd3 hd4 =>
        cases hd4
        cases hd with
        | tup hs ha =>
          cases hd3 with
          | tup hs' ha' =>
            rename_i a xs a' ys
            refine ⟨a, a', xs, ys, rfl, .inr ⟨sqT_mono go.vw.vw hs, sqT_mono go.vw.vw hs', fun Dl hD => ?_⟩⟩
            refine ⟨fun i m H' => m = as.length - i ∧ i ≤ as.length ∧ LcI K pen G1 H1 Dl J i H', ⟨as.length, rfl, Nat.zero_le _, lc_start go.vw hD j0⟩, ?_⟩
            rintro i m H' ⟨rfl, hi, I⟩
            obtain ⟨G', vs, acc, g, r⟩ := id I
            have z1 : SqT K H' a xs := sqT_mono (g.gg.trans g.vw.vw) hs
            have z2 : SqT K H' a' ys := sqT_mono (g.gg.trans g.vw.vw) hs'
            by_cases hlt : i < as.length
            · obtain ⟨x, hx, dx⟩ := dpa_get ha (List.getElem?_eq_getElem hlt)
              obtain ⟨y, hy, dy⟩ := dpa_get ha' (List.getElem?_eq_getElem (hl ▸ hlt))
              refine .inr ⟨⟨xs, ys, x, y, z1, z2, hx, hy⟩, LcI K pen G1 H1 Dl J (i + 1), fun H2 I2 => ⟨as.length - (i + 1), by omega, rfl, hlt, I2⟩, fun v H2 hv => ?_⟩
              obtain ⟨T, x', y', rfl, hT, rfl, f1, f2⟩ := hv
              have e1 : x' = x := Option.some.inj ((f1 _ z1).symm.trans hx)
              have e2 : y' = y := Option.some.inj ((f2 _ z2).symm.trans hy)
              subst e1 e2
              exact turn Dl i H' x' y' T _ _ hD (List.getElem?_eq_getElem hlt) (List.getElem?_eq_getElem (hl ▸ hlt)) (fun G2 s => ⟨dp_mono s _ _ dx, dp_mono s _ _ dy⟩) I hT
            · have e1 : i = as.length := by omega
              subst e1
              exact .inl ⟨⟨xs, ys, z1, z2, .inl (by rw [dpa_len ha]; exact Nat.le_refl _)⟩, lc_end go.vw hD I je fun v d G' H' g hd p => q v d G' H' (go.trans g) hd p⟩
  · cases hd with
    | cons hd hd2 =>
      cases hd2 with
      | cons hd3 hd4 =>
        cases hd4
        cases hd with
        | lst hs ha =>
          cases hd3 with
          | lst hs' ha' =>
            rename_i a xs a' ys
            refine ⟨a, a', xs, ys, rfl, .inl ⟨sqL_mono go.vw.vw hs, sqL_mono go.vw.vw hs', fun Dl hD => ?_⟩⟩
            refine ⟨fun i m H' => m = as.length - i ∧ i ≤ as.length ∧ LcI K pen G1 H1 Dl J i H', ⟨as.length, rfl, Nat.zero_le _, lc_start go.vw hD j0⟩, ?_⟩
            rintro i m H' ⟨rfl, hi, I⟩
            obtain ⟨G', vs, acc, g, r⟩ := id I
            have z1 : SqL K H' a xs := sqL_mono (g.gg.trans g.vw.vw) hs
            have z2 : SqL K H' a' ys := sqL_mono (g.gg.trans g.vw.vw) hs'
            by_cases hlt : i < as.length
            · obtain ⟨x, hx, dx⟩ := dpa_get ha (List.getElem?_eq_getElem hlt)
              obtain ⟨y, hy, dy⟩ := dpa_get ha' (List.getElem?_eq_getElem (hl ▸ hlt))
              refine .inr ⟨⟨xs, ys, x, y, z1, z2, hx, hy⟩, LcI K pen G1 H1 Dl J (i + 1), fun H2 I2 => ⟨as.length - (i + 1), by omega, rfl, hlt, I2⟩, fun v H2 hv => ?_⟩
              obtain ⟨T, x', y', rfl, hT, rfl, f1, f2⟩ := hv
              have e1 : x' = x := Option.some.inj ((f1 _ z1).symm.trans hx)
              have e2 : y' = y := Option.some.inj ((f2 _ z2).symm.trans hy)
              subst e1 e2
              exact turn Dl i H' x' y' T _ _ hD (List.getElem?_eq_getElem hlt) (List.getElem?_eq_getElem (hl ▸ hlt)) (fun G2 s => ⟨dp_mono s _ _ dx, dp_mono s _ _ dy⟩) I hT
            · have e1 : i = as.length := by omega
              subst e1
              exact .inl ⟨⟨xs, ys, z1, z2, .inl (by rw [dpa_len ha]; exact Nat.le_refl _)⟩, lc_end go.vw hD I je fun v d G' H' g hd p => q v d G' H' (go.trans g) hd p⟩
theorem et_yes (h : Pb true) : ET K pen H0 tYes L Pb := fun σ G H e Q q => q true G H (.refl e.vw) h
/-! ### slices, sums of tuples and lists -/
def cutD (xs : List PyData) (lo hi : Option Int) : List PyData := (xs.drop (HT.sIx xs.length 0 lo)).take (HT.sIx xs.length xs.length hi - HT.sIx xs.length 0 lo)
theorem dpa_cut {G : Hp} {vs : List V} {ds : List PyData} (h : DpAll K G vs ds) (lo hi : Option Int) : DpAll K G (cutV vs lo hi) (cutD ds lo hi) := by
  unfold cutV cutD
  rw [dpa_len h]
  exact dpa_take _ (dpa_drop _ h)
theorem r_slT {ds : List PyData} {lo hi : Option Int} (p : P (.tuple (cutD ds lo hi))) : RSd K pen (rSlA K) (.tuple ds) lo hi P := fun x G H v hx Q q => by
  cases hx with
  | tup hs ha =>
    rename_i a xs
    refine ⟨a, xs, rfl, sqT_mono v.vw hs, fun ⟨w1, w2⟩ => ?_, fun _ p' hp => ?_⟩
    · have e : cutD ds lo hi = ds := by
        unfold cutD
        rw [← dpa_len ha, w1, w2, dpa_len ha]
        show ds.take (ds.length - 0) = ds
        rw [Nat.sub_zero, List.take_length]
      rw [e] at p
      exact q _ _ G H (.refl v) (.tup hs ha) p
    · have g := Go.new v (o := .tup (cutV xs lo hi)) hp
      exact q _ _ _ _ g (.tup (.inl (.inl upd_same)) (dpa_mono g.gg _ _ (dpa_cut ha lo hi))) p
theorem r_slL {ds : List PyData} {lo hi : Option Int} (p : P (.list (cutD ds lo hi))) : RSd K pen (rSlL K) (.list ds) lo hi P := fun x G H v hx Q q => by
  cases hx with
  | lst hs ha =>
    rename_i a xs
    refine ⟨a, xs, rfl, sqL_mono v.vw hs, fun p' hp => ?_⟩
    have g := Go.new v (o := .lst (cutV xs lo hi)) hp
    exact q _ _ _ _ g (.lst (.inl (.inl upd_same)) (dpa_mono g.gg _ _ (dpa_cut ha lo hi))) p
theorem r_catT {as bs : List PyData} (hl : as.length + bs.length ≤ 100000) (p : P (.tuple (as ++ bs))) : R2d K pen (rCatA K) (.tuple as) (.tuple bs) P := fun x y G H v hx hy Q q => by
  cases hx with
  | tup hs ha =>
    cases hy with
    | tup hs' ha' =>
      rename_i a xs a' ys
      refine ⟨a, a', xs, ys, rfl, rfl, sqT_mono v.vw hs, sqT_mono v.vw hs', Nat.le_trans (by rw [dpa_len ha, dpa_len ha']; exact hl) (by decide : 100000 ≤ sizeLine), fun e => ?_, fun _ e => ?_, fun _ _ p' hp => ?_⟩
      · subst e
        cases ha
        exact q _ _ G H (.refl v) (.tup hs' ha') p
      · subst e
        cases ha'
        rw [List.append_nil] at p
        exact q _ _ G H (.refl v) (.tup hs ha) p
      · have g := Go.new v (o := .tup (xs ++ ys)) hp
        exact q _ _ _ _ g (.tup (.inl (.inl upd_same)) (dpa_mono g.gg _ _ (dpa_app ha ha'))) p
/-! ### isinstance -/
def tyD : PyData → String
  | .none => "NoneType"
  | .bool _ => "bool"
  | .int _ => "int"
  | .str _ => "str"
  | .list _ => "list"
  | .tuple _ => "tuple"
  | .dict _ => "dict"
theorem tyx_of {G H : Hp} (s : Same G H) : ∀ {v : V} {d : PyData}, Dp K G v d → TyX K H v (.type (tyD d))
  | _, _, .non => .base .non
  | _, _, .bl b => .base (.bl b)
  | _, _, .int i => .base (.int i)
  | _, _, .str x => .base (.str x)
  | _, _, .lst hs _ => by
    rcases hs with (h | ⟨o, h⟩) | ⟨o, its, n, h, hc, _⟩
    · exact .base (.lst (s _ _ h))
    · exact .base (.frz (s _ _ h))
    · exact .kList h hc
  | _, _, .tup hs _ => by
    rcases hs with (h | ⟨o, h⟩) | ⟨o, its, n, h, hc, _⟩
    · exact .base (.tup (s _ _ h))
    · exact .fTuple (s _ _ h)
    · exact .kTuple h hc
def isS (a T : String) : Bool := a == T || (a == "bool" && T == "int")
def isD (d : PyData) (T : String) : Bool := isS (tyD d) T
theorem kit_isS (a T : String) (ha : a = "NoneType" ∨ a = "bool" ∨ a = "int" ∨ a = "str" ∨ a = "list" ∨ a = "tuple") (hT : T = "int" ∨ T = "bool" ∨ T = "str" ∨ T = "tuple" ∨ T = "list") : kitB a T = some (isS a T) := by
  rcases ha with rfl | rfl | rfl | rfl | rfl | rfl <;> rcases hT with rfl | rfl | rfl | rfl | rfl <;> decide +kernel
theorem kit_isD (d : PyData) (T : String) (hT : T = "int" ∨ T = "bool" ∨ T = "str" ∨ T = "tuple" ∨ T = "list") (hd : ∀ x, d ≠ .dict x) : kitB (tyD d) T = some (isD d T) := by
  refine kit_isS _ _ ?_ hT
  cases d with
  | dict x => exact absurd rfl (hd x)
  | none => exact .inl rfl
  | bool _ => exact .inr (.inl rfl)
  | int _ => exact .inr (.inr (.inl rfl))
  | str _ => exact .inr (.inr (.inr (.inl rfl)))
  | list _ => exact .inr (.inr (.inr (.inr (.inl rfl))))
  | tuple _ => exact .inr (.inr (.inr (.inr (.inr rfl))))
theorem e_isi {T : String} (hT : T = "int" ∨ T = "bool" ∨ T = "str" ∨ T = "tuple" ∨ T = "list") (h : E K pen H0 ta L fun d => P (.bool (isD d T))) : E K pen H0 (tCB (rIsi K) (tCons ta (tCons (tC (.ty T)) tNil))) L P := fun σ G H e Q q =>
  h σ G H e _ fun v d G1 H1 go hd p => by
    refine ⟨v, .ty T, .type (tyD d), .type T, isD d T, rfl, .ty T, tyx_of go.vw.vw hd, kit_ty (kit_isD d T hT fun x z => ?_), q _ _ G1 H1 go (.bl _) p⟩
    subst z
    cases hd
end
end Dl
set_option Elab.async false
set_option linter.all false
set_option maxRecDepth 100000
namespace Dl
open PySem PySem.Spec PyProof.Rows L2
section
variable {K : PySem.W.Frag} {pen : Pc} {H0 : Hp} {L : Lv} {P P' : PyData → Prop} {ta tb tc te ti : TE} {tl tr : TA} {tt : TT} {t u : TS} {Pb : Bool → Prop} {D : Dn} {g : TG} {gs : TGs}
/-! ### lists of one's own, that change -/
theorem Ev.setOwn {G H : Hp} {σ : L2.St} (e : Ev K pen H0 G H σ L) {i : Nat} {l : Addr} {vs : List V} {ds : List PyData} (hl : H l = none) (h : DpAll K G vs ds) : Ev K pen H0 G (upd H l (.lst vs)) (σ.set i (some (.ref l))) (L.set i (some (.own ds))) := by
  have go := Go.hid e.vw (o := .lst vs) hl
  have e1 := e.go go
  have h0l : H0 l = none := by
    cases q : H0 l with
    | none => rfl
    | some o => exact absurd hl (e.dom l (by rw [q]; exact fun z => by cases z))
  have gl : G l = none := by
    cases q : G l with
    | none => rfl
    | some o => rw [e.vw.vw _ _ q] at hl; cases hl
  have old : ∀ (j : Nat) (es : List PyData) (l' : Addr), L[j]? = some (some (.own es)) → σ[j]? = some (some (.ref l')) → l' ≠ l := fun j es l' h1 h2 z => by
    obtain ⟨v, k1, l2, ws, k2, k3, _⟩ := e.sl j _ h1
    rw [h2] at k1
    have := Option.some.inj (Option.some.inj k1)
    rw [← this] at k2
    cases k2
    rw [z, hl] at k3
    cases k3
  have here : ∀ (j : Nat) (av : AV), (L.set i (some (.own ds)))[j]? = some (some av) → i = j → av = .own ds ∧ (σ.set i (some (.ref l)))[j]? = some (some (.ref l)) := fun j av hj q => by
    subst q
    have hl : i < L.length := by
      have := (List.getElem?_eq_some_iff.mp hj).1
      rw [List.length_set] at this; exact this
    rw [List.getElem?_set_self hl] at hj
    exact ⟨(Option.some.inj (Option.some.inj hj)).symm, List.getElem?_set_self (by rw [e.len]; exact hl)⟩
  refine ⟨e1.vw, e.h0, e1.dom, by rw [List.length_set, List.length_set]; exact e.len, fun j av hj => ?_, fun j k ds' es l' h1 h2 h3 h4 => ?_⟩
  · by_cases q : i = j
    · obtain ⟨rfl, k⟩ := here j av hj q
      exact ⟨_, k, l, vs, rfl, upd_same, h0l, gl, h⟩
    · rw [List.getElem?_set_ne q] at hj
      obtain ⟨w, k1, k2⟩ := e1.sl j av hj
      exact ⟨w, by rw [List.getElem?_set_ne q]; exact k1, k2⟩
  · by_cases q1 : i = j
    · by_cases q2 : i = k
      · exact q1.symm.trans q2
      · have k1 := (here j _ h1 q1).2
        rw [h3] at k1
        have z : l' = l := V.ref.inj (Option.some.inj (Option.some.inj k1))
        rw [List.getElem?_set_ne q2] at h2 h4
        exact absurd z (old k es l' h2 h4)
    · rw [List.getElem?_set_ne q1] at h1 h3
      by_cases q2 : i = k
      · have k1 := (here k _ h2 q2).2
        rw [h4] at k1
        have z : l' = l := V.ref.inj (Option.some.inj (Option.some.inj k1))
        exact absurd z (old j ds' l' h1 h3)
      · rw [List.getElem?_set_ne q2] at h2 h4
        exact e.ow j k ds' es l' h1 h2 h3 h4
/-- the own list in slot j is written -/
theorem Ev.putOwn {G H : Hp} {σ : L2.St} (e : Ev K pen H0 G H σ L) {j : Nat} {l : Addr} {ds es : List PyData} {ws : List V} (hj : L[j]? = some (some (.own ds))) (hs : σ[j]? = some (some (.ref l))) (h : DpAll K G ws es) :
    Ev K pen H0 G (upd H l (.lst ws)) σ (L.set j (some (.own es))) ∧ Gx pen H0 G H G (upd H l (.lst ws)) := by
  obtain ⟨v, k1, l2, vs, k2, k3, k4, k5, k6⟩ := e.sl j _ hj
  rw [hs] at k1
  have := Option.some.inj (Option.some.inj k1)
  rw [← this] at k2
  cases k2
  have n0 : ∀ a, H0 a ≠ none → a ≠ l := fun a h z => h (by rw [z]; exact k4)
  have ng : ∀ a o, G a = some o → a ≠ l := fun a o q z => by rw [z, k5] at q; cases q
  have vw : Vw pen G (upd H l (.lst ws)) := by
    refine ⟨fun a o q => by rw [upd_ne (ng a o q)]; exact e.vw.vw a o q, e.vw.no, ?_⟩
    exact e.vw.ok.upd e.h0 k4
  have jl : j < L.length := (List.getElem?_eq_some_iff.mp hj).1
  refine ⟨⟨vw, e.h0, fun a h => ?_, by rw [List.length_set]; exact e.len, fun i av hi => ?_, fun i k ds' es' l' h1 h2 h3 h4 => ?_⟩, Same.refl _, fun _ _ => rfl, fun a o _ h q => by rw [upd_ne (n0 a h)]; exact q⟩
  · rw [upd_ne (n0 a h)]; exact e.dom a h
  · by_cases q : j = i
    · subst q
      rw [List.getElem?_set_self jl] at hi
      have := Option.some.inj (Option.some.inj hi)
      subst this
      exact ⟨_, hs, l, ws, rfl, upd_same, k4, k5, h⟩
    · rw [List.getElem?_set_ne q] at hi
      obtain ⟨w, m1, m2⟩ := e.sl i av hi
      refine ⟨w, m1, ?_⟩
      cases av with
      | d x => exact m2
      | pen => exact m2
      | own ds2 =>
        obtain ⟨l3, vs3, rfl, m3, m4, m5, m6⟩ := m2
        refine ⟨l3, vs3, rfl, ?_, m4, m5, m6⟩
        rw [upd_ne (fun z => q (e.ow j i ds ds2 l hj hi hs (by rw [← z]; exact m1)))]
        exact m3
  · have was : ∀ (i : Nat) (ds' : List PyData), (L.set j (some (.own es)))[i]? = some (some (.own ds')) → ∃ ds2, L[i]? = some (some (.own ds2)) := fun i ds' hi => by
      by_cases q : j = i
      · subst q; exact ⟨ds, hj⟩
      · rw [List.getElem?_set_ne q] at hi; exact ⟨ds', hi⟩
    obtain ⟨a1, b1⟩ := was i ds' h1
    obtain ⟨a2, b2⟩ := was k es' h2
    exact e.ow i k a1 a2 l' b1 b2 h3 h4
/-- x = list(e) -/
theorem s_ownList {i : Nat} (h : E K pen H0 te L fun d => ∃ es, (d = .tuple es ∨ d = .list es) ∧ D.nx (L.set i (some (.own es)))) :
    S K pen H0 (tAsg (tCB (fun xs H Q => ∃ p ys, xs = [.ref p] ∧ (SqL K H p ys ∨ SqT K H p ys) ∧ ∀ l, H l = none → Q (.ref l) (upd H l (.lst ys))) (tCons te tNil)) (gName i)) L D := fun σ G H N e n1 _ _ _ =>
  h σ G H e _ fun v d G1 H1 go hd ⟨es, hes, p⟩ => by
    have e1 := e.go go
    have fin : ∀ (ys : List V) (l : Addr), DpAll K G1 ys es → H1 l = none → N.nx (σ.set i (some (.ref l))) (upd H1 l (.lst ys)) := fun ys l hy hl => n1 _ G1 _ _ ((e.gx go).trans (e1.gx (Go.hid e1.vw hl))) (e1.setOwn hl hy) p
    rcases hes with rfl | rfl
    · cases hd with
      | tup hs ha => exact ⟨_, _, rfl, .inr (sqT_mono go.vw.vw hs), fun l hl => fin _ l ha hl⟩
    · cases hd with
      | lst hs ha => exact ⟨_, _, rfl, .inl (sqL_mono go.vw.vw hs), fun l hl => fin _ l ha hl⟩
/-- x = [] -/
theorem s_ownNil {i : Nat} (h : D.nx (L.set i (some (.own [])))) : S K pen H0 (tAsg (tLst tNil) (gName i)) L D := fun σ G H N e n1 _ _ _ =>
  ⟨Nat.zero_le _, fun l hl => n1 _ G _ _ (e.gx (Go.hid e.vw hl)) (e.setOwn hl .nil) h⟩
/-- x[k] = e -/
theorem s_putOwn {j : Nat} {ds : List PyData} (hj : L[j]? = some (some (.own ds))) (h : E K pen H0 te L fun d => E K pen H0 ti L fun k => ∃ m : Nat, k = .int m ∧ m < ds.length ∧ D.nx (L.set j (some (.own (ds.set m d))))) :
    S K pen H0 (tAsg te (gSub (tVar j) ti rSetL)) L D := fun σ G H N e n1 _ _ _ =>
  h σ G H e _ fun v d G1 H1 g1 d1 h1 => by
    have e1 := e.go g1
    obtain ⟨x, k1, l, vs, rfl, k3, k4, k5, k6⟩ := e1.sl j _ hj
    refine ⟨_, k1, h1 σ G1 H1 e1 _ fun w k G2 H2 g2 d2 ⟨m, hm, hl, p⟩ => ?_⟩
    subst hm
    cases d2
    have e2 := e1.go g2
    obtain ⟨x2, q1, l2, vs2, q2, q3, q4, q5, q6⟩ := e2.sl j _ hj
    rw [k1] at q1
    have := Option.some.inj (Option.some.inj q1)
    rw [← this] at q2
    cases q2
    obtain ⟨r1, r2⟩ := e2.putOwn hj k1 (dpa_set (dp_mono g2.gg _ _ d1) m q6)
    refine ⟨l, vs2, (m : Int), m, rfl, rfl, q3, ?_, n1 σ G2 _ _ (((e.gx g1).trans (e1.gx g2)).trans r2) r1 p⟩
    rw [dpa_len q6]
    unfold ixN
    rw [if_pos (by omega), if_pos (by omega)]
    simp
/-- x.append(e) -/
theorem s_appOwn {j : Nat} {ds : List PyData} (hj : L[j]? = some (some (.own ds))) (hz : ds.length < 100000) (h : E K pen H0 te L fun d => D.nx (L.set j (some (.own (ds ++ [d]))))) :
    S K pen H0 (tDrop (tBM K "list" rAppend (tVar j) (tCons te tNil))) L D := fun σ G H N e n1 _ _ _ => by
  obtain ⟨x, k1, l, vs, rfl, k3, k4, k5, k6⟩ := e.sl j _ hj
  refine ⟨_, k1, .inl ⟨rfl, vs, .inl (.inl k3)⟩, h σ G H e _ fun v d G1 H1 g1 d1 p => ?_⟩
  have e1 := e.go g1
  obtain ⟨x2, q1, l2, vs2, q2, q3, q4, q5, q6⟩ := e1.sl j _ hj
  rw [k1] at q1
  have := Option.some.inj (Option.some.inj q1)
  rw [← this] at q2
  cases q2
  obtain ⟨r1, r2⟩ := e1.putOwn hj k1 (dpa_app q6 (.cons d1 .nil))
  exact ⟨l, vs2, v, rfl, rfl, q3, Nat.lt_of_lt_of_le (by rw [dpa_len q6]; exact hz) (by decide : 100000 ≤ sizeLine), n1 σ G1 _ _ ((e.gx g1).trans r2) r1 p⟩
/-- tuple(x), x one's own list -/
theorem e_tupOwn {j : Nat} {ds : List PyData} (hj : L[j]? = some (some (.own ds))) (p : P (.tuple ds)) :
    E K pen H0 (tCB (fun xs H Q => ∃ p ys, xs = [.ref p] ∧ ((SqL K H p ys ∧ ∀ l, H l = none → Q (.ref l) (upd H l (.tup ys))) ∨ (SqT K H p ys ∧ Q (.ref p) H))) (tCons (tVar j) tNil)) L P := fun σ G H e Q q => by
  obtain ⟨x, k1, l, vs, rfl, k3, k4, k5, k6⟩ := e.sl j _ hj
  refine ⟨_, k1, l, vs, rfl, .inl ⟨.inl (.inl k3), fun l' hl => ?_⟩⟩
  have g := Go.new e.vw (o := .tup vs) hl
  exact q _ _ _ _ g (.tup (.inl (.inl upd_same)) (dpa_mono g.gg _ _ k6)) p
/-- len(x), x one's own list -/
theorem e_lenOwn {j : Nat} {ds : List PyData} (hj : L[j]? = some (some (.own ds))) (p : P (.int ds.length)) :
    E K pen H0 (tCB (fun xs H Q => ∃ p ys, xs = [.ref p] ∧ (SqL K H p ys ∨ SqT K H p ys) ∧ Q (.int ys.length) H) (tCons (tVar j) tNil)) L P := fun σ G H e Q q => by
  obtain ⟨x, k1, l, vs, rfl, k3, k4, k5, k6⟩ := e.sl j _ hj
  refine ⟨_, k1, l, vs, rfl, .inl (.inl (.inl k3)), ?_⟩
  rw [dpa_len k6]
  exact q _ _ G H (.refl e.vw) (.int _) p
theorem r_neB {i j : Bool} (p : P (.bool (!decide (i = j)))) : R2d K pen rNe (.bool i) (.bool j) P := fun x y G H v hx hy Q q => by
  cases hx
  cases hy
  refine ⟨rfl, ?_⟩
  rw [show decide (V.bl i = V.bl j) = decide (i = j) by rw [dec_bl]; exact Bool.beq_eq_decide_eq i j]
  exact q _ _ G H (.refl v) (.bl _) p
/-- False not in a list of truths -/
theorem dpa_bls {G : Hp} : ∀ {vs : List V} {bs : List Bool}, DpAll K G vs (bs.map PyData.bool) → vs = bs.map V.bl
  | _, [], h => by cases h; rfl
  | _, b :: bs, h => by
    cases h with
    | cons h1 h2 =>
      cases h1
      rw [dpa_bls h2]
      rfl
theorem inV_false (bs : List Bool) : inV (.bl false) (bs.map V.bl) = bs.any (!·) := by
  unfold inV
  rw [List.any_map]
  congr 1
  funext b
  cases b <;> rfl
theorem flat_bls (bs : List Bool) : (bs.map V.bl).all flatV = true := by
  rw [List.all_eq_true]
  intro x hx
  obtain ⟨b, _, rfl⟩ := List.mem_map.mp hx
  rfl
theorem r_notIn {bs : List Bool} (p : P (.bool (!bs.any (!·)))) : R2d K pen (rIn K true) (.bool false) (.list (bs.map PyData.bool)) P := fun x y G H v hx hy Q q => by
  cases hx
  cases hy with
  | lst hs ha =>
    have e := dpa_bls ha
    subst e
    refine ⟨_, _, rfl, .inl (sqL_mono v.vw hs), rfl, flat_bls bs, ?_⟩
    rw [if_pos rfl, inV_false]
    exact q _ _ G H (.refl v) (.bl _) p
end
/-! ### the pen's own def -/
section
variable {K : PySem.W.Frag} {p : Pn} {ts : List Addr} {H0 : Hp} {L : Lv} {P P' : PyData → Prop} {ta tb tc te ti : TE} {D : Dn}
theorem Ev.pen {G H : Hp} {σ : L2.St} (e : Ev K ⟨some p, ts⟩ H0 G H σ L) {i : Nat} (hi : L[i]? = some (some .pen)) : σ[i]? = some (some (.ref p.a)) := by
  obtain ⟨v, hv, q, hq, rfl⟩ := e.sl i _ hi
  cases hq
  exact hv
theorem e_pen {i : Nat} {k : Int} (hi : L[i]? = some (some .pen)) (hk : k = 1 ∨ k = 2) (h : ∀ z : Int, 0 ≤ z → P (.int z)) : E K ⟨some p, ts⟩ H0 (tOp (rIxL K) (tVar i) (tC (.int k))) L P := fun σ G H e Q q => by
  obtain ⟨cells, at_, rest, m1, m2, m3, m4, m5⟩ := e.vw.ok.1 p rfl
  refine ⟨_, e.pen hi, p.a, _, k, .int (if k = 1 then at_ else rest), rfl, rfl, .inl (.inl m1), ?_, q _ _ G H (.refl e.vw) (.int _) (h _ ?_)⟩
  · rcases hk with rfl | rfl
    · rfl
    · rfl
  · split <;> assumption
theorem e_penLen {i : Nat} (hi : L[i]? = some (some .pen)) (h : P (.int p.n)) : E K ⟨some p, ts⟩ H0 (tCB (fun xs H Q => ∃ p ys, xs = [.ref p] ∧ (SqL K H p ys ∨ SqT K H p ys) ∧ Q (.int ys.length) H) (tCons (tOp (rIxL K) (tVar i) (tC (.int 0))) tNil)) L P := fun σ G H e Q q => by
  obtain ⟨cells, at_, rest, m1, m2, m3, m4, m5⟩ := e.vw.ok.1 p rfl
  refine ⟨_, e.pen hi, p.a, _, 0, .ref p.c, rfl, rfl, .inl (.inl m1), rfl, p.c, _, rfl, .inl (.inl (.inl m2)), ?_⟩
  rw [List.length_map, m5]
  exact q _ _ G H (.refl e.vw) (.int _) h
theorem e_penIx {i : Nat} (hi : L[i]? = some (some .pen)) (h : E K ⟨some p, ts⟩ H0 ti L fun k => ∃ m : Nat, k = .int m ∧ m < p.n ∧ ∀ z : Int, P (.int z)) : E K ⟨some p, ts⟩ H0 (tOp (rIxL K) (tOp (rIxL K) (tVar i) (tC (.int 0))) ti) L P := fun σ G H e Q q => by
  obtain ⟨cells, at_, rest, m1, m2, m3, m4, m5⟩ := e.vw.ok.1 p rfl
  refine ⟨_, e.pen hi, p.a, _, 0, .ref p.c, rfl, rfl, .inl (.inl m1), rfl, h σ G H e _ fun v k G1 H1 go hd ⟨m, hm, hl, hp⟩ => ?_⟩
  subst hm
  cases hd
  have m2' : H1 p.c = some (.lst (cells.map V.int)) := go.od _ _ (fun z => by
    rcases z with ⟨q, z, w⟩ | z
    · cases z; exact (e.vw.ok.1 p rfl).ne w
    · exact (e.vw.ok.apart (p := p) rfl z).2 rfl) m2
  refine ⟨p.c, _, (m : Int), .int cells[m], rfl, rfl, .inl (.inl m2'), ?_, q _ _ G1 H1 go (.int _) (hp _)⟩
  refine atI_nat ?_
  rw [List.getElem?_map, List.getElem?_eq_getElem (by rw [m5]; exact hl)]
  rfl
theorem s_pen {i : Nat} {k : Int} (hi : L[i]? = some (some .pen)) (hk : k = 1 ∨ k = 2) (h : E K ⟨some p, ts⟩ H0 te L fun d => ∃ z, d = .int z ∧ 0 ≤ z ∧ D.nx L) : S K ⟨some p, ts⟩ H0 (tAsg te (gSub (tVar i) (tC (.int k)) rSetL)) L D := fun σ G H N e n1 _ _ _ =>
  h σ G H e _ fun v d G1 H1 g1 d1 ⟨z, hz, z0, hp⟩ => by
    subst hz
    cases d1
    have e1 := e.go g1
    obtain ⟨cells, at_, rest, m1, m2, m3, m4, m5⟩ := e1.vw.ok.1 p rfl
    have put : ∀ (a r : Int), 0 ≤ a → 0 ≤ r → N.nx σ (upd H1 p.a (.lst [.ref p.c, .int a, .int r])) := fun a r ha hr => by
      have h0 : H0 p.a ≠ none := e1.h0.there (.inl ⟨p, rfl, rfl⟩)
      have ga : G1 p.a = none := e1.vw.no _ (.inl ⟨p, rfl, rfl⟩)
      refine n1 σ G1 _ L ((e.gx g1).trans ⟨Same.refl _, fun _ _ => rfl, fun b o hb _ q => ?_⟩) ⟨⟨fun b o q => ?_, e1.vw.no, fun p' hp' => by cases hp'; exact ⟨cells, a, r, upd_same, by rw [upd_ne (e1.vw.ok.1 p rfl).ne]; exact m2, ha, hr, m5⟩, fun P hP => by obtain ⟨ps, e, t⟩ := e1.vw.ok.2 P hP; exact ⟨ps, by rw [upd_ne (e1.vw.ok.apart (p := p) rfl hP).1]; exact e, t⟩⟩, e1.h0, fun b hb => ?_, e1.len, fun j av hj => ?_, e1.ow⟩ hp
      · rw [upd_ne (fun w => hb (.inl ⟨p, rfl, w⟩))]; exact q
      · rw [upd_ne (fun w => by rw [w, ga] at q; cases q)]; exact e1.vw.vw b o q
      · by_cases w : b = p.a
        · rw [w, upd_same]; exact fun z => by cases z
        · rw [upd_ne w]; exact e1.dom b hb
      · obtain ⟨x, q1, q2⟩ := e1.sl j av hj
        refine ⟨x, q1, ?_⟩
        cases av with
        | d x => exact q2
        | pen => exact q2
        | own ds =>
          obtain ⟨l, vs, rfl, k3, k4, k5⟩ := q2
          exact ⟨l, vs, rfl, by rw [upd_ne (fun w => h0 (by rw [← w]; exact k4))]; exact k3, k4, k5⟩
    rcases hk with rfl | rfl
    · exact ⟨_, e1.pen hi, p.a, _, 1, 1, rfl, rfl, m1, rfl, put z rest z0 m4⟩
    · exact ⟨_, e1.pen hi, p.a, _, 2, 2, rfl, rfl, m1, rfl, put at_ z m3 z0⟩
end
def WfTake (m : Int) : Prop := 0 < m ∧ m ≤ 10 ^ 60
def resTake (m : Int) (d : PyData) : Prop := ∃ z : Nat, d = .int (z : Int) ∧ (z : Int) < m
theorem resTake_of {z m : Int} (h0 : 0 ≤ z) (h1 : z < m) : resTake m (.int z) := ⟨z.toNat, by rw [Int.toNat_of_nonneg h0], by rw [Int.toNat_of_nonneg h0]; exact h1⟩
theorem take_all {m : Int} {P : PyData → Prop} (h : ∀ k : Nat, (k : Int) < m → P (.int (k : Int))) : ∀ d, resTake m d → P d := fun d ⟨k, e, hk⟩ => by rw [e]; exact h k hk
abbrev spTake (K : PySem.W.Frag) (ts : List Addr) : Sp := SpXP (α := Int) K ts WfTake (fun m => [.int m]) resTake
section
variable {K : PySem.W.Frag} {pen : Pc} {H0 : Hp} {P P' : PyData → Prop}
theorem r_modAny {i j : Int} (hc : 0 < j) (p : ∀ z, 0 ≤ z → z < j → P (.int z)) : R2d K pen (rI (fun _ j => 0 < j) fun i j => .int (i % j)) (.int i) (.int j) P := r_mod hc (p _ (Int.emod_nonneg _ (by omega)) (Int.emod_lt_of_pos _ hc))
theorem r_fdivW {i j : Int} (hc : CDivW i j) (p : P (.int (i / j))) : R2d K pen (rI CDivW fun i j => .int (i / j)) (.int i) (.int j) P := r_I (f := fun i j => .int (i / j)) (fun _ => .int _) hc p
theorem r_pow {i j : Int} (hc : CPow i j) (p : P (.int (i ^ j.toNat))) : R2d K pen (rI CPow fun i j => .int (i ^ j.toNat)) (.int i) (.int j) P := r_I (f := fun i j => .int (i ^ j.toNat)) (fun _ => .int _) hc p
end
end Dl
namespace Dl
open PySem PySem.Spec PyProof.Rows L2
theorem nox_K {CX : CXT} {P : Program} {w : World} {K : PySem.W.Frag} {mg : Str → Option Value} {base : Heap} {N : List Str} {qual : Str} {scope : Scope} {f : Addr} {cd : Value} {A : Around} {outer : List Env} {s : Shared} {H : Hp} {E : XK} : (cxOf CX P w K mg base N qual scope f cd A outer s H E).nox.K = K := rfl
theorem cx_K {CX : CXT} {P : Program} {w : World} {K : PySem.W.Frag} {mg : Str → Option Value} {base : Heap} {N : List Str} {qual : Str} {scope : Scope} {f : Addr} {cd : Value} {A : Around} {outer : List Env} {s : Shared} {H : Hp} {E : XK} : (cxOf CX P w K mg base N qual scope f cd A outer s H E).K = K := rfl
theorem blk_K {X : Cx} {s : Shared} {H : Hp} {sc : Scope} {env : Env} {fp : List Addr} : (X.blk s H sc env fp).K = X.K := rfl
end Dl
namespace Dl
open PySem PySem.Spec PyProof.Rows L2
section
variable {X : Cx} (K : PySem.W.Frag)
theorem kx_ixT (h : X.K = K) : IxR X (rIxT K) := by subst h; exact ix_tup
theorem kx_ixL (h : X.K = K) : IxR X (rIxL K) := by subst h; exact ix_list
theorem kx_slT (h : X.K = K) : SlR X (rSlA K) := by subst h; exact sl_tupA
theorem kx_slL (h : X.K = K) : SlR X (rSlL K) := by subst h; exact sl_list
theorem kx_catT (h : X.K = K) : OpR X (binaryOp .Add) (rCatA K) := by subst h; exact op_catA
theorem kx_in (h : X.K = K) : OpR X (compareOp .In) (rIn K false) := by subst h; exact op_in_seq
theorem kx_notIn (h : X.K = K) : OpR X (compareOp .NotIn) (rIn K true) := by subst h; exact op_notIn_seq
theorem kx_eqD (h : X.K = K) (hu : X.A.units + 64 < cLine) : OpR X (compareOp .Eq) (rEqD K) := by subst h; exact op_eqD hu
theorem kx_neD (h : X.K = K) (hu : X.A.units + 64 < cLine) : OpR X (compareOp .NotEq) (rNeD K) := by subst h; exact op_neD hu
theorem kx_len (h : X.K = K) : CallR X (.builtin "len") (fun xs H Q => ∃ p ys, xs = [.ref p] ∧ (SqL K H p ys ∨ SqT K H p ys) ∧ Q (.int ys.length) H) := by subst h; exact call_len_seq
theorem kx_list (h : X.K = K) : CallR X (.type "list") (fun xs H Q => ∃ p ys, xs = [.ref p] ∧ (SqL K H p ys ∨ SqT K H p ys) ∧ ∀ l, H l = none → Q (.ref l) (upd H l (.lst ys))) := by subst h; exact call_list_of
theorem kx_tuple (h : X.K = K) : CallR X (.type "tuple") (fun xs H Q => ∃ p ys, xs = [.ref p] ∧ ((SqL K H p ys ∧ ∀ l, H l = none → Q (.ref l) (upd H l (.tup ys))) ∨ (SqT K H p ys ∧ Q (.ref p) H))) := by subst h; exact call_tuple_of
theorem kx_isi (h : X.K = K) : CallR X (.builtin "isinstance") (rIsi K) := by subst h; exact call_isi
variable {l tg : Expr} {tl : TE}
theorem kx_piL (h : X.K = K) (hl : PE X l tl) : PI X tg l (iList K tl) := by subst h; exact pi_list hl
theorem kx_piT (h : X.K = K) (hl : PE X l tl) : PI X tg l (iTup K tl) := by subst h; exact pi_tup hl
theorem kx_zip {e e2 : Expr} {ta : TA} {p pos tpos : Pos} {elts : List Expr} {kk : Nat} (h : X.K = K) (hg : Gl X "zip") (hm : X.mg "zip" = none) (ha : PA X [e, e2] ta)
    (hs : starEach [e, e2] X.env = (false, eval e X.env) :: starEach [e2] X.env := by rfl) (hpl : (backTo pos (starEach [e2] X.env)).any (·.1) = false := by rfl) :
    PI X (.Tuple elts kk tpos) (.Call (.Name "zip" p) [e, e2] [] pos) (RZ.iZipA K ta) := by subst h; exact RZ.pi_zipA hg hm ha hs hpl
theorem kx_pgT {es : List Expr} {k : Nat} {t : TGs} {n : Nat} {pos : Pos} (h : X.K = K) (hc : X.calm = true) (hp : PGs X es t)
    (hn : (assignEach es X.env).length = n := by rfl) (hst : (assignEach es X.env).findIdx? (·.1) = none := by rfl) : PG X (.Tuple es k pos) (gTup K n t) := by subst h; exact pg_tup hc hp hn hst
end
end Dl
namespace Dl
open PySem PySem.Spec PyProof.Rows L2
inductive Ty where
  | int | bool | str | tuple | list
def Ty.s : Ty → String
  | .int => "int"
  | .bool => "bool"
  | .str => "str"
  | .tuple => "tuple"
  | .list => "list"
def isT : PyData → Ty → Bool
  | .bool _, .int => true
  | .bool _, .bool => true
  | .int _, .int => true
  | .str _, .str => true
  | .tuple _, .tuple => true
  | .list _, .list => true
  | _, _ => false
theorem isT_eq (d : PyData) (t : Ty) : isD d t.s = isT d t := by
  cases d with
  | none => cases t <;> (show isS "NoneType" _ = _) <;> decide +kernel
  | bool b => cases t <;> (show isS "bool" _ = _) <;> (first | (show _ = true; decide +kernel) | (show _ = false; decide +kernel))
  | int b => cases t <;> (show isS "int" _ = _) <;> (first | (show _ = true; decide +kernel) | (show _ = false; decide +kernel))
  | str b => cases t <;> (show isS "str" _ = _) <;> (first | (show _ = true; decide +kernel) | (show _ = false; decide +kernel))
  | list b => cases t <;> (show isS "list" _ = _) <;> (first | (show _ = true; decide +kernel) | (show _ = false; decide +kernel))
  | tuple b => cases t <;> (show isS "tuple" _ = _) <;> (first | (show _ = true; decide +kernel) | (show _ = false; decide +kernel))
  | dict b => cases t <;> (show isS "dict" _ = _) <;> (first | (show _ = true; decide +kernel) | (show _ = false; decide +kernel))
section
variable {K : PySem.W.Frag} {pen : Pc} {H0 : Hp} {L : Lv} {P : PyData → Prop} {ta : TE}
theorem e_isT (t : Ty) (h : E K pen H0 ta L fun d => P (.bool (isT d t))) : E K pen H0 (tCB (rIsi K) (tCons ta (tCons (tC (.ty t.s)) tNil))) L P :=
  e_isi (by cases t <;> simp [Ty.s]) (h.mono fun d p => by rw [isT_eq]; exact p)
theorem e_isI (h : E K pen H0 ta L fun d => P (.bool (isT d .int))) : E K pen H0 (tCB (rIsi K) (tCons ta (tCons (tC (.ty "int")) tNil))) L P := e_isT .int h
theorem e_isB (h : E K pen H0 ta L fun d => P (.bool (isT d .bool))) : E K pen H0 (tCB (rIsi K) (tCons ta (tCons (tC (.ty "bool")) tNil))) L P := e_isT .bool h
theorem e_isS (h : E K pen H0 ta L fun d => P (.bool (isT d .str))) : E K pen H0 (tCB (rIsi K) (tCons ta (tCons (tC (.ty "str")) tNil))) L P := e_isT .str h
theorem e_isTu (h : E K pen H0 ta L fun d => P (.bool (isT d .tuple))) : E K pen H0 (tCB (rIsi K) (tCons ta (tCons (tC (.ty "tuple")) tNil))) L P := e_isT .tuple h
theorem e_isL (h : E K pen H0 ta L fun d => P (.bool (isT d .list))) : E K pen H0 (tCB (rIsi K) (tCons ta (tCons (tC (.ty "list")) tNil))) L P := e_isT .list h
def isNone : PyData → Bool
  | .none => true
  | _ => false
theorem r_isNone {a : PyData} (p : P (.bool (isNone a))) : R2d K pen (fun x y H Q => y = .non ∧ Q (.bl (decide (x = .non))) H) a .none P := r_isN (by cases a <;> exact p)
end
/-- data with a bound on its depth and its lengths -/
def Flat : Nat → PyData → Prop
  | _, .none => True
  | _, .bool _ => True
  | _, .int _ => True
  | _, .str _ => True
  | n + 1, .tuple ds => ds.length ≤ 1000 ∧ ∀ d ∈ ds, Flat n d
  | n + 1, .list ds => ds.length ≤ 1000 ∧ ∀ d ∈ ds, Flat n d
  | _, _ => False
end Dl
set_option Elab.async false
set_option linter.all false
set_option maxRecDepth 100000
namespace Dl
open PySem PySem.Spec PyProof.Rows L2
/-! ### forgetting slots -/
def Sub (L' L : Lv) : Prop := L'.length = L.length ∧ ∀ (i : Nat) av, L'[i]? = some (some av) → L[i]? = some (some av)
theorem Sub.refl (L : Lv) : Sub L L := ⟨rfl, fun _ _ h => h⟩
theorem Sub.trans {A B C : Lv} (h : Sub A B) (k : Sub B C) : Sub A C := ⟨h.1.trans k.1, fun i av q => k.2 i av (h.2 i av q)⟩
theorem Sub.nil : Sub [] [] := Sub.refl _
theorem Sub.keep {x : Option AV} {L' L : Lv} (h : Sub L' L) : Sub (x :: L') (x :: L) := by
  refine ⟨by rw [List.length_cons, List.length_cons, h.1], fun i av q => ?_⟩
  cases i with
  | zero => exact q
  | succ i => exact h.2 i av q
theorem Sub.drop {x : Option AV} {L' L : Lv} (h : Sub L' L) : Sub (none :: L') (x :: L) := by
  refine ⟨by rw [List.length_cons, List.length_cons, h.1], fun i av q => ?_⟩
  cases i with
  | zero => cases q
  | succ i => exact h.2 i av q
section
variable {K : PySem.W.Frag} {pen : Pc} {H0 : Hp} {L L' : Lv} {P P' : PyData → Prop} {ta tb tc te ti : TE} {tl tr : TA} {tt : TT} {t u : TS} {Pb : Bool → Prop} {D : Dn} {g : TG} {gs : TGs}
theorem Ev.sub {G H : Hp} {σ : L2.St} (e : Ev K pen H0 G H σ L) (s : Sub L' L) : Ev K pen H0 G H σ L' :=
  ⟨e.vw, e.h0, e.dom, e.len.trans s.1.symm, fun i av h => e.sl i av (s.2 i av h), fun i j ds es l h1 h2 => e.ow i j ds es l (s.2 _ _ h1) (s.2 _ _ h2)⟩
theorem S.sub (h : S K pen H0 t L' D) (s : Sub L' L) : S K pen H0 t L D := fun σ G H N e => h σ G H N (e.sub s)
theorem E.sub (h : E K pen H0 te L' P) (s : Sub L' L) : E K pen H0 te L P := fun σ G H e => h σ G H (e.sub s)
theorem GT.sub {d : PyData} {Q : Lv → Prop} (h : GT K pen H0 g d L' Q) (s : Sub L' L) : GT K pen H0 g d L Q := fun σ G H v e => h σ G H v (e.sub s)
/-- what a loop keeps, with slots forgotten -/
abbrev Wk (I : Nat → Lv → Prop) (i : Nat) (L : Lv) : Prop := ∃ L3, Sub L3 L ∧ I i L3
theorem s_forRw (h : EA K pen H0 tl L fun ds => ∃ n : Nat, ds = [.int n] ∧ n ≤ 100000 ∧ ∃ I : Nat → Lv → Prop, Wk I 0 L ∧ (∀ (i : Nat) L', i < n → I i L' → GT K pen H0 g (.int i) L' fun L2 => S K pen H0 t L2 { D with nx := Wk I (i + 1), ct := Wk I (i + 1), bk := D.nx }) ∧ (∀ L', I n L' → ∀ L4, Sub L' L4 → D.nx L4)) :
    S K pen H0 (tFor (iRng1 tl) g t) L D := s_forR fun σ G H e Q q => h σ G H e Q fun vs ds G' H' go hd ⟨n, h1, h2, I, h3, h4, h5⟩ => q vs ds G' H' go hd ⟨n, h1, h2, Wk I, h3, fun i L' hi ⟨L3, s, hI⟩ => (h4 i L3 hi hI).sub s, fun L' ⟨L3, s, hI⟩ => h5 L3 hI L' s⟩
theorem s_forTw (h : E K pen H0 te L fun d => ∃ ds, d = .tuple ds ∧ ∃ I : Nat → Lv → Prop, Wk I 0 L ∧ (∀ (i : Nat) x L', ds[i]? = some x → I i L' → GT K pen H0 g x L' fun L2 => S K pen H0 t L2 { D with nx := Wk I (i + 1), ct := Wk I (i + 1), bk := D.nx }) ∧ (∀ L', I ds.length L' → ∀ L4, Sub L' L4 → D.nx L4)) :
    S K pen H0 (tFor (iTup K te) g t) L D := s_forT fun σ G H e Q q => h σ G H e Q fun v d G' H' go hd ⟨ds, h1, I, h3, h4, h5⟩ => q v d G' H' go hd ⟨ds, h1, Wk I, h3, fun i x L' hi ⟨L3, s, hI⟩ => (h4 i x L3 hi hI).sub s, fun L' ⟨L3, s, hI⟩ => h5 L3 hI L' s⟩
theorem s_forLw (h : E K pen H0 te L fun d => ∃ ds, d = .list ds ∧ ∃ I : Nat → Lv → Prop, Wk I 0 L ∧ (∀ (i : Nat) x L', ds[i]? = some x → I i L' → GT K pen H0 g x L' fun L2 => S K pen H0 t L2 { D with nx := Wk I (i + 1), ct := Wk I (i + 1), bk := D.nx }) ∧ (∀ L', I ds.length L' → ∀ L4, Sub L' L4 → D.nx L4)) :
    S K pen H0 (tFor (iList K te) g t) L D := s_forL fun σ G H e Q q => h σ G H e Q fun v d G' H' go hd ⟨ds, h1, I, h3, h4, h5⟩ => q v d G' H' go hd ⟨ds, h1, Wk I, h3, fun i x L' hi ⟨L3, s, hI⟩ => (h4 i x L3 hi hI).sub s, fun L' ⟨L3, s, hI⟩ => h5 L3 hI L' s⟩
/-! ### the law's beginning -/
theorem pen_start {ts : List Addr} {N : Ends} {σ : L2.St} {H1 : Hp} {p c : Addr} {cells : List Int} (hp : H1 p = some (.lst [.ref c, .int 0, .int 0])) (hc : H1 c = some (.lst (cells.map V.int))) (hlen : σ.length = L.length)
    (hL : ∀ (i : Nat) av, L[i]? = some (some av) → av = .pen ∧ σ[i]? = some (some (.ref p))) (hts : ∀ P ∈ ts, GxR.TabG H1 P) (h : S K ⟨some ⟨p, c, cells.length⟩, ts⟩ H1 t L { nx := fun _ => False, rt := fun d => d = .bool true }) (q : ∀ H', N.rt (.bl true) H') : t N σ H1 := by
  have ok : POk ⟨some ⟨p, c, cells.length⟩, ts⟩ H1 := ⟨fun p' e => by cases e; exact ⟨cells, 0, 0, hp, hc, Int.le_refl _, Int.le_refl _, rfl⟩, hts⟩
  refine h σ (fun _ => none) H1 N ⟨⟨fun a o e => (nomatch e), fun _ _ => rfl, ok⟩, ok, fun _ h => h, hlen, fun i av hi => ?_, fun i j ds es l h1 => ?_⟩ (fun _ _ _ _ _ _ z => z.elim) (fun v d G' H' _ _ hd e => ?_) (fun _ _ _ _ _ _ z => z.elim) (fun _ _ _ _ _ _ z => z.elim)
  · obtain ⟨rfl, e⟩ := hL i av hi
    exact ⟨_, e, _, rfl, rfl⟩
  · cases (hL i _ h1).1
  · subst e
    cases hd
    exact q H'
def spPen (K : PySem.W.Frag) : Sp := fun vs H Q _ => ∃ (a : Addr) (ns : List Int), vs = [.ref a] ∧ SqL K H a (ns.map V.int) ∧
  ∀ (p c : Addr) (cells : List Int) H', H' p = some (.lst [.ref c, .int 0, .int 0]) → H' c = some (.lst (cells.map V.int)) → Q (.ref p) H'
def spLaw (K : PySem.W.Frag) : Sp := fun vs H Q _ => ∃ (a : Addr) (ns : List Int), vs = [.ref a] ∧ SqL K H a (ns.map V.int) ∧ ns.length ≤ 63 ∧ ∀ H', Q (.bl true) H'
theorem cut_ints (ns : List Int) (lo hi : Option Int) : ∃ ms : List Int, cutV (ns.map V.int) lo hi = ms.map V.int := by
  unfold cutV
  exact ⟨_, by rw [← List.map_drop, ← List.map_take]⟩
end
section
variable {P : Program} {w : World} {K : PySem.W.Frag} {mg : Str → Option Value} {base : Heap}
theorem fn_never {α : Type} {ts : List Addr} {k : Nat} {f : Addr} {fd : FuncData} {ps : List Str} {enc : α → List PyData} {res : α → PyData → Prop} : FnOk P w K mg base CX0 k f fd ps (SpX K ts (fun _ : α => False) enc res) :=
  ⟨fun _ _ _ _ ⟨_, _, _, _, z, _⟩ => z.elim, fun _ _ _ _ _ _ _ _ _ _ _ _ _ ⟨_, _, _, _, z, _⟩ => z.elim⟩
end
end Dl
set_option Elab.async false
set_option linter.all false
set_option maxRecDepth 100000
namespace Dl
open PySem PySem.Spec PyProof.Rows L2 _root_.Gx GxR
/-! ### a def whose code object is known -/
structure FunC (K : PySem.W.Frag) (x qual : Str) (st : Stmt) (f : Addr) (fd : FuncData) (c : Addr) : Prop where
  ex : ∃ (oc : Value) (od : Option Addr) (kV doc pm : Value) (an : Option Addr) (ct : Value) (osl : Array (Option Value)),
    fd = PySem.W.fnOf x qual (defArgs st) (defBody st) (defScope st) .none kV doc pm an (.ref c) ct ∧ K.lookup f = some ⟨oc, od, .func fd, osl⟩ ∧ PySem.W.codeIn K (.ref c) qual = true
  kp : PySem.W.keepIn K (.ref f) = true
section
variable {P : Program} {w : World} {K : PySem.W.Frag} {mg : Str → Option Value} {base : Heap}
theorem FunC.plain {x qual : Str} {st : Stmt} {f c : Addr} {fd : FuncData} (F : FunC K x qual st f fd c) : Fun K x qual st f fd := by
  obtain ⟨oc, od, kV, doc, pm, an, ct, osl, e, l, h⟩ := F.ex
  exact ⟨⟨oc, od, kV, doc, pm, an, .ref c, ct, osl, e, l, h⟩, F.kp⟩
theorem funC_mk {x qual : Str} {st : Stmt} {f c : Addr} {oc : Value} {od an : Option Addr} {osl : Array (Option Value)} {kV doc pm ct : Value} (l : K.lookup f = some ⟨oc, od, .func (PySem.W.fnOf x qual (defArgs st) (defBody st) (defScope st) .none kV doc pm an (.ref c) ct), osl⟩)
    (h : PySem.W.codeIn K (.ref c) qual = true) (k : PySem.W.keepIn K (.ref f) = true) : FunC K x qual st f (PySem.W.fnOf x qual (defArgs st) (defBody st) (defScope st) .none kV doc pm an (.ref c) ct) c := ⟨⟨oc, od, kV, doc, pm, an, ct, osl, rfl, l, h⟩, k⟩
theorem FunC.ok {x qual : Str} {st : Stmt} {f c : Addr} {fd : FuncData} {N ps : List Str} {k : Nat} {sp : Sp} (F : FunC K x qual st f fd c) (S : FnScope N ps (defScope st)) (len : ∀ vs H Q E, sp vs H Q E → vs.length = ps.length)
    (hbody : ∀ (A : Around) (outer : List Env) (s : Shared) (H : Hp) (vs : List V) (Q : VK) (E : XK), Room k (A.deeper (envOfC qual (defScope st) s.heap.objs.size f (.ref c))) → sp vs H Q E →
      ∃ t, PSs (cxOf CX0 P w K mg base N qual (defScope st) f (.ref c) A outer s H E).nox (defBody st) t ∧ t { nx := fun _ H' => Q .non H', rt := Q } (L2.start N vs) H) : FnOk P w K mg base CX0 (k + 1) f fd ps sp := by
  obtain ⟨oc, od, kV, doc, pm, an, ct, osl, rfl, lk, hcd⟩ := F.ex
  refine fn_of lk hcd S len fun A outer s H vs Q E hr hsp => ?_
  obtain ⟨t, h, q⟩ := hbody A outer s H vs Q E hr hsp
  exact ⟨t, h.nox, q⟩
/-- a def without the pen, its code object known -/
theorem fnXc {α : Type} {x qual : Str} {st : Stmt} {f c : Addr} {fd : FuncData} {N ps : List Str} {k : Nat} {ts : List Addr} {Wf : α → Prop} {enc : α → List PyData} {res : α → PyData → Prop} (F : FunC K x qual st f fd c) (S0 : FnScope N ps (defScope st)) (hl : ∀ x, Wf x → (enc x).length = ps.length)
    (hbody : ∀ (A : Around) (outer : List Env) (s : Shared) (H : Hp) (E : XK), Room k (A.deeper (envOfC qual (defScope st) s.heap.objs.size f (.ref c))) →
      ∃ t, PSs (cxOf CX0 P w K mg base N qual (defScope st) f (.ref c) A outer s H E).nox (defBody st) t ∧ ∀ x, Wf x → S K ⟨none, ts⟩ H t (st0 N (enc x)) { nx := fun _ => res x .none, rt := res x }) : FnOk P w K mg base CX0 (k + 1) f fd ps (SpX K ts Wf enc res) := by
  refine F.ok S0 (fun vs H Q E h => ?_) (fun A outer s H vs Q E hr h => ?_)
  · obtain ⟨x, G, _, h1, h2, _⟩ := h
    rw [dpa_len h1]
    exact hl x h2
  · obtain ⟨x, G, v, h1, h2, q⟩ := h
    obtain ⟨t, ht, hS⟩ := hbody A outer s H E hr
    refine ⟨t, ht, hS x h2 (L2.start N vs) G H _ (ev_start h1 v) (fun σ' G' H' L' x e' p => ?_) (fun v d G' H' x vw hd p => ?_) (fun _ _ _ _ _ _ z => z.elim) (fun _ _ _ _ _ _ z => z.elim)⟩
    · exact q .non .none G' H' ⟨x.gg, x.nw, fun a o hp e => x.od a o hp (by rw [e]; exact fun z => by cases z) e, e'.vw⟩ .non p
    · exact q v d G' H' ⟨x.gg, x.nw, fun a o hp e => x.od a o hp (by rw [e]; exact fun z => by cases z) e, vw⟩ hd p
end
/-! ### all(..), any(..) by data -/
section
variable {K : PySem.W.Frag} {pn : Option Pn} {ts : List Addr} {H0 : Hp} {L : Lv} {P P' : PyData → Prop} {ta tb tc te ti : TE} {tl tr : TA} {tt : TT} {Tb : Addr} {go : Bool}
/-- the table has grown -/
theorem Go.tab {c : Pc} {G H H' : Hp} (v : Vw c G H) (hT : Tb ∈ c.ts) (h : Tabbed Tb H H') : Go c G H G H' := by
  refine ⟨Same.refl _, fun _ _ => rfl, fun a o n e => ?_, ⟨fun a o e => ?_, v.no, fun p hp => ?_, fun P hP => ?_⟩⟩
  · rw [h.2 a (fun z => n (.inr (by rw [z]; exact hT)))]; exact e
  · rw [h.2 a (fun z => by rw [z, v.no _ (.inr hT)] at e; cases e)]; exact v.vw a o e
  · obtain ⟨cells, at_, rest, h1, h2, h3⟩ := v.ok.1 p hp
    exact ⟨cells, at_, rest, by rw [h.2 _ (v.ok.apart hp hT).1.symm]; exact h1, by rw [h.2 _ (v.ok.apart hp hT).2.symm]; exact h2, h3⟩
  · by_cases z : P = Tb
    · rw [z]; exact h.1
    · obtain ⟨ps, e, t⟩ := v.ok.2 P hP
      exact ⟨ps, by rw [h.2 P z]; exact e, t⟩
/-- one turn of the element, by data: J is kept, or it ends -/
abbrev GnT (K : PySem.W.Frag) (c : Pc) (H0 : Hp) (go : Bool) (tt : TT) (te : TE) (L2 : Lv) (Jn : Prop) (P : PyData → Prop) : Prop :=
  ET K c H0 tt L2 fun b => (b = true → E K c H0 te L2 fun d => ∃ k, d = .bool k ∧ (k = go → Jn) ∧ (k = !go → P (.bool (!go)))) ∧ (b = false → Jn)
theorem gn_turn {c : Pc} {G1 H1 G' H' : Hp} {σ2 : L2.St} {L2 : Lv} {Jn : Prop} {Nx : Hp → Prop} {Q : VK} (g : Go c G1 H1 G' H') (e2 : Ev K c H0 G' H' σ2 L2) (h : GnT K c H0 go tt te L2 Jn P)
    (hN : ∀ G3 H3, Go c G1 H1 G3 H3 → Jn → Nx H3) (q : ∀ v d G' H', Go c G1 H1 G' H' → Dp K G' v d → P d → Q v H') :
    tt σ2 H' fun b H3 => if b = true then te σ2 H3 fun y H4 => YdB go (fun H => Q (.bl (!go)) H) y H4 Nx else Nx H3 := by
  refine h σ2 G' H' e2 _ fun b G3 H3 g3 p => ?_
  cases b with
  | false => exact hN G3 H3 (g.trans g3) (p.2 rfl)
  | true =>
    show te σ2 H3 _
    refine p.1 rfl σ2 G3 H3 (e2.go g3) _ fun y d G4 H4 g4 d4 ⟨k, hk, p1, p2⟩ => ?_
    subst hk
    cases d4
    refine ⟨k, rfl, ?_⟩
    by_cases z : k = go
    · rw [if_pos z]
      exact hN G4 H4 ((g.trans g3).trans g4) (p1 z)
    · rw [if_neg z]
      exact q _ _ G4 H4 ((g.trans g3).trans g4) (.bl _) (p2 (by cases k <;> cases go <;> simp_all))
theorem e_genT {j : Nat} (hT : Tb ∈ ts) (h : E K ⟨pn, ts⟩ H0 ta L fun d => ∃ ds, d = .tuple ds ∧ ∃ J : Nat → Prop, J 0 ∧
    (∀ (i : Nat) x, ds[i]? = some x → J i → GnT K ⟨pn, ts⟩ H0 go tt te ((L.set j none).set j (some (.d x))) (J (i + 1)) P) ∧ (J ds.length → P (.bool go))) :
    E K ⟨pn, ts⟩ H0 (tGen Tb go (iTup K ta) (gName j) tt te [j]) L P := fun σ G H e Q q => h σ G H e _ fun v d G1 H1 gg hd ⟨ds, hds, J, j0, js, je⟩ => by
  subst hds
  cases hd with
  | tup hs ha =>
    rename_i a xs
    refine ⟨a, rfl, ⟨xs, sqT_mono gg.vw.vw hs⟩, gg.vw.ok.2 Tb hT, fun H2 htab => ?_⟩
    have g2 := Go.tab gg.vw hT htab
    refine ⟨fun i m H' => m = ds.length - i ∧ i ≤ ds.length ∧ J i ∧ ∃ G', Go ⟨pn, ts⟩ G1 H2 G' H', ⟨ds.length, rfl, Nat.zero_le _, j0, G1, .refl g2.vw⟩, ?_⟩
    rintro i m H' ⟨rfl, hi, hJ, G', g⟩
    have z1 : SqT K H' a xs := sqT_mono (g.gg.trans g.vw.vw) hs
    have q' : ∀ v d G' H', Go ⟨pn, ts⟩ G1 H2 G' H' → Dp K G' v d → P d → Q v H' := fun v d G' H' g hd p => q v d G' H' ((gg.trans g2).trans g) hd p
    by_cases hlt : i < ds.length
    · obtain ⟨x, hx, dx⟩ := dpa_get ha (List.getElem?_eq_getElem hlt)
      refine .inr ⟨⟨xs, x, z1, hx⟩, fun H3 => J (i + 1) ∧ ∃ G', Go ⟨pn, ts⟩ G1 H2 G' H3, fun H3 ⟨k1, k2⟩ => ⟨ds.length - (i + 1), by omega, rfl, hlt, k1, k2⟩, fun y H3 hy => ?_⟩
      obtain ⟨rfl, hy⟩ := hy
      have e1 : y = x := Option.some.inj ((hy _ z1).symm.trans hx)
      subst e1
      refine ⟨wipe1 _ _ _, ?_⟩
      exact gn_turn g ((ev_wipe1 (((e.go gg).go g2).go g) j).set (dp_mono g.gg _ _ dx)) (js i _ (List.getElem?_eq_getElem hlt) hJ) (fun G3 H3 g3 k => ⟨k, G3, g3⟩) q'
    · have e1 : i = ds.length := by omega
      subst e1
      exact .inl ⟨⟨xs, z1, by rw [dpa_len ha]; exact Nat.le_refl _⟩, q' _ _ G' H' g (.bl _) (je hJ)⟩
theorem e_genL {j : Nat} (hT : Tb ∈ ts) (h : E K ⟨pn, ts⟩ H0 ta L fun d => ∃ ds, d = .list ds ∧ ∃ J : Nat → Prop, J 0 ∧
    (∀ (i : Nat) x, ds[i]? = some x → J i → GnT K ⟨pn, ts⟩ H0 go tt te ((L.set j none).set j (some (.d x))) (J (i + 1)) P) ∧ (J ds.length → P (.bool go))) :
    E K ⟨pn, ts⟩ H0 (tGen Tb go (iList K ta) (gName j) tt te [j]) L P := fun σ G H e Q q => h σ G H e _ fun v d G1 H1 gg hd ⟨ds, hds, J, j0, js, je⟩ => by
  subst hds
  cases hd with
  | lst hs ha =>
    rename_i a xs
    refine ⟨a, rfl, ⟨xs, sqL_mono gg.vw.vw hs⟩, gg.vw.ok.2 Tb hT, fun H2 htab => ?_⟩
    have g2 := Go.tab gg.vw hT htab
    refine ⟨fun i m H' => m = ds.length - i ∧ i ≤ ds.length ∧ J i ∧ ∃ G', Go ⟨pn, ts⟩ G1 H2 G' H', ⟨ds.length, rfl, Nat.zero_le _, j0, G1, .refl g2.vw⟩, ?_⟩
    rintro i m H' ⟨rfl, hi, hJ, G', g⟩
    have z1 : SqL K H' a xs := sqL_mono (g.gg.trans g.vw.vw) hs
    have q' : ∀ v d G' H', Go ⟨pn, ts⟩ G1 H2 G' H' → Dp K G' v d → P d → Q v H' := fun v d G' H' g hd p => q v d G' H' ((gg.trans g2).trans g) hd p
    by_cases hlt : i < ds.length
    · obtain ⟨x, hx, dx⟩ := dpa_get ha (List.getElem?_eq_getElem hlt)
      refine .inr ⟨⟨xs, x, z1, hx⟩, fun H3 => J (i + 1) ∧ ∃ G', Go ⟨pn, ts⟩ G1 H2 G' H3, fun H3 ⟨k1, k2⟩ => ⟨ds.length - (i + 1), by omega, rfl, hlt, k1, k2⟩, fun y H3 hy => ?_⟩
      obtain ⟨rfl, hy⟩ := hy
      have e1 : y = x := Option.some.inj ((hy _ z1).symm.trans hx)
      subst e1
      refine ⟨wipe1 _ _ _, ?_⟩
      exact gn_turn g ((ev_wipe1 (((e.go gg).go g2).go g) j).set (dp_mono g.gg _ _ dx)) (js i _ (List.getElem?_eq_getElem hlt) hJ) (fun G3 H3 g3 k => ⟨k, G3, g3⟩) q'
    · have e1 : i = ds.length := by omega
      subst e1
      exact .inl ⟨⟨xs, z1, by rw [dpa_len ha]; exact Nat.le_refl _⟩, q' _ _ G' H' g (.bl _) (je hJ)⟩
/-- over zip of two tuples of one length -/
theorem e_genZ {j k : Nat} (hT : Tb ∈ ts) (h : EA K ⟨pn, ts⟩ H0 tl L fun ds => ∃ as bs, ds = [.tuple as, .tuple bs] ∧ as.length = bs.length ∧ ∃ J : Nat → Prop, J 0 ∧
    (∀ (i : Nat) x y, as[i]? = some x → bs[i]? = some y → J i → GnT K ⟨pn, ts⟩ H0 go tt te ((((L.set k none).set j none).set j (some (.d x))).set k (some (.d y))) (J (i + 1)) P) ∧ (J as.length → P (.bool go))) :
    E K ⟨pn, ts⟩ H0 (tGen Tb go (RZ.iZipA K tl) (gTup K 2 (gCons (gName j) (gCons (gName k) gNil))) tt te [j, k]) L P := fun σ G H e Q q => h σ G H e _ fun vs ds G1 H1 gg hd ⟨as, bs, hds, hl, J, j0, js, je⟩ => by
  subst hds
  cases hd with
  | cons hd hd2 =>
    cases hd2 with
    | cons hd3 hd4 =>
      cases hd4
      cases hd with
      | tup hs ha =>
        cases hd3 with
        | tup hs' ha' =>
          rename_i a xs a' ys
          refine ⟨a, a', xs, ys, rfl, .inr ⟨sqT_mono gg.vw.vw hs, sqT_mono gg.vw.vw hs', gg.vw.ok.2 Tb hT, fun H2 htab => ?_⟩⟩
          have g2 := Go.tab gg.vw hT htab
          refine ⟨fun i m H' => m = as.length - i ∧ i ≤ as.length ∧ J i ∧ ∃ G', Go ⟨pn, ts⟩ G1 H2 G' H', ⟨as.length, rfl, Nat.zero_le _, j0, G1, .refl g2.vw⟩, ?_⟩
          rintro i m H' ⟨rfl, hi, hJ, G', g⟩
          have z1 : SqT K H' a xs := sqT_mono (g.gg.trans g.vw.vw) hs
          have z2 : SqT K H' a' ys := sqT_mono (g.gg.trans g.vw.vw) hs'
          have q' : ∀ v d G' H', Go ⟨pn, ts⟩ G1 H2 G' H' → Dp K G' v d → P d → Q v H' := fun v d G' H' g hd p => q v d G' H' ((gg.trans g2).trans g) hd p
          by_cases hlt : i < as.length
          · obtain ⟨x, hx, dx⟩ := dpa_get ha (List.getElem?_eq_getElem hlt)
            obtain ⟨y, hy, dy⟩ := dpa_get ha' (List.getElem?_eq_getElem (hl ▸ hlt))
            refine .inr ⟨⟨xs, ys, x, y, z1, z2, hx, hy⟩, fun H3 => J (i + 1) ∧ ∃ G', Go ⟨pn, ts⟩ G1 H2 G' H3, fun H3 ⟨k1, k2⟩ => ⟨as.length - (i + 1), by omega, rfl, hlt, k1, k2⟩, fun v H3 hv => ?_⟩
            obtain ⟨T, x', y', rfl, hT', rfl, f1, f2⟩ := hv
            have e1 : x' = x := Option.some.inj ((f1 _ z1).symm.trans hx)
            have e2 : y' = y := Option.some.inj ((f2 _ z2).symm.trans hy)
            subst e1 e2
            have g3 := Go.new g.vw (o := .tup [x', y']) hT'
            refine ⟨T, [x', y'], rfl, .inl (.inl upd_same), rfl, x', [y'], rfl, y', [], rfl, rfl, wipe2 _ _ _ _ _, ?_⟩
            have ex := (((ev_wipe2 (((e.go gg).go g2).go g) j k).go g3).set (i := j) (dp_mono (g.gg.trans g3.gg) _ _ dx)).set (i := k) (dp_mono (g.gg.trans g3.gg) _ _ dy)
            exact gn_turn (g.trans g3) ex (js i _ _ (List.getElem?_eq_getElem hlt) (List.getElem?_eq_getElem (hl ▸ hlt)) hJ) (fun G3 H3 g3 k => ⟨k, G3, g3⟩) q'
          · have e1 : i = as.length := by omega
            subst e1
            exact .inl ⟨⟨xs, ys, z1, z2, .inl (by rw [dpa_len ha]; exact Nat.le_refl _)⟩, q' _ _ G' H' g (.bl _) (je hJ)⟩
end
end Dl
set_option Elab.async false
set_option linter.all false
set_option maxRecDepth 100000
namespace Dl
open PySem PySem.Spec PyProof.Rows L2
/-! ### dicts with text keys, made and read -/
def DictOk (K : PySem.W.Frag) (G : Hp) (kvs : List (Key × V)) (m : List (Str × PyData)) : Prop := Paired (fun (kv : Key × V) (xd : Str × PyData) => kv.1 = Sum.inr xd.1 ∧ Dp K G kv.2 xd.2) kvs m
theorem dictOk_mono {K : PySem.W.Frag} {G G' : Hp} (e : Same G G') {kvs : List (Key × V)} {m : List (Str × PyData)} (h : DictOk K G kvs m) : DictOk K G' kvs m := Paired.mapP h fun _ _ z => ⟨z.1, dp_mono e _ _ z.2⟩
section
variable (K : PySem.W.Frag) (pen : Pc) (H0 : Hp)
def ED (te : TE) (L : Lv) (P : List (Str × PyData) → Prop) : Prop := ∀ (σ : L2.St) (G H : Hp), Ev K pen H0 G H σ L → ∀ Q : VK, (∀ p kvs m G' H', Go pen G H G' H' → G' p = some (.dK kvs) → DictOk K G' kvs m → P m → Q (.ref p) H') → te σ H Q
def EPs (trs : List (TE × TE)) (L : Lv) (P : List (Str × PyData) → Prop) : Prop := ∀ (σ : L2.St) (G H : Hp), Ev K pen H0 G H σ L → ∀ Q : List (V × V) → Hp → Prop, (∀ ps kvs m G' H', Go pen G H G' H' → ps = kvs.map (fun kv => (kV kv.1, kv.2)) → DictOk K G' kvs m → P m → Q ps H') → tPairs trs σ H Q
end
section
variable {K : PySem.W.Frag} {pen : Pc} {H0 : Hp} {L : Lv} {P : PyData → Prop} {Pm : List (Str × PyData) → Prop} {td ty tk tv : TE} {tl : TA} {trs : List (TE × TE)}
theorem eps_nil (h : Pm []) : EPs K pen H0 [] L Pm := fun σ G H e Q q => q [] [] [] G H (.refl e.vw) rfl .nil h
theorem eps_cons (h : E K pen H0 tk L fun k => ∃ x : Str, k = .str x ∧ E K pen H0 tv L fun d => EPs K pen H0 trs L fun m => Pm ((x, d) :: m)) : EPs K pen H0 ((tk, tv) :: trs) L Pm := fun σ G H e Q q =>
  h σ G H e _ fun v k G1 H1 g1 d1 ⟨x, hx, h1⟩ => by
    subst hx
    cases d1
    refine h1 σ G1 H1 (e.go g1) _ fun u d G2 H2 g2 d2 h2 => ?_
    refine h2 σ G2 H2 (e.go (g1.trans g2)) _ fun ps kvs m G3 H3 g3 hps hm p => ?_
    subst hps
    exact q _ ((Sum.inr x, u) :: kvs) ((x, d) :: m) G3 H3 ((g1.trans g2).trans g3) rfl (.cons ⟨rfl, dp_mono g3.gg _ _ d2⟩ hm) p
theorem dictOk_len {G : Hp} {kvs : List (Key × V)} {m : List (Str × PyData)} (h : DictOk K G kvs m) : kvs.length = m.length := Paired.length h
theorem dictOk_keys {G : Hp} : ∀ {kvs : List (Key × V)} {m : List (Str × PyData)}, DictOk K G kvs m → kvs.map (·.1) = m.map (fun xd => Sum.inr xd.1)
  | _, _, .nil => rfl
  | _, _, .cons h t => by rw [List.map_cons, List.map_cons, h.1, dictOk_keys t]
theorem merge_nodup : ∀ (more acc : List (Key × V)), (acc.map (·.1) ++ more.map (·.1)).Nodup → mergeK acc more = acc ++ more
  | [], acc, _ => by rw [List.append_nil]; rfl
  | kv :: r, acc, h => by
    show mergeK (putK acc kv.1 kv.2) r = acc ++ kv :: r
    have hn : kv.1 ∉ acc.map (·.1) := fun z => by
      rw [List.nodup_append] at h
      exact h.2.2 _ z _ (List.mem_cons_self ..) rfl
    have e : putK acc kv.1 kv.2 = acc ++ [kv] := by
      unfold putK
      rw [if_neg]
      intro z
      obtain ⟨x, hx, hk⟩ := List.any_eq_true.mp z
      exact hn (List.mem_map.mpr ⟨x, hx, of_decide_eq_true hk⟩)
    rw [e, merge_nodup r (acc ++ [kv]) (by rw [List.map_append, List.append_assoc]; exact h), List.append_assoc]
    rfl
theorem ed_disp (h : EPs K pen H0 trs L fun m => m.length ≤ 15 ∧ (m.map (·.1)).Nodup ∧ Pm m) : ED K pen H0 (tDisp trs) L Pm := fun σ G H e Q q p hp => by
  have g0 := Go.hid e.vw (o := .dK []) hp
  refine h σ G _ (e.go g0) _ fun ps kvs m G1 H1 g1 hps hm ⟨h1, h2, h3⟩ => ?_
  have hH : (upd H p (.dK [])) p = some (.dK []) := upd_same
  have np : ¬ IsPn pen p := fun z => e.vw.ok.there z hp
  have k1 : H1 p = some (.dK []) := g1.od p _ np hH
  have gp : G p = none := by
    cases z : G p with
    | none => rfl
    | some o => rw [e.vw.vw _ _ z] at hp; cases hp
  have k2 : G1 p = none := (g1.nw p (by rw [hH]; exact fun z => by cases z)).trans gp
  refine ⟨k1, kvs, hps, by rw [dictOk_len hm]; exact h1, ?_⟩
  have e1 : mergeK [] kvs = kvs := merge_nodup kvs [] (by
    show (kvs.map (·.1)).Nodup
    rw [dictOk_keys hm]
    rw [show (m.map fun xd => (Sum.inr xd.1 : Key)) = (m.map (·.1)).map Sum.inr by rw [List.map_map]; rfl]
    exact List.Pairwise.map _ (fun a b hab z => hab (Sum.inr.inj z)) h2)
  rw [e1]
  have s : Same G1 (upd G1 p (.dK kvs)) := fun a o z => by rw [upd_ne (ne_of_none z k2)]; exact z
  have gm := Go.mut (o := .dK kvs) e.vw hp k2 (g0.trans g1)
  refine q p kvs m (upd G1 p (.dK kvs)) _ ⟨gm.gg.trans s, fun a ha => ?_, gm.od, ⟨fun a o z => ?_, fun a z => ?_, gm.vw.ok⟩⟩ upd_same (dictOk_mono s hm) h3
  · rw [upd_ne (fun z => ha (by rw [z]; exact hp))]; exact gm.nw a ha
  · by_cases y : a = p
    · subst y; rw [upd_same] at z ⊢; exact z
    · rw [upd_ne y] at z; exact gm.vw.vw a o z
  · rw [upd_ne (fun (y : a = p) => np (by rw [← y]; exact z))]; exact gm.vw.no a z
theorem dict_val {G : Hp} (x : Str) : ∀ {kvs : List (Key × V)} {m : List (Str × PyData)}, DictOk K G kvs m → Dp K G ((valV kvs (Sum.inr x)).getD .non) ((m.lookup x).getD .none)
  | _, _, .nil => .non
  | kv :: kvs, (y, d) :: m, .cons h t => by
    obtain ⟨h1, h2⟩ := h
    unfold valV
    rw [List.find?_cons, List.lookup_cons]
    by_cases z : x = y
    · subst z
      rw [h1, decide_eq_true rfl, beq_self_eq_true]
      exact h2
    · have e1 : decide (kv.1 = Sum.inr x) = false := decide_eq_false (by rw [h1]; exact fun q => z (Sum.inr.inj q).symm)
      have e2 : (x == y) = false := beq_eq_false_iff_ne.mpr z
      rw [e1, e2]
      exact dict_val x t
theorem e_dget1 (h : ED K pen H0 td L fun m => E K pen H0 ty L fun k => ∃ x : Str, k = .str x ∧ P ((m.lookup x).getD .none)) : E K pen H0 (tDGet1 td ty) L P := fun σ G H e Q q =>
  h σ G H e _ fun p kvs m G1 H1 g1 hp hm h1 => ⟨p, rfl, .inl ⟨kvs, .inl (g1.vw.vw _ _ hp)⟩, h1 σ G1 H1 (e.go g1) _ fun v k G2 H2 g2 d2 ⟨x, hx, pp⟩ => by
    subst hx
    cases d2
    exact ⟨_, DGet.k (k := Sum.inr x) (g2.vw.vw _ _ (g2.gg _ _ hp)), q _ _ G2 H2 (g1.trans g2) (dict_val x (dictOk_mono g2.gg hm)) pp⟩⟩
/-! defs that tell a dict -/
def SpXD {α : Type} (K : PySem.W.Frag) (ts : List Addr) (Wf : α → Prop) (enc : α → List PyData) (res : α → List (Str × PyData)) : Sp := fun vs H Q _ => ∃ (x : α) (G : Hp), Vw ⟨none, ts⟩ G H ∧ DpAll K G vs (enc x) ∧ Wf x ∧ ∀ p kvs G' H', Go ⟨none, ts⟩ G H G' H' → G' p = some (.dK kvs) → DictOk K G' kvs (res x) → Q (.ref p) H'
theorem ed_callX {α : Type} {pn : Option Pn} {ts : List Addr} {Wf : α → Prop} {enc : α → List PyData} {res : α → List (Str × PyData)} {X : XK} (h : EA K ⟨pn, ts⟩ H0 tl L fun ds => ∃ x, ds = enc x ∧ Wf x ∧ Pm (res x)) : ED K ⟨pn, ts⟩ H0 (tCall (SpXD K ts Wf enc res) [] X tl) L Pm := fun σ G H e Q q =>
  h σ G H e _ fun vs ds G1 H1 go hd ⟨x, hx, h1, h2⟩ => ⟨x, G1, go.vw.plain, by rw [List.append_nil, ← hx]; exact hd, h1, fun p kvs G' H' go2 hp hm => q p kvs _ G' H' (go.trans (go2.lift go.vw)) hp hm h2⟩
end
section
variable {P : Program} {w : World} {K : PySem.W.Frag} {mg : Str → Option Value} {base : Heap}
theorem fnXD {α : Type} {x qual : Str} {st : Stmt} {f : Addr} {fd : FuncData} {N ps : List Str} {k : Nat} {ts : List Addr} {Wf : α → Prop} {enc : α → List PyData} {res : α → List (Str × PyData)} (F : Fun K x qual st f fd) (S0 : FnScope N ps (defScope st)) (hl : ∀ x, Wf x → (enc x).length = ps.length)
    (hbody : ∀ (cdv : Value) (A : Around) (outer : List Env) (s : Shared) (H : Hp) (E : XK), Room k (A.deeper (envOfC qual (defScope st) s.heap.objs.size f cdv)) →
      ∃ t, PSs (cxOf CX0 P w K mg base N qual (defScope st) f cdv A outer s H E).nox (defBody st) (tRet t) ∧ ∀ x, Wf x → ED K ⟨none, ts⟩ H t (st0 N (enc x)) fun m => m = res x) : FnOk P w K mg base CX0 (k + 1) f fd ps (SpXD K ts Wf enc res) := by
  refine F.ok S0 (fun vs H Q E h => ?_) (fun cdv A outer s H vs Q E hr h => ?_)
  · obtain ⟨x, G, _, h1, h2, _⟩ := h
    rw [dpa_len h1]
    exact hl x h2
  · obtain ⟨x, G, v, h1, h2, q⟩ := h
    obtain ⟨t, ht, hS⟩ := hbody cdv A outer s H E hr
    exact ⟨tRet t, ht, hS x h2 (L2.start N vs) G H (ev_start h1 v) _ fun p kvs m G' H' g hp hm e => by subst e; exact q p kvs G' H' g hp hm⟩
end
end Dl
set_option Elab.async false
set_option linter.all false
set_option maxRecDepth 100000
set_option maxHeartbeats 4000000
namespace Dl
open PySem PySem.Spec PyProof.Rows L2
/-! ### xs + ys of lists that are read -/
def rCatL (K : PySem.W.Frag) : R2 := fun x y H Q => ∃ l b xs zs, x = .ref l ∧ y = .ref b ∧ SqL K H l xs ∧ SqL K H b zs ∧ xs.length + zs.length ≤ sizeLine ∧ ∀ p, H p = none → Q (.ref p) (upd H p (.lst (xs ++ zs)))
section
variable {X : Cx}
theorem op_catL : OpR X (binaryOp .Add) (rCatL X.K) := by
  intro pins s σ H x y v u Q I rx ry h
  obtain ⟨l, b, xs, zs, rfl, rfl, hH, hB, hz, q⟩ := h
  cases rx
  cases ry
  obtain ⟨its, r, ⟨⟨cls, dd, data, sl⟩, n, ho, hc, hdd, hd⟩, z⟩ := I.list hH
  obtain ⟨its2, r2, ⟨⟨cls2, dd2, data2, sl2⟩, n2, ho2, hc2, hdd2, hd2⟩, z2⟩ := I.list hB
  simp only at hc hd hc2 hd2
  subst hc hd hc2 hd2
  have hl := r.length
  have hl2 := r2.length
  have ea : its.toArray ++ its2.toArray = (its ++ its2).toArray := by simp
  refine concat_meets ⟨_, ho, rfl⟩ ⟨_, ho2, rfl⟩ noFill_list_add seq_list_add PySem.F.slot_list_add PySem.F.entry_list_add (PySem.F.args_list_add_2 _ _) (list_addW l b its.toArray its2.toArray n n2 dd dd2 sl sl2 (by rw [List.size_toArray, List.size_toArray]; omega)) ⟨ho, ho2, ?_⟩
  rw [ea]
  exact ⟨.ref _, _, I.lnew (t' := s.toks) (r.append r2) (by rw [List.length_append]; omega), rfl, q _ I.fresh⟩
/-! ### a tuple once -/
theorem tuple_mul1 (l : Addr) (items : Array Value) (n : Nat) (dd : Option Addr) (sl : Array (Option Value)) (u : Tok) :
    Meets (Builtin.«tuple.__mul__» ⟨[.ref l, .int 1 u], []⟩) (fun _ R s => s.heap.get? l = some { cls := .type "tuple", dict := dd, data := .seq items n, slots := sl } ∧ R (.ok (.ret (Value.ref l))) s) :=
  .of_wp fun prog w A R s h => by
    obtain ⟨hp, g, d, tk, os⟩ := s
    obtain ⟨hl, h⟩ := h
    have f1 := AutoSeq1.idx_int
    have c0 : (decide ((1 : Int) < -(2 ^ 63)) || decide ((1 : Int) ≥ 2 ^ 63)) = false := by decide
    have c1 : (items.isEmpty || (1 : Int) == 1) = true := by rw [Bool.or_eq_true]; exact .inr rfl
    wp_walk using wpAny_loadPart' hl
    repeat (first
      | (refine wpAny_ite_false (decide_eq_false (by rw [c0]; exact Bool.false_ne_true)) ?_; wp_walk using wpAny_loadPart' hl)
      | (refine wpAny_ite_true (decide_eq_true c1) ?_; wp_walk using wpAny_loadPart' hl))
    exact ⟨_, rfl, h⟩
def rRepA (K : PySem.W.Frag) : R2 := fun x y H Q => ∃ l k xs, x = .ref l ∧ y = .int k ∧ SqT K H l xs ∧ xs ≠ [] ∧ 1 ≤ k ∧ k ≤ 1000 ∧ xs.length ≤ 1000 ∧ (k = 1 → Q (.ref l) H) ∧ (2 ≤ k → ∀ p, H p = none → Q (.ref p) (upd H p (.tup (List.replicate k.toNat xs).flatten)))
theorem op_repA : OpR X (binaryOp .Mult) (rRepA X.K) := by
  intro pins s σ H x y v u Q I rx ry h
  obtain ⟨l, k, xs, rfl, rfl, hT, hne, h1, h2, hz, q1, q2⟩ := h
  by_cases e : k = 1
  · subst e
    cases rx
    obtain ⟨t, rfl⟩ := ry
    obtain ⟨its, r, ⟨⟨cls, dd, data, sl⟩, ho, hc, n, hd⟩, hs⟩ := I.tuple hT
    simp only at hc hd
    subst hc hd
    refine wpAny_binaryOp_repeat_ref (T := "tuple") (U := "int") (by decide) ⟨_, ho, rfl⟩ (fun s' => typeIs_int s' 1 t) noFill_tuple_mul F.fills_int_mul F.slot_int_rmul repeat_tuple F.slot_int_index.lookup
      (call_meets F.slot_int_rmul (typeIs_int s 1 t) F.entry_int_rmul (F.args_int_rmul_2 _ _) (int_rmul_tuple 1 t l its.toArray n dd sl)
        ⟨ho, rfl, ⟨_, ho, rfl⟩, call_meets F.slot_tuple_mul ⟨_, ho, rfl⟩ F.entry_tuple_mul (F.args_tuple_mul_2 _ _) (tuple_mul1 l its.toArray n dd sl t) ⟨ho, ?_⟩⟩)
    exact ⟨.ref l, H, I, rfl, q1 rfl⟩
  · exact op_repT pins s σ H _ _ v u Q I rx ry ⟨l, k, xs, rfl, rfl, hT, hne, by omega, h2, hz, q2 (by omega)⟩
theorem kx_catL {K : PySem.W.Frag} (h : X.K = K) : OpR X (binaryOp .Add) (rCatL K) := by subst h; exact op_catL
theorem kx_repA {K : PySem.W.Frag} (h : X.K = K) : OpR X (binaryOp .Mult) (rRepA K) := by subst h; exact op_repA
end
section
variable {K : PySem.W.Frag} {pen : Pc} {H0 : Hp} {L : Lv} {P : PyData → Prop} {ta te : TE} {tl : TA}
theorem r_catL {as bs : List PyData} (hl : as.length + bs.length ≤ 100000) (p : P (.list (as ++ bs))) : R2d K pen (rCatL K) (.list as) (.list bs) P := fun x y G H v hx hy Q q => by
  cases hx with
  | lst hs ha =>
    cases hy with
    | lst hs' ha' =>
      rename_i a xs a' ys
      refine ⟨a, a', xs, ys, rfl, rfl, sqL_mono v.vw hs, sqL_mono v.vw hs', Nat.le_trans (by rw [dpa_len ha, dpa_len ha']; exact hl) (by decide : 100000 ≤ sizeLine), fun p' hp => ?_⟩
      have g := Go.new v (o := .lst (xs ++ ys)) hp
      exact q _ _ _ _ g (.lst (.inl (.inl upd_same)) (dpa_mono g.gg _ _ (dpa_app ha ha'))) p
theorem dpa_rep {G : Hp} {vs : List V} {ds : List PyData} (h : DpAll K G vs ds) : ∀ n : Nat, DpAll K G (List.replicate n vs).flatten (List.replicate n ds).flatten
  | 0 => .nil
  | n + 1 => by
    rw [List.replicate_succ, List.replicate_succ, List.flatten_cons, List.flatten_cons]
    exact dpa_app h (dpa_rep h n)
theorem r_repA {ds : List PyData} {k : Nat} (h0 : ds ≠ []) (h1 : 1 ≤ k) (h2 : k ≤ 1000) (h3 : ds.length ≤ 1000) (p : P (.tuple (List.replicate k ds).flatten)) : R2d K pen (rRepA K) (.tuple ds) (.int k) P := fun x y G H v hx hy Q q => by
  cases hx with
  | tup hs ha =>
    cases hy
    rename_i a xs
    have hl := dpa_len ha
    refine ⟨a, k, xs, rfl, rfl, sqT_mono v.vw hs, fun z => h0 ?_, by omega, by omega, by omega, fun e => ?_, fun _ p' hp => ?_⟩
    · rw [z] at hl
      exact List.eq_nil_of_length_eq_zero hl.symm
    · have e : k = 1 := by omega
      subst e
      have e1 : (List.replicate 1 ds).flatten = ds := by rw [List.replicate_one, List.flatten_singleton]
      rw [e1] at p
      exact q _ _ G H (.refl v) (.tup hs ha) p
    · have g := Go.new v (o := .tup (List.replicate ((k : Int)).toNat xs).flatten) hp
      exact q _ _ _ _ g (.tup (.inl (.inl upd_same)) (dpa_mono g.gg _ _ (dpa_rep ha k))) p
theorem r_notBl {i j : Bool} (p : P (.bool (!decide (i = j)))) : R2d K pen rNotB (.bool i) (.bool j) P := fun x y G H v hx hy Q q => by
  cases hx
  cases hy
  exact ⟨i, j, rfl, rfl, q _ _ G H (.refl v) (.bl _) p⟩
/-! ### all(f(x) for x in xs) -/
theorem e_allT {pn : Option Pn} {ts : List Addr} {Tb : Addr} {j : Nat} (f : PyData → Bool) (hT : Tb ∈ ts) (h : E K ⟨pn, ts⟩ H0 ta L fun d => ∃ ds, d = .tuple ds ∧ (∀ x ∈ ds, E K ⟨pn, ts⟩ H0 te ((L.set j none).set j (some (.d x))) fun d => d = .bool (f x)) ∧ P (.bool (ds.all f))) :
    E K ⟨pn, ts⟩ H0 (_root_.Gx.tGen Tb true (iTup K ta) (gName j) tYes te [j]) L P := by
  refine e_genT hT (h.mono fun d ⟨ds, e, hx, hp⟩ => ⟨ds, e, fun i => ds.all f = (ds.drop i).all f, rfl, fun i x hi hJ => et_yes ⟨fun _ => (hx x (List.mem_of_getElem? hi)).mono fun d e2 => ⟨f x, e2, fun hk => ?_, fun hk => ?_⟩, fun z => by cases z⟩, fun hJ => ?_⟩)
  · obtain ⟨hlt, hg⟩ := List.getElem?_eq_some_iff.mp hi
    rw [hJ, List.drop_eq_getElem_cons hlt, List.all_cons, hg, hk, Bool.true_and]
  · obtain ⟨hlt, hg⟩ := List.getElem?_eq_some_iff.mp hi
    rw [hJ, List.drop_eq_getElem_cons hlt, List.all_cons, hg, hk] at hp
    exact hp
  · rw [hJ, List.drop_eq_nil_of_le (Nat.le_refl _)] at hp
    exact hp
theorem e_allZ {pn : Option Pn} {ts : List Addr} {Tb : Addr} {j k : Nat} (f : PyData → PyData → Bool) (hT : Tb ∈ ts) (h : EA K ⟨pn, ts⟩ H0 tl L fun ds => ∃ as bs, ds = [.tuple as, .tuple bs] ∧ as.length = bs.length ∧
    (∀ x ∈ as, ∀ y ∈ bs, E K ⟨pn, ts⟩ H0 te ((((L.set k none).set j none).set j (some (.d x))).set k (some (.d y))) fun d => d = .bool (f x y)) ∧ P (.bool ((as.zip bs).all fun p => f p.1 p.2))) :
    E K ⟨pn, ts⟩ H0 (_root_.Gx.tGen Tb true (RZ.iZipA K tl) (gTup K 2 (gCons (gName j) (gCons (gName k) gNil))) tYes te [j, k]) L P := by
  have hm : ∀ {P P' : List PyData → Prop}, EA K ⟨pn, ts⟩ H0 tl L P → (∀ d, P d → P' d) → EA K ⟨pn, ts⟩ H0 tl L P' := fun h k σ G H e Q q => h σ G H e Q fun v d G' H' g hd p => q v d G' H' g hd (k d p)
  refine e_genZ hT (hm h fun d ⟨as, bs, e, hl, hx, hp⟩ => ⟨as, bs, e, hl, fun i => ((as.zip bs).all fun p => f p.1 p.2) = (((as.drop i).zip (bs.drop i)).all fun p => f p.1 p.2), rfl, fun i x y hi hi2 hJ => et_yes ⟨fun _ => (hx x (List.mem_of_getElem? hi) y (List.mem_of_getElem? hi2)).mono fun d e2 => ⟨f x y, e2, fun hk => ?_, fun hk => ?_⟩, fun z => by cases z⟩, fun hJ => ?_⟩)
  · obtain ⟨hlt, hg⟩ := List.getElem?_eq_some_iff.mp hi
    obtain ⟨hlt2, hg2⟩ := List.getElem?_eq_some_iff.mp hi2
    rw [hJ, List.drop_eq_getElem_cons hlt, List.drop_eq_getElem_cons hlt2, List.zip_cons_cons, List.all_cons, hg, hg2, hk, Bool.true_and]
  · obtain ⟨hlt, hg⟩ := List.getElem?_eq_some_iff.mp hi
    obtain ⟨hlt2, hg2⟩ := List.getElem?_eq_some_iff.mp hi2
    rw [hJ, List.drop_eq_getElem_cons hlt, List.drop_eq_getElem_cons hlt2, List.zip_cons_cons, List.all_cons, hg, hg2, hk] at hp
    exact hp
  · rw [hJ, List.drop_eq_nil_of_le (Nat.le_refl _)] at hp
    exact hp
/-! ### [f(x) for x in xs] -/
theorem e_mapT {j : Nat} (f : PyData → PyData) (h : E K pen H0 ta L fun d => ∃ ds, d = .tuple ds ∧ ds.length ≤ 100000 ∧ (∀ x ∈ ds, E K pen H0 te ((L.set j none).set j (some (.d x))) fun d => d = f x) ∧ P (.list (ds.map f))) :
    E K pen H0 (tLc (iTup K ta) (gName j) tYes te [j]) L P := by
  refine e_lcT (h.mono fun d ⟨ds, e, hz, hx, hp⟩ => ⟨ds, e, hz, fun i acc => acc = (ds.take i).map f, rfl, fun i x acc hi hJ => et_yes ⟨fun _ => (hx x (List.mem_of_getElem? hi)).mono fun d e2 => ?_, fun z => by cases z⟩, fun acc hJ => ?_⟩)
  · obtain ⟨hlt, hg⟩ := List.getElem?_eq_some_iff.mp hi
    rw [hJ, e2, List.take_succ_eq_append_getElem hlt, List.map_append, hg]
    rfl
  · rw [hJ, List.take_length]
    exact hp
end
/-! ### the end with tables -/
theorem tabB_of {base : Heap} {mg : Str → Option Value} {c P : Addr} (h : LamX.TabB base mg c P) : GxR.TabB base mg c P := ⟨h.code, h.bm, h.gP⟩
theorem tabG_nil {H : Hp} {P : Addr} (h : H P = some (.tbl #[])) : GxR.TabG H P := ⟨#[], h, trivial⟩
/-- the tables of all defs of the top are empty -/
def AllTabs (q : Program) (K : PySem.W.Frag) (mg : Str → Option Value) (h : Heap) : Prop := ∀ (x : Str) (fa c P : Addr) (o : Obj) (fd : FuncData) (e : Value) (dd : Option Addr) (vs : Array Value) (sl : Array (Option Value)), ((recsOf q).any fun e => e.name == x) = true → mg x = some (.ref fa) →
  K.lookup fa = some o → o.data = .func fd → fd.code = .ref c → K.lookup c = some ⟨e, dd, .fields vs, sl⟩ → vs[11]? = some (.ref P) → h.get? P = some { cls := .none, data := .fields #[] }
theorem walk_ofTabs {l : PySem.W.OpenLaw} {n k : Nat} {q : Program} {loose : List Str} {XP : (Str → Option Value) → Heap → Prop} {YP : World → Heap → Prop} {d : DefRec} {K : Params → PySem.W.Frag} {CX : World → CXT} {x : Str}
    (hn : l.most = some n) (hn2 : n ≤ sizeLine) (hdf : d.params.defaults = []) (hr : Room k callerA) (hY : ∀ (w : World) (h : Heap), YP w h → (K w.params).In h)
    (F : ∀ (w : World) (mg : Str → Option Value) (fa : Addr) (h : Heap), (K w.params).In h → h.Ns mainGlobals mg → mg d.name = some (.ref fa) → AllTabs q (K w.params) mg h → LamX.LawAtS l w (K w.params) (CX w) k n x mg fa h)
    (hCX : ∀ (w : World) (H : Hp) (s : Shared) (e : Value) (s' : Shared), CX w [] H s (fun _ _ _ => False) e s' → False) :
    PySem.W.WalkO q loose XP YP l.row.toRowW d [] (fun f vs => PySem.call f vs) := by
  refine Att.attach_callB hn hdf fun w s₀ s₁ mg mb fa o pm cd doc a vs ns G Y ho hd hcd hmg hobj hints hlen hbits hg => ?_
  have KX := hY w _ Y
  have own : AllTabs q (K w.params) mg s₁.heap := fun x f c P o1 fd1 e dd vs1 sl hrec hx k1 k2 k3 k4 k5 => by
    obtain ⟨dL, hm, hn1⟩ := List.any_eq_true.mp hrec
    obtain ⟨a', o', fd', c', P', h1, h2, h3, h4, h5, h6⟩ := G.T.tab dL hm
    rw [beq_iff_eq.mp hn1, hx] at h1
    cases h1
    rw [KX _ _ k1] at h2
    cases h2
    rw [k2] at h3
    cases h3
    rw [k3] at h4
    cases h4
    obtain ⟨⟨oc, vc, e1, _, e3, e4⟩, hP⟩ := h6
    rw [KX _ _ k4] at e1
    cases e1
    cases e3
    rw [k5] at e4
    cases e4
    exact hP
  obtain ⟨fd, cs, sp, hT, nT, C, hb, hsp, hF⟩ := F w mg fa _ KX G.T.g hmg own
  exact LamX.law_callTs KX G.T.g G.T.b G.T.builtins G.T.nolimit hg hT nT C G.T.bmain hobj hints (Nat.le_trans hlen hn2) hr hF hb (fun H hH hS => hsp H a ns hlen hbits hH hS) fun H e s' => hCX w H s₁ e s'
end Dl
set_option Elab.async false
set_option linter.all false
set_option maxRecDepth 100000
namespace Dl
open PySem PySem.Spec PyProof.Rows L2
/-! ### the law's beginning, with tables -/
theorem tabG_upd {H : Hp} {P l : Addr} {o : HO} (h : GxR.TabG H P) (hn : H l = none) : GxR.TabG (upd H l o) P := by
  obtain ⟨ps, e, t⟩ := h
  exact ⟨ps, by rw [upd_ne (fun z => by rw [z, hn] at e; cases e)]; exact e, t⟩
def spPenT (K : PySem.W.Frag) (ts : List Addr) : Sp := fun vs H Q _ => ∃ (a : Addr) (ns : List Int), vs = [.ref a] ∧ SqL K H a (ns.map V.int) ∧ (∀ P ∈ ts, GxR.TabG H P) ∧
  ∀ (p c : Addr) (cells : List Int) H', H' p = some (.lst [.ref c, .int 0, .int 0]) → H' c = some (.lst (cells.map V.int)) → (∀ P ∈ ts, GxR.TabG H' P) → Q (.ref p) H'
def spLawT (K : PySem.W.Frag) (ts : List Addr) : Sp := fun vs H Q _ => ∃ (a : Addr) (ns : List Int), vs = [.ref a] ∧ SqL K H a (ns.map V.int) ∧ ns.length ≤ 63 ∧ (∀ P ∈ ts, GxR.TabG H P) ∧ ∀ H', Q (.bl true) H'
end Dl
set_option Elab.async false
set_option linter.all false
set_option maxRecDepth 100000
set_option maxHeartbeats 4000000
namespace Dl
open PySem PySem.Spec PyProof.Rows L2
/-! ### sorted(set(t)), t a tuple of ints -/
def rSetI (K : PySem.W.Frag) (w : World) : List V → Hp → VK → Prop := fun xs H Q => ∃ (l : Addr) (ns : List Int), xs = [V.ref l] ∧ SqT K H l (ns.map V.int) ∧ ns.length ≤ 1000 ∧ ∀ p c, H p = none → c ≤ ns.length → Q (.ref p) (upd H p (SetO w p (fun j => decide (j ∈ ns)) c))
section
variable {X : Cx}
theorem cr_setI (hc : X.calm = true) : CallR X (.type "set") (rSetI X.K X.w) := by
  intro pins s σ H xs us Q I r h
  obtain ⟨l, ns, rfl, hl, hz, q⟩ := h
  rw [Vals.ref1 r]
  obtain ⟨its, rv, pt, _⟩ := I.tuple hl
  have hb : (2000 : Nat) < scanBound := by decide +kernel
  refine call_set_tupI (P := X.prog) (w := X.w) ns (I.ok.hd hc) (show s.heap.IsTuple l its.toArray from pt) (by simpa using rv.ints) (by omega) fun h' tk c R hcl kp => ?_
  exact ⟨.ref s.heap.objs.size, _, I.laid (t' := tk) kp (Nat.le_refl _) (setO_new R), rfl, q _ c I.fresh hcl⟩
theorem kx_setI {K : PySem.W.Frag} {w : World} (h : X.K = K) (hw : X.w = w) (hc : X.calm = true) : CallR X (.type "set") (rSetI K w) := by subst h; subst hw; exact cr_setI hc
theorem kx_sortedSet {w : World} (hw : X.w = w) (hc : X.calm = true) : CallR X (.builtin "sorted") (rSortedSet w) := by subst hw; exact cr_sortedSet hc
end
def intsL (l : List Int) : List PyData := l.map .int
theorem dpa_ints {K : PySem.W.Frag} {G : Hp} : ∀ {vs : List V} {ns : List Int}, DpAll K G vs (intsL ns) → vs = ns.map V.int
  | _, [], h => by cases h; rfl
  | _, n :: ns, h => by
    cases h with
    | cons h1 h2 =>
      cases h1
      rw [dpa_ints h2]
      rfl
theorem ints_dpa {K : PySem.W.Frag} {G : Hp} : ∀ ns : List Int, DpAll K G (ns.map V.int) (intsL ns)
  | [] => .nil
  | n :: ns => .cons (.int n) (ints_dpa ns)
section
variable {K : PySem.W.Frag} {pen : Pc} {H0 : Hp} {L : Lv} {P : PyData → Prop} {ta te : TE} {tl : TA} {w : World}
theorem e_sortSet (h : E K pen H0 ta L fun d => ∃ ns : List Int, d = .tuple (intsL ns) ∧ ns.length < 64 ∧ ∀ ms : List Int, ms.Pairwise (· < ·) → (∀ k, k ∈ ms ↔ k ∈ ns) → P (.list (intsL ms))) :
    E K pen H0 (tCB (rSortedSet w) (tCons (tCB (rSetI K w) (tCons ta tNil)) tNil)) L P := fun σ G H e Q q => h σ G H e _ fun v d G1 H1 go hd ⟨ns, hds, hz, hp⟩ => by
  subst hds
  cases hd with
  | tup hs ha =>
    rename_i a xs
    have ex := dpa_ints ha
    subst ex
    refine ⟨a, ns, rfl, sqT_mono go.vw.vw hs, by omega, fun p c hpn hc => ?_⟩
    refine ⟨p, _, c, rfl, upd_same, by omega, fun ms r hm1 hm2 hm3 hr => ?_⟩
    have g2 := Go.hid go.vw (o := SetO w p (fun j => decide (j ∈ ns)) c) hpn
    have g3 := Go.new g2.vw (o := .lst (ms.map V.int)) hr
    exact q _ _ _ _ ((go.trans g2).trans g3) (.lst (.inl (.inl upd_same)) (ints_dpa ms)) (hp ms hm1 fun k => by rw [hm2 k, decide_eq_true_eq])
/-! ### k in t, k not in t, t a tuple of ints -/
theorem inV_ints (k : Int) (ns : List Int) : inV (.int k) (ns.map V.int) = decide (k ∈ ns) := by
  unfold inV
  rw [List.any_map]
  have e : ((fun y => eqV y (V.int k)) ∘ V.int) = fun n : Int => decide (n = k) := by
    funext n
    rfl
  rw [e]
  by_cases h : k ∈ ns
  · rw [decide_eq_true h, List.any_eq_true]
    exact ⟨k, h, decide_eq_true rfl⟩
  · rw [decide_eq_false h, List.any_eq_false]
    intro n hn z
    exact h (of_decide_eq_true z ▸ hn)
theorem r_inI {k : Int} {ns : List Int} (p : P (.bool (decide (k ∈ ns)))) : R2d K pen (rIn K false) (.int k) (.tuple (intsL ns)) P := fun x y G H v hx hy Q q => by
  cases hx
  cases hy with
  | tup hs ha =>
    rename_i a xs
    have ex := dpa_ints ha
    subst ex
    refine ⟨a, _, rfl, .inr (sqT_mono v.vw hs), rfl, ?_, ?_⟩
    · rw [List.all_eq_true]
      intro z hz
      obtain ⟨n, _, rfl⟩ := List.mem_map.mp hz
      rfl
    · rw [if_neg Bool.false_ne_true, inV_ints]
      exact q _ _ G H (.refl v) (.bl _) p
theorem r_notInI {k : Int} {ns : List Int} (p : P (.bool (!decide (k ∈ ns)))) : R2d K pen (rIn K true) (.int k) (.tuple (intsL ns)) P := fun x y G H v hx hy Q q => by
  cases hx
  cases hy with
  | tup hs ha =>
    rename_i a xs
    have ex := dpa_ints ha
    subst ex
    refine ⟨a, _, rfl, .inr (sqT_mono v.vw hs), rfl, ?_, ?_⟩
    · rw [List.all_eq_true]
      intro z hz
      obtain ⟨n, _, rfl⟩ := List.mem_map.mp hz
      rfl
    · rw [if_pos rfl, inV_ints]
      exact q _ _ G H (.refl v) (.bl _) p
end
end Dl
set_option Elab.async false
set_option linter.all false
set_option maxRecDepth 100000
set_option maxHeartbeats 4000000
namespace Dl
open PySem PySem.Spec PyProof.Rows L2
/-! ### t == () -/
def rEqNil (K : PySem.W.Frag) : R2 := fun x y H Q => ∃ a b xs, x = .ref a ∧ y = .ref b ∧ SqT K H a xs ∧ SqT K H b [] ∧ Q (.bl (decide (xs.length = 0))) H
section
variable {X : Cx}
theorem op_eqNil {k : Nat} (hr : Room k X.A) : OpR X (compareOp .Eq) (rEqNil X.K) := by
  intro pins s σ H x y v u Q I rx ry h
  obtain ⟨a, b, xs, rfl, rfl, ha, hb, q⟩ := h
  cases rx
  cases ry
  obtain ⟨its, r1, p1, _⟩ := I.tuple ha
  obtain ⟨its2, r2, p2, _⟩ := I.tuple hb
  have l1 := r1.length
  cases r2
  refine SeqAt.eq_tupleAt (e := fun _ => true) (show s.heap.IsTuple a its.toArray from p1) (show s.heap.IsTuple b #[] from p2) (Nat.lt_of_le_of_lt (Nat.le_add_right _ _) hr.units) (fun j _ h2 => absurd h2 (Nat.not_lt_zero _)) ?_
  refine ⟨.bl (decide (xs.length = 0)), H, I, ?_, q⟩
  show Value.bool _ = Value.bool _
  congr 1
  rw [show min its.toArray.size (#[] : Array Value).size = 0 from Nat.min_zero _]
  show (true && (its.toArray.size == 0)) = _
  rw [Bool.true_and, List.size_toArray, ← l1, Bool.eq_iff_iff, beq_iff_eq, decide_eq_true_eq]
theorem kx_eqNil {K : PySem.W.Frag} {k : Nat} (h : X.K = K) (hr : Room k X.A) : OpR X (compareOp .Eq) (rEqNil K) := by subst h; exact op_eqNil hr
end
section
variable {K : PySem.W.Frag} {pen : Pc} {H0 : Hp} {L : Lv} {P : PyData → Prop} {td ty ta te : TE} {tl : TA}
theorem r_eqNil {ds : List PyData} (p : P (.bool (decide (ds.length = 0)))) : R2d K pen (rEqNil K) (.tuple ds) (.tuple []) P := fun x y G H v hx hy Q q => by
  cases hx with
  | tup hs ha =>
    cases hy with
    | tup hs' ha' =>
      rename_i a xs a' ys
      cases ha'
      refine ⟨a, a', xs, rfl, rfl, sqT_mono v.vw hs, sqT_mono v.vw hs', ?_⟩
      rw [dpa_len ha]
      exact q _ _ G H (.refl v) (.bl _) p
/-! ### d[k] -/
theorem dict_some {G : Hp} (x : Str) {d : PyData} : ∀ {kvs : List (Key × V)} {m : List (Str × PyData)}, DictOk K G kvs m → m.lookup x = some d → ∃ v, valV kvs (Sum.inr x) = some v ∧ Dp K G v d
  | _, _, .nil, e => by cases e
  | kv :: kvs, (y, d') :: m, .cons h t, e => by
    obtain ⟨h1, h2⟩ := h
    unfold valV
    rw [List.find?_cons]
    rw [List.lookup_cons] at e
    by_cases z : x = y
    · subst z
      rw [beq_self_eq_true] at e
      cases e
      rw [h1, decide_eq_true rfl]
      exact ⟨_, rfl, h2⟩
    · rw [beq_eq_false_iff_ne.mpr z] at e
      rw [decide_eq_false (by rw [h1]; exact fun q => z (Sum.inr.inj q).symm)]
      exact dict_some x t e
theorem e_dget (h : ED K pen H0 td L fun m => E K pen H0 ty L fun k => ∃ x : Str, k = .str x ∧ ∃ d, m.lookup x = some d ∧ P d) : E K pen H0 (tDGet td ty) L P := fun σ G H e Q q =>
  h σ G H e _ fun p kvs m G1 H1 g1 hp hm h1 => h1 σ G1 H1 (e.go g1) _ fun v k G2 H2 g2 d2 ⟨x, hx, d, hd, pp⟩ => by
    subst hx
    cases d2
    obtain ⟨u, hu, du⟩ := dict_some x (dictOk_mono g2.gg hm) hd
    exact ⟨p, u, rfl, by rw [← hu]; exact DGet.k (k := Sum.inr x) (g2.vw.vw _ _ (g2.gg _ _ hp)), q _ _ G2 H2 (g1.trans g2) du pp⟩
/-! ### texts -/
def strsL (l : List Str) : List PyData := l.map .str
theorem dpa_strs {G : Hp} : ∀ {vs : List V} {ns : List Str}, DpAll K G vs (strsL ns) → vs = ns.map V.str
  | _, [], h => by cases h; rfl
  | _, n :: ns, h => by
    cases h with
    | cons h1 h2 =>
      cases h1
      rw [dpa_strs h2]
      rfl
theorem inV_strs (k : Str) (ns : List Str) : inV (.str k) (ns.map V.str) = decide (k ∈ ns) := by
  unfold inV
  rw [List.any_map]
  by_cases h : k ∈ ns
  · rw [decide_eq_true h, List.any_eq_true]
    exact ⟨k, h, show (k == k) = true from beq_self_eq_true k⟩
  · rw [decide_eq_false h, List.any_eq_false]
    intro n hn z
    have z : (n == k) = true := z
    exact h (beq_iff_eq.mp z ▸ hn)
theorem flat_strs (ns : List Str) : (ns.map V.str).all flatV = true := by
  rw [List.all_eq_true]
  intro x hx
  obtain ⟨b, _, rfl⟩ := List.mem_map.mp hx
  rfl
theorem r_inS {k : Str} {ns : List Str} (p : P (.bool (decide (k ∈ ns)))) : R2d K pen (rIn K false) (.str k) (.tuple (strsL ns)) P := fun x y G H v hx hy Q q => by
  cases hx
  cases hy with
  | tup hs ha =>
    have ex := dpa_strs ha
    subst ex
    refine ⟨_, _, rfl, .inr (sqT_mono v.vw hs), rfl, flat_strs ns, ?_⟩
    rw [if_neg Bool.false_ne_true, inV_strs]
    exact q _ _ G H (.refl v) (.bl _) p
theorem r_notInS {k : Str} {ns : List Str} (p : P (.bool (!decide (k ∈ ns)))) : R2d K pen (rIn K true) (.str k) (.tuple (strsL ns)) P := fun x y G H v hx hy Q q => by
  cases hx
  cases hy with
  | tup hs ha =>
    have ex := dpa_strs ha
    subst ex
    refine ⟨_, _, rfl, .inr (sqT_mono v.vw hs), rfl, flat_strs ns, ?_⟩
    rw [if_pos rfl, inV_strs]
    exact q _ _ G H (.refl v) (.bl _) p
theorem r_addS {i j : Str} (h : i.length + j.length ≤ 100000) (p : P (.str (i ++ j))) : R2d K pen (fun x y H Q => ∃ i j, x = .str i ∧ y = .str j ∧ i.length + j.length ≤ sizeLine ∧ Q (.str (i ++ j)) H) (.str i) (.str j) P := fun x y G H v hx hy Q q => by
  cases hx
  cases hy
  exact ⟨i, j, rfl, rfl, Nat.le_trans h (by decide : 100000 ≤ sizeLine), q _ _ G H (.refl v) (.str _) p⟩
theorem r_slS {z : Str} {lo hi : Option Int} (h : z.length ≤ 100000) (p : P (.str (cutS z lo hi))) : RSd K pen rSlS (.str z) lo hi P := fun x G H v hx Q q => by
  cases hx
  exact ⟨z, rfl, Nat.le_trans h (by decide : 100000 ≤ sizeLine), q _ _ G H (.refl v) (.str _) p⟩
theorem e_upper (h : E K pen H0 te L fun d => ∃ z : Str, d = .str z ∧ z.length ≤ 100000 ∧ P (.str (Txt.upper z))) : E K pen H0 (tM0 (fun x xs H Q => ∃ a, x = .str a ∧ xs = [] ∧ a.length ≤ 5592405 ∧ Q (.str (Txt.upper a)) H) te) L P := fun σ G H e Q q =>
  h σ G H e _ fun v d G1 H1 go hd ⟨z, hz, hl, p⟩ => by
    subst hz
    cases hd
    exact ⟨⟨z, rfl⟩, z, rfl, rfl, Nat.le_trans hl (by decide), q _ _ G1 H1 go (.str _) p⟩
theorem c_strI {i : Int} (h : i.natAbs.log2 < 1920) (p : P (.str (toString i))) : RCd K pen (fun xs H Q => ∃ i, xs = [.int i] ∧ i.natAbs.log2 < 1920 ∧ Q (.str (toString i)) H) [.int i] P := fun vs G H v hv Q q => by
  cases hv with
  | cons h1 h2 =>
    cases h2
    cases h1
    exact ⟨i, rfl, h, q _ _ G H (.refl v) (.str _) p⟩
theorem r_neg {i : Int} (p : P (.int (-i))) : RUd K pen (rU fun i => .int (-i)) (.int i) P := fun x G H v hx Q q => by
  cases hx
  exact ⟨i, rfl, q _ _ G H (.refl v) (.int _) p⟩
theorem cutS_len (z : Str) (lo hi : Option Int) : (cutS z lo hi).length ≤ z.length := by
  show (((z.cps.toList.drop _).take _).toArray).size ≤ z.cps.size
  rw [List.size_toArray, List.length_take, List.length_drop, Array.length_toList]
  omega
theorem e_mapL {j : Nat} (f : PyData → PyData) (h : E K pen H0 ta L fun d => ∃ ds, d = .list ds ∧ ds.length ≤ 100000 ∧ (∀ x ∈ ds, E K pen H0 te ((L.set j none).set j (some (.d x))) fun d => d = f x) ∧ P (.list (ds.map f))) :
    E K pen H0 (tLc (iList K ta) (gName j) tYes te [j]) L P := by
  refine e_lcL (h.mono fun d ⟨ds, e, hz, hx, hp⟩ => ⟨ds, e, hz, fun i acc => acc = (ds.take i).map f, rfl, fun i x acc hi hJ => et_yes ⟨fun _ => (hx x (List.mem_of_getElem? hi)).mono fun d e2 => ?_, fun z => by cases z⟩, fun acc hJ => ?_⟩)
  · obtain ⟨hlt, hg⟩ := List.getElem?_eq_some_iff.mp hi
    rw [hJ, e2, List.take_succ_eq_append_getElem hlt, List.map_append, hg]
    rfl
  · rw [hJ, List.take_length]
    exact hp
end
end Dl
set_option Elab.async false
set_option linter.all false
set_option maxRecDepth 100000
/-! programs, stands, ticks as plain data -/
namespace Wm
open PySem Dl
inductive Row where
  | set (p v : Nat) | add (p q : Nat) | jump (p k : Nat) | say (p : Nat) | take (p : Nat) | fin
def Row.D : Row → PyData
  | .set p v => .tuple [.str "set", .int p, .int v]
  | .add p q => .tuple [.str "add", .int p, .int q]
  | .jump p k => .tuple [.str "jump", .int p, .int k]
  | .say p => .tuple [.str "say", .int p]
  | .take p => .tuple [.str "take", .int p]
  | .fin => .tuple [.str "end"]
def Row.Ok (n w many : Nat) : Row → Prop
  | .set p v => p < n ∧ v < w
  | .add p q => p < n ∧ q < n
  | .jump p k => p < n ∧ k < many
  | .say p => p < n
  | .take p => p < n
  | .fin => True
structure Prog where
  n : Nat
  w : Nat
  rows : List Row
structure Prog.Ok (x : Prog) : Prop where
  n1 : 1 ≤ x.n
  n2 : x.n ≤ 12
  w1 : 2 ≤ x.w
  w2 : x.w ≤ 100
  r1 : 1 ≤ x.rows.length
  r2 : x.rows.length ≤ 20
  rs : ∀ r ∈ x.rows, r.Ok x.n x.w x.rows.length
abbrev Prog.D (x : Prog) : PyData := .tuple [.int x.n, .int x.w, .tuple (x.rows.map Row.D)]
structure Stand where
  at_ : Nat
  sh : List Nat
structure Stand.Ok (x : Prog) (s : Stand) : Prop where
  a1 : s.at_ ≤ x.rows.length
  s1 : s.sh.length = x.n
  s2 : ∀ v ∈ s.sh, v < x.w
abbrev natD (v : Nat) : PyData := .int (v : Int)
def natsD (l : List Nat) : List PyData := l.map natD
abbrev Stand.D (s : Stand) : PyData := .tuple [.int s.at_, .tuple (natsD s.sh)]
structure Told where
  st : Stand
  word : Str
  num : Option Nat
  reads : List Nat
  writes : List Nat
def numD : Option Nat → PyData
  | none => .none
  | some v => .int v
abbrev Told.D (t : Told) : PyData := .tuple [t.st.D, .str t.word, numD t.num, .tuple (natsD t.reads), .tuple (natsD t.writes)]
def rowAt (x : Prog) (a : Nat) : Row := x.rows.getD a .fin
def rise (p q : Nat) : List Nat := if p = q then [p] else [min p q, max p q]
def tickF (x : Prog) (s : Stand) (ls : List Nat) : Told := match rowAt x s.at_ with
  | .set p v => ⟨⟨s.at_ + 1, s.sh.set p v⟩, "did", none, [], [p]⟩
  | .add p q => ⟨⟨s.at_ + 1, s.sh.set p ((s.sh.getD p 0 + s.sh.getD q 0) % x.w)⟩, "did", none, rise p q, [p]⟩
  | .jump p k => ⟨⟨if s.sh.getD p 0 = 0 then k else s.at_ + 1, s.sh⟩, "did", none, [p], []⟩
  | .say p => ⟨⟨s.at_ + 1, s.sh⟩, "said", some (s.sh.getD p 0), [p], []⟩
  | .take p => (match ls with
    | [] => ⟨s, "waits", none, [], []⟩
    | l :: _ => ⟨⟨s.at_ + 1, s.sh.set p l⟩, "took", some l, [], [p]⟩)
  | .fin => ⟨s, "ended", none, [], []⟩
theorem natsD_len (l : List Nat) : (natsD l).length = l.length := List.length_map _
theorem natsD_get {l : List Nat} {p : Nat} (h : p < l.length) : (natsD l)[p]? = some (natD (l.getD p 0)) := by
  unfold natsD
  rw [List.getElem?_map, List.getElem?_eq_getElem h, List.getD_eq_getElem?_getD, List.getElem?_eq_getElem h]
  rfl
theorem natsD_at {l : List Nat} {p : Nat} (h : p < l.length) : L2.atI (natsD l) (p : Int) = some (.int ((l.getD p 0 : Nat) : Int)) := L2.atI_nat (natsD_get h)
theorem cut_to (xs : List PyData) (p : Nat) : cutD xs none (some (p : Int)) = xs.take p := by
  unfold cutD
  rw [HT.sIx_none, HT.sIx_nat]
  show (xs.drop 0).take (min p xs.length - 0) = xs.take p
  rw [Nat.sub_zero, List.drop_zero]
  by_cases h : p ≤ xs.length
  · rw [Nat.min_eq_left h]
  · rw [Nat.min_eq_right (by omega), List.take_length, List.take_of_length_le (by omega)]
theorem cut_from (xs : List PyData) (p : Nat) : cutD xs (some (p : Int)) none = xs.drop p := by
  unfold cutD
  rw [HT.sIx_none, HT.sIx_nat]
  by_cases h : p ≤ xs.length
  · rw [Nat.min_eq_left h, List.take_of_length_le]
    rw [List.length_drop]; omega
  · rw [Nat.min_eq_right (by omega), Nat.sub_self, List.take_zero, List.drop_eq_nil_of_le (by omega)]
theorem set_parts {l : List Nat} {p v : Nat} (h : p < l.length) : (natsD l).take p ++ [natD v] ++ (natsD l).drop (p + 1) = natsD (l.set p v) := by
  unfold natsD
  rw [← List.map_take, ← List.map_drop, List.set_eq_take_append_cons_drop, if_pos h, List.map_append, List.map_cons, List.append_assoc]
  rfl
theorem natsD_set (l : List Nat) (p v : Nat) : (natsD l).set p (natD v) = natsD (l.set p v) := by
  unfold natsD
  rw [List.map_set]
end Wm
set_option Elab.async false
set_option linter.all false
set_option maxRecDepth 100000
/-! what is a program, what is a stand, over plain data -/
namespace Wm
open PySem Dl
def whole : PyData → Bool
  | .int _ => true
  | _ => false
def wholeIn (d : PyData) (lo hi : Int) : Bool := match d with
  | .int i => decide (lo ≤ i) && decide (i ≤ hi)
  | _ => false
def tupOf (d : PyData) (m : Int) : Bool := match d with
  | .tuple ds => decide ((ds.length : Int) = m)
  | _ => false
def lims (n w m : Int) : List (Str × List Int) := [("set", [n, w]), ("add", [n, n]), ("jump", [n, m]), ("say", [n]), ("take", [n]), ("end", [])]
def intsD (l : List Int) : List PyData := l.map .int
def limsD (n w m : Int) : List (Str × PyData) := [("set", .tuple [.int n, .int w]), ("add", .tuple [.int n, .int n]), ("jump", .tuple [.int n, .int m]), ("say", .tuple [.int n]), ("take", .tuple [.int n]), ("end", .tuple [])]
theorem limsD_eq (n w m : Int) : limsD n w m = (lims n w m).map fun p => (p.1, PyData.tuple (intsD p.2)) := rfl
theorem lookup_map {β γ : Type} (f : β → γ) (x : Str) : ∀ l : List (Str × β), (l.map fun p => (p.1, f p.2)).lookup x = (l.lookup x).map f
  | [] => rfl
  | (y, b) :: l => by
    rw [List.map_cons, List.lookup_cons, List.lookup_cons]
    cases x == y with
    | true => rfl
    | false => exact lookup_map f x l
theorem limsD_get (n w m : Int) (x : Str) : (limsD n w m).lookup x = ((lims n w m).lookup x).map fun l => PyData.tuple (intsD l) := by rw [limsD_eq, lookup_map (fun l => PyData.tuple (intsD l))]
def partB (x y : PyData) : Bool := match y with
  | .int l => wholeIn x 0 (l - 1)
  | _ => false
def restB (rest : List PyData) (o : Option (List Int)) : Bool := match o with
  | some ls => decide (rest.length = ls.length) && (rest.zip (intsD ls)).all fun p => partB p.1 p.2
  | none => false
def rowB (d : PyData) (n w m : Int) : Bool := match d with
  | .tuple (.str word :: rest) => restB rest ((lims n w m).lookup word)
  | _ => false
def progB3 (a b c : PyData) : Bool := match a, b, c with
  | .int n, .int w, .tuple rs => (decide (1 ≤ n) && decide (n ≤ 12)) && (decide (2 ≤ w) && decide (w ≤ 100)) && (decide (1 ≤ (rs.length : Int)) && decide ((rs.length : Int) ≤ 20)) && rs.all fun r => rowB r n w rs.length
  | _, _, _ => false
def progB (d : PyData) : Bool := match d with
  | .tuple [a, b, c] => progB3 a b c
  | _ => false
def sheetsB (x : Prog) (a s : PyData) : Bool := match s with
  | .tuple ss => wholeIn a 0 x.rows.length && decide ((ss.length : Int) = x.n) && ss.all fun s => wholeIn s 0 (x.w - 1)
  | _ => false
def standB (x : Prog) (d : PyData) : Bool := match d with
  | .tuple [a, s] => sheetsB x a s
  | _ => false
theorem whole_nat (v : Nat) (m : Int) (h : (v : Int) ≤ m) : wholeIn (.int v) 0 m = true := by
  show (decide ((0 : Int) ≤ v) && decide ((v : Int) ≤ m)) = true
  rw [decide_eq_true (by omega), decide_eq_true h]
  rfl
theorem row_B {r : Row} {n w m : Nat} (h : r.Ok n w m) : rowB r.D n w m = true := by
  cases r with
  | set p v => obtain ⟨h1, h2⟩ := h; show (true && (wholeIn (.int p) 0 ((n : Int) - 1) && (wholeIn (.int v) 0 ((w : Int) - 1) && true))) = true; rw [whole_nat _ _ (by omega), whole_nat _ _ (by omega)]; rfl
  | add p v => obtain ⟨h1, h2⟩ := h; show (true && (wholeIn (.int p) 0 ((n : Int) - 1) && (wholeIn (.int v) 0 ((n : Int) - 1) && true))) = true; rw [whole_nat _ _ (by omega), whole_nat _ _ (by omega)]; rfl
  | jump p v => obtain ⟨h1, h2⟩ := h; show (true && (wholeIn (.int p) 0 ((n : Int) - 1) && (wholeIn (.int v) 0 ((m : Int) - 1) && true))) = true; rw [whole_nat _ _ (by omega), whole_nat _ _ (by omega)]; rfl
  | say p => have h1 : p < n := h; show (true && (wholeIn (.int p) 0 ((n : Int) - 1) && true)) = true; rw [whole_nat _ _ (by omega)]; rfl
  | take p => have h1 : p < n := h; show (true && (wholeIn (.int p) 0 ((n : Int) - 1) && true)) = true; rw [whole_nat _ _ (by omega)]; rfl
  | fin => rfl
theorem prog_B {x : Prog} (h : x.Ok) : progB x.D = true := by
  obtain ⟨h1, h2, h3, h4, h5, h6, h7⟩ := h
  show ((decide (1 ≤ (x.n : Int)) && decide ((x.n : Int) ≤ 12)) && (decide (2 ≤ (x.w : Int)) && decide ((x.w : Int) ≤ 100)) && (decide (1 ≤ ((x.rows.map Row.D).length : Int)) && decide (((x.rows.map Row.D).length : Int) ≤ 20)) && (x.rows.map Row.D).all fun r => rowB r x.n x.w (x.rows.map Row.D).length) = true
  rw [List.length_map, decide_eq_true (by omega), decide_eq_true (by omega), decide_eq_true (by omega), decide_eq_true (by omega), decide_eq_true (by omega), decide_eq_true (by omega)]
  show ((x.rows.map Row.D).all fun r => rowB r x.n x.w x.rows.length) = true
  rw [List.all_eq_true]
  intro d hd
  obtain ⟨r, hr, rfl⟩ := List.mem_map.mp hd
  exact row_B (h7 r hr)
theorem stand_B {x : Prog} {s : Stand} (h : s.Ok x) : standB x s.D = true := by
  obtain ⟨h1, h2, h3⟩ := h
  show (wholeIn (.int s.at_) 0 x.rows.length && decide (((natsD s.sh).length : Int) = x.n) && (natsD s.sh).all fun s => wholeIn s 0 ((x.w : Int) - 1)) = true
  rw [natsD_len, whole_nat _ _ (by omega), decide_eq_true (by omega)]
  show ((natsD s.sh).all fun s => wholeIn s 0 ((x.w : Int) - 1)) = true
  rw [List.all_eq_true]
  intro d hd
  obtain ⟨v, hv, rfl⟩ := List.mem_map.mp hd
  have := h3 v hv
  exact whole_nat _ _ (by omega)
theorem wholeIn_int {d : PyData} {lo hi : Int} (h : wholeIn d lo hi = true) : ∃ i, d = .int i ∧ lo ≤ i ∧ i ≤ hi := by
  cases d with
  | int i =>
    have h : (decide (lo ≤ i) && decide (i ≤ hi)) = true := h
    rw [Bool.and_eq_true] at h
    exact ⟨i, rfl, of_decide_eq_true h.1, of_decide_eq_true h.2⟩
  | _ => cases h
theorem progB_no1 {a b c : PyData} (h : wholeIn a 1 12 = false) : progB (.tuple [a, b, c]) = false := by
  cases a <;> try rfl
  cases b <;> try rfl
  cases c <;> try rfl
  rename_i n w rs
  show (wholeIn (.int n) 1 12 && _ && _ && _) = false
  rw [h, Bool.false_and, Bool.false_and, Bool.false_and]
theorem progB_no2 {n : Int} {b c : PyData} (h : wholeIn b 2 100 = false) : progB (.tuple [.int n, b, c]) = false := by
  cases b <;> try rfl
  cases c <;> try rfl
  rename_i w rs
  show (_ && wholeIn (.int w) 2 100 && _ && _) = false
  rw [h, Bool.and_false, Bool.false_and, Bool.false_and]
theorem progB_yes {n w : Int} {rs : List PyData} (h1 : wholeIn (.int n) 1 12 = true) (h2 : wholeIn (.int w) 2 100 = true) : progB (.tuple [.int n, .int w, .tuple rs]) = ((decide (1 ≤ (rs.length : Int)) && decide ((rs.length : Int) ≤ 20)) && rs.all fun r => rowB r n w rs.length) := by
  show (wholeIn (.int n) 1 12 && wholeIn (.int w) 2 100 && (decide (1 ≤ (rs.length : Int)) && decide ((rs.length : Int) ≤ 20)) && rs.all fun r => rowB r n w rs.length) = _
  rw [h1, h2]
  rfl
theorem part_in (i m : Int) : wholeIn (.int i) 0 (m - 1) = (decide (0 ≤ i) && decide (i < m)) := by
  show (decide (0 ≤ i) && decide (i ≤ m - 1)) = _
  rw [show decide (i ≤ m - 1) = decide (i < m) from decide_eq_decide.mpr (by omega)]
theorem all_not (f : PyData → Bool) : ∀ l : List PyData, (!(l.map f).any (!·)) = l.all f
  | [] => rfl
  | a :: l => by
    rw [List.map_cons, List.any_cons, List.all_cons, ← all_not f l, Bool.not_or, Bool.not_not]
end Wm
set_option Elab.async false
set_option linter.all false
set_option maxRecDepth 100000
namespace K1
open PySem PySem.Spec PyProof.Rows L2 Dl
def topS (i : Nat) : Stmt := PySem.Challenge.pw_warmove_k01_what_is_a_program.main.body.getD i (.Pass ⟨0, 0, 0, 0⟩)
abbrev s_is_whole : Stmt := topS 5
theorem sc_is_whole : FnScope ["thing"] ["thing"] (defScope s_is_whole) := ⟨rfl, rfl, rfl, by decide +kernel, rfl, by decide +kernel, by decide +kernel⟩
abbrev s_is_whole_within : Stmt := topS 6
theorem sc_is_whole_within : FnScope ["thing", "least", "most"] ["thing", "least", "most"] (defScope s_is_whole_within) := ⟨rfl, rfl, rfl, by decide +kernel, rfl, by decide +kernel, by decide +kernel⟩
abbrev s_is_tuple_of : Stmt := topS 7
theorem sc_is_tuple_of : FnScope ["thing", "many"] ["thing", "many"] (defScope s_is_tuple_of) := ⟨rfl, rfl, rfl, by decide +kernel, rfl, by decide +kernel, by decide +kernel⟩
abbrev s_row_limits : Stmt := topS 8
theorem sc_row_limits : FnScope ["n", "w", "many"] ["n", "w", "many"] (defScope s_row_limits) := ⟨rfl, rfl, rfl, by decide +kernel, rfl, by decide +kernel, by decide +kernel⟩
abbrev s_is_row : Stmt := topS 9
theorem sc_is_row : FnScope ["thing", "n", "w", "many", "word", "limits", "part", "limit"] ["thing", "n", "w", "many"] (defScope s_is_row) := ⟨rfl, rfl, rfl, by decide +kernel, rfl, by decide +kernel, by decide +kernel⟩
abbrev s_is_program : Stmt := topS 10
theorem sc_is_program : FnScope ["thing", "rows", "many", "n", "w", "row"] ["thing"] (defScope s_is_program) := ⟨rfl, rfl, rfl, by decide +kernel, rfl, by decide +kernel, by decide +kernel⟩
abbrev s_law_pen : Stmt := topS 12
theorem sc_law_pen : FnScope ["script"] ["script"] (defScope s_law_pen) := ⟨rfl, rfl, rfl, by decide +kernel, rfl, by decide +kernel, by decide +kernel⟩
abbrev s_law_take : Stmt := topS 13
theorem sc_law_take : FnScope ["pen", "many", "at", "cell", "one", "two", "three", "found"] ["pen", "many"] (defScope s_law_take) := ⟨rfl, rfl, rfl, by decide +kernel, rfl, by decide +kernel, by decide +kernel⟩
abbrev s_law_row : Stmt := topS 14
theorem sc_law_row : FnScope ["pen", "n", "w", "many", "takes", "way", "p"] ["pen", "n", "w", "many", "takes"] (defScope s_law_row) := ⟨rfl, rfl, rfl, by decide +kernel, rfl, by decide +kernel, by decide +kernel⟩
abbrev s_law_program : Stmt := topS 15
theorem sc_law_program : FnScope ["pen", "takes", "n", "w", "many", "k"] ["pen", "takes"] (defScope s_law_program) := ⟨rfl, rfl, rfl, by decide +kernel, rfl, by decide +kernel, by decide +kernel⟩
abbrev s_law_sheets : Stmt := topS 16
theorem sc_law_sheets : FnScope ["pen", "program", "p"] ["pen", "program"] (defScope s_law_sheets) := ⟨rfl, rfl, rfl, by decide +kernel, rfl, by decide +kernel, by decide +kernel⟩
abbrev s_law_is_part : Stmt := topS 17
theorem sc_law_is_part : FnScope ["part", "many"] ["part", "many"] (defScope s_law_is_part) := ⟨rfl, rfl, rfl, by decide +kernel, rfl, by decide +kernel, by decide +kernel⟩
abbrev s_law_is_row : Stmt := topS 18
theorem sc_law_is_row : FnScope ["n", "w", "many", "row"] ["n", "w", "many", "row"] (defScope s_law_is_row) := ⟨rfl, rfl, rfl, by decide +kernel, rfl, by decide +kernel, by decide +kernel⟩
abbrev s_law_due : Stmt := topS 19
theorem sc_law_due : FnScope ["thing", "n", "w", "rows", "row"] ["thing"] (defScope s_law_due) := ⟨rfl, rfl, rfl, by decide +kernel, rfl, by decide +kernel, by decide +kernel⟩
abbrev s_law_bent_part : Stmt := topS 20
theorem sc_law_bent_part : FnScope ["pen", "program", "part", "more", "some"] ["pen", "program", "part"] (defScope s_law_bent_part) := ⟨rfl, rfl, rfl, by decide +kernel, rfl, by decide +kernel, by decide +kernel⟩
abbrev s_law_bent_row : Stmt := topS 21
theorem sc_law_bent_row : FnScope ["pen", "program", "row", "some", "words", "at", "word"] ["pen", "program", "row"] (defScope s_law_bent_row) := ⟨rfl, rfl, rfl, by decide +kernel, rfl, by decide +kernel, by decide +kernel⟩
abbrev s_law_bent : Stmt := topS 22
theorem sc_law_bent : FnScope ["pen", "program", "n", "w", "rows", "way", "some", "at"] ["pen", "program"] (defScope s_law_bent) := ⟨rfl, rfl, rfl, by decide +kernel, rfl, by decide +kernel, by decide +kernel⟩
abbrev s_law_answers : Stmt := topS 23
theorem sc_law_answers : FnScope ["thing", "found"] ["thing"] (defScope s_law_answers) := ⟨rfl, rfl, rfl, by decide +kernel, rfl, by decide +kernel, by decide +kernel⟩
abbrev s_law : Stmt := topS 24
theorem sc_law : FnScope ["script", "pen", "turn", "program", "k", "end", "thing"] ["script"] (defScope s_law) := ⟨rfl, rfl, rfl, by decide +kernel, rfl, by decide +kernel, by decide +kernel⟩
structure Tx (K : PySem.W.Frag) (mg : Str → Option Value) (base : Heap) where
  ts : List Addr
  f_is_whole : Addr
  d_is_whole : FuncData
  F_is_whole : Fun K "is_whole" "is_whole" s_is_whole f_is_whole d_is_whole
  b_is_whole : Binds K d_is_whole ["thing"] []
  g_is_whole : mg "is_whole" = some (.ref f_is_whole)
  f_is_whole_within : Addr
  d_is_whole_within : FuncData
  F_is_whole_within : Fun K "is_whole_within" "is_whole_within" s_is_whole_within f_is_whole_within d_is_whole_within
  b_is_whole_within : Binds K d_is_whole_within ["thing", "least", "most"] []
  g_is_whole_within : mg "is_whole_within" = some (.ref f_is_whole_within)
  f_is_tuple_of : Addr
  d_is_tuple_of : FuncData
  F_is_tuple_of : Fun K "is_tuple_of" "is_tuple_of" s_is_tuple_of f_is_tuple_of d_is_tuple_of
  b_is_tuple_of : Binds K d_is_tuple_of ["thing", "many"] []
  g_is_tuple_of : mg "is_tuple_of" = some (.ref f_is_tuple_of)
  f_row_limits : Addr
  d_row_limits : FuncData
  F_row_limits : Fun K "row_limits" "row_limits" s_row_limits f_row_limits d_row_limits
  b_row_limits : Binds K d_row_limits ["n", "w", "many"] []
  g_row_limits : mg "row_limits" = some (.ref f_row_limits)
  f_is_row : Addr
  k_is_row : Addr
  p_is_row : Addr
  d_is_row : FuncData
  F_is_row : FunC K "is_row" "is_row" s_is_row f_is_row d_is_row k_is_row
  b_is_row : Binds K d_is_row ["thing", "n", "w", "many"] []
  g_is_row : mg "is_row" = some (.ref f_is_row)
  tb_is_row : GxR.TabB base mg k_is_row p_is_row
  ti_is_row : p_is_row ∈ ts
  f_is_program : Addr
  k_is_program : Addr
  p_is_program : Addr
  d_is_program : FuncData
  F_is_program : FunC K "is_program" "is_program" s_is_program f_is_program d_is_program k_is_program
  b_is_program : Binds K d_is_program ["thing"] []
  g_is_program : mg "is_program" = some (.ref f_is_program)
  tb_is_program : GxR.TabB base mg k_is_program p_is_program
  ti_is_program : p_is_program ∈ ts
  f_law_pen : Addr
  d_law_pen : FuncData
  F_law_pen : Fun K "_law_pen" "_law_pen" s_law_pen f_law_pen d_law_pen
  b_law_pen : Binds K d_law_pen ["script"] []
  g_law_pen : mg "_law_pen" = some (.ref f_law_pen)
  f_law_take : Addr
  d_law_take : FuncData
  F_law_take : Fun K "_law_take" "_law_take" s_law_take f_law_take d_law_take
  b_law_take : Binds K d_law_take ["pen", "many"] []
  g_law_take : mg "_law_take" = some (.ref f_law_take)
  f_law_row : Addr
  d_law_row : FuncData
  F_law_row : Fun K "_law_row" "_law_row" s_law_row f_law_row d_law_row
  b_law_row : Binds K d_law_row ["pen", "n", "w", "many", "takes"] []
  g_law_row : mg "_law_row" = some (.ref f_law_row)
  f_law_program : Addr
  d_law_program : FuncData
  F_law_program : Fun K "_law_program" "_law_program" s_law_program f_law_program d_law_program
  b_law_program : Binds K d_law_program ["pen", "takes"] []
  g_law_program : mg "_law_program" = some (.ref f_law_program)
  f_law_is_part : Addr
  d_law_is_part : FuncData
  F_law_is_part : Fun K "_law_is_part" "_law_is_part" s_law_is_part f_law_is_part d_law_is_part
  b_law_is_part : Binds K d_law_is_part ["part", "many"] []
  g_law_is_part : mg "_law_is_part" = some (.ref f_law_is_part)
  f_law_is_row : Addr
  d_law_is_row : FuncData
  F_law_is_row : Fun K "_law_is_row" "_law_is_row" s_law_is_row f_law_is_row d_law_is_row
  b_law_is_row : Binds K d_law_is_row ["n", "w", "many", "row"] []
  g_law_is_row : mg "_law_is_row" = some (.ref f_law_is_row)
  f_law_due : Addr
  d_law_due : FuncData
  F_law_due : Fun K "_law_due" "_law_due" s_law_due f_law_due d_law_due
  b_law_due : Binds K d_law_due ["thing"] []
  g_law_due : mg "_law_due" = some (.ref f_law_due)
  f_law_bent_part : Addr
  d_law_bent_part : FuncData
  F_law_bent_part : Fun K "_law_bent_part" "_law_bent_part" s_law_bent_part f_law_bent_part d_law_bent_part
  b_law_bent_part : Binds K d_law_bent_part ["pen", "program", "part"] []
  g_law_bent_part : mg "_law_bent_part" = some (.ref f_law_bent_part)
  f_law_bent_row : Addr
  d_law_bent_row : FuncData
  F_law_bent_row : Fun K "_law_bent_row" "_law_bent_row" s_law_bent_row f_law_bent_row d_law_bent_row
  b_law_bent_row : Binds K d_law_bent_row ["pen", "program", "row"] []
  g_law_bent_row : mg "_law_bent_row" = some (.ref f_law_bent_row)
  f_law_bent : Addr
  d_law_bent : FuncData
  F_law_bent : Fun K "_law_bent" "_law_bent" s_law_bent f_law_bent d_law_bent
  b_law_bent : Binds K d_law_bent ["pen", "program"] []
  g_law_bent : mg "_law_bent" = some (.ref f_law_bent)
  f_law_answers : Addr
  d_law_answers : FuncData
  F_law_answers : Fun K "_law_answers" "_law_answers" s_law_answers f_law_answers d_law_answers
  b_law_answers : Binds K d_law_answers ["thing"] []
  g_law_answers : mg "_law_answers" = some (.ref f_law_answers)
  m_all : mg "all" = none
  m_bool : mg "bool" = none
  m_int : mg "int" = none
  m_isinstance : mg "isinstance" = none
  m_len : mg "len" = none
  m_list : mg "list" = none
  m_range : mg "range" = none
  m_str : mg "str" = none
  m_tuple : mg "tuple" = none
  m_zip : mg "zip" = none
  t_MOST_SHEETS : Tok
  c_MOST_SHEETS : mg "MOST_SHEETS" = some (.int 12 t_MOST_SHEETS)
  t_LEAST_WHEEL : Tok
  c_LEAST_WHEEL : mg "LEAST_WHEEL" = some (.int 2 t_LEAST_WHEEL)
  t_MOST_WHEEL : Tok
  c_MOST_WHEEL : mg "MOST_WHEEL" = some (.int 100 t_MOST_WHEEL)
  t_MOST_ROWS : Tok
  c_MOST_ROWS : mg "MOST_ROWS" = some (.int 20 t_MOST_ROWS)

local macro_rules | `(tactic| walk_at "e") => `(tactic| first
  | ((with_reducible refine e_var (by with_unfolding_all exact rfl) ?_))
  | with_reducible refine e_int ?_
  | with_reducible refine e_str ?_
  | with_reducible refine e_bl ?_
  | with_reducible refine e_non ?_
  | ((with_reducible refine e_pen (by with_unfolding_all exact rfl) (Or.inr rfl) ?_); intro z hz)
  | ((with_reducible refine e_pen (by with_unfolding_all exact rfl) (Or.inl rfl) ?_); intro z hz)
  | ((with_reducible refine e_penIx (by with_unfolding_all exact rfl) ?_))
  | with_reducible refine e_op ?_
  | with_reducible refine e_tup ?_
  | with_reducible refine e_lst ?_
  | with_reducible refine ea_cons ?_
  | with_reducible refine ea_nil ?_
  | ((with_reducible refine e_penLen (by with_unfolding_all exact rfl) ?_))
  | ((with_reducible refine e_lenOwn (by with_unfolding_all exact rfl) ?_))
  | ((with_reducible refine e_tupOwn (by with_unfolding_all exact rfl) ?_))
  | with_reducible refine e_isI ?_
  | with_reducible refine e_isB ?_
  | with_reducible refine e_isS ?_
  | with_reducible refine e_isTu ?_
  | with_reducible refine e_isL ?_
  | with_reducible refine e_cb ?_
  | with_reducible refine e_sl ?_
  | with_reducible refine eo_none ?_
  | with_reducible refine eo_some ?_
  | with_reducible refine et_test ?_
  | with_reducible refine et_B ?_
  | with_reducible refine et_and ?_
  | with_reducible refine et_or ?_
  | with_reducible refine et_not ?_
  | with_reducible refine et_yes ?_
  | with_reducible refine e_andV ?_
  | with_reducible refine e_orV ?_
  | with_reducible refine e_notV ?_
  | with_reducible refine e_if ?_
  | with_reducible refine e_chain ?_
  | with_reducible refine e_callX ?_
  | ((with_reducible refine e_callXP (by with_unfolding_all exact rfl) ?_))
  | ((with_reducible refine s_seq ?_); (try dsimp only [List.set]))
  | with_reducible refine s_next ?_
  | with_reducible refine s_ret ?_
  | ((with_reducible refine s_pen (by with_unfolding_all exact rfl) (Or.inr rfl) ?_))
  | ((with_reducible refine s_pen (by with_unfolding_all exact rfl) (Or.inl rfl) ?_))
  | ((with_reducible refine s_putOwn (by with_unfolding_all exact rfl) ?_))
  | with_reducible refine s_asg ?_
  | with_reducible refine s_asgG ?_
  | with_reducible refine s_if ?_
  | with_reducible refine g_name ?_
  | with_reducible refine g_tup rfl ?_
  | with_reducible refine gs_cons ?_
  | with_reducible refine gs_nil ?_
  | with_reducible refine r_lt ?_
  | with_reducible refine r_le ?_
  | with_reducible refine r_gt ?_
  | with_reducible refine r_ge ?_
  | with_reducible refine r_add ?_
  | with_reducible refine r_sub ?_
  | with_reducible refine r_eqI ?_
  | with_reducible refine r_eqS ?_
  | with_reducible refine r_eqB ?_
  | with_reducible refine r_neI ?_
  | with_reducible refine r_neB ?_
  | with_reducible refine c_min2 ?_
  | with_reducible refine c_max2 ?_
  | with_reducible refine c_intB ?_
  | with_reducible refine c_len (Or.inl rfl) ?_
  | with_reducible refine c_len (Or.inr rfl) ?_
  | with_reducible refine c_list (Or.inl rfl) ?_
  | with_reducible refine c_list (Or.inr rfl) ?_
  | with_reducible refine c_tuple (Or.inl rfl) ?_
  | with_reducible refine c_tuple (Or.inr rfl) ?_
  | with_reducible refine r_ixT (by with_unfolding_all exact rfl) ?_
  | with_reducible refine r_ixL (by with_unfolding_all exact rfl) ?_
  | with_reducible refine r_slT ?_
  | with_reducible refine r_slL ?_
  | with_reducible refine r_isNone ?_
  | with_reducible refine r_notBl ?_
  | with_reducible refine eps_cons ?_
  | with_reducible refine eps_nil ?_
  | with_reducible refine e_dget1 ?_
  | with_reducible refine ed_callX ?_
  | with_reducible refine ⟨_, rfl, ?_⟩
  | with_reducible refine ⟨Nat.le_of_ble_eq_true rfl, ?_⟩)
local macro_rules | `(tactic| walk_at "t") => `(tactic| first
  | walk_at "e"
  | refine r_modAny (by first | omega | decide) fun z z0 z1 => ?_
  | refine r_mul (by first | exact Or.inr ⟨by decide, by decide⟩ | exact Or.inl ⟨by decide, by decide⟩ | exact Or.inl ⟨by omega, by omega⟩) ?_
  | refine r_pow ⟨by decide, by decide, by decide⟩ ?_
  | refine r_fdivW (by first | assumption | (rename_i hw _; exact hw _) | exact wide_div (b := 200) (by decide) (by decide) (by decide) (by decide)) ?_
  | with_reducible refine ⟨by omega, ?_⟩)
local macro_rules | `(tactic| walk_at "k") => `(tactic| first
  | walk_at "e"
  | with_reducible refine ⟨fun hb => absurd hb (by decide +kernel), fun _ => ?_⟩
  | with_reducible refine ⟨fun _ => ?_, fun hb => absurd hb (by decide +kernel)⟩
  | refine ⟨fun hb => absurd hb Bool.false_ne_true, fun _ => ?_⟩
  | refine ⟨fun _ => ?_, fun hb => absurd hb.symm Bool.false_ne_true⟩)
local macro_rules | `(tactic| walk_at "d") => `(tactic| first
  | walk_at "k"
  | refine And.intro (show WfTake _ from ⟨by omega, by omega⟩) (take_all fun k hk => ?_))
local macro_rules | `(tactic| walk_at "o") => `(tactic| first
  | with_reducible refine s_ownList ?_
  | walk_at "d"
  | with_reducible refine ⟨_, Or.inl rfl, ?_⟩)

section
variable {P : Program} {w : World} {K : PySem.W.Frag} {mg : Str → Option Value} {base : Heap}
theorem ok_law_take (T : Tx K mg base) : FnOk P w K mg base CX0 1 T.f_law_take T.d_law_take ["pen", "many"] (spTake K T.ts) := by
  refine fnXP T.F_law_take sc_law_take ⟨_, _, rfl⟩ (fun _ _ => rfl) (fun cdv A outer s H E hr => ⟨_, (pss_cons (ps_if (pt_cmpR op_eq (pe_ix (kx_ixL K rfl) (pv 0) pe_int (fun _ _ => rfl)) pe_int (nomark _))
      (pss_cons (ps_set (i := 2) sc_law_take.nd rfl (.inl rfl) (pe_ix (kx_ixL K rfl) (pv 0) pe_int (fun _ _ => rfl)))
      (pss_cons (ps_asg (pe_op op_add (pv 2) pe_int) (pg_sub (pv 0) pe_int set_list))
      (pss_cons (ps_set (i := 3) sc_law_take.nd rfl (.inl rfl) pe_int)
      (pss_cons (ps_if (pt_cmpR op_lt (pv 2) (pe_callB (kx_len K rfl) (by rfl) T.m_len PySem.boot_len (pa_cons (pe_ix (kx_ixL K rfl) (pv 0) pe_int (fun _ _ => rfl)) pa_nil)) (nomark _))
      (pss_one (ps_set (i := 3) sc_law_take.nd rfl (.inl rfl) (pe_ix (kx_ixL K rfl) (pe_ix (kx_ixL K rfl) (pv 0) pe_int (fun _ _ => rfl)) (pv 2) (fun _ _ => rfl))))
      (pss_one (ps_if (pt_cmpR op_gt (pe_callB (kx_len K rfl) (by rfl) T.m_len PySem.boot_len (pa_cons (pe_ix (kx_ixL K rfl) (pv 0) pe_int (fun _ _ => rfl)) pa_nil)) pe_int (nomark _))
      (pss_one (ps_set (i := 3) sc_law_take.nd rfl (.inl rfl) (pe_op op_add (pe_op op_mod (pe_ix (kx_ixL K rfl) (pe_ix (kx_ixL K rfl) (pv 0) pe_int (fun _ _ => rfl)) (pe_op op_mod (pe_op op_mul (pv 2) pe_int) (pe_callB (kx_len K rfl) (by rfl) T.m_len PySem.boot_len (pa_cons (pe_ix (kx_ixL K rfl) (pv 0) pe_int (fun _ _ => rfl)) pa_nil))) (fun _ _ => rfl)) pe_int) (pe_op op_mul pe_int (pv 2)))))
      pss_nil)))
      (pss_cons (ps_set (i := 4) sc_law_take.nd rfl (.inl rfl) (pe_op op_mod (pe_op op_mul (pe_op op_add (pe_op op_add (pe_op op_mod (pv 3) pe_int) (pe_op op_mul pe_int (pv 2))) pe_int) pe_int) pe_int))
      (pss_cons (ps_set (i := 5) sc_law_take.nd rfl (.inl rfl) (pe_op op_mod (pe_op op_add (pe_op op_add (pe_op op_mul (pv 4) (pv 4)) (pe_op op_mul pe_int (pv 2))) pe_int) pe_int))
      (pss_cons (ps_set (i := 6) sc_law_take.nd rfl (.inl rfl) (pe_op op_mod (pe_op op_add (pe_op op_mul (pv 5) (pv 5)) (pv 4)) pe_int))
      (pss_cons (ps_asg (pe_op op_add (pe_op op_fdivW (pe_op op_add (pe_op op_mul (pv 5) pe_int) (pv 6)) pe_int) pe_int) (pg_sub (pv 0) pe_int set_list))
      (pss_one (ps_if (pt_cmpR op_ge (pv 3) (pe_op op_pow pe_int pe_int) (nomark _))
      (pss_one (ps_asg (pe_op op_fdivW (pv 3) (pe_op op_pow pe_int pe_int)) (pg_sub (pv 0) pe_int set_list)))
      pss_nil))))))))))
      pss_nil)
      (pss_cons (ps_set (i := 7) sc_law_take.nd rfl (.inl rfl) (pe_op op_mod (pe_ix (kx_ixL K rfl) (pv 0) pe_int (fun _ _ => rfl)) (pv 1)))
      (pss_cons (ps_asg (pe_op op_fdivW (pe_ix (kx_ixL K rfl) (pv 0) pe_int (fun _ _ => rfl)) (pv 1)) (pg_sub (pv 0) pe_int set_list))
      (pss_one (ps_ret (pv 7)))))), fun p m hm => ?_⟩)
  try simp only [nox_K, blk_K, cx_K]
  obtain ⟨h0, h1⟩ := hm
  have hw : ∀ i : Int, CDivW i m := fun i => wide_div (b := 200) h0 (by omega) (by decide) (by decide)
  have h18 : (10 : Int) ^ (18 : Int).toNat = 1000000000000000000 := by decide
  have hw18 : ∀ i : Int, CDivW i (10 ^ (18 : Int).toNat) := fun i => by
    rw [h18]
    exact wide_div (b := 200) (by decide) (by decide) (by decide) (by decide)
  have hd : ∀ z : Int, 0 ≤ z → 0 ≤ z / m := fun z hz => Int.ediv_nonneg hz (by omega)
  repeat walk_at "e"
  refine ⟨fun _ => ?_, fun _ => ?_⟩
  · repeat walk_at "e"
    refine ⟨by omega, ?_⟩
    repeat walk_at "e"
    refine ⟨fun hb => ?_, fun hb => ?_⟩
    · have hb := of_decide_eq_true hb
      repeat walk_at "e"
      refine ⟨Int.toNat _, by rw [Int.toNat_of_nonneg (by assumption)], by omega, fun c => ?_⟩
      repeat walk_at "t"
      refine ⟨fun hc => ?_, fun hc => ?_⟩
      · have hc := of_decide_eq_true hc
        rw [h18] at hc
        repeat walk_at "t"
        refine ⟨by rw [h18]; omega, ?_⟩
        repeat walk_at "t"
        refine r_fdivW (hw _) ?_
        refine ⟨_, rfl, hd _ (by assumption), ?_⟩
        repeat walk_at "t"
        exact resTake_of (by assumption) (by assumption)
      · repeat walk_at "t"
        refine r_fdivW (hw _) ?_
        refine ⟨_, rfl, hd _ (by assumption), ?_⟩
        repeat walk_at "t"
        exact resTake_of (by assumption) (by assumption)
    · repeat walk_at "e"
      refine ⟨fun hn => ?_, fun hn => ?_⟩
      · have hn := of_decide_eq_true hn
        repeat walk_at "t"
        refine ⟨Int.toNat _, by rw [Int.toNat_of_nonneg (by assumption)], by omega, fun c => ?_⟩
        repeat walk_at "t"
        refine ⟨fun hc => ?_, fun hc => ?_⟩
        · have hc := of_decide_eq_true hc
          rw [h18] at hc
          repeat walk_at "t"
          refine ⟨by rw [h18]; omega, ?_⟩
          repeat walk_at "t"
          refine r_fdivW (hw _) ?_
          refine ⟨_, rfl, hd _ (by assumption), ?_⟩
          repeat walk_at "t"
          exact resTake_of (by assumption) (by assumption)
        · repeat walk_at "t"
          refine r_fdivW (hw _) ?_
          refine ⟨_, rfl, hd _ (by assumption), ?_⟩
          repeat walk_at "t"
          exact resTake_of (by assumption) (by assumption)
      · repeat walk_at "t"
        refine ⟨fun hc => ?_, fun hc => ?_⟩
        · have hc := of_decide_eq_true hc
          rw [h18] at hc
          omega
        · repeat walk_at "t"
          refine r_fdivW (hw _) ?_
          refine ⟨_, rfl, hd _ (by assumption), ?_⟩
          repeat walk_at "t"
          exact resTake_of (by assumption) (by assumption)
  · repeat walk_at "t"
    refine r_fdivW (hw _) ?_
    refine ⟨_, rfl, hd _ (by assumption), ?_⟩
    repeat walk_at "t"
    exact resTake_of (by assumption) (by assumption)
end
end K1
set_option Elab.async false
set_option linter.all false
set_option maxRecDepth 100000
namespace K1
open PySem PySem.Spec PyProof.Rows L2 Dl Wm
local macro_rules | `(tactic| walk_at "e") => `(tactic| first
  | ((with_reducible refine e_var (by with_unfolding_all exact rfl) ?_))
  | with_reducible refine e_int ?_
  | with_reducible refine e_str ?_
  | with_reducible refine e_bl ?_
  | with_reducible refine e_non ?_
  | ((with_reducible refine e_pen (by with_unfolding_all exact rfl) (Or.inr rfl) ?_); intro z hz)
  | ((with_reducible refine e_pen (by with_unfolding_all exact rfl) (Or.inl rfl) ?_); intro z hz)
  | ((with_reducible refine e_penIx (by with_unfolding_all exact rfl) ?_))
  | with_reducible refine e_op ?_
  | with_reducible refine e_tup ?_
  | with_reducible refine e_lst ?_
  | with_reducible refine ea_cons ?_
  | with_reducible refine ea_nil ?_
  | ((with_reducible refine e_penLen (by with_unfolding_all exact rfl) ?_))
  | ((with_reducible refine e_lenOwn (by with_unfolding_all exact rfl) ?_))
  | ((with_reducible refine e_tupOwn (by with_unfolding_all exact rfl) ?_))
  | with_reducible refine e_isI ?_
  | with_reducible refine e_isB ?_
  | with_reducible refine e_isS ?_
  | with_reducible refine e_isTu ?_
  | with_reducible refine e_isL ?_
  | with_reducible refine e_cb ?_
  | with_reducible refine e_sl ?_
  | with_reducible refine eo_none ?_
  | with_reducible refine eo_some ?_
  | with_reducible refine et_test ?_
  | with_reducible refine et_B ?_
  | with_reducible refine et_and ?_
  | with_reducible refine et_or ?_
  | with_reducible refine et_not ?_
  | with_reducible refine et_yes ?_
  | with_reducible refine e_andV ?_
  | with_reducible refine e_orV ?_
  | with_reducible refine e_notV ?_
  | with_reducible refine e_if ?_
  | with_reducible refine e_chain ?_
  | with_reducible refine e_callX ?_
  | ((with_reducible refine e_callXP (by with_unfolding_all exact rfl) ?_))
  | ((with_reducible refine s_seq ?_); (try dsimp only [List.set]))
  | with_reducible refine s_next ?_
  | with_reducible refine s_ret ?_
  | ((with_reducible refine s_pen (by with_unfolding_all exact rfl) (Or.inr rfl) ?_))
  | ((with_reducible refine s_pen (by with_unfolding_all exact rfl) (Or.inl rfl) ?_))
  | ((with_reducible refine s_putOwn (by with_unfolding_all exact rfl) ?_))
  | with_reducible refine s_asg ?_
  | with_reducible refine s_asgG ?_
  | with_reducible refine s_if ?_
  | with_reducible refine g_name ?_
  | with_reducible refine g_tup rfl ?_
  | with_reducible refine gs_cons ?_
  | with_reducible refine gs_nil ?_
  | with_reducible refine r_lt ?_
  | with_reducible refine r_le ?_
  | with_reducible refine r_gt ?_
  | with_reducible refine r_ge ?_
  | with_reducible refine r_add ?_
  | with_reducible refine r_sub ?_
  | with_reducible refine r_eqI ?_
  | with_reducible refine r_eqS ?_
  | with_reducible refine r_eqB ?_
  | with_reducible refine r_neI ?_
  | with_reducible refine r_neB ?_
  | with_reducible refine c_min2 ?_
  | with_reducible refine c_max2 ?_
  | with_reducible refine c_intB ?_
  | with_reducible refine c_len (Or.inl rfl) ?_
  | with_reducible refine c_len (Or.inr rfl) ?_
  | with_reducible refine c_list (Or.inl rfl) ?_
  | with_reducible refine c_list (Or.inr rfl) ?_
  | with_reducible refine c_tuple (Or.inl rfl) ?_
  | with_reducible refine c_tuple (Or.inr rfl) ?_
  | with_reducible refine r_ixT (by with_unfolding_all exact rfl) ?_
  | with_reducible refine r_ixL (by with_unfolding_all exact rfl) ?_
  | with_reducible refine r_slT ?_
  | with_reducible refine r_slL ?_
  | with_reducible refine r_isNone ?_
  | with_reducible refine r_notBl ?_
  | with_reducible refine eps_cons ?_
  | with_reducible refine eps_nil ?_
  | with_reducible refine e_dget1 ?_
  | with_reducible refine ed_callX ?_
  | with_reducible refine ⟨_, rfl, ?_⟩
  | with_reducible refine ⟨Nat.le_of_ble_eq_true rfl, ?_⟩)
local macro_rules | `(tactic| walk_at "t") => `(tactic| first
  | walk_at "e"
  | refine r_modAny (by first | omega | decide) fun z z0 z1 => ?_
  | refine r_mul (by first | exact Or.inr ⟨by decide, by decide⟩ | exact Or.inl ⟨by decide, by decide⟩ | exact Or.inl ⟨by omega, by omega⟩) ?_
  | refine r_pow ⟨by decide, by decide, by decide⟩ ?_
  | refine r_fdivW (by first | assumption | (rename_i hw _; exact hw _) | exact wide_div (b := 200) (by decide) (by decide) (by decide) (by decide)) ?_
  | with_reducible refine ⟨by omega, ?_⟩)
local macro_rules | `(tactic| walk_at "k") => `(tactic| first
  | walk_at "e"
  | with_reducible refine ⟨fun hb => absurd hb (by decide +kernel), fun _ => ?_⟩
  | with_reducible refine ⟨fun _ => ?_, fun hb => absurd hb (by decide +kernel)⟩
  | refine ⟨fun hb => absurd hb Bool.false_ne_true, fun _ => ?_⟩
  | refine ⟨fun _ => ?_, fun hb => absurd hb.symm Bool.false_ne_true⟩)
local macro_rules | `(tactic| walk_at "d") => `(tactic| first
  | walk_at "k"
  | refine And.intro (show WfTake _ from ⟨by omega, by omega⟩) (take_all fun k hk => ?_))
local macro_rules | `(tactic| walk_at "o") => `(tactic| first
  | with_reducible refine s_ownList ?_
  | walk_at "d"
  | with_reducible refine ⟨_, Or.inl rfl, ?_⟩)

section
variable {P : Program} {w : World} {K : PySem.W.Frag} {mg : Str → Option Value} {base : Heap}
structure RowA where
  n : Nat
  w : Nat
  many : Nat
  takes : Bool
def noTake : Wm.Row → Prop
  | .take _ => False
  | _ => True
abbrev spRow (K : PySem.W.Frag) (ts : List Addr) : Sp := SpXP (α := RowA) K ts (fun x => 1 ≤ x.n ∧ x.n ≤ 1000 ∧ 1 ≤ x.w ∧ x.w ≤ 1000 ∧ 1 ≤ x.many ∧ x.many ≤ 1000) (fun x => [.int x.n, .int x.w, .int x.many, .bool x.takes]) (fun x d => ∃ r : Wm.Row, d = r.D ∧ r.Ok x.n x.w x.many ∧ (x.takes = false → noTake r))
theorem ok_law_row (T : Tx K mg base) : FnOk P w K mg base CX0 2 T.f_law_row T.d_law_row ["pen", "n", "w", "many", "takes"] (spRow K T.ts) := by
  refine fnXP T.F_law_row sc_law_row ⟨_, _, rfl⟩ (fun _ _ => rfl) (fun cdv A outer s H E hr => ⟨_, (pss_cons (ps_set (i := 5) sc_law_row.nd rfl (.inl rfl) (pe_call (ok_law_take T) (hr.mono (by decide)) (by rfl) T.g_law_take T.F_law_take.kp T.b_law_take .nil pass0 (pa_cons (pv 0) (pa_cons pe_int pa_nil))))
      (pss_cons (ps_set (i := 6) sc_law_row.nd rfl (.inl rfl) (pe_call (ok_law_take T) (hr.mono (by decide)) (by rfl) T.g_law_take T.F_law_take.kp T.b_law_take .nil pass0 (pa_cons (pv 0) (pa_cons (pv 1) pa_nil))))
      (pss_cons (ps_if (pt_cmpR op_lt (pv 5) pe_int (nomark _))
      (pss_one (ps_ret (pe_tup (pa_cons pe_str (pa_cons (pv 6) (pa_cons (pe_call (ok_law_take T) (hr.mono (by decide)) (by rfl) T.g_law_take T.F_law_take.kp T.b_law_take .nil pass0 (pa_cons (pv 0) (pa_cons (pv 2) pa_nil))) pa_nil))))))
      pss_nil)
      (pss_cons (ps_if (pt_cmpR op_lt (pv 5) pe_int (nomark _))
      (pss_one (ps_ret (pe_tup (pa_cons pe_str (pa_cons (pv 6) (pa_cons (pe_call (ok_law_take T) (hr.mono (by decide)) (by rfl) T.g_law_take T.F_law_take.kp T.b_law_take .nil pass0 (pa_cons (pv 0) (pa_cons (pv 1) pa_nil))) pa_nil))))))
      pss_nil)
      (pss_cons (ps_if (pt_cmpR op_lt (pv 5) pe_int (nomark _))
      (pss_one (ps_ret (pe_tup (pa_cons pe_str (pa_cons (pv 6) (pa_cons (pe_call (ok_law_take T) (hr.mono (by decide)) (by rfl) T.g_law_take T.F_law_take.kp T.b_law_take .nil pass0 (pa_cons (pv 0) (pa_cons (pv 3) pa_nil))) pa_nil))))))
      pss_nil)
      (pss_cons (ps_if (pt_cmpR op_lt (pv 5) pe_int (nomark _))
      (pss_one (ps_ret (pe_tup (pa_cons pe_str (pa_cons (pv 6) pa_nil)))))
      pss_nil)
      (pss_cons (ps_if (PW.pt (pw_and (pt_cmpR op_lt (pv 5) pe_int (nomark _)) (pw_and1 (pt_val (pv 4)))))
      (pss_one (ps_ret (pe_tup (pa_cons pe_str (pa_cons (pv 6) pa_nil)))))
      pss_nil)
      (pss_cons (ps_if (pt_cmpR op_lt (pv 5) pe_int (nomark _))
      (pss_one (ps_ret (pe_tup (pa_cons pe_str (pa_cons (pv 6) (pa_cons (pv 6) pa_nil))))))
      pss_nil)
      (pss_one (ps_ret (pe_ix (kx_ixL K rfl) (pe_lst (pa_cons (pe_tup (pa_cons pe_str pa_nil)) (pa_cons (pe_tup (pa_cons pe_str (pa_cons (pv 6) (pa_cons (pe_call (ok_law_take T) (hr.mono (by decide)) (by rfl) T.g_law_take T.F_law_take.kp T.b_law_take .nil pass0 (pa_cons (pv 0) (pa_cons (pv 3) pa_nil))) pa_nil)))) (pa_cons (pe_tup (pa_cons pe_str (pa_cons (pv 6) pa_nil))) pa_nil)))) (pe_call (ok_law_take T) (hr.mono (by decide)) (by rfl) T.g_law_take T.F_law_take.kp T.b_law_take .nil pass0 (pa_cons (pv 0) (pa_cons pe_int pa_nil))) (fun _ _ => rfl)))))))))))), fun p x hx => ?_⟩)
  obtain ⟨n, w', many, takes⟩ := x
  dsimp only at hx
  obtain ⟨h1, h2, h3, h4, h5, h6⟩ := hx
  try simp only [nox_K, blk_K, cx_K]
  repeat walk_at "d"
  rename_i way hway p' hp
  have hp' : p' < n := by omega
  refine ⟨fun hb => ?_, fun hb => ?_⟩
  · repeat walk_at "d"
    rename_i v hv
    exact ⟨.set p' v, rfl, ⟨hp', by omega⟩, fun _ => trivial⟩
  repeat walk_at "d"
  refine ⟨fun hb => ?_, fun hb => ?_⟩
  · repeat walk_at "d"
    rename_i v hv
    exact ⟨.add p' v, rfl, ⟨hp', by omega⟩, fun _ => trivial⟩
  repeat walk_at "d"
  refine ⟨fun hb => ?_, fun hb => ?_⟩
  · repeat walk_at "d"
    rename_i v hv
    exact ⟨.jump p' v, rfl, ⟨hp', by omega⟩, fun _ => trivial⟩
  repeat walk_at "d"
  refine ⟨fun hb => ?_, fun hb => ?_⟩
  · repeat walk_at "d"
    exact ⟨.say p', rfl, hp', fun _ => trivial⟩
  repeat walk_at "d"
  refine ⟨fun hb => ?_, fun hb => ?_⟩
  · repeat walk_at "d"
    refine ⟨fun ht => ?_, fun ht => ?_⟩
    · repeat walk_at "d"
      exact ⟨.take p', rfl, hp', fun h => by rw [ht] at h; cases h⟩
    · repeat walk_at "d"
      refine ⟨fun _ => ?_, fun hb2 => by rw [hb] at hb2; cases hb2⟩
      repeat walk_at "d"
      exact ⟨.add p' p', rfl, ⟨hp', hp'⟩, fun _ => trivial⟩
  · repeat walk_at "d"
    refine ⟨fun hb2 => absurd (hb.symm.trans hb2) (by decide), fun _ => ?_⟩
    repeat walk_at "d"
    rename_i v hv k hk
    rcases (by omega : k = 0 ∨ k = 1 ∨ k = 2) with rfl | rfl | rfl
    · exact r_ixL rfl ⟨.fin, rfl, trivial, fun _ => trivial⟩
    · exact r_ixL rfl ⟨.jump p' v, rfl, ⟨hp', by omega⟩, fun _ => trivial⟩
    · exact r_ixL rfl ⟨.say p', rfl, hp', fun _ => trivial⟩
structure ProgR (takes : Bool) (x : Prog) : Prop where
  ok : x.Ok
  nt : takes = false → ∀ r ∈ x.rows, noTake r
abbrev spProgram (K : PySem.W.Frag) (ts : List Addr) : Sp := SpXP (α := Bool) K ts (fun _ => True) (fun b => [.bool b]) (fun b d => ∃ x : Prog, d = x.D ∧ ProgR b x)
theorem ok_law_program (T : Tx K mg base) : FnOk P w K mg base CX0 3 T.f_law_program T.d_law_program ["pen", "takes"] (spProgram K T.ts) := by
  refine fnXP T.F_law_program sc_law_program ⟨_, _, rfl⟩ (fun _ _ => rfl) (fun cdv A outer s H E hr => ⟨_, (pss_cons (ps_set (i := 2) sc_law_program.nd rfl (.inr rfl) (pe_op op_add pe_int (pe_call (ok_law_take T) (hr.mono (by decide)) (by rfl) T.g_law_take T.F_law_take.kp T.b_law_take .nil pass0 (pa_cons (pv 0) (pa_cons (pe_ix (kx_ixL K rfl) (pe_lst (pa_cons pe_int (pa_cons pe_int pa_nil))) (pe_call (ok_law_take T) (hr.mono (by decide)) (by rfl) T.g_law_take T.F_law_take.kp T.b_law_take .nil pass0 (pa_cons (pv 0) (pa_cons pe_int pa_nil))) (fun _ _ => rfl)) pa_nil)))))
      (pss_cons (ps_set (i := 3) sc_law_program.nd rfl (.inr rfl) (pe_ix (kx_ixL K rfl) (pe_lst (pa_cons pe_int (pa_cons pe_int (pa_cons pe_int (pa_cons pe_int (pa_cons (pe_op op_add pe_int (pe_call (ok_law_take T) (hr.mono (by decide)) (by rfl) T.g_law_take T.F_law_take.kp T.b_law_take .nil pass0 (pa_cons (pv 0) (pa_cons pe_int pa_nil)))) pa_nil)))))) (pe_call (ok_law_take T) (hr.mono (by decide)) (by rfl) T.g_law_take T.F_law_take.kp T.b_law_take .nil pass0 (pa_cons (pv 0) (pa_cons pe_int pa_nil))) (fun _ _ => rfl)))
      (pss_cons (ps_set (i := 4) sc_law_program.nd rfl (.inr rfl) (pe_op op_add pe_int (pe_call (ok_law_take T) (hr.mono (by decide)) (by rfl) T.g_law_take T.F_law_take.kp T.b_law_take .nil pass0 (pa_cons (pv 0) (pa_cons (pe_ix (kx_ixL K rfl) (pe_lst (pa_cons pe_int (pa_cons pe_int (pa_cons pe_int pa_nil)))) (pe_call (ok_law_take T) (hr.mono (by decide)) (by rfl) T.g_law_take T.F_law_take.kp T.b_law_take .nil pass0 (pa_cons (pv 0) (pa_cons pe_int pa_nil))) (fun _ _ => rfl)) pa_nil)))))
      (pss_one (ps_ret (pe_tup (pa_cons (pv 2) (pa_cons (pv 3) (pa_cons (pe_callTy (kx_tuple K rfl) (by rfl) T.m_tuple (by decide +kernel) (pa_cons (pe_lc (own := [("k", 5)]) (g := gName 5) (tt := tYes) rfl sc_law_program.nd (pi_range1 rfl T.m_range (pa_cons (pv 4) pa_nil)) (blkOk_by (own := [("k", 5)]) (N := ["pen", "takes", "n", "w", "many", "k"]) (sc := defScope s_law_program) (by decide +kernel)) (fun _ _ _ _ _ => (pg_name (i := 5) sc_law_program.nd rfl (.inl rfl))) (fun _ _ _ _ _ => pts_nil) (fun _ _ _ _ _ => (pe_call (ok_law_row T) (hr.mono (by decide)) (by rfl) T.g_law_row T.F_law_row.kp T.b_law_row .nil pass0 (pa_cons (pv 0) (pa_cons (pv 2) (pa_cons (pv 3) (pa_cons (pv 4) (pa_cons (pv 1) pa_nil)))))))) pa_nil)) pa_nil))))))))), fun p takes hx => ?_⟩)
  try simp only [nox_K, blk_K, cx_K]
  repeat walk_at "d"
  rename_i k0 hk0
  have hn : ∃ m : Nat, atI [PyData.int 3, .int 12] (k0 : Int) = some (.int m) ∧ 1 ≤ m ∧ m ≤ 12 := by
    rcases (by omega : k0 = 0 ∨ k0 = 1) with rfl | rfl
    · exact ⟨3, rfl, by decide, by decide⟩
    · exact ⟨12, rfl, by decide, by decide⟩
  obtain ⟨m0, e0, hm1, hm2⟩ := hn
  refine r_ixL e0 ?_
  repeat walk_at "d"
  rename_i n0 hn0 k1 hk1 k2 hk2
  have hw : ∃ m : Nat, atI [PyData.int 2, .int 3, .int 10, .int 100, .int (2 + (k1 : Int))] (k2 : Int) = some (.int m) ∧ 2 ≤ m ∧ m ≤ 100 := by
    rcases (by omega : k2 = 0 ∨ k2 = 1 ∨ k2 = 2 ∨ k2 = 3 ∨ k2 = 4) with rfl | rfl | rfl | rfl | rfl
    · exact ⟨2, rfl, by decide, by decide⟩
    · exact ⟨3, rfl, by decide, by decide⟩
    · exact ⟨10, rfl, by decide, by decide⟩
    · exact ⟨100, rfl, by decide, by decide⟩
    · exact ⟨2 + k1, rfl, by omega, by omega⟩
  obtain ⟨w', e1, hw1, hw2⟩ := hw
  refine r_ixL e1 ?_
  repeat walk_at "d"
  rename_i k3 hk3
  have hm : ∃ m : Nat, atI [PyData.int 6, .int 12, .int 20] (k3 : Int) = some (.int m) ∧ 1 ≤ m ∧ m ≤ 20 := by
    rcases (by omega : k3 = 0 ∨ k3 = 1 ∨ k3 = 2) with rfl | rfl | rfl
    · exact ⟨6, rfl, by decide, by decide⟩
    · exact ⟨12, rfl, by decide, by decide⟩
    · exact ⟨20, rfl, by decide, by decide⟩
  obtain ⟨m3, e3, hm3, hm4⟩ := hm
  refine r_ixL e3 ?_
  repeat walk_at "d"
  rename_i k4 hk4
  refine e_lcR (j := 5) (ea_cons (e_var rfl (ea_nil ?_)))
  refine ⟨1 + k4, rfl, by omega, fun i acc => ∃ rows : List Wm.Row, acc = rows.map Row.D ∧ rows.length = i ∧ (∀ r ∈ rows, r.Ok (1 + n0) w' (1 + k4)) ∧ (takes = false → ∀ r ∈ rows, noTake r), ⟨[], rfl, rfl, fun r hr => (nomatch hr), fun _ r hr => (nomatch hr)⟩, fun i acc hi ⟨rows, ea, el, eo, en⟩ => ?_, fun acc ⟨rows, ea, el, eo, en⟩ => ?_⟩
  · repeat walk_at "d"
    refine ⟨⟨1 + n0, w', 1 + k4, takes⟩, rfl, ⟨by show 1 ≤ 1 + n0; omega, by show 1 + n0 ≤ 1000; omega, by show 1 ≤ w'; omega, by show w' ≤ 1000; omega, by show 1 ≤ 1 + k4; omega, by show 1 + k4 ≤ 1000; omega⟩, ?_⟩
    rintro d ⟨r, rfl, hr1, hr2⟩
    subst ea
    refine ⟨rows ++ [r], by rw [List.map_append]; rfl, by rw [List.length_append, el]; rfl, fun r' h' => ?_, fun ht r' h' => ?_⟩
    · rcases List.mem_append.mp h' with h' | h'
      · exact eo r' h'
      · rw [List.mem_singleton.mp h']; exact hr1
    · rcases List.mem_append.mp h' with h' | h'
      · exact en ht r' h'
      · rw [List.mem_singleton.mp h']; exact hr2 ht
  · subst ea
    repeat walk_at "d"
    refine ⟨⟨1 + n0, w', rows⟩, rfl, ⟨by show 1 ≤ 1 + n0; omega, by show 1 + n0 ≤ 12; omega, hw1, hw2, by show 1 ≤ rows.length; omega, by show rows.length ≤ 20; omega, ?_⟩, en⟩
    rw [show (Prog.mk (1 + n0) w' rows).rows.length = 1 + k4 from el]
    exact eo
end
end K1
set_option Elab.async false
set_option linter.all false
set_option maxRecDepth 100000
namespace K1
open PySem PySem.Spec PyProof.Rows L2 Dl Wm
local macro_rules | `(tactic| walk_at "e") => `(tactic| first
  | ((with_reducible refine e_var (by with_unfolding_all exact rfl) ?_))
  | with_reducible refine e_int ?_
  | with_reducible refine e_str ?_
  | with_reducible refine e_bl ?_
  | with_reducible refine e_non ?_
  | ((with_reducible refine e_pen (by with_unfolding_all exact rfl) (Or.inr rfl) ?_); intro z hz)
  | ((with_reducible refine e_pen (by with_unfolding_all exact rfl) (Or.inl rfl) ?_); intro z hz)
  | ((with_reducible refine e_penIx (by with_unfolding_all exact rfl) ?_))
  | with_reducible refine e_op ?_
  | with_reducible refine e_tup ?_
  | with_reducible refine e_lst ?_
  | with_reducible refine ea_cons ?_
  | with_reducible refine ea_nil ?_
  | ((with_reducible refine e_penLen (by with_unfolding_all exact rfl) ?_))
  | ((with_reducible refine e_lenOwn (by with_unfolding_all exact rfl) ?_))
  | ((with_reducible refine e_tupOwn (by with_unfolding_all exact rfl) ?_))
  | with_reducible refine e_isI ?_
  | with_reducible refine e_isB ?_
  | with_reducible refine e_isS ?_
  | with_reducible refine e_isTu ?_
  | with_reducible refine e_isL ?_
  | with_reducible refine e_cb ?_
  | with_reducible refine e_sl ?_
  | with_reducible refine eo_none ?_
  | with_reducible refine eo_some ?_
  | with_reducible refine et_test ?_
  | with_reducible refine et_B ?_
  | with_reducible refine et_and ?_
  | with_reducible refine et_or ?_
  | with_reducible refine et_not ?_
  | with_reducible refine et_yes ?_
  | with_reducible refine e_andV ?_
  | with_reducible refine e_orV ?_
  | with_reducible refine e_notV ?_
  | with_reducible refine e_if ?_
  | with_reducible refine e_chain ?_
  | with_reducible refine e_callX ?_
  | ((with_reducible refine e_callXP (by with_unfolding_all exact rfl) ?_))
  | ((with_reducible refine s_seq ?_); (try dsimp only [List.set]))
  | with_reducible refine s_next ?_
  | with_reducible refine s_ret ?_
  | ((with_reducible refine s_pen (by with_unfolding_all exact rfl) (Or.inr rfl) ?_))
  | ((with_reducible refine s_pen (by with_unfolding_all exact rfl) (Or.inl rfl) ?_))
  | ((with_reducible refine s_putOwn (by with_unfolding_all exact rfl) ?_))
  | with_reducible refine s_asg ?_
  | with_reducible refine s_asgG ?_
  | with_reducible refine s_if ?_
  | with_reducible refine g_name ?_
  | with_reducible refine g_tup rfl ?_
  | with_reducible refine gs_cons ?_
  | with_reducible refine gs_nil ?_
  | with_reducible refine r_lt ?_
  | with_reducible refine r_le ?_
  | with_reducible refine r_gt ?_
  | with_reducible refine r_ge ?_
  | with_reducible refine r_add ?_
  | with_reducible refine r_sub ?_
  | with_reducible refine r_eqI ?_
  | with_reducible refine r_eqS ?_
  | with_reducible refine r_eqB ?_
  | with_reducible refine r_neI ?_
  | with_reducible refine r_neB ?_
  | with_reducible refine c_min2 ?_
  | with_reducible refine c_max2 ?_
  | with_reducible refine c_intB ?_
  | with_reducible refine c_len (Or.inl rfl) ?_
  | with_reducible refine c_len (Or.inr rfl) ?_
  | with_reducible refine c_list (Or.inl rfl) ?_
  | with_reducible refine c_list (Or.inr rfl) ?_
  | with_reducible refine c_tuple (Or.inl rfl) ?_
  | with_reducible refine c_tuple (Or.inr rfl) ?_
  | with_reducible refine r_ixT (by with_unfolding_all exact rfl) ?_
  | with_reducible refine r_ixL (by with_unfolding_all exact rfl) ?_
  | with_reducible refine r_slT ?_
  | with_reducible refine r_slL ?_
  | with_reducible refine r_isNone ?_
  | with_reducible refine r_notBl ?_
  | with_reducible refine eps_cons ?_
  | with_reducible refine eps_nil ?_
  | with_reducible refine e_dget1 ?_
  | with_reducible refine ed_callX ?_
  | with_reducible refine ⟨_, rfl, ?_⟩
  | with_reducible refine ⟨Nat.le_of_ble_eq_true rfl, ?_⟩)
local macro_rules | `(tactic| walk_at "t") => `(tactic| first
  | walk_at "e"
  | refine r_modAny (by first | omega | decide) fun z z0 z1 => ?_
  | refine r_mul (by first | exact Or.inr ⟨by decide, by decide⟩ | exact Or.inl ⟨by decide, by decide⟩ | exact Or.inl ⟨by omega, by omega⟩) ?_
  | refine r_pow ⟨by decide, by decide, by decide⟩ ?_
  | refine r_fdivW (by first | assumption | (rename_i hw _; exact hw _) | exact wide_div (b := 200) (by decide) (by decide) (by decide) (by decide)) ?_
  | with_reducible refine ⟨by omega, ?_⟩)
local macro_rules | `(tactic| walk_at "k") => `(tactic| first
  | walk_at "e"
  | with_reducible refine ⟨fun hb => absurd hb (by decide +kernel), fun _ => ?_⟩
  | with_reducible refine ⟨fun _ => ?_, fun hb => absurd hb (by decide +kernel)⟩
  | refine ⟨fun hb => absurd hb Bool.false_ne_true, fun _ => ?_⟩
  | refine ⟨fun _ => ?_, fun hb => absurd hb.symm Bool.false_ne_true⟩)
local macro_rules | `(tactic| walk_at "d") => `(tactic| first
  | walk_at "k"
  | refine And.intro (show WfTake _ from ⟨by omega, by omega⟩) (take_all fun k hk => ?_))
local macro_rules | `(tactic| walk_at "o") => `(tactic| first
  | with_reducible refine s_ownList ?_
  | walk_at "d"
  | with_reducible refine ⟨_, Or.inl rfl, ?_⟩)

section
variable {P : Program} {w : World} {K : PySem.W.Frag} {mg : Str → Option Value} {base : Heap}
theorem ok_is_whole (T : Tx K mg base) : FnOk P w K mg base CX0 1 T.f_is_whole T.d_is_whole ["thing"] (SpX (α := PyData) K T.ts (fun _ => True) (fun x => [x]) (fun x d => d = .bool (whole x))) := by
  refine fnX T.F_is_whole sc_is_whole (fun _ _ => rfl) (fun cdv A outer s H E hr => ⟨_, (pss_one (ps_ret (pe_and (pe_callB (kx_isi K rfl) (by rfl) T.m_isinstance (by decide +kernel) (pa_cons (pv 0) (pa_cons (pe_bltn (v := .ty "int") (by rfl) T.m_int (by decide +kernel) rfl) pa_nil))) (pe_one (pe_not (pe_callB (kx_isi K rfl) (by rfl) T.m_isinstance (by decide +kernel) (pa_cons (pv 0) (pa_cons (pe_bltn (v := .ty "bool") (by rfl) T.m_bool (by decide +kernel) rfl) pa_nil)))))))), fun x _ => ?_⟩)
  try simp only [nox_K, blk_K, cx_K]
  show S K ⟨none, T.ts⟩ H _ [some (.d _)] _
  cases x <;> (repeat walk_at "k") <;> rfl
theorem ok_is_whole_within (T : Tx K mg base) : FnOk P w K mg base CX0 2 T.f_is_whole_within T.d_is_whole_within ["thing", "least", "most"] (SpX (α := PyData × Int × Int) K T.ts (fun _ => True) (fun x => [x.1, .int x.2.1, .int x.2.2]) (fun x d => d = .bool (wholeIn x.1 x.2.1 x.2.2))) := by
  refine fnX T.F_is_whole_within sc_is_whole_within (fun _ _ => rfl) (fun cdv A outer s H E hr => ⟨_, (pss_one (ps_ret (pe_and (pe_call (ok_is_whole T) (hr.mono (by decide)) (by rfl) T.g_is_whole T.F_is_whole.kp T.b_is_whole .nil pass0 (pa_cons (pv 0) pa_nil)) (pe_one (pe_chain op_le op_le (pv 1) (pv 0) (pv 2)))))), fun x _ => ?_⟩)
  obtain ⟨x, lo, hi⟩ := x
  try simp only [nox_K, blk_K, cx_K]
  show S K ⟨none, T.ts⟩ H _ [some (.d _), some (.d _), some (.d _)] _
  repeat walk_at "k"
  refine ⟨trivial, ?_⟩
  rintro d rfl
  cases x with
  | int i =>
    repeat walk_at "k"
    show (decide (lo ≤ i) = true → _) ∧ (decide (lo ≤ i) = false → _)
    refine ⟨fun h => ?_, fun h => ?_⟩
    · repeat walk_at "k"
      show PyData.bool (decide (i ≤ hi)) = .bool (decide (lo ≤ i) && decide (i ≤ hi))
      rw [h]
      rfl
    · show PyData.bool false = .bool (decide (lo ≤ i) && decide (i ≤ hi))
      rw [h]
      rfl
  | _ =>
    repeat walk_at "k"
    rfl
theorem ok_is_tuple_of (T : Tx K mg base) : FnOk P w K mg base CX0 1 T.f_is_tuple_of T.d_is_tuple_of ["thing", "many"] (SpX (α := PyData × Int) K T.ts (fun _ => True) (fun x => [x.1, .int x.2]) (fun x d => d = .bool (tupOf x.1 x.2))) := by
  refine fnX T.F_is_tuple_of sc_is_tuple_of (fun _ _ => rfl) (fun cdv A outer s H E hr => ⟨_, (pss_one (ps_ret (pe_and (pe_callB (kx_isi K rfl) (by rfl) T.m_isinstance (by decide +kernel) (pa_cons (pv 0) (pa_cons (pe_bltn (v := .ty "tuple") (by rfl) T.m_tuple (by decide +kernel) rfl) pa_nil))) (pe_one (pe_cmpR op_eq (pe_callB (kx_len K rfl) (by rfl) T.m_len PySem.boot_len (pa_cons (pv 0) pa_nil)) (pv 1) (nomark _)))))), fun x _ => ?_⟩)
  obtain ⟨x, m⟩ := x
  try simp only [nox_K, blk_K, cx_K]
  show S K ⟨none, T.ts⟩ H _ [some (.d _), some (.d _)] _
  cases x <;> (repeat walk_at "k") <;> rfl
theorem ok_row_limits (T : Tx K mg base) : FnOk P w K mg base CX0 1 T.f_row_limits T.d_row_limits ["n", "w", "many"] (SpXD (α := Int × Int × Int) K T.ts (fun _ => True) (fun x => [.int x.1, .int x.2.1, .int x.2.2]) (fun x => limsD x.1 x.2.1 x.2.2)) := by
  refine fnXD T.F_row_limits sc_row_limits (fun _ _ => rfl) (fun cdv A outer s H E hr => ⟨_, (pss_one (ps_ret (pe_disp (pps_cons pe_str (pe_tup (pa_cons (pv 0) (pa_cons (pv 1) pa_nil))) (pps_cons pe_str (pe_tup (pa_cons (pv 0) (pa_cons (pv 0) pa_nil))) (pps_cons pe_str (pe_tup (pa_cons (pv 0) (pa_cons (pv 2) pa_nil))) (pps_cons pe_str (pe_tup (pa_cons (pv 0) pa_nil)) (pps_cons pe_str (pe_tup (pa_cons (pv 0) pa_nil)) (pps_cons pe_str (pe_tup pa_nil) pps_nil)))))) (by rfl) (by rfl) (fun z => by cases z) (by decide)))), fun x _ => ?_⟩)
  obtain ⟨n, w', m⟩ := x
  try simp only [nox_K, blk_K, cx_K]
  show ED K ⟨none, T.ts⟩ H _ [some (.d _), some (.d _), some (.d _)] _
  refine ed_disp ?_
  repeat walk_at "k"
  refine ⟨show (["set", "add", "jump", "say", "take", "end"] : List Str).Nodup by decide +kernel, ?_⟩
  rfl
theorem ok_is_row (T : Tx K mg base) : FnOk P w K mg base CX0 4 T.f_is_row T.d_is_row ["thing", "n", "w", "many"] (SpX (α := PyData × Int × Int × Int) K T.ts (fun _ => True) (fun x => [x.1, .int x.2.1, .int x.2.2.1, .int x.2.2.2]) (fun x d => d = .bool (rowB x.1 x.2.1 x.2.2.1 x.2.2.2))) := by
  refine fnXc T.F_is_row sc_is_row (fun _ _ => rfl) (fun A outer s H E hr => ⟨_, (pss_cons (ps_if (PW.pt (pw_or (pt_not (pt_val (pe_callB (kx_isi K rfl) (by rfl) T.m_isinstance (by decide +kernel) (pa_cons (pv 0) (pa_cons (pe_bltn (v := .ty "tuple") (by rfl) T.m_tuple (by decide +kernel) rfl) pa_nil))))) (pw_or1 (pt_cmpR op_eq (pe_callB (kx_len K rfl) (by rfl) T.m_len PySem.boot_len (pa_cons (pv 0) pa_nil)) pe_int (nomark _)))))
      (pss_one (ps_ret pe_bl))
      pss_nil)
      (pss_cons (ps_set (i := 4) sc_is_row.nd rfl (.inl rfl) (pe_ix (kx_ixT K rfl) (pv 0) pe_int (fun _ _ => rfl)))
      (pss_cons (ps_if (pt_not (pt_val (pe_callB (kx_isi K rfl) (by rfl) T.m_isinstance (by decide +kernel) (pa_cons (pv 4) (pa_cons (pe_bltn (v := .ty "str") (by rfl) T.m_str (by decide +kernel) rfl) pa_nil)))))
      (pss_one (ps_ret pe_bl))
      pss_nil)
      (pss_cons (ps_set (i := 5) sc_is_row.nd rfl (.inl rfl) (pe_dget1 (hu_of hr) (pe_call (ok_row_limits T) (hr.mono (by decide)) (by rfl) T.g_row_limits T.F_row_limits.kp T.b_row_limits .nil pass0 (pa_cons (pv 1) (pa_cons (pv 2) (pa_cons (pv 3) pa_nil)))) (pv 4) ⟨rfl, rfl, rfl, rfl⟩))
      (pss_cons (ps_if (PW.pt (pw_or (pt_cmpR op_isN (pv 5) pe_non (nomark _)) (pw_or1 (pt_cmpR op_ne (pe_callB (kx_len K rfl) (by rfl) T.m_len PySem.boot_len (pa_cons (pv 0) pa_nil)) (pe_op op_add pe_int (pe_callB (kx_len K rfl) (by rfl) T.m_len PySem.boot_len (pa_cons (pv 5) pa_nil))) (nomark _)))))
      (pss_one (ps_ret pe_bl))
      pss_nil)
      (pss_one (ps_ret (_root_.Gx.pe_allG (own := [("part", 6), ("limit", 7)]) (tt := tYes) rfl hr sc_is_row.nd (by rfl) T.m_all (by decide +kernel) T.tb_is_row rfl ⟨blkOk_by (own := [("part", 6), ("limit", 7)]) (N := ["thing", "n", "w", "many", "word", "limits", "part", "limit"]) (sc := defScope s_is_row) (by decide +kernel), rfl, by decide +kernel, rfl⟩ (kx_zip K rfl rfl T.m_zip (pa_cons (pe_slice (kx_slT K rfl) (pv 0) (po_some pe_int) po_none) (pa_cons (pv 5) pa_nil))) (fun A' s' H' cl C code fp pn hr' => (kx_pgT K (n := 2) rfl rfl (pgs_cons (pg_name (i := 6) sc_is_row.nd rfl (.inl rfl)) (pgs_cons (pg_name (i := 7) sc_is_row.nd rfl (.inl rfl)) pgs_nil)))) (fun A' s' H' cl C code fp pn hr' => pts_nil) (fun A' s' H' cl C code fp pn hr' => (pe_call (ok_is_whole_within T) (hr'.mono (by decide)) (by rfl) T.g_is_whole_within T.F_is_whole_within.kp T.b_is_whole_within .nil pass0 (pa_cons (pv 6) (pa_cons pe_int (pa_cons (pe_op op_sub (pv 7) pe_int) pa_nil))))))))))))), fun x _ => ?_⟩)
  obtain ⟨x, n, w', m⟩ := x
  try simp only [nox_K, blk_K, cx_K]
  show S K ⟨none, T.ts⟩ H _ [some (.d _), some (.d _), some (.d _), some (.d _), none, none, none, none] _
  cases x with
  | tuple ds =>
    cases ds with
    | nil =>
      repeat walk_at "k"
      rfl
    | cons a rest =>
      repeat walk_at "k"
      refine r_ixT (show atI (a :: rest) ((0 : Nat) : Int) = some a from atI_nat rfl) ?_
      cases a with
      | str word =>
        repeat walk_at "k"
        refine ⟨⟨n, w', m⟩, rfl, trivial, ?_⟩
        repeat walk_at "k"
        have hB : rowB (.tuple (.str word :: rest)) n w' m = restB rest ((lims n w' m).lookup word) := rfl
        rw [limsD_get, hB]
        cases h : (lims n w' m).lookup word with
        | none =>
          dsimp only [Option.map, Option.getD]
          repeat walk_at "k"
          rfl
        | some ls =>
          dsimp only [Option.map, Option.getD]
          repeat walk_at "k"
          have hl : (intsD ls).length = ls.length := List.length_map _
          rw [hl, List.length_cons]
          by_cases e : rest.length = ls.length
          · refine ⟨fun h => ?_, fun _ => ?_⟩
            · rw [decide_eq_true (by omega)] at h
              cases h
            · repeat walk_at "k"
              refine e_allZ partB T.ti_is_row ?_
              repeat walk_at "k"
              refine ⟨rest, intsD ls, ?_, by rw [hl]; exact e, fun x hx y hy => ?_, ?_⟩
              · rw [show (1 : Int) = ((1 : Nat) : Int) from rfl, cut_from]
                rfl
              · obtain ⟨l, _, rfl⟩ := List.mem_map.mp hy
                dsimp only [List.set]
                repeat walk_at "k"
                refine ⟨⟨x, 0, l - 1⟩, rfl, trivial, ?_⟩
                rintro d rfl
                rfl
              · show PyData.bool _ = PyData.bool (decide (rest.length = ls.length) && _)
                rw [decide_eq_true e, Bool.true_and]
          · refine ⟨fun _ => ?_, fun h => ?_⟩
            · repeat walk_at "k"
              show PyData.bool _ = PyData.bool (decide (rest.length = ls.length) && _)
              rw [decide_eq_false e, Bool.false_and]
            · rw [decide_eq_false (by omega)] at h
              cases h
      | _ =>
        repeat walk_at "k"
        rfl
  | _ =>
    repeat walk_at "k"
    rfl
end
end K1
set_option Elab.async false
set_option linter.all false
set_option maxRecDepth 100000
namespace K1
open PySem PySem.Spec PyProof.Rows L2 Dl Wm
local macro_rules | `(tactic| walk_at "e") => `(tactic| first
  | ((with_reducible refine e_var (by with_unfolding_all exact rfl) ?_))
  | with_reducible refine e_int ?_
  | with_reducible refine e_str ?_
  | with_reducible refine e_bl ?_
  | with_reducible refine e_non ?_
  | ((with_reducible refine e_pen (by with_unfolding_all exact rfl) (Or.inr rfl) ?_); intro z hz)
  | ((with_reducible refine e_pen (by with_unfolding_all exact rfl) (Or.inl rfl) ?_); intro z hz)
  | ((with_reducible refine e_penIx (by with_unfolding_all exact rfl) ?_))
  | with_reducible refine e_op ?_
  | with_reducible refine e_tup ?_
  | with_reducible refine e_lst ?_
  | with_reducible refine ea_cons ?_
  | with_reducible refine ea_nil ?_
  | ((with_reducible refine e_penLen (by with_unfolding_all exact rfl) ?_))
  | ((with_reducible refine e_lenOwn (by with_unfolding_all exact rfl) ?_))
  | ((with_reducible refine e_tupOwn (by with_unfolding_all exact rfl) ?_))
  | with_reducible refine e_isI ?_
  | with_reducible refine e_isB ?_
  | with_reducible refine e_isS ?_
  | with_reducible refine e_isTu ?_
  | with_reducible refine e_isL ?_
  | with_reducible refine e_cb ?_
  | with_reducible refine e_sl ?_
  | with_reducible refine eo_none ?_
  | with_reducible refine eo_some ?_
  | with_reducible refine et_test ?_
  | with_reducible refine et_B ?_
  | with_reducible refine et_and ?_
  | with_reducible refine et_or ?_
  | with_reducible refine et_not ?_
  | with_reducible refine et_yes ?_
  | with_reducible refine e_andV ?_
  | with_reducible refine e_orV ?_
  | with_reducible refine e_notV ?_
  | with_reducible refine e_if ?_
  | with_reducible refine e_chain ?_
  | with_reducible refine e_callX ?_
  | ((with_reducible refine e_callXP (by with_unfolding_all exact rfl) ?_))
  | ((with_reducible refine s_seq ?_); (try dsimp only [List.set]))
  | with_reducible refine s_next ?_
  | with_reducible refine s_ret ?_
  | ((with_reducible refine s_pen (by with_unfolding_all exact rfl) (Or.inr rfl) ?_))
  | ((with_reducible refine s_pen (by with_unfolding_all exact rfl) (Or.inl rfl) ?_))
  | ((with_reducible refine s_putOwn (by with_unfolding_all exact rfl) ?_))
  | with_reducible refine s_asg ?_
  | with_reducible refine s_asgG ?_
  | with_reducible refine s_if ?_
  | with_reducible refine g_name ?_
  | with_reducible refine g_tup rfl ?_
  | with_reducible refine gs_cons ?_
  | with_reducible refine gs_nil ?_
  | with_reducible refine r_lt ?_
  | with_reducible refine r_le ?_
  | with_reducible refine r_gt ?_
  | with_reducible refine r_ge ?_
  | with_reducible refine r_add ?_
  | with_reducible refine r_sub ?_
  | with_reducible refine r_eqI ?_
  | with_reducible refine r_eqS ?_
  | with_reducible refine r_eqB ?_
  | with_reducible refine r_neI ?_
  | with_reducible refine r_neB ?_
  | with_reducible refine c_min2 ?_
  | with_reducible refine c_max2 ?_
  | with_reducible refine c_intB ?_
  | with_reducible refine c_len (Or.inl rfl) ?_
  | with_reducible refine c_len (Or.inr rfl) ?_
  | with_reducible refine c_list (Or.inl rfl) ?_
  | with_reducible refine c_list (Or.inr rfl) ?_
  | with_reducible refine c_tuple (Or.inl rfl) ?_
  | with_reducible refine c_tuple (Or.inr rfl) ?_
  | with_reducible refine r_ixT (by with_unfolding_all exact rfl) ?_
  | with_reducible refine r_ixL (by with_unfolding_all exact rfl) ?_
  | with_reducible refine r_slT ?_
  | with_reducible refine r_slL ?_
  | with_reducible refine r_isNone ?_
  | with_reducible refine r_notBl ?_
  | with_reducible refine eps_cons ?_
  | with_reducible refine eps_nil ?_
  | with_reducible refine e_dget1 ?_
  | with_reducible refine ed_callX ?_
  | with_reducible refine ⟨_, rfl, ?_⟩
  | with_reducible refine ⟨Nat.le_of_ble_eq_true rfl, ?_⟩)
local macro_rules | `(tactic| walk_at "t") => `(tactic| first
  | walk_at "e"
  | refine r_modAny (by first | omega | decide) fun z z0 z1 => ?_
  | refine r_mul (by first | exact Or.inr ⟨by decide, by decide⟩ | exact Or.inl ⟨by decide, by decide⟩ | exact Or.inl ⟨by omega, by omega⟩) ?_
  | refine r_pow ⟨by decide, by decide, by decide⟩ ?_
  | refine r_fdivW (by first | assumption | (rename_i hw _; exact hw _) | exact wide_div (b := 200) (by decide) (by decide) (by decide) (by decide)) ?_
  | with_reducible refine ⟨by omega, ?_⟩)
local macro_rules | `(tactic| walk_at "k") => `(tactic| first
  | walk_at "e"
  | with_reducible refine ⟨fun hb => absurd hb (by decide +kernel), fun _ => ?_⟩
  | with_reducible refine ⟨fun _ => ?_, fun hb => absurd hb (by decide +kernel)⟩
  | refine ⟨fun hb => absurd hb Bool.false_ne_true, fun _ => ?_⟩
  | refine ⟨fun _ => ?_, fun hb => absurd hb.symm Bool.false_ne_true⟩)
local macro_rules | `(tactic| walk_at "d") => `(tactic| first
  | walk_at "k"
  | refine And.intro (show WfTake _ from ⟨by omega, by omega⟩) (take_all fun k hk => ?_))
local macro_rules | `(tactic| walk_at "o") => `(tactic| first
  | with_reducible refine s_ownList ?_
  | walk_at "d"
  | with_reducible refine ⟨_, Or.inl rfl, ?_⟩)

section
variable {P : Program} {w : World} {K : PySem.W.Frag} {mg : Str → Option Value} {base : Heap}
theorem ok_is_program (T : Tx K mg base) : FnOk P w K mg base CX0 6 T.f_is_program T.d_is_program ["thing"] (SpX (α := PyData) K T.ts (fun _ => True) (fun x => [x]) (fun x d => d = .bool (progB x))) := by
  refine fnXc T.F_is_program sc_is_program (fun _ _ => rfl) (fun A outer s H E hr => ⟨_, (pss_cons (ps_if (pt_not (pt_val (pe_call (ok_is_tuple_of T) (hr.mono (by decide)) (by rfl) T.g_is_tuple_of T.F_is_tuple_of.kp T.b_is_tuple_of .nil pass0 (pa_cons (pv 0) (pa_cons pe_int pa_nil)))))
      (pss_one (ps_ret pe_bl))
      pss_nil)
      (pss_cons (ps_asg (pv 0) (kx_pgT K (n := 3) rfl rfl (pgs_cons (pg_name (i := 3) sc_is_program.nd rfl (.inr rfl)) (pgs_cons (pg_name (i := 4) sc_is_program.nd rfl (.inr rfl)) (pgs_cons (pg_name (i := 1) sc_is_program.nd rfl (.inl rfl)) pgs_nil)))))
      (pss_cons (ps_if (PW.pt (pw_or (pt_not (pt_val (pe_call (ok_is_whole_within T) (hr.mono (by decide)) (by rfl) T.g_is_whole_within T.F_is_whole_within.kp T.b_is_whole_within .nil pass0 (pa_cons (pv 3) (pa_cons pe_int (pa_cons (pe_glob (v := .int 12) (by rfl) T.c_MOST_SHEETS ⟨_, rfl⟩) pa_nil)))))) (pw_or1 (pt_not (pt_val (pe_call (ok_is_whole_within T) (hr.mono (by decide)) (by rfl) T.g_is_whole_within T.F_is_whole_within.kp T.b_is_whole_within .nil pass0 (pa_cons (pv 4) (pa_cons (pe_glob (v := .int 2) (by rfl) T.c_LEAST_WHEEL ⟨_, rfl⟩) (pa_cons (pe_glob (v := .int 100) (by rfl) T.c_MOST_WHEEL ⟨_, rfl⟩) pa_nil)))))))))
      (pss_one (ps_ret pe_bl))
      pss_nil)
      (pss_cons (ps_if (pt_not (pt_val (pe_callB (kx_isi K rfl) (by rfl) T.m_isinstance (by decide +kernel) (pa_cons (pv 1) (pa_cons (pe_bltn (v := .ty "tuple") (by rfl) T.m_tuple (by decide +kernel) rfl) pa_nil)))))
      (pss_one (ps_ret pe_bl))
      pss_nil)
      (pss_cons (ps_set (i := 2) sc_is_program.nd rfl (.inr rfl) (pe_callB (kx_len K rfl) (by rfl) T.m_len PySem.boot_len (pa_cons (pv 1) pa_nil)))
      (pss_cons (ps_if (pt_not (pt_chain op_le op_le pe_int (pv 2) (pe_glob (v := .int 20) (by rfl) T.c_MOST_ROWS ⟨_, rfl⟩)))
      (pss_one (ps_ret pe_bl))
      pss_nil)
      (pss_one (ps_ret (_root_.Gx.pe_allG (own := [("row", 5)]) (tt := tYes) rfl hr sc_is_program.nd (by rfl) T.m_all (by decide +kernel) T.tb_is_program rfl ⟨blkOk_by (own := [("row", 5)]) (N := ["thing", "rows", "many", "n", "w", "row"]) (sc := defScope s_is_program) (by decide +kernel), rfl, by decide +kernel, rfl⟩ (kx_piT K rfl (pv 1)) (fun A' s' H' cl C code fp pn hr' => (pg_name (i := 5) sc_is_program.nd rfl (.inl rfl))) (fun A' s' H' cl C code fp pn hr' => pts_nil) (fun A' s' H' cl C code fp pn hr' => (pe_call (ok_is_row T) (hr'.mono (by decide)) (by rfl) T.g_is_row T.F_is_row.kp T.b_is_row .nil pass0 (pa_cons (pv 5) (pa_cons (pv 3) (pa_cons (pv 4) (pa_cons (pv 2) pa_nil))))))))))))))), fun x _ => ?_⟩)
  try simp only [nox_K, blk_K, cx_K]
  show S K ⟨none, T.ts⟩ H _ [some (.d _), none, none, none, none, none] _
  repeat walk_at "k"
  refine ⟨⟨x, 3⟩, rfl, trivial, ?_⟩
  rintro d rfl
  cases x with
  | tuple ds =>
    rcases ds with _ | ⟨a, _ | ⟨b, _ | ⟨c, _ | ⟨e, r⟩⟩⟩⟩
    · repeat walk_at "k"
      rfl
    · repeat walk_at "k"
      rfl
    · repeat walk_at "k"
      rfl
    · repeat walk_at "k"
      refine ⟨⟨a, 1, 12⟩, rfl, trivial, ?_⟩
      rintro d rfl
      dsimp only
      cases hA : wholeIn a 1 12 with
      | false =>
        repeat walk_at "k"
        rw [progB_no1 hA]
      | true =>
        obtain ⟨n, rfl, _, _⟩ := wholeIn_int hA
        repeat walk_at "k"
        refine ⟨⟨b, 2, 100⟩, rfl, trivial, ?_⟩
        rintro d rfl
        dsimp only
        cases hB : wholeIn b 2 100 with
        | false =>
          repeat walk_at "k"
          rw [progB_no2 hB]
        | true =>
          obtain ⟨w', rfl, _, _⟩ := wholeIn_int hB
          repeat walk_at "k"
          cases c with
          | tuple rs =>
            repeat walk_at "k"
            rw [progB_yes hA hB]
            cases h1 : decide (1 ≤ (rs.length : Int)) with
            | false =>
              repeat walk_at "k"
              rfl
            | true =>
              cases h2 : decide ((rs.length : Int) ≤ 20) with
              | false =>
                repeat walk_at "k"
                rw [h2]
                repeat walk_at "k"
                rfl
              | true =>
                repeat walk_at "k"
                rw [h2]
                repeat walk_at "k"
                refine e_allT (fun r => rowB r n w' rs.length) T.ti_is_program ?_
                repeat walk_at "k"
                refine ⟨fun x hx => ?_, rfl⟩
                dsimp only [List.set]
                repeat walk_at "k"
                refine ⟨⟨x, n, w', rs.length⟩, rfl, trivial, ?_⟩
                rintro d rfl
                rfl
          | _ =>
            repeat walk_at "k"
            rfl
    · have e1 : tupOf (.tuple (a :: b :: c :: e :: r)) 3 = false := by
        show decide (((a :: b :: c :: e :: r).length : Int) = 3) = false
        exact decide_eq_false (by simp only [List.length_cons]; omega)
      dsimp only
      rw [e1]
      repeat walk_at "k"
      rfl
  | _ =>
    repeat walk_at "k"
    rfl
end
end K1
set_option Elab.async false
set_option linter.all false
set_option maxRecDepth 100000
namespace K1
open PySem PySem.Spec PyProof.Rows L2 Dl Wm
local macro_rules | `(tactic| walk_at "e") => `(tactic| first
  | ((with_reducible refine e_var (by with_unfolding_all exact rfl) ?_))
  | with_reducible refine e_int ?_
  | with_reducible refine e_str ?_
  | with_reducible refine e_bl ?_
  | with_reducible refine e_non ?_
  | ((with_reducible refine e_pen (by with_unfolding_all exact rfl) (Or.inr rfl) ?_); intro z hz)
  | ((with_reducible refine e_pen (by with_unfolding_all exact rfl) (Or.inl rfl) ?_); intro z hz)
  | ((with_reducible refine e_penIx (by with_unfolding_all exact rfl) ?_))
  | with_reducible refine e_op ?_
  | with_reducible refine e_tup ?_
  | with_reducible refine e_lst ?_
  | with_reducible refine ea_cons ?_
  | with_reducible refine ea_nil ?_
  | ((with_reducible refine e_penLen (by with_unfolding_all exact rfl) ?_))
  | ((with_reducible refine e_lenOwn (by with_unfolding_all exact rfl) ?_))
  | ((with_reducible refine e_tupOwn (by with_unfolding_all exact rfl) ?_))
  | with_reducible refine e_isI ?_
  | with_reducible refine e_isB ?_
  | with_reducible refine e_isS ?_
  | with_reducible refine e_isTu ?_
  | with_reducible refine e_isL ?_
  | with_reducible refine e_cb ?_
  | with_reducible refine e_sl ?_
  | with_reducible refine eo_none ?_
  | with_reducible refine eo_some ?_
  | with_reducible refine et_test ?_
  | with_reducible refine et_B ?_
  | with_reducible refine et_and ?_
  | with_reducible refine et_or ?_
  | with_reducible refine et_not ?_
  | with_reducible refine et_yes ?_
  | with_reducible refine e_andV ?_
  | with_reducible refine e_orV ?_
  | with_reducible refine e_notV ?_
  | with_reducible refine e_if ?_
  | with_reducible refine e_chain ?_
  | with_reducible refine e_callX ?_
  | ((with_reducible refine e_callXP (by with_unfolding_all exact rfl) ?_))
  | ((with_reducible refine s_seq ?_); (try dsimp only [List.set]))
  | with_reducible refine s_next ?_
  | with_reducible refine s_ret ?_
  | ((with_reducible refine s_pen (by with_unfolding_all exact rfl) (Or.inr rfl) ?_))
  | ((with_reducible refine s_pen (by with_unfolding_all exact rfl) (Or.inl rfl) ?_))
  | ((with_reducible refine s_putOwn (by with_unfolding_all exact rfl) ?_))
  | with_reducible refine s_asg ?_
  | with_reducible refine s_asgG ?_
  | with_reducible refine s_if ?_
  | with_reducible refine g_name ?_
  | with_reducible refine g_tup rfl ?_
  | with_reducible refine gs_cons ?_
  | with_reducible refine gs_nil ?_
  | with_reducible refine r_lt ?_
  | with_reducible refine r_le ?_
  | with_reducible refine r_gt ?_
  | with_reducible refine r_ge ?_
  | with_reducible refine r_add ?_
  | with_reducible refine r_sub ?_
  | with_reducible refine r_eqI ?_
  | with_reducible refine r_eqS ?_
  | with_reducible refine r_eqB ?_
  | with_reducible refine r_neI ?_
  | with_reducible refine r_neB ?_
  | with_reducible refine c_min2 ?_
  | with_reducible refine c_max2 ?_
  | with_reducible refine c_intB ?_
  | with_reducible refine c_len (Or.inl rfl) ?_
  | with_reducible refine c_len (Or.inr rfl) ?_
  | with_reducible refine c_list (Or.inl rfl) ?_
  | with_reducible refine c_list (Or.inr rfl) ?_
  | with_reducible refine c_tuple (Or.inl rfl) ?_
  | with_reducible refine c_tuple (Or.inr rfl) ?_
  | with_reducible refine r_ixT (by with_unfolding_all exact rfl) ?_
  | with_reducible refine r_ixL (by with_unfolding_all exact rfl) ?_
  | with_reducible refine r_slT ?_
  | with_reducible refine r_slL ?_
  | with_reducible refine r_isNone ?_
  | with_reducible refine r_notBl ?_
  | with_reducible refine eps_cons ?_
  | with_reducible refine eps_nil ?_
  | with_reducible refine e_dget1 ?_
  | with_reducible refine ed_callX ?_
  | with_reducible refine ⟨_, rfl, ?_⟩
  | with_reducible refine ⟨Nat.le_of_ble_eq_true rfl, ?_⟩)
local macro_rules | `(tactic| walk_at "t") => `(tactic| first
  | walk_at "e"
  | refine r_modAny (by first | omega | decide) fun z z0 z1 => ?_
  | refine r_mul (by first | exact Or.inr ⟨by decide, by decide⟩ | exact Or.inl ⟨by decide, by decide⟩ | exact Or.inl ⟨by omega, by omega⟩) ?_
  | refine r_pow ⟨by decide, by decide, by decide⟩ ?_
  | refine r_fdivW (by first | assumption | (rename_i hw _; exact hw _) | exact wide_div (b := 200) (by decide) (by decide) (by decide) (by decide)) ?_
  | with_reducible refine ⟨by omega, ?_⟩)
local macro_rules | `(tactic| walk_at "k") => `(tactic| first
  | walk_at "e"
  | with_reducible refine ⟨fun hb => absurd hb (by decide +kernel), fun _ => ?_⟩
  | with_reducible refine ⟨fun _ => ?_, fun hb => absurd hb (by decide +kernel)⟩
  | refine ⟨fun hb => absurd hb Bool.false_ne_true, fun _ => ?_⟩
  | refine ⟨fun _ => ?_, fun hb => absurd hb.symm Bool.false_ne_true⟩)
local macro_rules | `(tactic| walk_at "d") => `(tactic| first
  | walk_at "k"
  | refine And.intro (show WfTake _ from ⟨by omega, by omega⟩) (take_all fun k hk => ?_))
local macro_rules | `(tactic| walk_at "o") => `(tactic| first
  | with_reducible refine s_ownList ?_
  | walk_at "d"
  | with_reducible refine ⟨_, Or.inl rfl, ?_⟩)

section
variable {K : PySem.W.Frag} {pen : Pc} {P : PyData → Prop}
theorem r_ix0 {a : PyData} {r : List PyData} (p : P a) : R2d K pen (rIxT K) (.tuple (a :: r)) (.int 0) P := r_ixT (show atI (a :: r) ((0 : Nat) : Int) = some a from atI_nat rfl) p
theorem r_ix1 {a b : PyData} {r : List PyData} (p : P b) : R2d K pen (rIxT K) (.tuple (a :: b :: r)) (.int 1) P := r_ixT (show atI (a :: b :: r) ((1 : Nat) : Int) = some b from atI_nat rfl) p
theorem r_ix2 {a b c : PyData} {r : List PyData} (p : P c) : R2d K pen (rIxT K) (.tuple (a :: b :: c :: r)) (.int 2) P := r_ixT (show atI (a :: b :: c :: r) ((2 : Nat) : Int) = some c from atI_nat rfl) p
end
local macro_rules | `(tactic| walk_at "r") => `(tactic| first
  | with_reducible refine r_ix0 ?_
  | with_reducible refine r_ix1 ?_
  | with_reducible refine r_ix2 ?_
  | with_reducible refine r_eqNil ?_
  | with_reducible refine e_dget ?_
  | with_reducible refine ed_disp ?_
  | walk_at "k"
  | refine r_inS (ns := ["say", "take"]) ?_
  | refine r_notInS (ns := ["set", "add", "jump"]) ?_)
section
variable {P : Program} {w : World} {K : PySem.W.Frag} {mg : Str → Option Value} {base : Heap}
theorem ok_law_is_part (T : Tx K mg base) : FnOk P w K mg base CX0 1 T.f_law_is_part T.d_law_is_part ["part", "many"] (SpX (α := PyData × Int) K T.ts (fun _ => True) (fun x => [x.1, .int x.2]) (fun x d => d = .bool (wholeIn x.1 0 (x.2 - 1)))) := by
  refine fnX T.F_law_is_part sc_law_is_part (fun _ _ => rfl) (fun cdv A outer s H E hr => ⟨_, (pss_one (ps_ret (pe_and (pe_callB (kx_isi K rfl) (by rfl) T.m_isinstance (by decide +kernel) (pa_cons (pv 0) (pa_cons (pe_bltn (v := .ty "int") (by rfl) T.m_int (by decide +kernel) rfl) pa_nil))) (pe_and (pe_not (pe_callB (kx_isi K rfl) (by rfl) T.m_isinstance (by decide +kernel) (pa_cons (pv 0) (pa_cons (pe_bltn (v := .ty "bool") (by rfl) T.m_bool (by decide +kernel) rfl) pa_nil)))) (pe_one (pe_chain op_le op_lt pe_int (pv 0) (pv 1))))))), fun x _ => ?_⟩)
  obtain ⟨x, m⟩ := x
  try simp only [nox_K, blk_K, cx_K]
  show S K ⟨none, T.ts⟩ H _ [some (.d _), some (.d _)] _
  cases x with
  | int i =>
    repeat walk_at "k"
    rw [part_in]
    cases h : decide (0 ≤ i) with
    | true =>
      repeat walk_at "k"
      rfl
    | false =>
      repeat walk_at "k"
      rfl
  | _ =>
    repeat walk_at "k"
    rfl
abbrev spIsRow (K : PySem.W.Frag) (ts : List Addr) : Sp := SpX (α := Int × Int × Int × PyData) K ts (fun _ => True) (fun x => [.int x.1, .int x.2.1, .int x.2.2.1, x.2.2.2]) (fun x d => d = .bool (rowB x.2.2.2 x.1 x.2.1 x.2.2.1))
set_option maxHeartbeats 4000000 in
theorem ok_law_is_row (T : Tx K mg base) : FnOk P w K mg base CX0 2 T.f_law_is_row T.d_law_is_row ["n", "w", "many", "row"] (spIsRow K T.ts) := by
  refine fnX T.F_law_is_row sc_law_is_row (fun _ _ => rfl) (fun cdv A outer s H E hr => ⟨_, (pss_cons (ps_if (PW.pt (pw_or (pt_not (pt_val (pe_callB (kx_isi K rfl) (by rfl) T.m_isinstance (by decide +kernel) (pa_cons (pv 3) (pa_cons (pe_bltn (v := .ty "tuple") (by rfl) T.m_tuple (by decide +kernel) rfl) pa_nil))))) (pw_or (pt_cmpR (kx_eqNil (K := K) rfl hr) (pv 3) (pe_tup pa_nil) (nomark _)) (pw_or1 (pt_not (pt_val (pe_callB (kx_isi K rfl) (by rfl) T.m_isinstance (by decide +kernel) (pa_cons (pe_ix (kx_ixT K rfl) (pv 3) pe_int (fun _ _ => rfl)) (pa_cons (pe_bltn (v := .ty "str") (by rfl) T.m_str (by decide +kernel) rfl) pa_nil)))))))))
      (pss_one (ps_ret pe_bl))
      pss_nil)
      (pss_cons (ps_if (pt_cmpR op_eq (pe_ix (kx_ixT K rfl) (pv 3) pe_int (fun _ _ => rfl)) pe_str (nomark _))
      (pss_one (ps_ret (pe_cmpR op_eq (pe_callB (kx_len K rfl) (by rfl) T.m_len PySem.boot_len (pa_cons (pv 3) pa_nil)) pe_int (nomark _))))
      pss_nil)
      (pss_cons (ps_if (pt_cmpR (kx_in K rfl) (pe_ix (kx_ixT K rfl) (pv 3) pe_int (fun _ _ => rfl)) (pe_tup (pa_cons pe_str (pa_cons pe_str pa_nil))) (by rfl))
      (pss_one (ps_ret (pe_and (pe_cmpR op_eq (pe_callB (kx_len K rfl) (by rfl) T.m_len PySem.boot_len (pa_cons (pv 3) pa_nil)) pe_int (nomark _)) (pe_one (pe_call (ok_law_is_part T) (hr.mono (by decide)) (by rfl) T.g_law_is_part T.F_law_is_part.kp T.b_law_is_part .nil pass0 (pa_cons (pe_ix (kx_ixT K rfl) (pv 3) pe_int (fun _ _ => rfl)) (pa_cons (pv 0) pa_nil)))))))
      pss_nil)
      (pss_cons (ps_if (PW.pt (pw_or (pt_cmpR (kx_notIn K rfl) (pe_ix (kx_ixT K rfl) (pv 3) pe_int (fun _ _ => rfl)) (pe_tup (pa_cons pe_str (pa_cons pe_str (pa_cons pe_str pa_nil)))) (by rfl)) (pw_or1 (pt_cmpR op_ne (pe_callB (kx_len K rfl) (by rfl) T.m_len PySem.boot_len (pa_cons (pv 3) pa_nil)) pe_int (nomark _)))))
      (pss_one (ps_ret pe_bl))
      pss_nil)
      (pss_one (ps_ret (pe_and (pe_call (ok_law_is_part T) (hr.mono (by decide)) (by rfl) T.g_law_is_part T.F_law_is_part.kp T.b_law_is_part .nil pass0 (pa_cons (pe_ix (kx_ixT K rfl) (pv 3) pe_int (fun _ _ => rfl)) (pa_cons (pv 0) pa_nil))) (pe_one (pe_call (ok_law_is_part T) (hr.mono (by decide)) (by rfl) T.g_law_is_part T.F_law_is_part.kp T.b_law_is_part .nil pass0 (pa_cons (pe_ix (kx_ixT K rfl) (pv 3) pe_int (fun _ _ => rfl)) (pa_cons (pe_dget (hu_of hr) (pe_disp (pps_cons pe_str (pv 1) (pps_cons pe_str (pv 0) (pps_cons pe_str (pv 2) pps_nil))) (by rfl) (by rfl) (fun z => by cases z) (by decide)) (pe_ix (kx_ixT K rfl) (pv 3) pe_int (fun _ _ => rfl)) (fun _ _ => rfl)) pa_nil))))))))))), fun x _ => ?_⟩)
  obtain ⟨n, w', m, x⟩ := x
  try simp only [nox_K, blk_K, cx_K]
  show S K ⟨none, T.ts⟩ H _ [some (.d _), some (.d _), some (.d _), some (.d _)] _
  cases x with
  | tuple ds =>
    cases ds with
    | nil =>
      repeat walk_at "r"
      rfl
    | cons a rest =>
      cases a with
      | str word =>
        have hB : rowB (.tuple (.str word :: rest)) n w' m = restB rest ((lims n w' m).lookup word) := rfl
        rw [hB]
        by_cases w1 : word = "end"
        · subst w1
          repeat walk_at "r"
          show PyData.bool (decide (((rest.length + 1 : Nat) : Int) = 1)) = PyData.bool (decide (rest.length = 0) && _)
          rw [show decide (((rest.length + 1 : Nat) : Int) = 1) = decide (rest.length = 0) from decide_eq_decide.mpr (by omega)]
          cases rest <;> rfl
        by_cases w2 : word = "say"
        · subst w2
          rcases rest with _ | ⟨b, _ | ⟨c, r⟩⟩
          · repeat walk_at "r"
            rfl
          · repeat walk_at "r"
            refine ⟨⟨b, n⟩, rfl, trivial, ?_⟩
            rintro d rfl
            show PyData.bool _ = PyData.bool (true && (wholeIn b 0 (n - 1) && true))
            rw [Bool.true_and, Bool.and_true]
          · repeat walk_at "r"
            rfl
        by_cases w3 : word = "take"
        · subst w3
          rcases rest with _ | ⟨b, _ | ⟨c, r⟩⟩
          · repeat walk_at "r"
            rfl
          · repeat walk_at "r"
            refine ⟨⟨b, n⟩, rfl, trivial, ?_⟩
            rintro d rfl
            show PyData.bool _ = PyData.bool (true && (wholeIn b 0 (n - 1) && true))
            rw [Bool.true_and, Bool.and_true]
          · repeat walk_at "r"
            rfl
        by_cases w4 : word = "set"
        · subst w4
          rcases rest with _ | ⟨b, _ | ⟨c, _ | ⟨e, r⟩⟩⟩
          · repeat walk_at "r"
            rfl
          · repeat walk_at "r"
            rfl
          · repeat walk_at "r"
            refine ⟨⟨b, n⟩, rfl, trivial, ?_⟩
            rintro d rfl
            have hR : restB [b, c] ((lims n w' m).lookup ("set" : Str)) = (wholeIn b 0 (n - 1) && wholeIn c 0 (w' - 1)) := by
              show (true && (wholeIn b 0 (n - 1) && (wholeIn c 0 (w' - 1) && true))) = _
              rw [Bool.true_and, Bool.and_true]
            rw [hR]
            dsimp only
            cases hb : wholeIn b 0 (n - 1) with
            | false =>
              repeat walk_at "r"
              rfl
            | true =>
              repeat walk_at "r"
              refine ⟨show (["set", "add", "jump"] : List Str).Nodup by decide +kernel, ?_⟩
              repeat walk_at "r"
              refine ⟨⟨c, w'⟩, rfl, trivial, ?_⟩
              rintro d rfl
              rfl
          · repeat walk_at "r"
            rfl
        by_cases w5 : word = "add"
        · subst w5
          rcases rest with _ | ⟨b, _ | ⟨c, _ | ⟨e, r⟩⟩⟩
          · repeat walk_at "r"
            rfl
          · repeat walk_at "r"
            rfl
          · repeat walk_at "r"
            refine ⟨⟨b, n⟩, rfl, trivial, ?_⟩
            rintro d rfl
            have hR : restB [b, c] ((lims n w' m).lookup ("add" : Str)) = (wholeIn b 0 (n - 1) && wholeIn c 0 (n - 1)) := by
              show (true && (wholeIn b 0 (n - 1) && (wholeIn c 0 (n - 1) && true))) = _
              rw [Bool.true_and, Bool.and_true]
            rw [hR]
            dsimp only
            cases hb : wholeIn b 0 (n - 1) with
            | false =>
              repeat walk_at "r"
              rfl
            | true =>
              repeat walk_at "r"
              refine ⟨show (["set", "add", "jump"] : List Str).Nodup by decide +kernel, ?_⟩
              repeat walk_at "r"
              refine ⟨⟨c, n⟩, rfl, trivial, ?_⟩
              rintro d rfl
              rfl
          · repeat walk_at "r"
            rfl
        by_cases w6 : word = "jump"
        · subst w6
          rcases rest with _ | ⟨b, _ | ⟨c, _ | ⟨e, r⟩⟩⟩
          · repeat walk_at "r"
            rfl
          · repeat walk_at "r"
            rfl
          · repeat walk_at "r"
            refine ⟨⟨b, n⟩, rfl, trivial, ?_⟩
            rintro d rfl
            have hR : restB [b, c] ((lims n w' m).lookup ("jump" : Str)) = (wholeIn b 0 (n - 1) && wholeIn c 0 (m - 1)) := by
              show (true && (wholeIn b 0 (n - 1) && (wholeIn c 0 (m - 1) && true))) = _
              rw [Bool.true_and, Bool.and_true]
            rw [hR]
            dsimp only
            cases hb : wholeIn b 0 (n - 1) with
            | false =>
              repeat walk_at "r"
              rfl
            | true =>
              repeat walk_at "r"
              refine ⟨show (["set", "add", "jump"] : List Str).Nodup by decide +kernel, ?_⟩
              repeat walk_at "r"
              refine ⟨⟨c, m⟩, rfl, trivial, ?_⟩
              rintro d rfl
              rfl
          · repeat walk_at "r"
            rfl
        have hN : (lims n w' m).lookup word = none := by
          unfold lims
          rw [List.lookup_cons, beq_eq_false_iff_ne.mpr w4, List.lookup_cons, beq_eq_false_iff_ne.mpr w5, List.lookup_cons, beq_eq_false_iff_ne.mpr w6, List.lookup_cons, beq_eq_false_iff_ne.mpr w2, List.lookup_cons, beq_eq_false_iff_ne.mpr w3, List.lookup_cons, beq_eq_false_iff_ne.mpr w1]
          rfl
        rw [hN]
        have d1 : decide (word = "end") = false := decide_eq_false w1
        have d2 : decide (word ∈ (["say", "take"] : List Str)) = false := decide_eq_false (by simp [w2, w3])
        have d3 : decide (word ∈ (["set", "add", "jump"] : List Str)) = false := decide_eq_false (by simp [w4, w5, w6])
        repeat walk_at "r"
        rw [d1]
        repeat walk_at "r"
        rw [d2]
        repeat walk_at "r"
        rw [d3]
        repeat walk_at "r"
        rfl
      | _ =>
        repeat walk_at "r"
        rfl
  | _ =>
    repeat walk_at "k"
    rfl
end
end K1
set_option Elab.async false
set_option linter.all false
set_option maxRecDepth 100000
namespace K1
open PySem PySem.Spec PyProof.Rows L2 Dl Wm
local macro_rules | `(tactic| walk_at "e") => `(tactic| first
  | ((with_reducible refine e_var (by with_unfolding_all exact rfl) ?_))
  | with_reducible refine e_int ?_
  | with_reducible refine e_str ?_
  | with_reducible refine e_bl ?_
  | with_reducible refine e_non ?_
  | ((with_reducible refine e_pen (by with_unfolding_all exact rfl) (Or.inr rfl) ?_); intro z hz)
  | ((with_reducible refine e_pen (by with_unfolding_all exact rfl) (Or.inl rfl) ?_); intro z hz)
  | ((with_reducible refine e_penIx (by with_unfolding_all exact rfl) ?_))
  | with_reducible refine e_op ?_
  | with_reducible refine e_tup ?_
  | with_reducible refine e_lst ?_
  | with_reducible refine ea_cons ?_
  | with_reducible refine ea_nil ?_
  | ((with_reducible refine e_penLen (by with_unfolding_all exact rfl) ?_))
  | ((with_reducible refine e_lenOwn (by with_unfolding_all exact rfl) ?_))
  | ((with_reducible refine e_tupOwn (by with_unfolding_all exact rfl) ?_))
  | with_reducible refine e_isI ?_
  | with_reducible refine e_isB ?_
  | with_reducible refine e_isS ?_
  | with_reducible refine e_isTu ?_
  | with_reducible refine e_isL ?_
  | with_reducible refine e_cb ?_
  | with_reducible refine e_sl ?_
  | with_reducible refine eo_none ?_
  | with_reducible refine eo_some ?_
  | with_reducible refine et_test ?_
  | with_reducible refine et_B ?_
  | with_reducible refine et_and ?_
  | with_reducible refine et_or ?_
  | with_reducible refine et_not ?_
  | with_reducible refine et_yes ?_
  | with_reducible refine e_andV ?_
  | with_reducible refine e_orV ?_
  | with_reducible refine e_notV ?_
  | with_reducible refine e_if ?_
  | with_reducible refine e_chain ?_
  | with_reducible refine e_callX ?_
  | ((with_reducible refine e_callXP (by with_unfolding_all exact rfl) ?_))
  | ((with_reducible refine s_seq ?_); (try dsimp only [List.set]))
  | with_reducible refine s_next ?_
  | with_reducible refine s_ret ?_
  | ((with_reducible refine s_pen (by with_unfolding_all exact rfl) (Or.inr rfl) ?_))
  | ((with_reducible refine s_pen (by with_unfolding_all exact rfl) (Or.inl rfl) ?_))
  | ((with_reducible refine s_putOwn (by with_unfolding_all exact rfl) ?_))
  | with_reducible refine s_asg ?_
  | with_reducible refine s_asgG ?_
  | with_reducible refine s_if ?_
  | with_reducible refine g_name ?_
  | with_reducible refine g_tup rfl ?_
  | with_reducible refine gs_cons ?_
  | with_reducible refine gs_nil ?_
  | with_reducible refine r_lt ?_
  | with_reducible refine r_le ?_
  | with_reducible refine r_gt ?_
  | with_reducible refine r_ge ?_
  | with_reducible refine r_add ?_
  | with_reducible refine r_sub ?_
  | with_reducible refine r_eqI ?_
  | with_reducible refine r_eqS ?_
  | with_reducible refine r_eqB ?_
  | with_reducible refine r_neI ?_
  | with_reducible refine r_neB ?_
  | with_reducible refine c_min2 ?_
  | with_reducible refine c_max2 ?_
  | with_reducible refine c_intB ?_
  | with_reducible refine c_len (Or.inl rfl) ?_
  | with_reducible refine c_len (Or.inr rfl) ?_
  | with_reducible refine c_list (Or.inl rfl) ?_
  | with_reducible refine c_list (Or.inr rfl) ?_
  | with_reducible refine c_tuple (Or.inl rfl) ?_
  | with_reducible refine c_tuple (Or.inr rfl) ?_
  | with_reducible refine r_ixT (by with_unfolding_all exact rfl) ?_
  | with_reducible refine r_ixL (by with_unfolding_all exact rfl) ?_
  | with_reducible refine r_slT ?_
  | with_reducible refine r_slL ?_
  | with_reducible refine r_isNone ?_
  | with_reducible refine r_notBl ?_
  | with_reducible refine eps_cons ?_
  | with_reducible refine eps_nil ?_
  | with_reducible refine e_dget1 ?_
  | with_reducible refine ed_callX ?_
  | with_reducible refine ⟨_, rfl, ?_⟩
  | with_reducible refine ⟨Nat.le_of_ble_eq_true rfl, ?_⟩)
local macro_rules | `(tactic| walk_at "t") => `(tactic| first
  | walk_at "e"
  | refine r_modAny (by first | omega | decide) fun z z0 z1 => ?_
  | refine r_mul (by first | exact Or.inr ⟨by decide, by decide⟩ | exact Or.inl ⟨by decide, by decide⟩ | exact Or.inl ⟨by omega, by omega⟩) ?_
  | refine r_pow ⟨by decide, by decide, by decide⟩ ?_
  | refine r_fdivW (by first | assumption | (rename_i hw _; exact hw _) | exact wide_div (b := 200) (by decide) (by decide) (by decide) (by decide)) ?_
  | with_reducible refine ⟨by omega, ?_⟩)
local macro_rules | `(tactic| walk_at "k") => `(tactic| first
  | walk_at "e"
  | with_reducible refine ⟨fun hb => absurd hb (by decide +kernel), fun _ => ?_⟩
  | with_reducible refine ⟨fun _ => ?_, fun hb => absurd hb (by decide +kernel)⟩
  | refine ⟨fun hb => absurd hb Bool.false_ne_true, fun _ => ?_⟩
  | refine ⟨fun _ => ?_, fun hb => absurd hb.symm Bool.false_ne_true⟩)
local macro_rules | `(tactic| walk_at "d") => `(tactic| first
  | walk_at "k"
  | refine And.intro (show WfTake _ from ⟨by omega, by omega⟩) (take_all fun k hk => ?_))
local macro_rules | `(tactic| walk_at "o") => `(tactic| first
  | with_reducible refine s_ownList ?_
  | walk_at "d"
  | with_reducible refine ⟨_, Or.inl rfl, ?_⟩)

def wordOf : Wm.Row → Str
  | .set _ _ => "set"
  | .add _ _ => "add"
  | .jump _ _ => "jump"
  | .say _ => "say"
  | .take _ => "take"
  | .fin => "end"
def partsOf : Wm.Row → List Nat
  | .set p v => [p, v]
  | .add p q => [p, q]
  | .jump p k => [p, k]
  | .say p => [p]
  | .take p => [p]
  | .fin => []
theorem row_D (r : Wm.Row) : r.D = .tuple (.str (wordOf r) :: natsD (partsOf r)) := by cases r <;> rfl
theorem word_len (r : Wm.Row) : (wordOf r).length ≤ 4 := by cases r <;> (unfold wordOf; dsimp only; decide +kernel)
theorem parts_len (r : Wm.Row) : (partsOf r).length ≤ 2 := by cases r <;> (show _ ≤ 2; exact Nat.le_of_ble_eq_true rfl)
theorem parts_lt {r : Wm.Row} {n w m : Nat} (h : r.Ok n w m) (hn : n ≤ 100) (hw : w ≤ 100) (hm : m ≤ 100) : ∀ v ∈ partsOf r, v < 100 := by
  intro v hv
  cases r <;> simp only [partsOf, Wm.Row.Ok, List.mem_cons, List.not_mem_nil, or_false] at hv h <;> omega
theorem cutD_len (xs : List PyData) (lo hi : Option Int) : (cutD xs lo hi).length ≤ xs.length := by
  unfold Dl.cutD
  rw [List.length_take, List.length_drop]
  omega
theorem log_lt {v : Nat} (h : v ≤ 100) : ((v : Int)).natAbs.log2 < 1920 := by
  have := Nat.log2_le_self v
  show v.log2 < 1920
  omega
section
variable {K : PySem.W.Frag} {pen : Pc} {P : PyData → Prop}
theorem r_anyL {xs : List PyData} {k m : Nat} (h : (k : Int) < m) (hl : xs.length = m) (p : ∀ d, P d) : R2d K pen (rIxL K) (.list xs) (.int (k : Int)) P := by
  have hk : k < xs.length := by omega
  exact r_ixL (atI_nat (List.getElem?_eq_getElem hk)) (p _)
end
section
variable {K : PySem.W.Frag} {pen : Pc} {P : PyData → Prop}
theorem r_add2 {i j : Str} (h1 : i.length ≤ 100) (h2 : j.length ≤ 100) (p : P (.str (i ++ j))) : R2d K pen (fun x y H Q => ∃ i j, x = .str i ∧ y = .str j ∧ i.length + j.length ≤ sizeLine ∧ Q (.str (i ++ j)) H) (.str i) (.str j) P := r_addS (by omega) p
theorem up_len {z : Str} (h : z.length ≤ 4) : (Txt.upper z).length ≤ 100 := by
  have := PyProof.Rows.len_upper z
  omega
theorem cut4 {z : Str} {lo hi : Option Int} (h : z.length ≤ 4) : (cutS z lo hi).length ≤ 4 := Nat.le_trans (cutS_len z lo hi) h
end
set_option hygiene false in
local macro_rules | `(tactic| walk_at "b") => `(tactic| first
  | walk_at "d"
  | with_reducible refine r_ixT at0 ?_
  | with_reducible refine e_un ?_
  | with_reducible refine r_neg ?_
  | with_reducible refine e_upper ?_
  | refine ⟨show _ ≤ 100000 from Nat.le_trans wl (by decide), ?_⟩
  | refine ⟨show _ ≤ 100000 from Nat.le_trans (cut4 wl) (by decide), ?_⟩
  | refine r_slS (Nat.le_trans wl (by decide)) ?_
  | refine r_add2 (by first | exact Nat.le_trans wl (by decide) | exact up_len (cut4 wl) | exact Nat.le_trans (cut4 wl) (by decide) | decide +kernel) (by first | exact Nat.le_trans wl (by decide) | exact Nat.le_trans (cut4 wl) (by decide) | decide +kernel) ?_
  | (rw [e1]; refine r_catT (by simp only [List.length_cons, List.length_nil, nl]; omega) ?_)
  | refine r_catT (by simp only [List.length_cons, List.length_nil, nl]; omega) ?_
  | refine r_catL (Nat.le_of_ble_eq_true rfl) ?_)
section
variable {P : Program} {w : World} {K : PySem.W.Frag} {mg : Str → Option Value} {base : Heap}
theorem ok_law_bent_part (T : Tx K mg base) : FnOk P w K mg base CX0 2 T.f_law_bent_part T.d_law_bent_part ["pen", "program", "part"] (SpXP (α := Prog × Nat) K T.ts (fun x => x.1.Ok ∧ x.2 ≤ 100) (fun x => [x.1.D, .int x.2]) (fun _ _ => True)) := by
  refine fnXP T.F_law_bent_part sc_law_bent_part ⟨_, _, rfl⟩ (fun _ _ => rfl) (fun cdv A outer s H E hr => ⟨_, (pss_cons (ps_set (i := 3) sc_law_bent_part.nd rfl (.inl rfl) (pe_call (ok_law_take T) (hr.mono (by decide)) (by rfl) T.g_law_take T.F_law_take.kp T.b_law_take .nil pass0 (pa_cons (pv 0) (pa_cons (pe_op op_pow pe_int pe_int) pa_nil))))
      (pss_cons (ps_set (i := 4) sc_law_bent_part.nd rfl (.inl rfl) (pe_lst (pa_cons (pe_op op_sub pe_int pe_int) (pa_cons (pe_op op_sub (pe_op op_sub pe_int pe_int) (pv 3)) (pa_cons pe_int (pa_cons pe_int (pa_cons (pe_ix (kx_ixT K rfl) (pv 1) pe_int (fun _ _ => rfl)) (pa_cons (pe_ix (kx_ixT K rfl) (pv 1) pe_int (fun _ _ => rfl)) pa_nil))))))))
      (pss_cons (ps_set (i := 4) sc_law_bent_part.nd rfl (.inl rfl) (pe_op (kx_catL (K := K) rfl) (pv 4) (pe_lst (pa_cons (pe_callB (kx_len K rfl) (by rfl) T.m_len PySem.boot_len (pa_cons (pe_ix (kx_ixT K rfl) (pv 1) pe_int (fun _ _ => rfl)) pa_nil)) (pa_cons (pe_op op_add pe_int (pv 3)) (pa_cons pe_bl (pa_cons pe_bl pa_nil)))))))
      (pss_cons (ps_set (i := 4) sc_law_bent_part.nd rfl (.inl rfl) (pe_op (kx_catL (K := K) rfl) (pv 4) (pe_lst (pa_cons pe_non (pa_cons (pe_callTy call_str_int (by rfl) T.m_str (by decide +kernel) (pa_cons (pv 2) pa_nil)) (pa_cons (pe_tup (pa_cons (pv 2) pa_nil)) (pa_cons (pe_lst (pa_cons (pv 2) pa_nil)) (pa_cons (pe_op op_sub (pe_ix (kx_ixT K rfl) (pv 1) pe_int (fun _ _ => rfl)) pe_int) (pa_cons (pe_op op_sub (pe_ix (kx_ixT K rfl) (pv 1) pe_int (fun _ _ => rfl)) pe_int) pa_nil)))))))))
      (pss_one (ps_ret (pe_ix (kx_ixL K rfl) (pv 4) (pe_call (ok_law_take T) (hr.mono (by decide)) (by rfl) T.g_law_take T.F_law_take.kp T.b_law_take .nil pass0 (pa_cons (pv 0) (pa_cons pe_int pa_nil))) (fun _ _ => rfl)))))))), fun p x hx => ?_⟩)
  obtain ⟨x, v⟩ := x
  obtain ⟨hx, hv⟩ := hx
  dsimp only at hx hv
  try simp only [nox_K, blk_K, cx_K]
  show S K ⟨some p, T.ts⟩ H _ [some .pen, some (.d _), some (.d _), none, none] _
  repeat walk_at "d"
  refine r_pow ⟨by decide, by decide, by decide⟩ ?_
  repeat walk_at "d"
  refine ⟨⟨by decide +kernel, by decide +kernel⟩, take_all fun more hmore => ?_⟩
  repeat walk_at "d"
  refine r_catL (Nat.le_of_ble_eq_true rfl) ?_
  repeat walk_at "d"
  refine c_strI (log_lt hv) ?_
  repeat walk_at "d"
  refine r_catL (Nat.le_of_ble_eq_true rfl) ?_
  repeat walk_at "d"
  rename_i k hk
  exact r_anyL (m := 16) hk rfl fun _ => trivial
abbrev bentRowA := Prog × Wm.Row
set_option maxHeartbeats 4000000 in
theorem ok_law_bent_row (T : Tx K mg base) : FnOk P w K mg base CX0 3 T.f_law_bent_row T.d_law_bent_row ["pen", "program", "row"] (SpXP (α := bentRowA) K T.ts (fun x => x.1.Ok ∧ x.2.Ok x.1.n x.1.w x.1.rows.length) (fun x => [x.1.D, x.2.D]) (fun _ _ => True)) := by
  refine fnXP T.F_law_bent_row sc_law_bent_row ⟨_, _, rfl⟩ (fun _ _ => rfl) (fun cdv A outer s H E hr => ⟨_, (pss_cons (ps_if (PW.pt (pw_or (pt_cmpR op_eq (pe_callB (kx_len K rfl) (by rfl) T.m_len PySem.boot_len (pa_cons (pv 2) pa_nil)) pe_int (nomark _)) (pw_or1 (pt_cmpR op_eq (pe_call (ok_law_take T) (hr.mono (by decide)) (by rfl) T.g_law_take T.F_law_take.kp T.b_law_take .nil pass0 (pa_cons (pv 0) (pa_cons pe_int pa_nil))) pe_int (nomark _)))))
      (pss_cons (ps_set (i := 3) sc_law_bent_row.nd rfl (.inl rfl) (pe_lst (pa_cons (pe_callTy (kx_list K rfl) (by rfl) T.m_list (by decide +kernel) (pa_cons (pv 2) pa_nil)) (pa_cons (pe_op (kx_catT K rfl) (pv 2) (pe_tup (pa_cons pe_int pa_nil))) (pa_cons (pe_slice (kx_slT K rfl) (pv 2) po_none (po_some (pe_un un_neg pe_int))) (pa_cons (pe_tup pa_nil) pa_nil))))))
      (pss_cons (ps_set (i := 3) sc_law_bent_row.nd rfl (.inl rfl) (pe_op (kx_catL (K := K) rfl) (pv 3) (pe_lst (pa_cons (pe_op (kx_catT K rfl) (pe_tup (pa_cons (pe_upper (pe_ix (kx_ixT K rfl) (pv 2) pe_int (fun _ _ => rfl))) pa_nil)) (pe_slice (kx_slT K rfl) (pv 2) (po_some pe_int) po_none)) (pa_cons (pe_op (kx_catT K rfl) (pe_tup (pa_cons pe_str pa_nil)) (pe_slice (kx_slT K rfl) (pv 2) (po_some pe_int) po_none)) (pa_cons (pe_ix (kx_ixT K rfl) (pv 2) pe_int (fun _ _ => rfl)) (pa_cons pe_non (pa_cons pe_int (pa_cons pe_bl (pa_cons pe_int pa_nil))))))))))
      (pss_cons (ps_set (i := 4) sc_law_bent_row.nd rfl (.inl rfl) (pe_lst (pa_cons (pe_op op_add_str (pe_ix (kx_ixT K rfl) (pv 2) pe_int (fun _ _ => rfl)) pe_str) (pa_cons (pe_op op_add_str pe_str (pe_ix (kx_ixT K rfl) (pv 2) pe_int (fun _ _ => rfl))) (pa_cons (pe_slice sl_str (pe_ix (kx_ixT K rfl) (pv 2) pe_int (fun _ _ => rfl)) po_none (po_some (pe_un un_neg pe_int))) (pa_cons (pe_op op_add_str (pe_ix (kx_ixT K rfl) (pv 2) pe_int (fun _ _ => rfl)) (pe_slice sl_str (pe_ix (kx_ixT K rfl) (pv 2) pe_int (fun _ _ => rfl)) po_none (po_some pe_int))) (pa_cons (pe_op op_add_str (pe_upper (pe_slice sl_str (pe_ix (kx_ixT K rfl) (pv 2) pe_int (fun _ _ => rfl)) po_none (po_some pe_int))) (pe_slice sl_str (pe_ix (kx_ixT K rfl) (pv 2) pe_int (fun _ _ => rfl)) (po_some pe_int) po_none)) (pa_cons pe_str pa_nil))))))))
      (pss_cons (ps_set (i := 3) sc_law_bent_row.nd rfl (.inl rfl) (pe_op (kx_catL (K := K) rfl) (pv 3) (pe_lc (own := [("word", 6)]) (g := gName 6) (tt := tYes) rfl sc_law_bent_row.nd (kx_piL K rfl (pe_op (kx_catL (K := K) rfl) (pv 4) (pe_lst (pa_cons (pe_op op_add_str (pe_ix (kx_ixT K rfl) (pv 2) pe_int (fun _ _ => rfl)) pe_str) pa_nil)))) (blkOk_by (own := [("word", 6)]) (N := ["pen", "program", "row", "some", "words", "at", "word"]) (sc := defScope s_law_bent_row) (by decide +kernel)) (fun _ _ _ _ _ => (pg_name (i := 6) sc_law_bent_row.nd rfl (.inl rfl))) (fun _ _ _ _ _ => pts_nil) (fun _ _ _ _ _ => (pe_op (kx_catT K rfl) (pe_tup (pa_cons (pv 6) pa_nil)) (pe_slice (kx_slT K rfl) (pv 2) (po_some pe_int) po_none))))))
      (pss_cons (ps_set (i := 3) sc_law_bent_row.nd rfl (.inl rfl) (pe_op (kx_catL (K := K) rfl) (pv 3) (pe_lst (pa_cons (pe_op (kx_catT K rfl) (pe_tup (pa_cons (pe_tup (pa_cons (pe_ix (kx_ixT K rfl) (pv 2) pe_int (fun _ _ => rfl)) pa_nil)) pa_nil)) (pe_slice (kx_slT K rfl) (pv 2) (po_some pe_int) po_none)) (pa_cons (pe_op (kx_catT K rfl) (pe_tup (pa_cons (pe_lst (pa_cons (pe_ix (kx_ixT K rfl) (pv 2) pe_int (fun _ _ => rfl)) pa_nil)) pa_nil)) (pe_slice (kx_slT K rfl) (pv 2) (po_some pe_int) po_none)) (pa_cons (pe_tup (pa_cons (pv 2) pa_nil)) pa_nil))))))
      (pss_one (ps_ret (pe_ix (kx_ixL K rfl) (pv 3) (pe_call (ok_law_take T) (hr.mono (by decide)) (by rfl) T.g_law_take T.F_law_take.kp T.b_law_take .nil pass0 (pa_cons (pv 0) (pa_cons pe_int pa_nil))) (fun _ _ => rfl)))))))))
      pss_nil)
      (pss_cons (ps_set (i := 5) sc_law_bent_row.nd rfl (.inl rfl) (pe_op op_add pe_int (pe_call (ok_law_take T) (hr.mono (by decide)) (by rfl) T.g_law_take T.F_law_take.kp T.b_law_take .nil pass0 (pa_cons (pv 0) (pa_cons (pe_op op_sub (pe_callB (kx_len K rfl) (by rfl) T.m_len PySem.boot_len (pa_cons (pv 2) pa_nil)) pe_int) pa_nil)))))
      (pss_one (ps_ret (pe_op (kx_catT K rfl) (pe_op (kx_catT K rfl) (pe_slice (kx_slT K rfl) (pv 2) po_none (po_some (pv 5))) (pe_tup (pa_cons (pe_call (ok_law_bent_part T) (hr.mono (by decide)) (by rfl) T.g_law_bent_part T.F_law_bent_part.kp T.b_law_bent_part .nil pass0 (pa_cons (pv 0) (pa_cons (pv 1) (pa_cons (pe_ix (kx_ixT K rfl) (pv 2) (pv 5) (fun _ _ => rfl)) pa_nil)))) pa_nil))) (pe_slice (kx_slT K rfl) (pv 2) (po_some (pe_op op_add (pv 5) pe_int)) po_none)))))), fun p x hx => ?_⟩)
  obtain ⟨x, r⟩ := x
  obtain ⟨hx, hr2⟩ := hx
  dsimp only at hx hr2
  try simp only [nox_K, blk_K, cx_K]
  have wl := word_len r
  have pl := parts_len r
  have pt := parts_lt hr2 (by have := hx.n2; omega) hx.w2 (by have := hx.r2; omega)
  have nl := natsD_len (partsOf r)
  show S K ⟨some p, T.ts⟩ H _ [some .pen, some (.d _), some (.d _), none, none, none, none] _
  rw [row_D r]
  generalize wordOf r = word at wl ⊢
  generalize partsOf r = parts at pl pt nl ⊢
  have at0 : atI (PyData.str word :: natsD parts) (0 : Int) = some (.str word) := atI_nat (j := 0) rfl
  have e1 : cutD (PyData.str word :: natsD parts) (some 1) none = natsD parts := by
    rw [show (1 : Int) = ((1 : Nat) : Int) from rfl, cut_from]
    rfl
  refine s_seq (s_if (ET.mono (Pb := fun b => b = false → parts ≠ []) ?c fun b hb => ⟨fun _ => ?t, fun e => ?e⟩))
  case c =>
    repeat walk_at "d"
    rw [List.length_cons, nl]
    refine ⟨fun _ z => (by cases z), fun hz => ?_⟩
    have hz := of_decide_eq_false hz
    repeat walk_at "d"
    intro _ z
    rw [z] at hz
    exact hz rfl
  case t =>
    repeat walk_at "b"
    refine e_mapL (fun x => .tuple ([x] ++ natsD parts)) ?_
    repeat walk_at "b"
    refine ⟨fun y hy => ?_, ?_⟩
    · dsimp only [List.set]
      repeat walk_at "b"
      rfl
    · repeat walk_at "b"
      rename_i k hk
      exact r_anyL (m := 21) hk rfl fun _ => trivial
  case e =>
    have hne := hb e
    have hp1 : 1 ≤ parts.length := by
      cases parts with
      | nil => exact absurd rfl hne
      | cons a r => rw [List.length_cons]; omega
    repeat walk_at "d"
    rw [List.length_cons, nl]
    refine And.intro (show WfTake _ from ⟨by omega, by omega⟩) (take_all fun k hk => ?_)
    have hk1 : k < parts.length := by omega
    repeat walk_at "d"
    have eat : (1 : Int) + (k : Int) = ((k + 1 : Nat) : Int) := by omega
    rw [eat]
    have hat : atI (PyData.str word :: natsD parts) ((k + 1 : Nat) : Int) = some (natD (parts.getD k 0)) := atI_nat (by rw [List.getElem?_cons_succ]; exact natsD_get hk1)
    refine r_ixT hat ?_
    repeat walk_at "d"
    have hv : parts.getD k 0 ≤ 100 := by
      rw [List.getD_eq_getElem?_getD, List.getElem?_eq_getElem hk1]
      exact Nat.le_of_lt (pt _ (List.getElem_mem hk1))
    have hc : ∀ lo hi, (cutD (PyData.str word :: natsD parts) lo hi).length ≤ 3 := fun lo hi => by
      have := cutD_len (PyData.str word :: natsD parts) lo hi
      rw [List.length_cons, nl] at this
      omega
    refine ⟨⟨x, parts.getD k 0⟩, rfl, ⟨hx, hv⟩, ?_⟩
    rintro d -
    repeat walk_at "d"
    refine r_catT (by have := hc none (some ((k + 1 : Nat) : Int)); rw [List.length_singleton]; omega) ?_
    repeat walk_at "d"
    refine r_catT (by have := hc none (some ((k + 1 : Nat) : Int)); have := hc (some (((k + 1 : Nat) : Int) + 1)) none; rw [List.length_append, List.length_singleton]; omega) ?_
    trivial
set_option maxHeartbeats 4000000 in
theorem ok_law_bent (T : Tx K mg base) : FnOk P w K mg base CX0 4 T.f_law_bent T.d_law_bent ["pen", "program"] (SpXP (α := Prog) K T.ts Prog.Ok (fun x => [x.D]) (fun _ _ => True)) := by
  refine fnXP T.F_law_bent sc_law_bent ⟨_, _, rfl⟩ (fun _ _ => rfl) (fun cdv A outer s H E hr => ⟨_, (pss_cons (ps_asg (pv 1) (kx_pgT K (n := 3) rfl rfl (pgs_cons (pg_name (i := 2) sc_law_bent.nd rfl (.inl rfl)) (pgs_cons (pg_name (i := 3) sc_law_bent.nd rfl (.inl rfl)) (pgs_cons (pg_name (i := 4) sc_law_bent.nd rfl (.inl rfl)) pgs_nil)))))
      (pss_cons (ps_set (i := 5) sc_law_bent.nd rfl (.inl rfl) (pe_call (ok_law_take T) (hr.mono (by decide)) (by rfl) T.g_law_take T.F_law_take.kp T.b_law_take .nil pass0 (pa_cons (pv 0) (pa_cons pe_int pa_nil))))
      (pss_cons (ps_if (pt_cmpR op_eq (pv 5) pe_int (nomark _))
      (pss_one (ps_ret (pe_tup (pa_cons (pe_call (ok_law_bent_part T) (hr.mono (by decide)) (by rfl) T.g_law_bent_part T.F_law_bent_part.kp T.b_law_bent_part .nil pass0 (pa_cons (pv 0) (pa_cons (pv 1) (pa_cons (pv 2) pa_nil)))) (pa_cons (pv 3) (pa_cons (pv 4) pa_nil))))))
      pss_nil)
      (pss_cons (ps_if (pt_cmpR op_eq (pv 5) pe_int (nomark _))
      (pss_one (ps_ret (pe_tup (pa_cons (pv 2) (pa_cons (pe_call (ok_law_bent_part T) (hr.mono (by decide)) (by rfl) T.g_law_bent_part T.F_law_bent_part.kp T.b_law_bent_part .nil pass0 (pa_cons (pv 0) (pa_cons (pv 1) (pa_cons (pv 3) pa_nil)))) (pa_cons (pv 4) pa_nil))))))
      pss_nil)
      (pss_cons (ps_if (pt_cmpR op_eq (pv 5) pe_int (nomark _))
      (pss_cons (ps_set (i := 6) sc_law_bent.nd rfl (.inl rfl) (pe_lst (pa_cons (pe_tup (pa_cons (pv 2) (pa_cons (pv 3) (pa_cons (pe_callTy (kx_list K rfl) (by rfl) T.m_list (by decide +kernel) (pa_cons (pv 4) pa_nil)) pa_nil)))) (pa_cons (pe_lst (pa_cons (pv 2) (pa_cons (pv 3) (pa_cons (pv 4) pa_nil)))) (pa_cons (pe_tup (pa_cons (pv 2) (pa_cons (pv 3) pa_nil))) (pa_cons (pe_tup (pa_cons (pv 2) (pa_cons (pv 3) (pa_cons (pv 4) (pa_cons (pe_tup pa_nil) pa_nil))))) pa_nil))))))
      (pss_cons (ps_set (i := 6) sc_law_bent.nd rfl (.inl rfl) (pe_op (kx_catL (K := K) rfl) (pv 6) (pe_lst (pa_cons (pe_tup (pa_cons (pv 2) (pa_cons (pv 3) (pa_cons (pe_tup pa_nil) pa_nil)))) (pa_cons (pe_tup (pa_cons pe_int (pa_cons (pv 3) (pa_cons (pv 4) pa_nil)))) (pa_cons (pe_tup (pa_cons (pv 2) (pa_cons pe_int (pa_cons (pv 4) pa_nil)))) pa_nil))))))
      (pss_cons (ps_set (i := 6) sc_law_bent.nd rfl (.inl rfl) (pe_op (kx_catL (K := K) rfl) (pv 6) (pe_lst (pa_cons (pe_tup (pa_cons (pv 2) (pa_cons (pv 3) (pa_cons (pe_op (kx_catT K rfl) (pv 4) (pe_op (kx_repA (K := K) rfl) (pe_tup (pa_cons (pe_tup (pa_cons pe_str pa_nil)) pa_nil)) (pe_op op_sub pe_int (pe_callB (kx_len K rfl) (by rfl) T.m_len PySem.boot_len (pa_cons (pv 4) pa_nil))))) pa_nil)))) pa_nil))))
      (pss_cons (ps_set (i := 6) sc_law_bent.nd rfl (.inl rfl) (pe_op (kx_catL (K := K) rfl) (pv 6) (pe_lst (pa_cons (pe_tup (pa_cons (pv 2) (pa_cons pe_int (pa_cons (pv 4) pa_nil)))) (pa_cons (pe_tup (pa_cons pe_int (pa_cons (pv 3) (pa_cons (pv 4) pa_nil)))) (pa_cons (pe_tup (pa_cons (pv 2) (pa_cons (pv 3) (pa_cons pe_non pa_nil)))) (pa_cons (pe_tup (pa_cons (pv 2) (pa_cons (pv 3) (pa_cons pe_int pa_nil)))) (pa_cons (pe_tup (pa_cons (pv 2) (pa_cons (pv 3) (pa_cons pe_bl pa_nil)))) (pa_cons (pe_tup (pa_cons (pv 2) (pa_cons (pv 3) (pa_cons pe_str pa_nil)))) pa_nil)))))))))
      (pss_one (ps_ret (pe_ix (kx_ixL K rfl) (pv 6) (pe_call (ok_law_take T) (hr.mono (by decide)) (by rfl) T.g_law_take T.F_law_take.kp T.b_law_take .nil pass0 (pa_cons (pv 0) (pa_cons pe_int pa_nil))) (fun _ _ => rfl))))))))
      pss_nil)
      (pss_cons (ps_set (i := 7) sc_law_bent.nd rfl (.inl rfl) (pe_call (ok_law_take T) (hr.mono (by decide)) (by rfl) T.g_law_take T.F_law_take.kp T.b_law_take .nil pass0 (pa_cons (pv 0) (pa_cons (pe_callB (kx_len K rfl) (by rfl) T.m_len PySem.boot_len (pa_cons (pv 4) pa_nil)) pa_nil))))
      (pss_one (ps_ret (pe_tup (pa_cons (pv 2) (pa_cons (pv 3) (pa_cons (pe_op (kx_catT K rfl) (pe_op (kx_catT K rfl) (pe_slice (kx_slT K rfl) (pv 4) po_none (po_some (pv 7))) (pe_tup (pa_cons (pe_call (ok_law_bent_row T) (hr.mono (by decide)) (by rfl) T.g_law_bent_row T.F_law_bent_row.kp T.b_law_bent_row .nil pass0 (pa_cons (pv 0) (pa_cons (pv 1) (pa_cons (pe_ix (kx_ixT K rfl) (pv 4) (pv 7) (fun _ _ => rfl)) pa_nil)))) pa_nil))) (pe_slice (kx_slT K rfl) (pv 4) (po_some (pe_op op_add (pv 7) pe_int)) po_none)) pa_nil)))))))))))), fun p x hx => ?_⟩)
  try simp only [nox_K, blk_K, cx_K]
  have hn2 := hx.n2
  have hw2 := hx.w2
  have hr1 := hx.r1
  have hr2 := hx.r2
  have rl : (x.rows.map Row.D).length = x.rows.length := List.length_map _
  show S K ⟨some p, T.ts⟩ H _ [some .pen, some (.d _), none, none, none, none, none, none] _
  repeat walk_at "d"
  refine ⟨fun _ => ?_, fun _ => ?_⟩
  · repeat walk_at "d"
    refine ⟨⟨x, x.n⟩, rfl, ⟨hx, by show x.n ≤ 100; omega⟩, ?_⟩
    rintro d -
    repeat walk_at "d"
    trivial
  repeat walk_at "d"
  refine ⟨fun _ => ?_, fun _ => ?_⟩
  · repeat walk_at "d"
    refine ⟨⟨x, x.w⟩, rfl, ⟨hx, hw2⟩, ?_⟩
    rintro d -
    repeat walk_at "d"
    trivial
  repeat walk_at "d"
  refine ⟨fun _ => ?_, fun _ => ?_⟩
  · repeat walk_at "d"
    refine r_catL (Nat.le_of_ble_eq_true rfl) ?_
    repeat walk_at "d"
    rw [rl]
    have e21 : (21 : Int) - (x.rows.length : Int) = ((21 - x.rows.length : Nat) : Int) := by omega
    rw [e21]
    refine r_repA (by simp) (by omega) (by omega) (Nat.le_of_ble_eq_true rfl) ?_
    refine r_catT (by rw [rl, List.length_flatten, List.map_replicate, List.sum_replicate_nat]; show _ + _ * 1 ≤ _; omega) ?_
    repeat walk_at "d"
    refine r_catL (Nat.le_of_ble_eq_true rfl) ?_
    repeat walk_at "d"
    refine r_catL (Nat.le_of_ble_eq_true rfl) ?_
    repeat walk_at "d"
    rename_i k hk
    exact r_anyL (m := 14) hk rfl fun _ => trivial
  repeat walk_at "d"
  rename_i k hk
  have hk1 : k < x.rows.length := by omega
  have hat : atI (x.rows.map Row.D) (k : Int) = some (x.rows[k]).D := atI_nat (by rw [List.getElem?_map, List.getElem?_eq_getElem hk1]; rfl)
  have hc : ∀ lo hi, (cutD (x.rows.map Row.D) lo hi).length ≤ 20 := fun lo hi => by
    have := cutD_len (x.rows.map Row.D) lo hi
    omega
  refine r_ixT hat ?_
  repeat walk_at "d"
  refine ⟨⟨x, x.rows[k]⟩, rfl, ⟨hx, hx.rs _ (List.getElem_mem hk1)⟩, ?_⟩
  rintro d -
  repeat walk_at "d"
  refine r_catT (by have := hc none (some (k : Int)); rw [List.length_singleton]; omega) ?_
  repeat walk_at "d"
  refine r_catT (by have := hc none (some (k : Int)); have := hc (some ((k : Int) + 1)) none; rw [List.length_append, List.length_singleton]; omega) ?_
  repeat walk_at "d"
  trivial
end
end K1
set_option Elab.async false
set_option linter.all false
set_option maxRecDepth 100000
namespace K1
open PySem PySem.Spec PyProof.Rows L2 Dl Wm
local macro_rules | `(tactic| walk_at "e") => `(tactic| first
  | ((with_reducible refine e_var (by with_unfolding_all exact rfl) ?_))
  | with_reducible refine e_int ?_
  | with_reducible refine e_str ?_
  | with_reducible refine e_bl ?_
  | with_reducible refine e_non ?_
  | ((with_reducible refine e_pen (by with_unfolding_all exact rfl) (Or.inr rfl) ?_); intro z hz)
  | ((with_reducible refine e_pen (by with_unfolding_all exact rfl) (Or.inl rfl) ?_); intro z hz)
  | ((with_reducible refine e_penIx (by with_unfolding_all exact rfl) ?_))
  | with_reducible refine e_op ?_
  | with_reducible refine e_tup ?_
  | with_reducible refine e_lst ?_
  | with_reducible refine ea_cons ?_
  | with_reducible refine ea_nil ?_
  | ((with_reducible refine e_penLen (by with_unfolding_all exact rfl) ?_))
  | ((with_reducible refine e_lenOwn (by with_unfolding_all exact rfl) ?_))
  | ((with_reducible refine e_tupOwn (by with_unfolding_all exact rfl) ?_))
  | with_reducible refine e_isI ?_
  | with_reducible refine e_isB ?_
  | with_reducible refine e_isS ?_
  | with_reducible refine e_isTu ?_
  | with_reducible refine e_isL ?_
  | with_reducible refine e_cb ?_
  | with_reducible refine e_sl ?_
  | with_reducible refine eo_none ?_
  | with_reducible refine eo_some ?_
  | with_reducible refine et_test ?_
  | with_reducible refine et_B ?_
  | with_reducible refine et_and ?_
  | with_reducible refine et_or ?_
  | with_reducible refine et_not ?_
  | with_reducible refine et_yes ?_
  | with_reducible refine e_andV ?_
  | with_reducible refine e_orV ?_
  | with_reducible refine e_notV ?_
  | with_reducible refine e_if ?_
  | with_reducible refine e_chain ?_
  | with_reducible refine e_callX ?_
  | ((with_reducible refine e_callXP (by with_unfolding_all exact rfl) ?_))
  | ((with_reducible refine s_seq ?_); (try dsimp only [List.set]))
  | with_reducible refine s_next ?_
  | with_reducible refine s_ret ?_
  | ((with_reducible refine s_pen (by with_unfolding_all exact rfl) (Or.inr rfl) ?_))
  | ((with_reducible refine s_pen (by with_unfolding_all exact rfl) (Or.inl rfl) ?_))
  | ((with_reducible refine s_putOwn (by with_unfolding_all exact rfl) ?_))
  | with_reducible refine s_asg ?_
  | with_reducible refine s_asgG ?_
  | with_reducible refine s_if ?_
  | with_reducible refine g_name ?_
  | with_reducible refine g_tup rfl ?_
  | with_reducible refine gs_cons ?_
  | with_reducible refine gs_nil ?_
  | with_reducible refine r_lt ?_
  | with_reducible refine r_le ?_
  | with_reducible refine r_gt ?_
  | with_reducible refine r_ge ?_
  | with_reducible refine r_add ?_
  | with_reducible refine r_sub ?_
  | with_reducible refine r_eqI ?_
  | with_reducible refine r_eqS ?_
  | with_reducible refine r_eqB ?_
  | with_reducible refine r_neI ?_
  | with_reducible refine r_neB ?_
  | with_reducible refine c_min2 ?_
  | with_reducible refine c_max2 ?_
  | with_reducible refine c_intB ?_
  | with_reducible refine c_len (Or.inl rfl) ?_
  | with_reducible refine c_len (Or.inr rfl) ?_
  | with_reducible refine c_list (Or.inl rfl) ?_
  | with_reducible refine c_list (Or.inr rfl) ?_
  | with_reducible refine c_tuple (Or.inl rfl) ?_
  | with_reducible refine c_tuple (Or.inr rfl) ?_
  | with_reducible refine r_ixT (by with_unfolding_all exact rfl) ?_
  | with_reducible refine r_ixL (by with_unfolding_all exact rfl) ?_
  | with_reducible refine r_slT ?_
  | with_reducible refine r_slL ?_
  | with_reducible refine r_isNone ?_
  | with_reducible refine r_notBl ?_
  | with_reducible refine eps_cons ?_
  | with_reducible refine eps_nil ?_
  | with_reducible refine e_dget1 ?_
  | with_reducible refine ed_callX ?_
  | with_reducible refine ⟨_, rfl, ?_⟩
  | with_reducible refine ⟨Nat.le_of_ble_eq_true rfl, ?_⟩)
local macro_rules | `(tactic| walk_at "t") => `(tactic| first
  | walk_at "e"
  | refine r_modAny (by first | omega | decide) fun z z0 z1 => ?_
  | refine r_mul (by first | exact Or.inr ⟨by decide, by decide⟩ | exact Or.inl ⟨by decide, by decide⟩ | exact Or.inl ⟨by omega, by omega⟩) ?_
  | refine r_pow ⟨by decide, by decide, by decide⟩ ?_
  | refine r_fdivW (by first | assumption | (rename_i hw _; exact hw _) | exact wide_div (b := 200) (by decide) (by decide) (by decide) (by decide)) ?_
  | with_reducible refine ⟨by omega, ?_⟩)
local macro_rules | `(tactic| walk_at "k") => `(tactic| first
  | walk_at "e"
  | with_reducible refine ⟨fun hb => absurd hb (by decide +kernel), fun _ => ?_⟩
  | with_reducible refine ⟨fun _ => ?_, fun hb => absurd hb (by decide +kernel)⟩
  | refine ⟨fun hb => absurd hb Bool.false_ne_true, fun _ => ?_⟩
  | refine ⟨fun _ => ?_, fun hb => absurd hb.symm Bool.false_ne_true⟩)
local macro_rules | `(tactic| walk_at "d") => `(tactic| first
  | walk_at "k"
  | refine And.intro (show WfTake _ from ⟨by omega, by omega⟩) (take_all fun k hk => ?_))
local macro_rules | `(tactic| walk_at "o") => `(tactic| first
  | with_reducible refine s_ownList ?_
  | walk_at "d"
  | with_reducible refine ⟨_, Or.inl rfl, ?_⟩)

theorem whole_up {d : PyData} {hi : Int} (h : wholeIn d 0 hi = false) {lo : Int} (hl : 0 ≤ lo) : wholeIn d lo hi = false := by
  cases e : wholeIn d lo hi with
  | false => rfl
  | true =>
    obtain ⟨i, rfl, h1, h2⟩ := wholeIn_int e
    have : wholeIn (.int i) 0 hi = true := by
      show (decide (0 ≤ i) && decide (i ≤ hi)) = true
      rw [decide_eq_true (by omega), decide_eq_true h2]
      rfl
    rw [this] at h
    cases h
section
variable {P : Program} {w : World} {K : PySem.W.Frag} {mg : Str → Option Value} {base : Heap}
set_option maxHeartbeats 4000000 in
theorem ok_law_due (T : Tx K mg base) : FnOk P w K mg base CX0 3 T.f_law_due T.d_law_due ["thing"] (SpX (α := PyData) K T.ts (fun _ => True) (fun x => [x]) (fun x d => d = .bool (progB x))) := by
  refine fnX T.F_law_due sc_law_due (fun _ _ => rfl) (fun cdv A outer s H E hr => ⟨_, (pss_cons (ps_if (PW.pt (pw_or (pt_not (pt_val (pe_callB (kx_isi K rfl) (by rfl) T.m_isinstance (by decide +kernel) (pa_cons (pv 0) (pa_cons (pe_bltn (v := .ty "tuple") (by rfl) T.m_tuple (by decide +kernel) rfl) pa_nil))))) (pw_or (pt_cmpR op_ne (pe_callB (kx_len K rfl) (by rfl) T.m_len PySem.boot_len (pa_cons (pv 0) pa_nil)) pe_int (nomark _)) (pw_or1 (pt_not (pt_val (pe_callB (kx_isi K rfl) (by rfl) T.m_isinstance (by decide +kernel) (pa_cons (pe_ix (kx_ixT K rfl) (pv 0) pe_int (fun _ _ => rfl)) (pa_cons (pe_bltn (v := .ty "tuple") (by rfl) T.m_tuple (by decide +kernel) rfl) pa_nil)))))))))
      (pss_one (ps_ret pe_bl))
      pss_nil)
      (pss_cons (ps_if (PW.pt (pw_or (pt_not (pt_val (pe_call (ok_law_is_part T) (hr.mono (by decide)) (by rfl) T.g_law_is_part T.F_law_is_part.kp T.b_law_is_part .nil pass0 (pa_cons (pe_ix (kx_ixT K rfl) (pv 0) pe_int (fun _ _ => rfl)) (pa_cons pe_int pa_nil))))) (pw_or1 (pt_not (pt_val (pe_call (ok_law_is_part T) (hr.mono (by decide)) (by rfl) T.g_law_is_part T.F_law_is_part.kp T.b_law_is_part .nil pass0 (pa_cons (pe_ix (kx_ixT K rfl) (pv 0) pe_int (fun _ _ => rfl)) (pa_cons pe_int pa_nil))))))))
      (pss_one (ps_ret pe_bl))
      pss_nil)
      (pss_cons (ps_asg (pv 0) (kx_pgT K (n := 3) rfl rfl (pgs_cons (pg_name (i := 1) sc_law_due.nd rfl (.inr rfl)) (pgs_cons (pg_name (i := 2) sc_law_due.nd rfl (.inr rfl)) (pgs_cons (pg_name (i := 3) sc_law_due.nd rfl (.inr rfl)) pgs_nil)))))
      (pss_cons (ps_if (PW.pt (pw_or (pt_cmpR op_lt (pv 1) pe_int (nomark _)) (pw_or (pt_cmpR op_lt (pv 2) pe_int (nomark _)) (pw_or1 (pt_not (pt_chain op_le op_le pe_int (pe_callB (kx_len K rfl) (by rfl) T.m_len PySem.boot_len (pa_cons (pv 3) pa_nil)) pe_int))))))
      (pss_one (ps_ret pe_bl))
      pss_nil)
      (pss_one (ps_ret (pe_cmpR (kx_notIn K rfl) pe_bl (pe_lc (own := [("row", 4)]) (g := gName 4) (tt := tYes) rfl sc_law_due.nd (kx_piT K rfl (pv 3)) (blkOk_by (own := [("row", 4)]) (N := ["thing", "n", "w", "rows", "row"]) (sc := defScope s_law_due) (by decide +kernel)) (fun _ _ _ _ _ => (pg_name (i := 4) sc_law_due.nd rfl (.inl rfl))) (fun _ _ _ _ _ => pts_nil) (fun _ _ _ _ _ => (pe_call (ok_law_is_row T) (hr.mono (by decide)) (by rfl) T.g_law_is_row T.F_law_is_row.kp T.b_law_is_row .nil pass0 (pa_cons (pv 1) (pa_cons (pv 2) (pa_cons (pe_callB (kx_len K rfl) (by rfl) T.m_len PySem.boot_len (pa_cons (pv 3) pa_nil)) (pa_cons (pv 4) pa_nil))))))) (by rfl)))))))), fun x _ => ?_⟩)
  try simp only [nox_K, blk_K, cx_K]
  show S K ⟨none, T.ts⟩ H _ [some (.d _), none, none, none, none] _
  cases x with
  | tuple ds =>
    rcases ds with _ | ⟨a, _ | ⟨b, _ | ⟨c, _ | ⟨e, r⟩⟩⟩⟩
    · repeat walk_at "k"
      rfl
    · repeat walk_at "k"
      rfl
    · repeat walk_at "k"
      rfl
    · cases c with
      | tuple rs =>
        repeat walk_at "k"
        refine ⟨⟨a, 13⟩, rfl, trivial, ?_⟩
        rintro d rfl
        dsimp only
        cases hA : wholeIn a 0 (13 - 1) with
        | false =>
          repeat walk_at "k"
          rw [progB_no1 (whole_up (lo := 1) hA (by decide))]
        | true =>
          obtain ⟨n, rfl, n1, n2⟩ := wholeIn_int hA
          repeat walk_at "k"
          refine ⟨⟨b, 101⟩, rfl, trivial, ?_⟩
          rintro d rfl
          dsimp only
          cases hB : wholeIn b 0 (101 - 1) with
          | false =>
            repeat walk_at "k"
            rw [progB_no2 (whole_up (lo := 2) hB (by decide))]
          | true =>
            obtain ⟨w', rfl, m1, m2⟩ := wholeIn_int hB
            repeat walk_at "k"
            cases h1 : decide (n < 1) with
            | true =>
              have h1 := of_decide_eq_true h1
              have z1 : wholeIn (.int n) 1 12 = false := by
                show (decide (1 ≤ n) && decide (n ≤ 12)) = false
                rw [decide_eq_false (by omega), Bool.false_and]
              repeat walk_at "k"
              rw [progB_no1 z1]
            | false =>
              have h1 := of_decide_eq_false h1
              have z1 : wholeIn (.int n) 1 12 = true := by
                show (decide (1 ≤ n) && decide (n ≤ 12)) = true
                rw [decide_eq_true (by omega), decide_eq_true (by omega)]
                rfl
              repeat walk_at "k"
              cases h2 : decide (w' < 2) with
              | true =>
                have h2 := of_decide_eq_true h2
                have z2 : wholeIn (.int w') 2 100 = false := by
                  show (decide (2 ≤ w') && decide (w' ≤ 100)) = false
                  rw [decide_eq_false (by omega), Bool.false_and]
                repeat walk_at "k"
                rw [progB_no2 z2]
              | false =>
                have h2 := of_decide_eq_false h2
                have z2 : wholeIn (.int w') 2 100 = true := by
                  show (decide (2 ≤ w') && decide (w' ≤ 100)) = true
                  rw [decide_eq_true (by omega), decide_eq_true (by omega)]
                  rfl
                repeat walk_at "k"
                rw [progB_yes z1 z2]
                cases h3 : decide (1 ≤ (rs.length : Int)) with
                | false =>
                  repeat walk_at "k"
                  rfl
                | true =>
                  cases h4 : decide ((rs.length : Int) ≤ 20) with
                  | false =>
                    repeat walk_at "k"
                    rw [h4]
                    repeat walk_at "k"
                    rfl
                  | true =>
                    have h5 := of_decide_eq_true h4
                    repeat walk_at "k"
                    rw [h4]
                    repeat walk_at "k"
                    refine e_mapT (fun r => .bool (rowB r n w' rs.length)) ?_
                    repeat walk_at "k"
                    refine ⟨by omega, fun y hy => ?_, ?_⟩
                    · dsimp only [List.set]
                      repeat walk_at "k"
                      refine ⟨⟨n, w', rs.length, y⟩, rfl, trivial, ?_⟩
                      rintro d rfl
                      rfl
                    · rw [show rs.map (fun r => PyData.bool (rowB r n w' rs.length)) = (rs.map fun r => rowB r n w' rs.length).map PyData.bool by rw [List.map_map]; rfl]
                      refine r_notIn ?_
                      rw [all_not (fun r => rowB r n w' rs.length)]
                      rfl
      | _ =>
        repeat walk_at "k"
        show _ = PyData.bool (progB3 a b _)
        cases a <;> try rfl
        cases b <;> rfl
    · repeat walk_at "k"
      rfl
  | _ =>
    repeat walk_at "k"
    rfl
theorem ok_law_answers (T : Tx K mg base) : FnOk P w K mg base CX0 7 T.f_law_answers T.d_law_answers ["thing"] (SpX (α := PyData) K T.ts (fun _ => True) (fun x => [x]) (fun x d => d = .bool true)) := by
  refine fnX T.F_law_answers sc_law_answers (fun _ _ => rfl) (fun cdv A outer s H E hr => ⟨_, (pss_cons (ps_set (i := 1) sc_law_answers.nd rfl (.inl rfl) (pe_call (ok_is_program T) (hr.mono (by decide)) (by rfl) T.g_is_program T.F_is_program.kp T.b_is_program .nil pass0 (pa_cons (pv 0) pa_nil)))
      (pss_one (ps_ret (pe_and (pe_callB (kx_isi K rfl) (by rfl) T.m_isinstance (by decide +kernel) (pa_cons (pv 1) (pa_cons (pe_bltn (v := .ty "bool") (by rfl) T.m_bool (by decide +kernel) rfl) pa_nil))) (pe_one (pe_cmpR op_eq (pv 1) (pe_call (ok_law_due T) (hr.mono (by decide)) (by rfl) T.g_law_due T.F_law_due.kp T.b_law_due .nil pass0 (pa_cons (pv 0) pa_nil)) (nomark _))))))), fun x _ => ?_⟩)
  try simp only [nox_K, blk_K, cx_K]
  show S K ⟨none, T.ts⟩ H _ [some (.d _), none] _
  repeat walk_at "k"
  refine ⟨trivial, ?_⟩
  rintro d rfl
  repeat walk_at "k"
  refine ⟨trivial, ?_⟩
  rintro d rfl
  repeat walk_at "k"
  rw [decide_eq_true rfl]
end
end K1
set_option Elab.async false
set_option linter.all false
set_option maxRecDepth 100000
namespace K1
open PySem PySem.Spec PyProof.Rows L2 Dl Wm
local macro_rules | `(tactic| walk_at "e") => `(tactic| first
  | ((with_reducible refine e_var (by with_unfolding_all exact rfl) ?_))
  | with_reducible refine e_int ?_
  | with_reducible refine e_str ?_
  | with_reducible refine e_bl ?_
  | with_reducible refine e_non ?_
  | ((with_reducible refine e_pen (by with_unfolding_all exact rfl) (Or.inr rfl) ?_); intro z hz)
  | ((with_reducible refine e_pen (by with_unfolding_all exact rfl) (Or.inl rfl) ?_); intro z hz)
  | ((with_reducible refine e_penIx (by with_unfolding_all exact rfl) ?_))
  | with_reducible refine e_op ?_
  | with_reducible refine e_tup ?_
  | with_reducible refine e_lst ?_
  | with_reducible refine ea_cons ?_
  | with_reducible refine ea_nil ?_
  | ((with_reducible refine e_penLen (by with_unfolding_all exact rfl) ?_))
  | ((with_reducible refine e_lenOwn (by with_unfolding_all exact rfl) ?_))
  | ((with_reducible refine e_tupOwn (by with_unfolding_all exact rfl) ?_))
  | with_reducible refine e_isI ?_
  | with_reducible refine e_isB ?_
  | with_reducible refine e_isS ?_
  | with_reducible refine e_isTu ?_
  | with_reducible refine e_isL ?_
  | with_reducible refine e_cb ?_
  | with_reducible refine e_sl ?_
  | with_reducible refine eo_none ?_
  | with_reducible refine eo_some ?_
  | with_reducible refine et_test ?_
  | with_reducible refine et_B ?_
  | with_reducible refine et_and ?_
  | with_reducible refine et_or ?_
  | with_reducible refine et_not ?_
  | with_reducible refine et_yes ?_
  | with_reducible refine e_andV ?_
  | with_reducible refine e_orV ?_
  | with_reducible refine e_notV ?_
  | with_reducible refine e_if ?_
  | with_reducible refine e_chain ?_
  | with_reducible refine e_callX ?_
  | ((with_reducible refine e_callXP (by with_unfolding_all exact rfl) ?_))
  | ((with_reducible refine s_seq ?_); (try dsimp only [List.set]))
  | with_reducible refine s_next ?_
  | with_reducible refine s_ret ?_
  | ((with_reducible refine s_pen (by with_unfolding_all exact rfl) (Or.inr rfl) ?_))
  | ((with_reducible refine s_pen (by with_unfolding_all exact rfl) (Or.inl rfl) ?_))
  | ((with_reducible refine s_putOwn (by with_unfolding_all exact rfl) ?_))
  | with_reducible refine s_asg ?_
  | with_reducible refine s_asgG ?_
  | with_reducible refine s_if ?_
  | with_reducible refine g_name ?_
  | with_reducible refine g_tup rfl ?_
  | with_reducible refine gs_cons ?_
  | with_reducible refine gs_nil ?_
  | with_reducible refine r_lt ?_
  | with_reducible refine r_le ?_
  | with_reducible refine r_gt ?_
  | with_reducible refine r_ge ?_
  | with_reducible refine r_add ?_
  | with_reducible refine r_sub ?_
  | with_reducible refine r_eqI ?_
  | with_reducible refine r_eqS ?_
  | with_reducible refine r_eqB ?_
  | with_reducible refine r_neI ?_
  | with_reducible refine r_neB ?_
  | with_reducible refine c_min2 ?_
  | with_reducible refine c_max2 ?_
  | with_reducible refine c_intB ?_
  | with_reducible refine c_len (Or.inl rfl) ?_
  | with_reducible refine c_len (Or.inr rfl) ?_
  | with_reducible refine c_list (Or.inl rfl) ?_
  | with_reducible refine c_list (Or.inr rfl) ?_
  | with_reducible refine c_tuple (Or.inl rfl) ?_
  | with_reducible refine c_tuple (Or.inr rfl) ?_
  | with_reducible refine r_ixT (by with_unfolding_all exact rfl) ?_
  | with_reducible refine r_ixL (by with_unfolding_all exact rfl) ?_
  | with_reducible refine r_slT ?_
  | with_reducible refine r_slL ?_
  | with_reducible refine r_isNone ?_
  | with_reducible refine r_notBl ?_
  | with_reducible refine eps_cons ?_
  | with_reducible refine eps_nil ?_
  | with_reducible refine e_dget1 ?_
  | with_reducible refine ed_callX ?_
  | with_reducible refine ⟨_, rfl, ?_⟩
  | with_reducible refine ⟨Nat.le_of_ble_eq_true rfl, ?_⟩)
local macro_rules | `(tactic| walk_at "t") => `(tactic| first
  | walk_at "e"
  | refine r_modAny (by first | omega | decide) fun z z0 z1 => ?_
  | refine r_mul (by first | exact Or.inr ⟨by decide, by decide⟩ | exact Or.inl ⟨by decide, by decide⟩ | exact Or.inl ⟨by omega, by omega⟩) ?_
  | refine r_pow ⟨by decide, by decide, by decide⟩ ?_
  | refine r_fdivW (by first | assumption | (rename_i hw _; exact hw _) | exact wide_div (b := 200) (by decide) (by decide) (by decide) (by decide)) ?_
  | with_reducible refine ⟨by omega, ?_⟩)
local macro_rules | `(tactic| walk_at "k") => `(tactic| first
  | walk_at "e"
  | with_reducible refine ⟨fun hb => absurd hb (by decide +kernel), fun _ => ?_⟩
  | with_reducible refine ⟨fun _ => ?_, fun hb => absurd hb (by decide +kernel)⟩
  | refine ⟨fun hb => absurd hb Bool.false_ne_true, fun _ => ?_⟩
  | refine ⟨fun _ => ?_, fun hb => absurd hb.symm Bool.false_ne_true⟩)
local macro_rules | `(tactic| walk_at "d") => `(tactic| first
  | walk_at "k"
  | refine And.intro (show WfTake _ from ⟨by omega, by omega⟩) (take_all fun k hk => ?_))
local macro_rules | `(tactic| walk_at "o") => `(tactic| first
  | with_reducible refine s_ownList ?_
  | walk_at "d"
  | with_reducible refine ⟨_, Or.inl rfl, ?_⟩)

section
variable {P : Program} {w : World} {K : PySem.W.Frag} {mg : Str → Option Value} {base : Heap}
theorem ok_law_pen (T : Tx K mg base) : FnOk P w K mg base CX0 1 T.f_law_pen T.d_law_pen ["script"] (spPenT K T.ts) := by
  refine T.F_law_pen.ok sc_law_pen (fun vs H Q E h => ?_) (fun cdv A outer s H vs Q E hr h => ?_)
  · obtain ⟨a, ns, rfl, _⟩ := h
    rfl
  · obtain ⟨a, ns, rfl, hS, hT, q⟩ := h
    obtain ⟨ms, hms⟩ := cut_ints ns none (some 63)
    refine ⟨_, (pss_one (ps_ret (pe_lst (pa_cons (pe_callTy (kx_list K rfl) (by rfl) T.m_list (by decide +kernel) (pa_cons (pe_slice (kx_slL K rfl) (pv 0) po_none (po_some pe_int)) pa_nil)) (pa_cons pe_int (pa_cons pe_int pa_nil)))))), ?_⟩
    refine ⟨.ref a, rfl, 63, rfl, a, _, rfl, hS, fun l hl => ⟨l, _, rfl, .inl (.inl (.inl upd_same)), fun c hc => ⟨by show 3 ≤ sizeLine; decide, fun p hp => ?_⟩⟩⟩
    refine q p c ms _ upd_same ?_ fun P hP => tabG_upd (tabG_upd (tabG_upd (hT P hP) hl) hc) hp
    rw [upd_ne (fun z => by rw [z, upd_same] at hp; cases hp), upd_same, hms]
abbrev L0 : Lv := [none, some .pen, none, none, none, none, none]
abbrev L1 (x : Prog) : Lv := [none, some .pen, none, some (.d x.D), none, none, none]
set_option maxHeartbeats 4000000 in
theorem ok_law {f : Addr} {fd : FuncData} (F : Fun K "law" "law" s_law f fd) (T : Tx K mg base) : FnOk P w K mg base CX0 8 f fd ["script"] (spLawT K T.ts) := by
  refine F.ok sc_law (fun vs H Q E h => ?_) (fun cdv A outer s H vs Q E hr h => ?_)
  · obtain ⟨a, ns, rfl, _⟩ := h
    rfl
  · obtain ⟨a, ns, rfl, hS, hlen, hT, q⟩ := h
    refine ⟨_, (pss_cons (ps_set (i := 1) sc_law.nd rfl (.inl rfl) (pe_call (ok_law_pen T) (hr.mono (by decide)) (by rfl) T.g_law_pen T.F_law_pen.kp T.b_law_pen .nil pass0 (pa_cons (pv 0) pa_nil)))
      (pss_cons (ps_for PassesOwn.never rfl (pi_range1 rfl T.m_range (pa_cons pe_int pa_nil)) (pg_name (i := 2) sc_law.nd rfl (.inl rfl))
      (pss_cons (ps_set (i := 3) sc_law.nd rfl (.inl rfl) (pe_call (ok_law_program T) (hr.mono (by decide)) (by rfl) T.g_law_program T.F_law_program.kp T.b_law_program .nil pass0 (pa_cons (pv 1) (pa_cons pe_bl pa_nil))))
      (pss_cons (ps_if (pt_cmpR op_notBl (pe_call (ok_is_program T) (hr.mono (by decide)) (by rfl) T.g_is_program T.F_is_program.kp T.b_is_program .nil pass0 (pa_cons (pv 3) pa_nil)) pe_bl (nomark _))
      (pss_one (ps_ret pe_bl))
      pss_nil)
      (pss_one (ps_for PassesOwn.never rfl (pi_range1 rfl T.m_range (pa_cons pe_int pa_nil)) (pg_name (i := 4) sc_law.nd rfl (.inl rfl))
      (pss_one (ps_if (pt_not (pt_val (pe_call (ok_law_answers T) (hr.mono (by decide)) (by rfl) T.g_law_answers T.F_law_answers.kp T.b_law_answers .nil pass0 (pa_cons (pe_call (ok_law_bent T) (hr.mono (by decide)) (by rfl) T.g_law_bent T.F_law_bent.kp T.b_law_bent .nil pass0 (pa_cons (pv 1) (pa_cons (pv 3) pa_nil))) pa_nil))))
      (pss_one (ps_ret pe_bl))
      pss_nil)))))))
      (pss_cons (ps_set (i := 5) sc_law.nd rfl (.inl rfl) (pe_tup (pa_cons pe_str pa_nil)))
      (pss_cons (ps_for PassesOwn.never rfl (kx_piL K rfl (pe_lst (pa_cons pe_non (pa_cons pe_int (pa_cons pe_str (pa_cons (pe_lst pa_nil) (pa_cons (pe_tup pa_nil) (pa_cons (pe_tup (pa_cons pe_int (pa_cons pe_int pa_nil))) (pa_cons (pe_tup (pa_cons pe_int (pa_cons pe_int (pa_cons (pv 5) pa_nil)))) (pa_cons (pe_tup (pa_cons pe_int (pa_cons pe_int (pa_cons (pe_op (kx_repA (K := K) rfl) (pe_tup (pa_cons (pv 5) pa_nil)) pe_int) pa_nil)))) (pa_cons (pe_tup (pa_cons pe_int (pa_cons pe_int (pa_cons (pe_op (kx_repA (K := K) rfl) (pe_tup (pa_cons (pv 5) pa_nil)) pe_int) pa_nil)))) pa_nil))))))))))) (pg_name (i := 6) sc_law.nd rfl (.inl rfl))
      (pss_one (ps_if (pt_not (pt_val (pe_call (ok_law_answers T) (hr.mono (by decide)) (by rfl) T.g_law_answers T.F_law_answers.kp T.b_law_answers .nil pass0 (pa_cons (pv 6) pa_nil))))
      (pss_one (ps_ret pe_bl))
      pss_nil)))
      (pss_one (ps_ret pe_bl)))))), ?_⟩
    refine ⟨.ref a, rfl, a, ns, rfl, hS, hT, fun p c cells H1 hp hc hT1 => ?_⟩
    dsimp only [gName]
    refine pen_start (K := K) (L := L0) hp hc rfl (fun i av hi => ?_) hT1 ?_ q
    · rcases i with _ | _ | i
      · cases hi
      · cases hi
        exact ⟨rfl, rfl⟩
      · iterate 5 (rcases i with _ | i; (· cases hi))
        cases hi
    · refine s_seq (s_forRw (ea_cons (e_int (ea_nil ⟨3, rfl, by decide, fun _ L => L = L0, ⟨L0, Sub.refl _, rfl⟩, fun i L' hi e => ?_, fun L' e L4 s4 => ?_⟩))))
      · subst e
        refine g_name ?_
        dsimp only [List.set]
        repeat walk_at "d"
        refine ⟨trivial, ?_⟩
        rintro d ⟨x, rfl, hx⟩
        have hxo := hx.ok
        repeat walk_at "d"
        refine ⟨trivial, ?_⟩
        rintro d rfl
        rw [prog_B hxo]
        repeat walk_at "d"
        refine s_forRw (ea_cons (e_int (ea_nil ⟨5, rfl, by decide, fun _ L => L = L1 x, ⟨L1 x, by repeat (first | exact Sub.nil | apply Sub.keep | apply Sub.drop), rfl⟩, fun k L' hk e => ?_, fun L' e L4 s4 => ?_⟩)))
        · subst e
          refine g_name ?_
          dsimp only [List.set]
          repeat walk_at "d"
          refine ⟨hxo, ?_⟩
          rintro d -
          repeat walk_at "d"
          refine ⟨trivial, ?_⟩
          rintro d2 rfl
          repeat walk_at "d"
          exact ⟨L1 x, by repeat (first | exact Sub.nil | apply Sub.keep | apply Sub.drop), rfl⟩
        · exact ⟨L0, Sub.trans (by repeat (first | exact Sub.nil | apply Sub.keep | apply Sub.drop)) (e ▸ s4), rfl⟩
      · subst e
        refine S.sub ?_ s4
        repeat walk_at "d"
        refine s_forLw ?_
        repeat walk_at "d"
        refine r_repA (k := 20) (by simp) (by decide) (by decide) (Nat.le_of_ble_eq_true rfl) ?_
        repeat walk_at "d"
        refine r_repA (k := 21) (by simp) (by decide) (by decide) (Nat.le_of_ble_eq_true rfl) ?_
        repeat walk_at "d"
        refine ⟨fun _ L => L = L0, ⟨L0, by repeat (first | exact Sub.nil | apply Sub.keep | apply Sub.drop), rfl⟩, fun i y L' hi e => ?_, fun L' e L4 s4 => ?_⟩
        · subst e
          refine g_name ?_
          dsimp only [List.set]
          repeat walk_at "d"
          refine ⟨trivial, ?_⟩
          rintro d2 rfl
          repeat walk_at "d"
          exact ⟨L0, by repeat (first | exact Sub.nil | apply Sub.keep | apply Sub.drop), rfl⟩
        · subst e
          refine S.sub ?_ s4
          repeat walk_at "d"
          rfl
end
end K1
set_option Elab.async false
set_option linter.all false
set_option maxRecDepth 100000
namespace K1
open PySem PySem.Spec PyProof.Rows L2 Dl
set_option maxHeartbeats 0 in
theorem all_mk {l : PySem.W.OpenLaw} {q : Program} {w : World} {K : PySem.W.Frag} {h : Heap} {mg : Str → Option Value} {fa f1 f2 f3 f4 f5 f6 f7 f8 f9 f10 f11 f12 f13 f14 f15 f16 f17 f18 kc5 pt5 kc6 pt6 : Addr} (X : K.In h) (G : h.Ns mainGlobals mg) (hfa : mg "law" = some (.ref fa)) (AT : Dl.AllTabs q K mg h)
    {od1 an1 od2 an2 od3 an3 od4 an4 od5 an5 od6 an6 od7 an7 od8 an8 od9 an9 od10 an10 od11 an11 od12 an12 od13 an13 od14 an14 od15 an15 od16 an16 od17 an17 od18 an18 : Option Addr} {sl1 sl2 sl3 sl4 sl5 sl6 sl7 sl8 sl9 sl10 sl11 sl12 sl13 sl14 sl15 sl16 sl17 sl18 : Array (Option Value)} {oc1 kV1 dc1 pm1 ct1 cd1 oc2 kV2 dc2 pm2 ct2 cd2 oc3 kV3 dc3 pm3 ct3 cd3 oc4 kV4 dc4 pm4 ct4 cd4 oc5 kV5 dc5 pm5 ct5 oc6 kV6 dc6 pm6 ct6 oc7 kV7 dc7 pm7 ct7 cd7 oc8 kV8 dc8 pm8 ct8 cd8 oc9 kV9 dc9 pm9 ct9 cd9 oc10 kV10 dc10 pm10 ct10 cd10 oc11 kV11 dc11 pm11 ct11 cd11 oc12 kV12 dc12 pm12 ct12 cd12 oc13 kV13 dc13 pm13 ct13 cd13 oc14 kV14 dc14 pm14 ct14 cd14 oc15 kV15 dc15 pm15 ct15 cd15 oc16 kV16 dc16 pm16 ct16 cd16 oc17 kV17 dc17 pm17 ct17 cd17 oc18 kV18 dc18 pm18 ct18 cd18 : Value}
    {te5 te6 : Value} {td5 td6 : Option Addr} {tv5 tv6 : Array Value} {tl5 tl6 : Array (Option Value)}
    {t_MOST_SHEETS t_LEAST_WHEEL t_MOST_WHEEL t_MOST_ROWS : Tok}
    (a1 : PySem.W.nsIn K mainGlobals "is_whole" = some (some (.ref f1))) (l1 : K.lookup f1 = some ⟨oc1, od1, .func (PySem.W.fnOf "is_whole" "is_whole" (defArgs s_is_whole) (defBody s_is_whole) (defScope s_is_whole) .none kV1 dc1 pm1 an1 cd1 ct1), sl1⟩) (c1 : PySem.W.codeIn K cd1 "is_whole" = true) (k1 : PySem.W.keepIn K (.ref f1) = true)
    (a2 : PySem.W.nsIn K mainGlobals "is_whole_within" = some (some (.ref f2))) (l2 : K.lookup f2 = some ⟨oc2, od2, .func (PySem.W.fnOf "is_whole_within" "is_whole_within" (defArgs s_is_whole_within) (defBody s_is_whole_within) (defScope s_is_whole_within) .none kV2 dc2 pm2 an2 cd2 ct2), sl2⟩) (c2 : PySem.W.codeIn K cd2 "is_whole_within" = true) (k2 : PySem.W.keepIn K (.ref f2) = true)
    (a3 : PySem.W.nsIn K mainGlobals "is_tuple_of" = some (some (.ref f3))) (l3 : K.lookup f3 = some ⟨oc3, od3, .func (PySem.W.fnOf "is_tuple_of" "is_tuple_of" (defArgs s_is_tuple_of) (defBody s_is_tuple_of) (defScope s_is_tuple_of) .none kV3 dc3 pm3 an3 cd3 ct3), sl3⟩) (c3 : PySem.W.codeIn K cd3 "is_tuple_of" = true) (k3 : PySem.W.keepIn K (.ref f3) = true)
    (a4 : PySem.W.nsIn K mainGlobals "row_limits" = some (some (.ref f4))) (l4 : K.lookup f4 = some ⟨oc4, od4, .func (PySem.W.fnOf "row_limits" "row_limits" (defArgs s_row_limits) (defBody s_row_limits) (defScope s_row_limits) .none kV4 dc4 pm4 an4 cd4 ct4), sl4⟩) (c4 : PySem.W.codeIn K cd4 "row_limits" = true) (k4 : PySem.W.keepIn K (.ref f4) = true)
    (a5 : PySem.W.nsIn K mainGlobals "is_row" = some (some (.ref f5))) (l5 : K.lookup f5 = some ⟨oc5, od5, .func (PySem.W.fnOf "is_row" "is_row" (defArgs s_is_row) (defBody s_is_row) (defScope s_is_row) .none kV5 dc5 pm5 an5 (.ref kc5) ct5), sl5⟩) (c5 : PySem.W.codeIn K (.ref kc5) "is_row" = true) (k5 : PySem.W.keepIn K (.ref f5) = true)
    (h5 : K.lookup kc5 = some ⟨te5, td5, .fields tv5, tl5⟩) (v5 : tv5[11]? = some (.ref pt5)) (n5 : K.lookup pt5 = none) (q5 : PySem.W.codeHdIn K kc5 pt5 = true) (r5 : ((recsOf q).any fun e => e.name == "is_row") = true)
    (a6 : PySem.W.nsIn K mainGlobals "is_program" = some (some (.ref f6))) (l6 : K.lookup f6 = some ⟨oc6, od6, .func (PySem.W.fnOf "is_program" "is_program" (defArgs s_is_program) (defBody s_is_program) (defScope s_is_program) .none kV6 dc6 pm6 an6 (.ref kc6) ct6), sl6⟩) (c6 : PySem.W.codeIn K (.ref kc6) "is_program" = true) (k6 : PySem.W.keepIn K (.ref f6) = true)
    (h6 : K.lookup kc6 = some ⟨te6, td6, .fields tv6, tl6⟩) (v6 : tv6[11]? = some (.ref pt6)) (n6 : K.lookup pt6 = none) (q6 : PySem.W.codeHdIn K kc6 pt6 = true) (r6 : ((recsOf q).any fun e => e.name == "is_program") = true)
    (a7 : PySem.W.nsIn K mainGlobals "_law_pen" = some (some (.ref f7))) (l7 : K.lookup f7 = some ⟨oc7, od7, .func (PySem.W.fnOf "_law_pen" "_law_pen" (defArgs s_law_pen) (defBody s_law_pen) (defScope s_law_pen) .none kV7 dc7 pm7 an7 cd7 ct7), sl7⟩) (c7 : PySem.W.codeIn K cd7 "_law_pen" = true) (k7 : PySem.W.keepIn K (.ref f7) = true)
    (a8 : PySem.W.nsIn K mainGlobals "_law_take" = some (some (.ref f8))) (l8 : K.lookup f8 = some ⟨oc8, od8, .func (PySem.W.fnOf "_law_take" "_law_take" (defArgs s_law_take) (defBody s_law_take) (defScope s_law_take) .none kV8 dc8 pm8 an8 cd8 ct8), sl8⟩) (c8 : PySem.W.codeIn K cd8 "_law_take" = true) (k8 : PySem.W.keepIn K (.ref f8) = true)
    (a9 : PySem.W.nsIn K mainGlobals "_law_row" = some (some (.ref f9))) (l9 : K.lookup f9 = some ⟨oc9, od9, .func (PySem.W.fnOf "_law_row" "_law_row" (defArgs s_law_row) (defBody s_law_row) (defScope s_law_row) .none kV9 dc9 pm9 an9 cd9 ct9), sl9⟩) (c9 : PySem.W.codeIn K cd9 "_law_row" = true) (k9 : PySem.W.keepIn K (.ref f9) = true)
    (a10 : PySem.W.nsIn K mainGlobals "_law_program" = some (some (.ref f10))) (l10 : K.lookup f10 = some ⟨oc10, od10, .func (PySem.W.fnOf "_law_program" "_law_program" (defArgs s_law_program) (defBody s_law_program) (defScope s_law_program) .none kV10 dc10 pm10 an10 cd10 ct10), sl10⟩) (c10 : PySem.W.codeIn K cd10 "_law_program" = true) (k10 : PySem.W.keepIn K (.ref f10) = true)
    (a11 : PySem.W.nsIn K mainGlobals "_law_is_part" = some (some (.ref f11))) (l11 : K.lookup f11 = some ⟨oc11, od11, .func (PySem.W.fnOf "_law_is_part" "_law_is_part" (defArgs s_law_is_part) (defBody s_law_is_part) (defScope s_law_is_part) .none kV11 dc11 pm11 an11 cd11 ct11), sl11⟩) (c11 : PySem.W.codeIn K cd11 "_law_is_part" = true) (k11 : PySem.W.keepIn K (.ref f11) = true)
    (a12 : PySem.W.nsIn K mainGlobals "_law_is_row" = some (some (.ref f12))) (l12 : K.lookup f12 = some ⟨oc12, od12, .func (PySem.W.fnOf "_law_is_row" "_law_is_row" (defArgs s_law_is_row) (defBody s_law_is_row) (defScope s_law_is_row) .none kV12 dc12 pm12 an12 cd12 ct12), sl12⟩) (c12 : PySem.W.codeIn K cd12 "_law_is_row" = true) (k12 : PySem.W.keepIn K (.ref f12) = true)
    (a13 : PySem.W.nsIn K mainGlobals "_law_due" = some (some (.ref f13))) (l13 : K.lookup f13 = some ⟨oc13, od13, .func (PySem.W.fnOf "_law_due" "_law_due" (defArgs s_law_due) (defBody s_law_due) (defScope s_law_due) .none kV13 dc13 pm13 an13 cd13 ct13), sl13⟩) (c13 : PySem.W.codeIn K cd13 "_law_due" = true) (k13 : PySem.W.keepIn K (.ref f13) = true)
    (a14 : PySem.W.nsIn K mainGlobals "_law_bent_part" = some (some (.ref f14))) (l14 : K.lookup f14 = some ⟨oc14, od14, .func (PySem.W.fnOf "_law_bent_part" "_law_bent_part" (defArgs s_law_bent_part) (defBody s_law_bent_part) (defScope s_law_bent_part) .none kV14 dc14 pm14 an14 cd14 ct14), sl14⟩) (c14 : PySem.W.codeIn K cd14 "_law_bent_part" = true) (k14 : PySem.W.keepIn K (.ref f14) = true)
    (a15 : PySem.W.nsIn K mainGlobals "_law_bent_row" = some (some (.ref f15))) (l15 : K.lookup f15 = some ⟨oc15, od15, .func (PySem.W.fnOf "_law_bent_row" "_law_bent_row" (defArgs s_law_bent_row) (defBody s_law_bent_row) (defScope s_law_bent_row) .none kV15 dc15 pm15 an15 cd15 ct15), sl15⟩) (c15 : PySem.W.codeIn K cd15 "_law_bent_row" = true) (k15 : PySem.W.keepIn K (.ref f15) = true)
    (a16 : PySem.W.nsIn K mainGlobals "_law_bent" = some (some (.ref f16))) (l16 : K.lookup f16 = some ⟨oc16, od16, .func (PySem.W.fnOf "_law_bent" "_law_bent" (defArgs s_law_bent) (defBody s_law_bent) (defScope s_law_bent) .none kV16 dc16 pm16 an16 cd16 ct16), sl16⟩) (c16 : PySem.W.codeIn K cd16 "_law_bent" = true) (k16 : PySem.W.keepIn K (.ref f16) = true)
    (a17 : PySem.W.nsIn K mainGlobals "_law_answers" = some (some (.ref f17))) (l17 : K.lookup f17 = some ⟨oc17, od17, .func (PySem.W.fnOf "_law_answers" "_law_answers" (defArgs s_law_answers) (defBody s_law_answers) (defScope s_law_answers) .none kV17 dc17 pm17 an17 cd17 ct17), sl17⟩) (c17 : PySem.W.codeIn K cd17 "_law_answers" = true) (k17 : PySem.W.keepIn K (.ref f17) = true)
    (a18 : PySem.W.nsIn K mainGlobals "law" = some (some (.ref f18))) (l18 : K.lookup f18 = some ⟨oc18, od18, .func (PySem.W.fnOf "law" "law" (defArgs s_law) (defBody s_law) (defScope s_law) .none kV18 dc18 pm18 an18 cd18 ct18), sl18⟩) (c18 : PySem.W.codeIn K cd18 "law" = true) (k18 : PySem.W.keepIn K (.ref f18) = true)
    (z_all : PySem.W.nsIn K mainGlobals "all" = some none)
    (z_bool : PySem.W.nsIn K mainGlobals "bool" = some none)
    (z_int : PySem.W.nsIn K mainGlobals "int" = some none)
    (z_isinstance : PySem.W.nsIn K mainGlobals "isinstance" = some none)
    (z_len : PySem.W.nsIn K mainGlobals "len" = some none)
    (z_list : PySem.W.nsIn K mainGlobals "list" = some none)
    (z_range : PySem.W.nsIn K mainGlobals "range" = some none)
    (z_str : PySem.W.nsIn K mainGlobals "str" = some none)
    (z_tuple : PySem.W.nsIn K mainGlobals "tuple" = some none)
    (z_zip : PySem.W.nsIn K mainGlobals "zip" = some none)
    (y_MOST_SHEETS : PySem.W.nsIn K mainGlobals "MOST_SHEETS" = some (some (.int 12 t_MOST_SHEETS)))
    (y_LEAST_WHEEL : PySem.W.nsIn K mainGlobals "LEAST_WHEEL" = some (some (.int 2 t_LEAST_WHEEL)))
    (y_MOST_WHEEL : PySem.W.nsIn K mainGlobals "MOST_WHEEL" = some (some (.int 100 t_MOST_WHEEL)))
    (y_MOST_ROWS : PySem.W.nsIn K mainGlobals "MOST_ROWS" = some (some (.int 20 t_MOST_ROWS)))
    : LamX.LawAtS l w K CX0 8 63 "script" mg fa h := by
  have e := hfa.symm.trans (PySem.W.mg_of X G a18)
  cases e
  have F1 := fun_mk (st := s_is_whole) l1 c1 k1
  have F2 := fun_mk (st := s_is_whole_within) l2 c2 k2
  have F3 := fun_mk (st := s_is_tuple_of) l3 c3 k3
  have F4 := fun_mk (st := s_row_limits) l4 c4 k4
  have F5 := funC_mk (st := s_is_row) l5 c5 k5
  have T5 := AT "is_row" f5 kc5 pt5 _ _ _ _ _ _ r5 (PySem.W.mg_of X G a5) l5 rfl rfl h5 v5
  have F6 := funC_mk (st := s_is_program) l6 c6 k6
  have T6 := AT "is_program" f6 kc6 pt6 _ _ _ _ _ _ r6 (PySem.W.mg_of X G a6) l6 rfl rfl h6 v6
  have F7 := fun_mk (st := s_law_pen) l7 c7 k7
  have F8 := fun_mk (st := s_law_take) l8 c8 k8
  have F9 := fun_mk (st := s_law_row) l9 c9 k9
  have F10 := fun_mk (st := s_law_program) l10 c10 k10
  have F11 := fun_mk (st := s_law_is_part) l11 c11 k11
  have F12 := fun_mk (st := s_law_is_row) l12 c12 k12
  have F13 := fun_mk (st := s_law_due) l13 c13 k13
  have F14 := fun_mk (st := s_law_bent_part) l14 c14 k14
  have F15 := fun_mk (st := s_law_bent_row) l15 c15 k15
  have F16 := fun_mk (st := s_law_bent) l16 c16 k16
  have F17 := fun_mk (st := s_law_answers) l17 c17 k17
  have F18 := fun_mk (st := s_law) l18 c18 k18
  have b1 := F1.binds (ps := ["thing"]) fun _ _ _ _ _ _ us hl => match us, hl with | [_], _ => rfl
  have b2 := F2.binds (ps := ["thing", "least", "most"]) fun _ _ _ _ _ _ us hl => match us, hl with | [_, _, _], _ => rfl
  have b3 := F3.binds (ps := ["thing", "many"]) fun _ _ _ _ _ _ us hl => match us, hl with | [_, _], _ => rfl
  have b4 := F4.binds (ps := ["n", "w", "many"]) fun _ _ _ _ _ _ us hl => match us, hl with | [_, _, _], _ => rfl
  have b5 := F5.plain.binds (ps := ["thing", "n", "w", "many"]) fun _ _ _ _ _ _ us hl => match us, hl with | [_, _, _, _], _ => rfl
  have b6 := F6.plain.binds (ps := ["thing"]) fun _ _ _ _ _ _ us hl => match us, hl with | [_], _ => rfl
  have b7 := F7.binds (ps := ["script"]) fun _ _ _ _ _ _ us hl => match us, hl with | [_], _ => rfl
  have b8 := F8.binds (ps := ["pen", "many"]) fun _ _ _ _ _ _ us hl => match us, hl with | [_, _], _ => rfl
  have b9 := F9.binds (ps := ["pen", "n", "w", "many", "takes"]) fun _ _ _ _ _ _ us hl => match us, hl with | [_, _, _, _, _], _ => rfl
  have b10 := F10.binds (ps := ["pen", "takes"]) fun _ _ _ _ _ _ us hl => match us, hl with | [_, _], _ => rfl
  have b11 := F11.binds (ps := ["part", "many"]) fun _ _ _ _ _ _ us hl => match us, hl with | [_, _], _ => rfl
  have b12 := F12.binds (ps := ["n", "w", "many", "row"]) fun _ _ _ _ _ _ us hl => match us, hl with | [_, _, _, _], _ => rfl
  have b13 := F13.binds (ps := ["thing"]) fun _ _ _ _ _ _ us hl => match us, hl with | [_], _ => rfl
  have b14 := F14.binds (ps := ["pen", "program", "part"]) fun _ _ _ _ _ _ us hl => match us, hl with | [_, _, _], _ => rfl
  have b15 := F15.binds (ps := ["pen", "program", "row"]) fun _ _ _ _ _ _ us hl => match us, hl with | [_, _, _], _ => rfl
  have b16 := F16.binds (ps := ["pen", "program"]) fun _ _ _ _ _ _ us hl => match us, hl with | [_, _], _ => rfl
  have b17 := F17.binds (ps := ["thing"]) fun _ _ _ _ _ _ us hl => match us, hl with | [_], _ => rfl
  refine ⟨PySem.W.fnOf "law" "law" (defArgs s_law) (defBody s_law) (defScope s_law) .none kV18 dc18 pm18 an18 cd18 ct18, [(kc5, pt5), (kc6, pt6)], Dl.spLawT K [pt5, pt6], (List.forall_mem_cons.mpr ⟨T5, List.forall_mem_cons.mpr ⟨T6, fun _ h => nomatch h⟩⟩), (List.forall_mem_cons.mpr ⟨n5, List.forall_mem_cons.mpr ⟨n6, fun _ h => nomatch h⟩⟩), (List.forall_mem_cons.mpr ⟨PySem.W.codeHd_of_K X q5, List.forall_mem_cons.mpr ⟨PySem.W.codeHd_of_K X q6, fun _ h => nomatch h⟩⟩), fun s v => .of_eq rfl, fun H a ns hl _ hH hS => ⟨a, ns, rfl, hS, hl, ?_, fun _ => rfl⟩, fun base _ _ TB => ?_⟩
  · intro P hP
    have hP : P ∈ ([(kc5, pt5), (kc6, pt6)] : List (Addr × Addr)).map (·.2) := hP
    obtain ⟨p, hp, rfl⟩ := List.mem_map.mp hP
    exact Dl.tabG_nil (hH p hp)
  · exact ok_law (base := base) F18 { ts := [pt5, pt6], f_is_whole := f1, d_is_whole := _, F_is_whole := F1, b_is_whole := b1, g_is_whole := PySem.W.mg_of X G a1, f_is_whole_within := f2, d_is_whole_within := _, F_is_whole_within := F2, b_is_whole_within := b2, g_is_whole_within := PySem.W.mg_of X G a2, f_is_tuple_of := f3, d_is_tuple_of := _, F_is_tuple_of := F3, b_is_tuple_of := b3, g_is_tuple_of := PySem.W.mg_of X G a3, f_row_limits := f4, d_row_limits := _, F_row_limits := F4, b_row_limits := b4, g_row_limits := PySem.W.mg_of X G a4, f_is_row := f5, d_is_row := _, F_is_row := F5, b_is_row := b5, g_is_row := PySem.W.mg_of X G a5, k_is_row := kc5, p_is_row := pt5, tb_is_row := Dl.tabB_of (TB (kc5, pt5) (List.mem_cons_self ..)), ti_is_row := List.mem_cons_self .., f_is_program := f6, d_is_program := _, F_is_program := F6, b_is_program := b6, g_is_program := PySem.W.mg_of X G a6, k_is_program := kc6, p_is_program := pt6, tb_is_program := Dl.tabB_of (TB (kc6, pt6) (List.mem_cons_of_mem _ (List.mem_cons_self ..))), ti_is_program := List.mem_cons_of_mem _ (List.mem_cons_self ..), f_law_pen := f7, d_law_pen := _, F_law_pen := F7, b_law_pen := b7, g_law_pen := PySem.W.mg_of X G a7, f_law_take := f8, d_law_take := _, F_law_take := F8, b_law_take := b8, g_law_take := PySem.W.mg_of X G a8, f_law_row := f9, d_law_row := _, F_law_row := F9, b_law_row := b9, g_law_row := PySem.W.mg_of X G a9, f_law_program := f10, d_law_program := _, F_law_program := F10, b_law_program := b10, g_law_program := PySem.W.mg_of X G a10, f_law_is_part := f11, d_law_is_part := _, F_law_is_part := F11, b_law_is_part := b11, g_law_is_part := PySem.W.mg_of X G a11, f_law_is_row := f12, d_law_is_row := _, F_law_is_row := F12, b_law_is_row := b12, g_law_is_row := PySem.W.mg_of X G a12, f_law_due := f13, d_law_due := _, F_law_due := F13, b_law_due := b13, g_law_due := PySem.W.mg_of X G a13, f_law_bent_part := f14, d_law_bent_part := _, F_law_bent_part := F14, b_law_bent_part := b14, g_law_bent_part := PySem.W.mg_of X G a14, f_law_bent_row := f15, d_law_bent_row := _, F_law_bent_row := F15, b_law_bent_row := b15, g_law_bent_row := PySem.W.mg_of X G a15, f_law_bent := f16, d_law_bent := _, F_law_bent := F16, b_law_bent := b16, g_law_bent := PySem.W.mg_of X G a16, f_law_answers := f17, d_law_answers := _, F_law_answers := F17, b_law_answers := b17, g_law_answers := PySem.W.mg_of X G a17, m_all := PySem.W.mg_none_of X G z_all, m_bool := PySem.W.mg_none_of X G z_bool, m_int := PySem.W.mg_none_of X G z_int, m_isinstance := PySem.W.mg_none_of X G z_isinstance, m_len := PySem.W.mg_none_of X G z_len, m_list := PySem.W.mg_none_of X G z_list, m_range := PySem.W.mg_none_of X G z_range, m_str := PySem.W.mg_none_of X G z_str, m_tuple := PySem.W.mg_none_of X G z_tuple, m_zip := PySem.W.mg_none_of X G z_zip, t_MOST_SHEETS := t_MOST_SHEETS, c_MOST_SHEETS := PySem.W.mg_of X G y_MOST_SHEETS, t_LEAST_WHEEL := t_LEAST_WHEEL, c_LEAST_WHEEL := PySem.W.mg_of X G y_LEAST_WHEEL, t_MOST_WHEEL := t_MOST_WHEEL, c_MOST_WHEEL := PySem.W.mg_of X G y_MOST_WHEEL, t_MOST_ROWS := t_MOST_ROWS, c_MOST_ROWS := PySem.W.mg_of X G y_MOST_ROWS }
end K1
open PySem PySem.W PyProof.Rows
set_option maxHeartbeats 0 in
theorem PySem.Challenge.cw_warmove_k01_what_is_a_program_holds : PySem.Challenge.rw_warmove_k01_what_is_a_program.Holds := by
  w_on; o_law; k_head; (case hw => w_witness2)
  k_fill
  refine Dl.walk_ofTabs (l := PySem.Challenge.rw_warmove_k01_what_is_a_program) (n := 63) (k := 8) (x := "script") (CX := fun _ => L2.CX0) rfl (by decide) rfl ⟨rfl, by decide, by decide⟩ (fun w h Y => PySem.W.kIn_of Y) ?F (fun _ _ _ _ _ h => h)
  case F =>
    intro w mg fa h KX G hmg AT
    refine' K1.all_mk KX G hmg AT ?a1 ?l1 ?c1 ?k1 ?a2 ?l2 ?c2 ?k2 ?a3 ?l3 ?c3 ?k3 ?a4 ?l4 ?c4 ?k4 ?a5 ?l5 ?c5 ?k5 ?h5 ?v5 ?n5 ?q5 ?r5 ?a6 ?l6 ?c6 ?k6 ?h6 ?v6 ?n6 ?q6 ?r6 ?a7 ?l7 ?c7 ?k7 ?a8 ?l8 ?c8 ?k8 ?a9 ?l9 ?c9 ?k9 ?a10 ?l10 ?c10 ?k10 ?a11 ?l11 ?c11 ?k11 ?a12 ?l12 ?c12 ?k12 ?a13 ?l13 ?c13 ?k13 ?a14 ?l14 ?c14 ?k14 ?a15 ?l15 ?c15 ?k15 ?a16 ?l16 ?c16 ?k16 ?a17 ?l17 ?c17 ?k17 ?a18 ?l18 ?c18 ?k18 ?z_all ?z_bool ?z_int ?z_isinstance ?z_len ?z_list ?z_range ?z_str ?z_tuple ?z_zip ?y_MOST_SHEETS ?y_LEAST_WHEEL ?y_MOST_WHEEL ?y_MOST_ROWS
    (case a1 => k_is); (case l1 => k_is); (case c1 => k_is); (case k1 => k_is); (case a2 => k_is); (case l2 => k_is); (case c2 => k_is); (case k2 => k_is); (case a3 => k_is); (case l3 => k_is); (case c3 => k_is); (case k3 => k_is); (case a4 => k_is); (case l4 => k_is); (case c4 => k_is); (case k4 => k_is); (case a5 => k_is); (case l5 => k_is); (case c5 => k_is); (case k5 => k_is); (case h5 => k_is); (case v5 => exact rfl); (case n5 => kernel_rfl); (case q5 => kernel_rfl); (case r5 => kernel_rfl); (case a6 => k_is); (case l6 => k_is); (case c6 => k_is); (case k6 => k_is); (case h6 => k_is); (case v6 => exact rfl); (case n6 => kernel_rfl); (case q6 => kernel_rfl); (case r6 => kernel_rfl); (case a7 => k_is); (case l7 => k_is); (case c7 => k_is); (case k7 => k_is); (case a8 => k_is); (case l8 => k_is); (case c8 => k_is); (case k8 => k_is); (case a9 => k_is); (case l9 => k_is); (case c9 => k_is); (case k9 => k_is); (case a10 => k_is); (case l10 => k_is); (case c10 => k_is); (case k10 => k_is); (case a11 => k_is); (case l11 => k_is); (case c11 => k_is); (case k11 => k_is); (case a12 => k_is); (case l12 => k_is); (case c12 => k_is); (case k12 => k_is); (case a13 => k_is); (case l13 => k_is); (case c13 => k_is); (case k13 => k_is); (case a14 => k_is); (case l14 => k_is); (case c14 => k_is); (case k14 => k_is); (case a15 => k_is); (case l15 => k_is); (case c15 => k_is); (case k15 => k_is); (case a16 => k_is); (case l16 => k_is); (case c16 => k_is); (case k16 => k_is); (case a17 => k_is); (case l17 => k_is); (case c17 => k_is); (case k17 => k_is); (case a18 => k_is); (case l18 => k_is); (case c18 => k_is); (case k18 => k_is); (case z_all => k_is); (case z_bool => k_is); (case z_int => k_is); (case z_isinstance => k_is); (case z_len => k_is); (case z_list => k_is); (case z_range => k_is); (case z_str => k_is); (case z_tuple => k_is); (case z_zip => k_is); (case y_MOST_SHEETS => k_is); (case y_LEAST_WHEEL => k_is); (case y_MOST_WHEEL => k_is); (case y_MOST_ROWS => k_is)
