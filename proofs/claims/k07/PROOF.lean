import PyProof.Rows.All
import Wide.All
import OpenK.AllK
import Wide.FinOn
import HandS.Base
import HandS.Call
import HandS.List
import HandS.Comp
import HandS.Ends
import HandS.Words
import HandS.GenList
import HandS.AnyAll
import HandS.Lambda
import PyProof.SumAny
import HandS.Iter
import HandS.Dict
import KE.DataMinMax
import KE.KDictSum
import PyProof.Rows.CallKwBuiltin
import HandS.Conv
import HandS.SortKw
import HandS.ExcValue
import KE.KeyNested
import KE.KDictWalk
import HandS.WordsList
import HandS.TupAny
import HandS.Zip
import HandS.Wide
import HandS.IsInst
import HandS.TupMul
import HandS.Style
import HandS.EndOwn
import KE.KNestM
import HandS.SetFor
import HandS.Strs
import HandS.Text
import HandS.SortInts
import HandS.More
import HandS.Sort
import KE.GoesEnum
import HandS.Star
import HandS.TupSets
import KE.DataCmp
import HandS.SortOrd
import KE.KDictZip
import HandS.Exc
import HandS.ExcOwn
import HandS.WordsExc
import HandS.TryOnly
import HandS.ExcIs
import HandS.FStr
import HandS.RaiseMore
import HandS.Deep
import PySem.Challenge.RW_warmove_k07_ends_and_rounds
set_option Elab.async false
set_option linter.all false
set_option maxRecDepth 100000
/-! a generator expression whose element calls defs: all(..), any(..) -/
namespace Gx
open PySem PySem.Spec PyProof.Rows L2 GenW GxR
/-- the context of a generator expression's frame -/
abbrev gcx (X : Cx) (A' : Around) (s : Shared) (H : Hp) (cenv : Env) (fp : List Addr) (pn : List (Addr × Obj)) : Cx :=
  { X with A := A', s_0 := s, H_0 := H, env := cenv, outer := X.stack, stack := cenv :: X.stack, ex := fp, fn := fun _ => false, pn := pn, xe := fun _ _ => False }
section
variable {X : Cx} {pins : List (Addr × Obj)} {σ : L2.St} {H : Hp} {s : Shared}
theorem inv_woke {s' : Shared} (I : Inv X pins σ H s) (hh : s'.heap = s.heap) (ho : s'.os = s.os) (hb : AllBare s'.gens) : Inv X pins σ H s' :=
  ⟨I.ok, ho.trans I.os, hb, by rw [hh]; exact I.base, by rw [hh]; exact I.loc, by rw [hh]; exact I.cell, I.free, I.freeC, by rw [hh]; exact I.pin, by rw [hh]; exact I.hok, I.len⟩
theorem gen_start {scope : Scope} {own : List (Str × Nat)} {fp : List Addr} {A' : Around} {code : Value} {s5 : Shared} {m : Str → Option Value} {pn : List (Addr × Obj)} {cenv : Env}
    (I : Inv X pins σ H s) (ok : BlkOk X.N X.env.scope scope own) (hN : X.N.Nodup) (hcell : ∀ y ∈ scope.names, y.2 ≠ .cell) (hfp : ∀ b ∈ fp, FpOk X pins H b ∧ b < s.heap.objs.size) (hA : A'.handled = none)
    (hcenv : cenv = genEnv scope (cloFrom X.env.cells scope.names []) s.heap.objs.size code builtinsNs X.env) (hfr : A'.frames = some (cenv :: X.stack)) (hos : s5.os = s.os) (hb : AllBare s5.gens)
    (kp : ∀ b o, s.heap.get? b = some o → s5.heap.get? b = some o) (ns : s5.heap.Ns s.heap.objs.size m) (hpn : ∀ p ∈ pn, s5.heap.get? p.1 = some p.2 ∧ s.heap.objs.size < p.1 ∧ ∀ v, p.2.data ≠ .cell v) :
    Inv (gcx X A' s H cenv fp pn) [] (wipe σ (own.map (·.2))) H s5 := by
  have hfree : ∀ y ∈ scope.names, y.2 = .free → ∃ c, X.env.cells.lookup y.1 = some c := fun y hy e => by
    rcases ok.free y hy e with k | k
    · exact I.ok.has _ (.inl k)
    · exact I.ok.has _ (.inr k)
  have hL : cenv.locals = s.heap.objs.size := by rw [hcenv]; rfl
  have hcl : cenv.cells = cloFrom X.env.cells scope.names [] := by rw [hcenv]; rfl
  have hsc : cenv.scope = scope := by rw [hcenv]; rfl
  have cm : ∀ {y c}, (y, c) ∈ cloFrom X.env.cells scope.names [] → X.env.cells.lookup y = some c ∧ c < s.heap.objs.size := fun {y c} hm => by
    rcases cloFrom_mem hm with hm | ⟨h1, rfl⟩
    · cases hm
    · obtain ⟨c, hc⟩ := hfree _ h1 rfl
      rw [hc]
      obtain ⟨w, z⟩ := I.cell _ _ hc
      exact ⟨rfl, z.lt⟩
  have mem : ∀ {y c}, cenv.cells.lookup y = some c → X.env.cells.lookup y = some c ∧ c < s.heap.objs.size := fun {y c} e => by
    rw [hcl] at e
    exact cm (PySem.mem_of_lookup e)
  have look : ∀ {y}, scope.names.lookup y = some .free → ∃ c, cenv.cells.lookup y = some c ∧ X.env.cells.lookup y = some c := fun {y} hl => by
    have hy : (y, NameKind.free) ∈ scope.names := PySem.mem_of_lookup hl
    obtain ⟨c', e'⟩ := mem_lookup (cloFrom_has (cells := X.env.cells) (acc := []) hy)
    rw [← hcl] at e'
    exact ⟨c', e', (mem e').1⟩
  have okB : (gcx X A' s H cenv fp pn).Ok := by
    refine ⟨I.ok.mod, by show cenv.scope.kind = _; rw [hsc]; exact ok.kind, by show cenv.globals = _; rw [hcenv]; exact I.ok.glob, by show cenv.builtins = _; rw [hcenv]; rfl, by show s.heap.objs.size ≤ cenv.locals; rw [hL]; exact Nat.le_refl _,
      fun y z c e1 e2 => I.ok.inj y z c (mem e1).1 (mem e2).1, fun y hy => ?_, fun y c z e => (by cases z), fun _ => hA, hfr, .inr ⟨rfl, by show cenv.frame = some cenv.locals; rw [hcenv]; rfl⟩, fun b hb => ⟨?_, fun y c e z => ?_⟩, I.bs, Nat.le_trans I.ok.bsz I.sz, fun b o e hb => ?_, fun b hb z => ?_, I.stack, I.stkFree⟩
    · show ∃ c, cenv.cells.lookup y = some c
      have key : ∀ k, cenv.kindOf y = some k → (k = .cell ∨ k = .free) → ∃ c, cenv.cells.lookup y = some c := fun k hk hk' => by
        unfold Env.kindOf at hk
        rw [hsc] at hk
        rcases hk' with rfl | rfl
        · exact absurd rfl (hcell _ (PySem.mem_of_lookup hk))
        · obtain ⟨c, h1, _⟩ := look hk
          exact ⟨c, h1⟩
      rcases hy with hy | hy
      · exact key _ hy (.inl rfl)
      · exact key _ hy (.inr rfl)
    · show b ≠ cenv.locals
      rw [hL]; exact Nat.ne_of_lt (hfp b hb).2
    · exact (hfp b hb).1.2.2.2.2.1 y c (mem e).1 z
    · rcases (hfp b hb).1.2.2.2.1 with z | z
      · exact I.ok.noex b o e z
      · exact absurd (Nat.lt_of_lt_of_le (Heap.lt_size e) (Nat.le_trans I.ok.bsz z)) (Nat.lt_irrefl _)
    · rcases List.mem_cons.mp (I.stkSub b z) with z | z
      · exact (hfp b hb).1.2.1 z
      · exact (hfp b hb).1.2.2.1 z
  refine ⟨okB, hos, hb, Un.kept kp, ⟨m, by show s5.heap.Ns cenv.locals m; rw [hL]; exact ns, fun i y av e1 e2 e3 => ?_⟩, fun y c e => ?_, ?_, fun y c e => I.freeC y c (mem e).1, fun p hp => ?_, I.hok.kept kp, by rw [wipe_length]; exact I.len⟩
  · obtain ⟨e2, hne⟩ := wipe_some e2
    have hfr : scope.names.lookup y = some .free := by
      have key : ∀ k, scope.names.lookup y = some k → k = .local ∨ k = .cell ∨ k = .free → scope.names.lookup y = some .free := fun k hk hk' => by
        have no : ¬ (k = .local ∨ k = .cell) := fun hh => by
          rcases ok.own _ (PySem.mem_of_lookup hk) hh with e' | e'
          · obtain ⟨p, hp, hpy⟩ := List.mem_map.mp e'
            have e3 := ok.ix p hp
            have : p.1 = y := hpy
            rw [this] at e3
            exact hne (List.mem_map.mpr ⟨p, hp, nodup_ix hN e3 e1⟩)
          · exact e' (List.mem_of_getElem? e1)
        rcases hk' with rfl | rfl | rfl
        · exact absurd (.inl rfl) no
        · exact absurd (.inr rfl) no
        · exact hk
      have e3 : Vis cenv.scope y := e3
      rw [hsc] at e3
      rcases e3 with e3 | e3 | e3
      · exact key _ e3 (.inl rfl)
      · exact key _ e3 (.inr (.inl rfl))
      · exact key _ e3 (.inr (.inr rfl))
    obtain ⟨m', hn, hl⟩ := I.loc
    have hvis : Vis X.env.scope y := (ok.free _ (PySem.mem_of_lookup hfr) rfl).elim (fun k => .inr (.inl k)) (fun k => .inr (.inr k))
    obtain ⟨w, r, q⟩ := hl i y av e1 e2 hvis
    refine ⟨w, r, .inr ⟨.inr (by show cenv.kindOf y = some .free; unfold Env.kindOf; rw [hsc]; exact hfr), ?_⟩⟩
    obtain ⟨c, h1, h2⟩ := look hfr
    rcases q with ⟨k, _⟩ | ⟨_, c', e', z⟩
    · have k : X.env.scope.names.lookup y = some .local := k
      rcases ok.free _ (PySem.mem_of_lookup hfr) rfl with k' | k' <;> rw [show X.env.scope.names.lookup y = _ from k'] at k <;> cases k
    · rw [h2] at e'; cases e'
      exact ⟨c, h1, z.keeps kp⟩
  · obtain ⟨w, z⟩ := I.cell y c (mem e).1
    exact ⟨w, z.keeps kp⟩
  · show H cenv.locals = none
    rw [hL]; exact I.hok.fresh (Nat.le_refl _)
  · have hp : p ∈ pn := by simpa using hp
    obtain ⟨h1, h2, h3⟩ := hpn p hp
    refine ⟨h1, I.hok.fresh (Nat.le_of_lt h2), ?_, fun z => ?_, h3⟩
    · show p.1 ≠ cenv.locals
      rw [hL]; exact Nat.ne_of_gt h2
    · have z : p.1 ∈ frs X.stack := z
      obtain ⟨_, o, ho, _⟩ := I.stack.mem z
      exact absurd (Nat.lt_trans h2 (Heap.lt_size ho)) (Nat.lt_irrefl _)
end
/-- a table of code objects, each of which is known -/
def TabX (H : Hp) (P : Addr) : Prop := ∃ ps : Array Value, H P = some (.tbl ps) ∧ TriplesOk ps.toList ∧ ∀ (pos : Pos) (cv : Value), codeAmong pos ps.toList = some cv → ∃ (c : Addr) (q : Str), cv = .ref c ∧ H c = some (LamX.CodeO c q)
/-- the table may have grown, all else stands -/
def TabbedX (P : Addr) (H H' : Hp) : Prop := TabX H' P ∧ ∀ b o, b ≠ P → H b = some o → H' b = some o
theorem TabX.keep {H H' : Hp} {P : Addr} (h : TabX H P) (k : ∀ a o, H a = some o → H' a = some o) : TabX H' P := by
  obtain ⟨ps, e, t, a⟩ := h
  refine ⟨ps, k _ _ e, t, fun pos cv hc => ?_⟩
  obtain ⟨c, q, e1, e2⟩ := a pos cv hc
  exact ⟨c, q, e1, k _ _ e2⟩
theorem TabbedX.same {H : Hp} {P : Addr} (h : TabX H P) : TabbedX P H H := ⟨h, fun _ _ _ e => e⟩
/-- another table stands -/
theorem TabX.other {H H' : Hp} {P P' : Addr} (h : TabX H P') (k : TabbedX P H H') (hp : TabX H P) : TabX H' P' := by
  by_cases z : P' = P
  · rw [z]; exact k.1
  · obtain ⟨ps, e, t, a⟩ := h
    refine ⟨ps, k.2 _ _ z e, t, fun pos cv hc => ?_⟩
    obtain ⟨c, q, e1, e2⟩ := a pos cv hc
    refine ⟨c, q, e1, k.2 _ _ (fun y => ?_) e2⟩
    obtain ⟨ps', e', _⟩ := hp
    rw [y, e'] at e2
    exact LamX.codeO_ne _ (Option.some.inj e2).symm
theorem tabX_new {H : Hp} {P c : Addr} {q : Str} {ps : Array Value} {pos : Pos} (hP : H P = some (.tbl ps)) (ht : TriplesOk ps.toList) (ha : ∀ (pos : Pos) (cv : Value), codeAmong pos ps.toList = some cv → ∃ (c : Addr) (q : Str), cv = .ref c ∧ H c = some (LamX.CodeO c q)) (hn : H c = none) :
    TabbedX P H (upd (upd H P (.tbl (ps ++ #[rawInt pos.line, rawInt pos.col, .ref c]))) c (LamX.CodeO c q)) := by
  have nPc : P ≠ c := ne_of_none hP hn
  have keep : ∀ b o, b ≠ P → H b = some o → upd (upd H P (.tbl (ps ++ #[rawInt pos.line, rawInt pos.col, .ref c]))) c (LamX.CodeO c q) b = some o := fun b o hb e => by
    rw [upd_ne (ne_of_none e hn), upd_ne hb]
    exact e
  have eL : (ps ++ #[rawInt pos.line, rawInt pos.col, .ref c]).toList = ps.toList ++ [rawInt pos.line, rawInt pos.col, .ref c] := by simp
  refine ⟨⟨_, by rw [upd_ne nPc, upd_same], by rw [eL]; exact PySem.TriplesOk_snoc _ _ _ _ ht, fun p' cv hcv => ?_⟩, keep⟩
  rw [eL] at hcv
  rcases LamX.among_app _ ht hcv with z | z
  · obtain ⟨c0, q0, e1, e2⟩ := ha p' cv z
    refine ⟨c0, q0, e1, keep _ _ (fun y => ?_) e2⟩
    rw [y, hP] at e2
    exact LamX.codeO_ne _ (Option.some.inj e2).symm
  · exact ⟨c, q, z, upd_same⟩
theorem tabX_nil {H : Hp} {P : Addr} (h : H P = some (.tbl #[])) : TabX H P := ⟨#[], h, trivial, fun pos cv hc => by
  have z : codeAmong pos [] = some cv := hc
  simp [codeAmong] at z⟩
end Gx
set_option Elab.async false
set_option linter.all false
set_option maxRecDepth 100000
set_option maxHeartbeats 1000000
namespace Gx
open PySem PySem.Spec PyProof.Rows L2 GenW GxR
/-- slept: nothing but the table of generators has changed -/
structure Woke (s s' : Shared) : Prop where
  heap : s'.heap = s.heap
  os : s'.os = s.os
  bare : AllBare s'.gens
/-- what a turn asks: W a word of the turn, a measure and the heap; Qt behind the last turn, D at each value handed out -/
def Turns (J : It) (g : TG) (tt : TT) (te : TE) (vs : List Nat) (σ0 : L2.St) (W : Nat → Nat → Hp → Prop) (Qt : Hp → Prop) (Yd : V → Hp → (Hp → Prop) → Prop) : Prop :=
  ∀ i m H, W i m H → (J.stop i H ∧ Qt H) ∨ (J.go i H ∧ ∃ Nx : Hp → Prop, (∀ H', Nx H' → ∃ m', m' < m ∧ W (i + 1) m' H') ∧ ∀ x H', J.yld i H x H' → g x σ0 H' fun σ2 H2 => wipe σ2 vs = σ0 ∧ tt σ2 H2 fun b H3 => if b = true then te σ2 H3 fun y H4 => Yd y H4 Nx else Nx H3)
/-- a truth is handed out: one way goes on, the other ends -/
def YdB (go : Bool) (Qf : Hp → Prop) : V → Hp → (Hp → Prop) → Prop := fun y H Nx => ∃ b, y = .bl b ∧ (if b = go then Nx H else Qf H)
abbrev RG (Y : Cx) (σ0 : L2.St) (Qt : Hp → Prop) : GenEnd := fun n s₀ r s₁ => ((r = .ok (.ret .none) ∨ r = .ok .next) ∧ (∃ H, Inv Y [] σ0 H s₁ ∧ Qt H)) ∨ ∃ e, r = .error e ∧ False
abbrev YG (Y : Cx) (go : Bool) (Qf : Hp → Prop) : Protocol := fun n s₀ v s kap => ∃ b H σ2, v = .bool b ∧ Inv Y [] σ2 H s ∧ (b ≠ go → Qf H) ∧ (b = go → ∀ s', Woke s s' → kap (.send .none) s')
section
variable {X : Cx} {A' B : Around} {s4 : Shared} {H4 : Hp} {cenv : Env} {fp : List Addr} {pn : List (Addr × Obj)} {it : Addr} {tn : Nat → Heap → Prop} {J : It} {elt tg iter : Expr} {ifs : List Expr} {scope : Scope} {pos : Pos} {g : TG} {tt : TT} {te : TE} {vs : List Nat} {σ0 : L2.St} {W : Nat → Nat → Hp → Prop} {Qt Qf : Hp → Prop} {go : Bool}
theorem seg_gx (hA : B.over (.compLoop (.GeneratorExp elt [⟨tg, iter, ifs, 0⟩] scope pos) 0 (.ref it) .none cenv) [] = A') (hc : X.calm = true) (hco : cenv.scope.isCoroutine = false) (T : Turn X.prog X.w X.K tg J fp it tn)
    (hst : ∀ H : Hp, (∀ b ∈ fp, H b = none) → ∀ b ∈ fp, FpOk (gcx X A' s4 H4 cenv fp pn) [] H b) (hσ : wipe σ0 vs = σ0)
    (hg : PG (gcx X A' s4 H4 cenv fp pn) tg g) (ht : PTs (gcx X A' s4 H4 cenv fp pn) ifs tt) (he : PE (gcx X A' s4 H4 cenv fp pn) elt te) (hturn : Turns J g tt te vs σ0 W Qt (YdB go Qf)) :
    ∀ (m n i : Nat) (H : Hp) (s₀ s : Shared), m + 1 ≤ n → Inv (gcx X A' s4 H4 cenv fp pn) [] σ0 H s → tn i s.heap → (∀ b ∈ fp, H b = none) → W i m H →
      Seg (model X.prog X.w) B (RG (gcx X A' s4 H4 cenv fp pn) σ0 Qt) (YG (gcx X A' s4 H4 cenv fp pn) go Qf) n s₀ (.compLoop (.GeneratorExp elt [⟨tg, iter, ifs, 0⟩] scope pos) 0 (.ref it) .none cenv)
        ((model X.prog X.w).den (.compLoop (.GeneratorExp elt [⟨tg, iter, ifs, 0⟩] scope pos) 0 (.ref it) .none cenv)) [] s := by
  intro m
  induction m using Nat.strongRecOn with
  | _ m ih =>
  intro n i H s₀ s hmn I st fr w
  show Seg _ B _ _ _ s₀ _ ((compTurn (.GeneratorExp elt [⟨tg, iter, ifs, 0⟩] scope pos) 0 (.ref it) .none cenv).onRaise (leaving cenv)) [] s
  rw [compTurn_gen, Sem.onRaise_eq_wrap]
  refine seg_bind_wrap (wpAny_standAt ?_)
  rcases hturn i m H w with ⟨stop, qn⟩ | ⟨goes, Nx, hN, step⟩
  · refine seg_bind_wrap ?_
    rw [hA]
    refine wpAny_mono (T.done (gcx X A' s4 H4 cenv fp pn) rfl rfl rfl hc i [] s σ0 H _ I (hst H fr) st stop) (fun r s1 hr => ?_) fun _ _ e => e
    obtain ⟨rfl, I1⟩ := hr
    exact seg_end (.ok .next) (.inl ⟨.inr rfl, H, I1, qn⟩)
  · refine seg_bind_wrap ?_
    rw [hA]
    refine wpAny_mono (T.item (gcx X A' s4 H4 cenv fp pn) rfl rfl rfl hc i [] s σ0 H _ I (hst H fr) st goes) (fun r s1 hr => ?_) fun _ _ e => e
    obtain ⟨u, rfl, h1⟩ := hr
    refine seg_bind_wrap ?_
    rw [hA]
    refine wpAny_mono h1 (fun _ s2 h2 => ?_) fun _ _ e => e
    obtain ⟨x, H2, I2, rx, yl, st2, fr2⟩ := h2
    have I2' := I2.pinned (hst H2 fr2) (T.obj _ _ st2)
    refine seg_bind_wrap ?_
    rw [hA]
    refine wpAny_mono (hg.run _ s2 σ0 H2 x u _ I2' rx (step x H2 yl)) (fun _ s3 h3 => ?_) fun _ _ e => e.elim
    obtain ⟨σ3, H3, I3, hw3, q3⟩ := h3
    -- the records of the iterator stand
    have keeps : ∀ {σ' : L2.St} {H' : Hp} {s' : Shared}, Inv (gcx X A' s4 H4 cenv fp pn) ([] ++ pinsAt fp s2.heap) σ' H' s' → tn (i + 1) s'.heap ∧ ∀ b ∈ fp, H' b = none := fun {σ' H' s'} I' =>
      ⟨T.keep _ _ _ st2 fun b hb o e => (I'.pin (b, o) (List.mem_append_right _ (List.mem_append_right _ (mem_pinsAt hb e)))).1, fun b hb => by
        obtain ⟨o, e, _⟩ := T.obj _ _ st2 b hb
        exact (I'.pin (b, o) (List.mem_append_right _ (List.mem_append_right _ (mem_pinsAt hb e)))).2.1⟩
    have back : ∀ {H' : Hp} {s' : Shared}, Inv (gcx X A' s4 H4 cenv fp pn) ([] ++ pinsAt fp s2.heap) σ3 H' s' → Inv (gcx X A' s4 H4 cenv fp pn) [] σ0 H' s' := fun {H' s'} I' => by
      refine I'.unpinned.weak ?_ fun j v e => ?_
      · rw [← hw3, wipe_length]
      · rw [← hw3] at e
        exact (wipe_some e).1
    refine seg_bind_wrap ?_
    rw [hA]
    refine wpAny_mono (ht.run _ s3 σ3 H3 _ I3 q3) (fun b s5 h5 => ?_) fun _ _ e => e.elim
    obtain ⟨H5, I5, q5⟩ := h5
    cases b with
    | false =>
      simp only [Bool.false_eq_true, if_false]
      obtain ⟨m', hm, w'⟩ := hN H5 q5
      obtain ⟨k1, k2⟩ := keeps I5
      exact seg_again rfl (ih m' hm n (i + 1) H5 s₀ s5 (by omega) (back I5) k1 k2 w')
    | true =>
      simp only [if_true]
      have hy : ∀ v, yieldOut cenv v = yieldValue v := fun v => by simp only [yieldOut, hco, Bool.false_eq_true, if_false]
      simp only [hy]
      rw [Sem.bind_eq_wrap', Sem.bind_eq_wrap', Sem.wrap_wrap, Sem.wrap_wrap]
      refine seg_wrap ?_
      rw [hA]
      refine wpAny_mono (he.run _ s5 σ3 H5 _ I5 q5) (fun v s6 h6 => ?_) fun _ _ e => e.elim
      obtain ⟨y, H6, I6, ry, b, rfl, q6⟩ := h6
      have ev : v = .bool b := ry
      subst ev
      obtain ⟨n', rfl⟩ : ∃ n', n = n' + 1 := ⟨n - 1, by omega⟩
      refine seg_at (seg_yield rfl rfl rfl ⟨b, H6, σ3, rfl, I6.unpinned, fun hb => ?_, fun hb s' wk => ?_⟩)
      · rw [if_neg hb] at q6; exact q6
      · rw [if_pos hb] at q6
        obtain ⟨m', hm, w'⟩ := hN H6 q6
        obtain ⟨k1, k2⟩ := keeps I6
        exact seg_again rfl (ih m' hm n' (i + 1) H6 s' s' (by omega) (inv_woke (back I6) wk.heap wk.os wk.bare) (by rw [wk.heap]; exact k1) k2 w')
/-- from its start -/
theorem seg_gx0 (hA : B.over (.compLoop (.GeneratorExp elt [⟨tg, iter, ifs, 0⟩] scope pos) 0 (.ref it) .none cenv) [] = A') (hc : X.calm = true) (hco : cenv.scope.isCoroutine = false) (T : Turn X.prog X.w X.K tg J fp it tn)
    (hst : ∀ H : Hp, (∀ b ∈ fp, H b = none) → ∀ b ∈ fp, FpOk (gcx X A' s4 H4 cenv fp pn) [] H b) (hσ : wipe σ0 vs = σ0)
    (hg : PG (gcx X A' s4 H4 cenv fp pn) tg g) (ht : PTs (gcx X A' s4 H4 cenv fp pn) ifs tt) (he : PE (gcx X A' s4 H4 cenv fp pn) elt te) (hturn : Turns J g tt te vs σ0 W Qt (YdB go Qf))
    (m : Nat) (H : Hp) (s₀ s : Shared) (I : Inv (gcx X A' s4 H4 cenv fp pn) [] σ0 H s) (st : tn 0 s.heap) (fr : ∀ b ∈ fp, H b = none) (w : W 0 m H) :
      Seg (model X.prog X.w) B (RG (gcx X A' s4 H4 cenv fp pn) σ0 Qt) (YG (gcx X A' s4 H4 cenv fp pn) go Qf) (m + 1) s₀ (.compStart (.GeneratorExp elt [⟨tg, iter, ifs, 0⟩] scope pos) 0 (.ref it) .none cenv)
        ((model X.prog X.w).den (.compStart (.GeneratorExp elt [⟨tg, iter, ifs, 0⟩] scope pos) 0 (.ref it) .none cenv)) [] s := by
  have loop := seg_gx hA hc hco T hst hσ hg ht he hturn m (m + 1) 0 H s₀ s (Nat.le_refl _) I st fr w
  show Seg _ B _ _ _ s₀ _ ((compStart (.GeneratorExp elt [⟨tg, iter, ifs, 0⟩] scope pos) 0 (.ref it) .none cenv).onRaise (leaving cenv)) [] s
  unfold compStart
  rw [Sem.onRaise_eq_wrap]
  show Seg _ B _ _ _ s₀ _ ((ask >>= _).wrap _ _ _ _) [] s
  refine seg_bind_wrap (wpAny_askSetting ?_)
  split
  · exact seg_again rfl loop
  · first
      | exact seg_bind_wrap (wpAny_rule (seg_bind_wrap (wpAny_standAt (seg_bind_wrap (T.self _ 0 s _ _ st (seg_again rfl loop))))))
      | (refine seg_bind_wrap (wpAny_rule ?_); show Seg _ B _ _ _ s₀ _ ((standAt iter.pos >>= _).wrap _ _ _ _) [] s; exact seg_bind_wrap (wpAny_standAt (seg_bind_wrap (T.self _ 0 s _ _ st (seg_again rfl loop)))))
end
/-! ### the consumer -/
section
variable {P : Program} {w : World} {Y : Cx} {σ0 : L2.St} {Qt Qf : Hp → Prop} {A : Around} {R : Result → Shared → Prop} {a : Addr} {g : Nat} {gobj : Obj}
theorem all_loop (hY : Y.prog = P ∧ Y.w = w) (hh : A.handled = none) (hd : A.depth < recursionLimit) (hp : (a, gobj) ∈ Y.pn) (hgo : ∀ s : Shared, s.heap.get? a = some gobj → s.heap.IsGen a g)
    (hT : ∀ s₁ H s', Inv Y [] σ0 H s₁ → Qt H → (∀ b o, s₁.heap.get? b = some o → s'.heap.get? b = some o) → s'.os = s₁.os → AllBare s'.gens → R (.ok (.ret (.bool true))) s')
    (hF : ∀ s₁ H σ2 s', Inv Y [] σ2 H s₁ → Qf H → (∀ b o, s₁.heap.get? b = some o → s'.heap.get? b = some o) → s'.os = s₁.os → AllBare s'.gens → R (.ok (.ret (.bool false))) s') :
    ∀ (n : Nat) (s : Shared), s.heap.IsGen a g → s.heap.NoLimit → (∃ gs, s.gens[g]? = some gs ∧ gs.Goes (model P w) A.in1.in1 (RG Y σ0 Qt) (YG Y true Qf) n (.send .none) (s.setGen g .running)) →
      codeAny (model P w) A (.builtin "all.loop" ⟨[.ref a], []⟩) R s := by
  intro n
  induction n with
  | zero =>
    intro s hg hl ⟨gs, hgs, hgoes⟩
    refine codeAny_builtin F.entry_all_loop ?_
    rw [Around.under_plainId F.plain_all_loop _]
    show wpAny _ A.in1 (pyNext (.ref a) >>= _) _ _ s
    refine wpAny_bind (next_genG (A := A.in1) hh hl hd hg hgs hgoes (fun v s₁ gs' hbare hv => ?_) (fun s₁ hq h' hk => ?_) fun e s₁ he => he.elim)
    · obtain ⟨b, H, σ2, rfl, I, h1, h2⟩ := hv
      cases b with
      | true => exact (h2 rfl _ ⟨rfl, rfl, I.bare⟩).elim
      | false =>
        refine wpAny_bind (wpAny_holding (wpAny_truthy_bool ?_))
        refine wpAny_bind (wpAny_letGo ?_)
        simp only [Bool.false_eq_true, if_false]
        refine wpAny_bind (wpAny_rule (wpAny_pure ?_))
        exact hF s₁ H σ2 _ I (h1 (by decide)) (fun _ _ e => e) rfl (allBare_setGen I.bare hbare)
    · obtain ⟨H, I, q⟩ := hq
      refine wpAny_bind (wpAny_rule (wpAny_pure ?_))
      exact hT s₁ H _ I q hk rfl (allBare_setGen I.bare rfl)
  | succ n ih =>
    intro s hg hl ⟨gs, hgs, hgoes⟩
    have hgl : g < s.gens.size := (Array.getElem?_eq_some_iff.mp hgs).1
    refine codeAny_builtin F.entry_all_loop ?_
    rw [Around.under_plainId F.plain_all_loop _]
    show wpAny _ A.in1 (pyNext (.ref a) >>= _) _ _ s
    refine wpAny_bind (wpAny_gsz (n := g + 1) hgl (next_genG (A := A.in1) hh hl hd hg hgs hgoes (fun v s₁ gs' hbare hv => ?_) (fun s₁ hq h' hk => ?_) fun e s₁ he => he.elim))
    · intro hsz
      obtain ⟨b, H, σ2, rfl, I, h1, h2⟩ := hv
      have hsz1 : g < s₁.gens.size := by
        have q : (s₁.setGen g gs').gens.size = s₁.gens.size := setGen_size _ _ _
        have hsz' : g + 1 ≤ (s₁.setGen g gs').gens.size := hsz
        omega
      refine wpAny_bind (wpAny_holding (wpAny_truthy_bool ?_))
      refine wpAny_bind (wpAny_letGo ?_)
      cases b with
      | true =>
        simp only [if_true]
        refine wpAny_pure ⟨plainId_quiet F.plain_all_loop _, ih (s₁.setGen g gs') (hgo _ (I.pin (a, gobj) (List.mem_append_left _ hp)).1) I.nolimit ⟨gs', setGen_at hsz1, ?_⟩⟩
        exact h2 rfl _ ⟨rfl, rfl, allBare_setGen (s := s₁.setGen g gs') (allBare_setGen I.bare hbare) rfl⟩
      | false =>
        simp only [Bool.false_eq_true, if_false]
        refine wpAny_bind (wpAny_rule (wpAny_pure ?_))
        exact hF s₁ H σ2 _ I (h1 (by decide)) (fun _ _ e => e) rfl (allBare_setGen I.bare hbare)
    · intro hsz
      obtain ⟨H, I, q⟩ := hq
      refine wpAny_bind (wpAny_rule (wpAny_pure ?_))
      exact hT s₁ H _ I q hk rfl (allBare_setGen I.bare rfl)
theorem any_loop (hY : Y.prog = P ∧ Y.w = w) (hh : A.handled = none) (hd : A.depth < recursionLimit) (hp : (a, gobj) ∈ Y.pn) (hgo : ∀ s : Shared, s.heap.get? a = some gobj → s.heap.IsGen a g)
    (hT : ∀ s₁ H s', Inv Y [] σ0 H s₁ → Qt H → (∀ b o, s₁.heap.get? b = some o → s'.heap.get? b = some o) → s'.os = s₁.os → AllBare s'.gens → R (.ok (.ret (.bool false))) s')
    (hF : ∀ s₁ H σ2 s', Inv Y [] σ2 H s₁ → Qf H → (∀ b o, s₁.heap.get? b = some o → s'.heap.get? b = some o) → s'.os = s₁.os → AllBare s'.gens → R (.ok (.ret (.bool true))) s') :
    ∀ (n : Nat) (s : Shared), s.heap.IsGen a g → s.heap.NoLimit → (∃ gs, s.gens[g]? = some gs ∧ gs.Goes (model P w) A.in1.in1 (RG Y σ0 Qt) (YG Y false Qf) n (.send .none) (s.setGen g .running)) →
      codeAny (model P w) A (.builtin "any.loop" ⟨[.ref a], []⟩) R s := by
  intro n
  induction n with
  | zero =>
    intro s hg hl ⟨gs, hgs, hgoes⟩
    refine codeAny_builtin F.entry_any_loop ?_
    rw [Around.under_plainId F.plain_any_loop _]
    show wpAny _ A.in1 (pyNext (.ref a) >>= _) _ _ s
    refine wpAny_bind (next_genG (A := A.in1) hh hl hd hg hgs hgoes (fun v s₁ gs' hbare hv => ?_) (fun s₁ hq h' hk => ?_) fun e s₁ he => he.elim)
    · obtain ⟨b, H, σ2, rfl, I, h1, h2⟩ := hv
      cases b with
      | false => exact (h2 rfl _ ⟨rfl, rfl, I.bare⟩).elim
      | true =>
        refine wpAny_bind (wpAny_holding (wpAny_truthy_bool ?_))
        refine wpAny_bind (wpAny_letGo ?_)
        simp only [if_true]
        refine wpAny_bind (wpAny_rule (wpAny_pure ?_))
        exact hF s₁ H σ2 _ I (h1 (by decide)) (fun _ _ e => e) rfl (allBare_setGen I.bare hbare)
    · obtain ⟨H, I, q⟩ := hq
      refine wpAny_bind (wpAny_rule (wpAny_pure ?_))
      exact hT s₁ H _ I q hk rfl (allBare_setGen I.bare rfl)
  | succ n ih =>
    intro s hg hl ⟨gs, hgs, hgoes⟩
    have hgl : g < s.gens.size := (Array.getElem?_eq_some_iff.mp hgs).1
    refine codeAny_builtin F.entry_any_loop ?_
    rw [Around.under_plainId F.plain_any_loop _]
    show wpAny _ A.in1 (pyNext (.ref a) >>= _) _ _ s
    refine wpAny_bind (wpAny_gsz (n := g + 1) hgl (next_genG (A := A.in1) hh hl hd hg hgs hgoes (fun v s₁ gs' hbare hv => ?_) (fun s₁ hq h' hk => ?_) fun e s₁ he => he.elim))
    · intro hsz
      obtain ⟨b, H, σ2, rfl, I, h1, h2⟩ := hv
      have hsz1 : g < s₁.gens.size := by
        have q : (s₁.setGen g gs').gens.size = s₁.gens.size := setGen_size _ _ _
        have hsz' : g + 1 ≤ (s₁.setGen g gs').gens.size := hsz
        omega
      refine wpAny_bind (wpAny_holding (wpAny_truthy_bool ?_))
      refine wpAny_bind (wpAny_letGo ?_)
      cases b with
      | false =>
        simp only [Bool.false_eq_true, if_false]
        refine wpAny_pure ⟨plainId_quiet F.plain_any_loop _, ih (s₁.setGen g gs') (hgo _ (I.pin (a, gobj) (List.mem_append_left _ hp)).1) I.nolimit ⟨gs', setGen_at hsz1, ?_⟩⟩
        exact h2 rfl _ ⟨rfl, rfl, allBare_setGen (s := s₁.setGen g gs') (allBare_setGen I.bare hbare) rfl⟩
      | true =>
        simp only [if_true]
        refine wpAny_bind (wpAny_rule (wpAny_pure ?_))
        exact hF s₁ H σ2 _ I (h1 (by decide)) (fun _ _ e => e) rfl (allBare_setGen I.bare hbare)
    · intro hsz
      obtain ⟨H, I, q⟩ := hq
      refine wpAny_bind (wpAny_rule (wpAny_pure ?_))
      exact hT s₁ H _ I q hk rfl (allBare_setGen I.bare rfl)
end
end Gx
set_option Elab.async false
set_option linter.all false
set_option maxRecDepth 100000
set_option maxHeartbeats 2000000
namespace Gx
open PySem PySem.Spec PyProof.Rows L2 GenW GxR
/-- a generator expression's own scope -/
structure GenOk (env : Env) (N : List Str) (scope : Scope) (own : List (Str × Nat)) : Prop where
  blk : BlkOk N env.scope scope own
  co : scope.isCoroutine = false
  cell : ∀ y ∈ scope.names, y.2 ≠ .cell
  dot : scope.names.lookup (".0" : Str) = some NameKind.local
section
variable {X : Cx} {pins : List (Addr × Obj)} {σ : L2.St} {H : Hp} {s : Shared}
theorem wipe_wipe (σ : L2.St) : ∀ vs : List Nat, wipe (wipe σ vs) vs = wipe σ vs := fun vs => by
  apply List.ext_getElem?
  intro i
  by_cases h : i ∈ vs
  · have z : ∀ σ' : L2.St, ∀ ws : List Nat, i ∈ ws → (wipe σ' ws)[i]? = if i < σ'.length then some none else none := fun σ' ws => by
      induction ws with
      | nil => intro h; cases h
      | cons w ws ih =>
        intro h
        show ((wipe σ' ws).set w none)[i]? = _
        rw [List.getElem?_set]
        by_cases e : w = i
        · rw [if_pos e, wipe_length, e]
        · rw [if_neg e]
          rcases List.mem_cons.mp h with h | h
          · exact absurd h.symm e
          · exact ih h
    rw [z _ _ h, z _ _ h, wipe_length]
  · rw [wipe_out h]
theorem room_gen {k : Nat} {A : Around} {elt tg iter : Expr} {ifs : List Expr} {scope : Scope} {pos : Pos} {it : Value} {cenv : Env} (hr : Room (k + 1) A) : Room k (A.in1.in1.over (.compLoop (.GeneratorExp elt [⟨tg, iter, ifs, 0⟩] scope pos) 0 it .none cenv) []) :=
  ⟨hr.hd, by have := hr.dp; show A.depth + 1 + 3 * k + 5 < _; omega, by have := hr.un; show A.units + 1 + 1 + 3 + 16 * k + 200 < _; omega⟩
theorem gen_ready {c P : Addr} {elt tg iter : Expr} {ifs : List Expr} {scope : Scope} {own : List (Str × Nat)} {gpos : Pos} {wi : TI} {g : TG} {tt : TT} {te : TE} {k : Nat} {Q' : Value → Shared → Prop} {Qt Qf : Hp → Prop} {go : Bool}
    (hc : X.calm = true) (hr : Room (k + 1) X.A) (hN : X.N.Nodup) (TB : TabB X.base X.mg c P) (hcode : X.env.code = .ref c) (S : GenOk X.env X.N scope own) (hi : PI X tg iter wi)
    (hg : ∀ (A' : Around) (s : Shared) (H : Hp) (cl : List (Str × Addr)) (C : Addr) (code : Value) (fp : List Addr) (pn : List (Addr × Obj)), Room k A' → PG (gcx X A' s H (genEnv scope cl C code builtinsNs X.env) fp pn) tg g)
    (ht : ∀ (A' : Around) (s : Shared) (H : Hp) (cl : List (Str × Addr)) (C : Addr) (code : Value) (fp : List Addr) (pn : List (Addr × Obj)), Room k A' → PTs (gcx X A' s H (genEnv scope cl C code builtinsNs X.env) fp pn) ifs tt)
    (he : ∀ (A' : Around) (s : Shared) (H : Hp) (cl : List (Str × Addr)) (C : Addr) (code : Value) (fp : List Addr) (pn : List (Addr × Obj)), Room k A' → PE (gcx X A' s H (genEnv scope cl C code builtinsNs X.env) fp pn) elt te)
    (hs : ∀ v, genFold iter X.env v = pure v) (I : Inv X pins σ H s)
    (h : wi σ H fun J H1 => TabX H1 P ∧ ∀ H2, TabbedX P H1 H2 → ∃ W : Nat → Nat → Hp → Prop, (∃ m, W 0 m H2) ∧ Turns J g tt te (own.map (·.2)) (wipe σ (own.map (·.2))) W Qt (YdB go Qf))
    (hQ : ∀ (a : Addr) (gi n : Nat) (s5 : Shared) (Y : Cx) (gobj : Obj), Y.prog = X.prog ∧ Y.w = X.w → (a, gobj) ∈ Y.pn → (∀ s : Shared, s.heap.get? a = some gobj → s.heap.IsGen a gi) → s5.heap.IsGen a gi → s5.heap.NoLimit →
      (∃ gs, s5.gens[gi]? = some gs ∧ gs.Goes (model X.prog X.w) X.A.in1.in1 (RG Y (wipe σ (own.map (·.2))) Qt) (YG Y go Qf) n (.send .none) (s5.setGen gi .running)) →
      (∀ s₁ H σ2 s', Inv Y [] σ2 H s₁ → (∀ b o, s₁.heap.get? b = some o → s'.heap.get? b = some o) → s'.os = s₁.os → AllBare s'.gens → Inv X pins σ H s') → Q' (.ref a) s5) :
    wpAny (model X.prog X.w) X.A (eval (.GeneratorExp elt [⟨tg, iter, ifs, 0⟩] scope gpos) X.env) Q' X.xe s := by
  have hfree : ∀ y ∈ scope.names, y.2 = .free → ∃ c, X.env.cells.lookup y.1 = some c := fun y hy e => by
    rcases S.blk.free y hy e with k | k
    · exact I.ok.has _ (.inl k)
    · exact I.ok.has _ (.inr k)
  refine wpAny_GeneratorExp_make S.co (closure_ok hfree) S.cell S.dot S.blk.kind (by have := hr.dp; omega) ?_ hs
  refine thn (hi.run pins s σ H _ I h) fun v s1 h1 => thn h1 fun itv s2 h2 => ?_
  obtain ⟨it, fp, tn, J, H1, rfl, I1, T, st1, f1, ⟨ps, hP, htr, hall⟩, q1⟩ := h2
  have hPs : s2.heap.get? P = some { cls := .none, data := .fields ps } := I1.hok P _ hP
  have cd : PySem.W.CodeHd s2.heap c P := TB.code.keeps fun b u e => I1.bk b u e
  refine ⟨I1.nolimit, ?_⟩
  have nfP : ∀ b ∈ fp, b ≠ P := fun b hb z => by
    have := (f1 b hb).1
    rw [z, hP] at this
    cases this
  have cont : ∀ (code : Value) (h3 : Heap) (tk : Nat) (H2 : Hp), Heap.ExtBut P s2.heap h3 → s2.heap.objs.size ≤ h3.objs.size → Inv X pins σ H2 { s2 with heap := h3, toks := tk } → TabbedX P H1 H2 → (∀ b, b < s2.heap.objs.size → b ≠ P → H2 b = H1 b) →
      wpAny (model X.prog X.w) X.A (builtinsFor X.env.globals X.env.builtins) (fun bi s₄ =>
        ∀ h', h'.Ns s₄.heap.objs.size (fun y => if y = ".0" then some (.ref it) else none) → Heap.SameBut s₄.heap.objs.size (s₄.heap.push { cls := .type "frame", data := .dict #[] }) h' →
          Q' (.ref h'.objs.size) { s₄ with
            gens := s₄.gens.push (.fresh (.compStart (.GeneratorExp elt [⟨tg, iter, ifs, 0⟩] scope gpos) 0 (.ref it) .none (genEnv scope (cloFrom X.env.cells scope.names []) s₄.heap.objs.size code bi X.env))),
            toks := s₄.toks + 1 + 1 + 1,
            heap := h'.push { cls := .type "generator", data := .fields #[.int s₄.gens.size 0, .str "<genexpr>" (s₄.toks + 1), .str (X.env.qual ++ "<genexpr>") (s₄.toks + 1 + 1)] } }) X.xe { s2 with heap := h3, toks := tk } := by
    intro code h3 tk H2 hx hsz J2 hTb hEq
    obtain ⟨bm, ob, e1, e2, e3, e4, e5, e6, e7, e8⟩ := TB.bm
    refine wpAny_builtinsFor (m := X.mg) (by rw [I1.ok.glob]; exact (I1.mod.glob.keeps I1.bk).extBut hx TB.gP) e1 e2 (hx _ _ e4 (I1.bk _ _ e5)) e6 e7 e8 ?_
    intro h' hns hsb
    obtain ⟨W, ⟨m, w0⟩, hturn⟩ := q1 H2 hTb
    -- the new objects
    have szp : (h3.push { cls := .type "frame", data := .dict #[] }).objs.size = h3.objs.size + 1 := Heap.size_push ..
    have sz' : h'.objs.size = h3.objs.size + 1 := by rw [← szp]; exact hsb.1
    have kp : ∀ b o, h3.get? b = some o → (h'.push { cls := .type "generator", data := .fields #[.int s2.gens.size 0, .str "<genexpr>" (tk + 1), .str (X.env.qual ++ "<genexpr>") (tk + 1 + 1)] }).get? b = some o := fun b o e =>
      Heap.get?_push_of_some _ ((hsb.2 b (Nat.ne_of_lt (Heap.lt_size e))).trans (Heap.get?_push_of_some _ e))
    have f2 : ∀ b ∈ fp, FpOk X pins H2 b ∧ b < h3.objs.size := fun b hb => by
      obtain ⟨o, e, _⟩ := T.obj _ _ st1 b hb
      refine ⟨⟨by rw [hEq b (Heap.lt_size e) (nfP b hb)]; exact (f1 b hb).1, (f1 b hb).2⟩, Nat.lt_of_lt_of_le (Heap.lt_size e) hsz⟩
    have st3 : tn 0 h3 := T.keep _ _ _ st1 fun b hb o e => hx b o (nfP b hb) e
    obtain ⟨A', hA'⟩ : ∃ A', X.A.in1.in1.over (.compLoop (.GeneratorExp elt [⟨tg, iter, ifs, 0⟩] scope gpos) 0 (.ref it) .none (genEnv scope (cloFrom X.env.cells scope.names []) h3.objs.size code builtinsNs X.env)) [] = A' := ⟨_, rfl⟩
    have hroom : Room k A' := by rw [← hA']; exact room_gen hr
    have hfrm : A'.frames = some (genEnv scope (cloFrom X.env.cells scope.names []) h3.objs.size code builtinsNs X.env :: X.stack) := by
      have e : X.A.frames = some X.stack := I1.ok.frames
      rw [← hA']
      unfold Around.over
      dsimp only
      rw [e]
      rfl
    have start : ∀ gens' : Array GenState, AllBare gens' → ∀ tk', Inv (gcx X A' { s2 with heap := h3, toks := tk } H2 (genEnv scope (cloFrom X.env.cells scope.names []) h3.objs.size code builtinsNs X.env) fp [(h'.objs.size, _)]) [] (wipe σ (own.map (·.2))) H2
        { s2 with gens := gens', toks := tk', heap := h'.push { cls := .type "generator", data := .fields #[.int s2.gens.size 0, .str "<genexpr>" (tk + 1), .str (X.env.qual ++ "<genexpr>") (tk + 1 + 1)] } } := fun gens' hb tk' =>
      gen_start (code := code) J2 S.blk hN S.cell f2 hroom.hd rfl hfrm rfl hb kp (Heap.Ns.keeps hns fun b o e => Heap.get?_push_of_some _ e) (fun p hp => by
        rw [List.mem_singleton.mp hp]
        exact ⟨Heap.get?_push_size _ rfl, by show h3.objs.size < h'.objs.size; rw [sz']; exact Nat.lt_succ_self _, fun v z => by cases z⟩)
    have hgen : ∀ s : Shared, s.heap.get? h'.objs.size = some { cls := .type "generator", data := .fields #[.int s2.gens.size 0, .str "<genexpr>" (tk + 1), .str (X.env.qual ++ "<genexpr>") (tk + 1 + 1)] } → s.heap.IsGen h'.objs.size s2.gens.size := fun s e => ⟨_, _, _, e, rfl, rfl, rfl⟩
    refine hQ h'.objs.size s2.gens.size (m + 1) _ (gcx X A' { s2 with heap := h3, toks := tk } H2 (genEnv scope (cloFrom X.env.cells scope.names []) h3.objs.size code builtinsNs X.env) fp [(h'.objs.size, _)]) _ ⟨rfl, rfl⟩ (List.mem_singleton.mpr rfl) hgen (hgen _ (Heap.get?_push_size _ rfl)) (start #[] (fun _ z => by simp at z) 0).nolimit ⟨_, Array.getElem?_push_size, rfl, ?_⟩ fun s₁ Hz σ2 s' Iz ext hos hbz => ?_
    · have bare5 : AllBare (s2.gens.push (.fresh (.compStart (.GeneratorExp elt [⟨tg, iter, ifs, 0⟩] scope gpos) 0 (.ref it) .none (genEnv scope (cloFrom X.env.cells scope.names []) h3.objs.size code builtinsNs X.env)))) := I1.bare.push rfl
      have hst : ∀ H : Hp, (∀ b ∈ fp, H b = none) → ∀ b ∈ fp, FpOk (gcx X A' { s2 with heap := h3, toks := tk } H2 (genEnv scope (cloFrom X.env.cells scope.names []) h3.objs.size code builtinsNs X.env) fp [(h'.objs.size, _)]) [] H b := fun Hq hq b hb => by
        have ok := (start s2.gens I1.bare 0).ok
        refine ⟨hq b hb, (ok.exf b hb).1, ok.exfs b hb, .inl hb, (ok.exf b hb).2, fun p hp => ?_⟩
        rw [List.append_nil] at hp
        rw [List.mem_singleton.mp hp]
        show h'.objs.size ≠ b
        have := (f2 b hb).2
        rw [sz']
        exact Nat.ne_of_gt (Nat.lt_succ_of_lt this)
      have wf : wipe (wipe σ (own.map (·.2))) (own.map (·.2)) = wipe σ (own.map (·.2)) := wipe_wipe _ _
      exact seg_gx0 hA' hc S.co T hst wf (hg _ _ _ _ _ _ _ _ hroom) (ht _ _ _ _ _ _ _ _ hroom) (he _ _ _ _ _ _ _ _ hroom) hturn m _ _ _ (start _ (allBare_setGen (s := { s2 with gens := _ }) bare5 rfl) _) (T.keep _ _ _ st3 fun b hb o e => kp b o e) (fun b hb => (f2 b hb).1.1) w0
    · have u : Un (frs X.stack) fp H2 Hz h3 s'.heap := Iz.base.trans (Un.kept ext)
      refine J2.call' (s' := s') (hos.trans Iz.os) u (Iz.hok.kept ext) hbz fun b hb => ?_
      obtain ⟨⟨_, a1, _, a3, a4, a5⟩, _⟩ := f2 b hb
      exact ⟨a3, a1, a4, a5⟩
  cases hf : codeAmong gpos ps.toList with
  | none =>
    refine wpAny_genexprCodeX hcode (cd.code hPs htr) (cd.tab hPs) hf fun c' h' tk hx hge hlt hco' hrec htab' _ => ?_
    obtain ⟨c2, oc, vs, t, e2, hoc, hd, hv⟩ := hrec
    cases e2
    have I3 := LamX.inv_table (t' := tk) (more := #[rawInt gpos.line, rawInt gpos.col, .ref c']) I1 hP (fun b u hb e => hx b u hb e) htab'.2 hge ⟨oc, vs, t, hoc, hd, hv⟩
    exact cont _ h' tk _ hx (Nat.le_trans hge (Nat.le_of_lt hlt)) I3 (tabX_new hP htr hall (I1.hok.fresh hge)) fun b hb hp => by rw [upd_ne (Nat.ne_of_lt (Nat.lt_of_lt_of_le hb hge)), upd_ne hp]
  | some cv =>
    refine wpAny_genexprCode_hit hcode (cd.code hPs htr) hf ?_
    exact cont cv s2.heap s2.toks H1 (Heap.ExtBut.refl _ _) (Nat.le_refl _) I1 (TabbedX.same ⟨ps, hP, htr, hall⟩) fun _ _ _ => rfl
end
end Gx
set_option Elab.async false
set_option linter.all false
set_option maxRecDepth 100000
set_option maxHeartbeats 2000000
namespace Gx
open PySem PySem.Spec PyProof.Rows L2 GenW GxR
/-- all(e for x in ..) (go true), any(..) (go false) -/
def tGen (P : Addr) (go : Bool) (wi : TI) (g : TG) (tt : TT) (te : TE) (vs : List Nat) : TE := fun σ H Q => wi σ H fun J H1 => TabX H1 P ∧ ∀ H2, TabbedX P H1 H2 →
  ∃ W : Nat → Nat → Hp → Prop, (∃ m, W 0 m H2) ∧ Turns J g tt te vs (wipe σ vs) W (fun H => Q (.bl go) H) (YdB go fun H => Q (.bl (!go)) H)
section
variable {X : Cx} {c P : Addr} {elt tg iter : Expr} {ifs : List Expr} {scope : Scope} {own : List (Str × Nat)} {p pos gpos : Pos} {wi : TI} {g : TG} {tt : TT} {te : TE} {k : Nat}
theorem pe_allG (hc : X.calm = true) (hr : Room (k + 1) X.A) (hN : X.N.Nodup) (hgl : Gl X "all") (hm : X.mg "all" = none) (hb : bootBuiltins "all" = some (.builtin "all")) (TB : TabB X.base X.mg c P) (hcode : X.env.code = .ref c) (S : GenOk X.env X.N scope own) (hi : PI X tg iter wi)
    (hg : ∀ (A' : Around) (s : Shared) (H : Hp) (cl : List (Str × Addr)) (C : Addr) (code : Value) (fp : List Addr) (pn : List (Addr × Obj)), Room k A' → PG (gcx X A' s H (genEnv scope cl C code builtinsNs X.env) fp pn) tg g)
    (ht : ∀ (A' : Around) (s : Shared) (H : Hp) (cl : List (Str × Addr)) (C : Addr) (code : Value) (fp : List Addr) (pn : List (Addr × Obj)), Room k A' → PTs (gcx X A' s H (genEnv scope cl C code builtinsNs X.env) fp pn) ifs tt)
    (he : ∀ (A' : Around) (s : Shared) (H : Hp) (cl : List (Str × Addr)) (C : Addr) (code : Value) (fp : List Addr) (pn : List (Addr × Obj)), Room k A' → PE (gcx X A' s H (genEnv scope cl C code builtinsNs X.env) fp pn) elt te)
    (hs : ∀ v, genFold iter X.env v = pure v := by intro _; rfl)
    (hst : starEach [.GeneratorExp elt [⟨tg, iter, ifs, 0⟩] scope gpos] X.env = (false, eval (.GeneratorExp elt [⟨tg, iter, ifs, 0⟩] scope gpos) X.env) :: starEach [] X.env := by rfl) :
    PE X (.Call (.Name "all" p) [.GeneratorExp elt [⟨tg, iter, ifs, 0⟩] scope gpos] [] pos) (tGen P true wi g tt te (own.map (·.2))) := by
  refine ⟨fun pins s σ H Q I h => ?_⟩
  refine wpAny_Call_Name_kw (ld_blt I hgl hm hb ?_)
  refine PyProof.Rows.callWith_builtin1 ?_ hst (by rfl)
  rw [hst]
  show wpAny _ _ (spliced ((false, eval (.GeneratorExp elt [⟨tg, iter, ifs, 0⟩] scope gpos) X.env) :: backTo pos (starEach [] X.env))) _ _ s
  refine Calls.spliced_cons (gen_ready hc hr hN TB hcode S hi hg ht he hs I h fun a gi n s5 Y gobj hY hpn hgo hg5 hl5 hgoes back => ?_)
  refine Calls.spliced_nil ?_
  refine call_function_tree F.kind_all F.plain_all F.entry_all (F.args_all1 _) ?_
  unfold Builtin.«all»
  refine wpAny_bind (m := oneArg "all" _) (wpAny_pure ?_)
  refine wpAny_bind (wpAny_pyIter_gen hg5 ?_)
  exact wpAny_pure ⟨plainId_quiet F.plain_all_loop _, all_loop hY hr.hd hr.depth hpn hgo (fun s₁ Hz s' Iz q ext hos hb => ⟨.bl true, Hz, back s₁ Hz _ s' Iz ext hos hb, rfl, q⟩) (fun s₁ Hz σ2 s' Iz q ext hos hb => ⟨.bl false, Hz, back s₁ Hz σ2 s' Iz ext hos hb, rfl, q⟩) n s5 hg5 hl5 hgoes⟩
theorem pe_anyG (hc : X.calm = true) (hr : Room (k + 1) X.A) (hN : X.N.Nodup) (hgl : Gl X "any") (hm : X.mg "any" = none) (hb : bootBuiltins "any" = some (.builtin "any")) (TB : TabB X.base X.mg c P) (hcode : X.env.code = .ref c) (S : GenOk X.env X.N scope own) (hi : PI X tg iter wi)
    (hg : ∀ (A' : Around) (s : Shared) (H : Hp) (cl : List (Str × Addr)) (C : Addr) (code : Value) (fp : List Addr) (pn : List (Addr × Obj)), Room k A' → PG (gcx X A' s H (genEnv scope cl C code builtinsNs X.env) fp pn) tg g)
    (ht : ∀ (A' : Around) (s : Shared) (H : Hp) (cl : List (Str × Addr)) (C : Addr) (code : Value) (fp : List Addr) (pn : List (Addr × Obj)), Room k A' → PTs (gcx X A' s H (genEnv scope cl C code builtinsNs X.env) fp pn) ifs tt)
    (he : ∀ (A' : Around) (s : Shared) (H : Hp) (cl : List (Str × Addr)) (C : Addr) (code : Value) (fp : List Addr) (pn : List (Addr × Obj)), Room k A' → PE (gcx X A' s H (genEnv scope cl C code builtinsNs X.env) fp pn) elt te)
    (hs : ∀ v, genFold iter X.env v = pure v := by intro _; rfl)
    (hst : starEach [.GeneratorExp elt [⟨tg, iter, ifs, 0⟩] scope gpos] X.env = (false, eval (.GeneratorExp elt [⟨tg, iter, ifs, 0⟩] scope gpos) X.env) :: starEach [] X.env := by rfl) :
    PE X (.Call (.Name "any" p) [.GeneratorExp elt [⟨tg, iter, ifs, 0⟩] scope gpos] [] pos) (tGen P false wi g tt te (own.map (·.2))) := by
  refine ⟨fun pins s σ H Q I h => ?_⟩
  refine wpAny_Call_Name_kw (ld_blt I hgl hm hb ?_)
  refine PyProof.Rows.callWith_builtin1 ?_ hst (by rfl)
  rw [hst]
  show wpAny _ _ (spliced ((false, eval (.GeneratorExp elt [⟨tg, iter, ifs, 0⟩] scope gpos) X.env) :: backTo pos (starEach [] X.env))) _ _ s
  refine Calls.spliced_cons (gen_ready hc hr hN TB hcode S hi hg ht he hs I h fun a gi n s5 Y gobj hY hpn hgo hg5 hl5 hgoes back => ?_)
  refine Calls.spliced_nil ?_
  refine call_function_tree F.kind_any F.plain_any F.entry_any (F.args_any1 _) ?_
  unfold Builtin.«any»
  refine wpAny_bind (m := oneArg "any" _) (wpAny_pure ?_)
  refine wpAny_bind (wpAny_pyIter_gen hg5 ?_)
  exact wpAny_pure ⟨plainId_quiet F.plain_any_loop _, any_loop hY hr.hd hr.depth hpn hgo (fun s₁ Hz s' Iz q ext hos hb => ⟨.bl false, Hz, back s₁ Hz _ s' Iz ext hos hb, rfl, q⟩) (fun s₁ Hz σ2 s' Iz q ext hos hb => ⟨.bl true, Hz, back s₁ Hz σ2 s' Iz ext hos hb, rfl, q⟩) n s5 hg5 hl5 hgoes⟩
end
end Gx
set_option Elab.async false
set_option linter.all false
set_option maxRecDepth 100000
set_option maxHeartbeats 2000000
/-! sum(1 for .. in .. if ..) -/
namespace Gx
open PySem PySem.Spec PyProof.Rows L2 GenW GxR
/-- slept while the adder wrote its own list at Sa -/
structure WokeS (Sa : Addr) (s s' : Shared) : Prop where
  keep : ∀ b o, b ≠ Sa → s.heap.get? b = some o → s'.heap.get? b = some o
  at_ : ∃ o, s'.heap.get? Sa = some o ∧ ∀ v, o.data ≠ .cell v
  os : s'.os = s.os
  bare : AllBare s'.gens
def TurnsS (J : It) (g : TG) (tt : TT) (te : TE) (vs : List Nat) (σ0 : L2.St) (W : Nat → Nat → Nat → Hp → Prop) (Qt : Nat → Hp → Prop) : Prop :=
  ∀ i m n H, W i m n H → (J.stop i H ∧ Qt n H) ∨ (J.go i H ∧ ∃ Nx : Nat → Hp → Prop, (∀ n' H', Nx n' H' → ∃ m', m' < m ∧ W (i + 1) m' n' H') ∧ ∀ x H', J.yld i H x H' → g x σ0 H' fun σ2 H2 => wipe σ2 vs = σ0 ∧ tt σ2 H2 fun b H3 => if b = true then te σ2 H3 fun y H4 => y = .int 1 ∧ ∃ n', n = n' + 1 ∧ Nx n' H4 else Nx n H3)
abbrev RS (Y : Cx) (σ0 : L2.St) (Sa : Addr) (Qt : Nat → Hp → Prop) : GenEnd := fun n s₀ r s₁ => ((r = .ok (.ret .none) ∨ r = .ok .next) ∧ (s₁.heap.get? Sa = s₀.heap.get? Sa ∧ ∃ H, Inv Y [] σ0 H s₁ ∧ H Sa = none ∧ Qt n H)) ∨ ∃ e, r = .error e ∧ False
abbrev YS (Y : Cx) (Sa : Addr) : Protocol := fun n s₀ v s kap => ∃ H σ2 t, v = .int 1 t ∧ Inv Y [] σ2 H s ∧ H Sa = none ∧ s.heap.get? Sa = s₀.heap.get? Sa ∧ (∃ o, s.heap.get? Sa = some o ∧ ∀ v, o.data ≠ .cell v) ∧ ∀ s', WokeS Sa s s' → kap (.send .none) s'
theorem hok_but {P : Program} {w : World} {H : Hp} {h h' : Heap} {Sa : Addr} (x : HOk P w H h) (hS : H Sa = none) (k : ∀ b o, b ≠ Sa → h.get? b = some o → h'.get? b = some o) : HOk P w H h' := fun a o e =>
  (x a o e).stay (fun b u hb q => k b u (fun z => by
    rcases hb with hb | hb
    · rw [← hb, z, hS] at e; cases e
    · rw [z, hS] at hb; cases hb) q) (fun _ q => q) fun _ _ q => q
theorem inv_wokeS {Y : Cx} {σ : L2.St} {H : Hp} {s s' : Shared} {Sa : Addr} (I : Inv Y [] σ H s) (hS : H Sa = none) (hf : FpOk Y [] H Sa) (wk : WokeS Sa s s') : Inv Y [] σ H s' := by
  refine I.call' (ch := [Sa]) wk.os ⟨fun b o e _ _ hb => wk.keep b o (fun z => hb (List.mem_singleton.mpr z)) e, fun b o e _ _ hb => ⟨o.slots, wk.keep b o (fun z => hb (List.mem_singleton.mpr z)) e⟩, fun b o _ h _ => h, fun b o e hb => ⟨o, wk.keep b o (fun z => hb (List.mem_singleton.mpr z)) e⟩, fun _ _ h => h, fun _ _ _ h => h, fun b ps h => ⟨#[], by rw [Array.append_empty]; exact h⟩⟩ (hok_but I.hok hS wk.keep) wk.bare fun b hb => ?_
  rw [List.mem_singleton.mp hb]
  obtain ⟨_, a1, _, a3, a4, a5⟩ := hf
  exact ⟨a3, a1, a4, a5⟩
section
variable {X : Cx} {A' B : Around} {s4 : Shared} {H4 : Hp} {cenv : Env} {fp : List Addr} {pn : List (Addr × Obj)} {it Sa : Addr} {tn : Nat → Heap → Prop} {J : It} {elt tg iter : Expr} {ifs : List Expr} {scope : Scope} {pos : Pos} {g : TG} {tt : TT} {te : TE} {vs : List Nat} {σ0 : L2.St} {W : Nat → Nat → Nat → Hp → Prop} {Qt : Nat → Hp → Prop}
theorem seg_sx (hA : B.over (.compLoop (.GeneratorExp elt [⟨tg, iter, ifs, 0⟩] scope pos) 0 (.ref it) .none cenv) [] = A') (hc : X.calm = true) (hco : cenv.scope.isCoroutine = false) (T : Turn X.prog X.w X.K tg J fp it tn)
    (hst : ∀ (pl : List (Addr × Obj)) (H : Hp), (∀ p ∈ pl, p.1 = Sa) → (∀ b ∈ fp, H b = none) → ∀ b ∈ fp, FpOk (gcx X A' s4 H4 cenv fp pn) pl H b) (hSf : Sa ∉ fp) (hSo : ∀ H : Hp, H Sa = none → FpOk (gcx X A' s4 H4 cenv fp pn) [] H Sa) (hσ : wipe σ0 vs = σ0)
    (hg : PG (gcx X A' s4 H4 cenv fp pn) tg g) (ht : PTs (gcx X A' s4 H4 cenv fp pn) ifs tt) (he : PE (gcx X A' s4 H4 cenv fp pn) elt te) (hturn : TurnsS J g tt te vs σ0 W Qt) :
    ∀ (m n i : Nat) (H : Hp) (s₀ s : Shared), Inv (gcx X A' s4 H4 cenv fp pn) [] σ0 H s → H Sa = none → (∃ o, s.heap.get? Sa = some o ∧ ∀ v, o.data ≠ .cell v) → s.heap.get? Sa = s₀.heap.get? Sa → tn i s.heap → (∀ b ∈ fp, H b = none) → W i m n H →
      Seg (model X.prog X.w) B (RS (gcx X A' s4 H4 cenv fp pn) σ0 Sa Qt) (YS (gcx X A' s4 H4 cenv fp pn) Sa) n s₀ (.compLoop (.GeneratorExp elt [⟨tg, iter, ifs, 0⟩] scope pos) 0 (.ref it) .none cenv)
        ((model X.prog X.w).den (.compLoop (.GeneratorExp elt [⟨tg, iter, ifs, 0⟩] scope pos) 0 (.ref it) .none cenv)) [] s := by
  intro m
  induction m using Nat.strongRecOn with
  | _ m ih =>
  intro n i H s₀ s I hSn hSe hS0 st fr w
  show Seg _ B _ _ _ s₀ _ ((compTurn (.GeneratorExp elt [⟨tg, iter, ifs, 0⟩] scope pos) 0 (.ref it) .none cenv).onRaise (leaving cenv)) [] s
  rw [compTurn_gen, Sem.onRaise_eq_wrap]
  refine seg_bind_wrap (wpAny_standAt ?_)
  obtain ⟨o, ho, hoc⟩ := hSe
  have I0 : Inv (gcx X A' s4 H4 cenv fp pn) ([] ++ pinsAt [Sa] s.heap) σ0 H s := I.pinned (fun b hb => by rw [List.mem_singleton.mp hb]; exact hSo H hSn) (fun b hb => by rw [List.mem_singleton.mp hb]; exact ⟨o, ho, hoc⟩)
  have pl : ∀ p ∈ ([] ++ pinsAt [Sa] s.heap : List (Addr × Obj)), p.1 = Sa := fun p hp => by
    rw [List.nil_append] at hp
    exact List.mem_singleton.mp (of_pinsAt hp).1
  have mS : (Sa, o) ∈ ([] ++ pinsAt [Sa] s.heap : List (Addr × Obj)) := by
    rw [List.nil_append]
    exact mem_pinsAt (List.mem_singleton.mpr rfl) ho
  rcases hturn i m n H w with ⟨stop, qn⟩ | ⟨goes, Nx, hN, step⟩
  · refine seg_bind_wrap ?_
    rw [hA]
    refine wpAny_mono (T.done (gcx X A' s4 H4 cenv fp pn) rfl rfl rfl hc i _ s σ0 H _ I0 (hst _ H pl fr) st stop) (fun r s1 hr => ?_) fun _ _ e => e
    obtain ⟨rfl, I1⟩ := hr
    have q := I1.pin (Sa, o) (List.mem_append_right _ mS)
    exact seg_end (.ok .next) (.inl ⟨.inr rfl, by rw [q.1, ← hS0, ho], H, I1.unpinned, hSn, qn⟩)
  · refine seg_bind_wrap ?_
    rw [hA]
    refine wpAny_mono (T.item (gcx X A' s4 H4 cenv fp pn) rfl rfl rfl hc i _ s σ0 H _ I0 (hst _ H pl fr) st goes) (fun r s1 hr => ?_) fun _ _ e => e
    obtain ⟨u, rfl, h1⟩ := hr
    refine seg_bind_wrap ?_
    rw [hA]
    refine wpAny_mono h1 (fun _ s2 h2 => ?_) fun _ _ e => e
    obtain ⟨x, H2, I2, rx, yl, st2, fr2⟩ := h2
    have I2' := I2.pinned (hst _ H2 pl fr2) (T.obj _ _ st2)
    refine seg_bind_wrap ?_
    rw [hA]
    refine wpAny_mono (hg.run _ s2 σ0 H2 x u _ I2' rx (step x H2 yl)) (fun _ s3 h3 => ?_) fun _ _ e => e.elim
    obtain ⟨σ3, H3, I3, hw3, q3⟩ := h3
    have keeps : ∀ {σ' : L2.St} {H' : Hp} {s' : Shared}, Inv (gcx X A' s4 H4 cenv fp pn) (([] ++ pinsAt [Sa] s.heap) ++ pinsAt fp s2.heap) σ' H' s' → (tn (i + 1) s'.heap ∧ ∀ b ∈ fp, H' b = none) ∧ s'.heap.get? Sa = some o ∧ H' Sa = none := fun {σ' H' s'} I' =>
      ⟨⟨T.keep _ _ _ st2 fun b hb o e => (I'.pin (b, o) (List.mem_append_right _ (List.mem_append_right _ (mem_pinsAt hb e)))).1, fun b hb => by
        obtain ⟨o, e, _⟩ := T.obj _ _ st2 b hb
        exact (I'.pin (b, o) (List.mem_append_right _ (List.mem_append_right _ (mem_pinsAt hb e)))).2.1⟩, by
        have q := I'.pin (Sa, o) (List.mem_append_right _ (List.mem_append_left _ mS))
        exact ⟨q.1, q.2.1⟩⟩
    have back : ∀ {H' : Hp} {s' : Shared}, Inv (gcx X A' s4 H4 cenv fp pn) (([] ++ pinsAt [Sa] s.heap) ++ pinsAt fp s2.heap) σ3 H' s' → Inv (gcx X A' s4 H4 cenv fp pn) [] σ0 H' s' := fun {H' s'} I' => by
      refine (I'.unpinned).unpinned.weak ?_ fun j v e => ?_
      · rw [← hw3, wipe_length]
      · rw [← hw3] at e
        exact (wipe_some e).1
    refine seg_bind_wrap ?_
    rw [hA]
    refine wpAny_mono (ht.run _ s3 σ3 H3 _ I3 q3) (fun b s5 h5 => ?_) fun _ _ e => e.elim
    obtain ⟨H5, I5, q5⟩ := h5
    cases b with
    | false =>
      simp only [Bool.false_eq_true, if_false]
      obtain ⟨m', hm, w'⟩ := hN n H5 q5
      obtain ⟨⟨k1, k2⟩, k3, k4⟩ := keeps I5
      exact seg_again rfl (ih m' hm n (i + 1) H5 s₀ s5 (back I5) k4 ⟨o, k3, hoc⟩ (by rw [k3, ← hS0, ho]) k1 k2 w')
    | true =>
      simp only [if_true]
      have hy : ∀ v, yieldOut cenv v = yieldValue v := fun v => by simp only [yieldOut, hco, Bool.false_eq_true, if_false]
      simp only [hy]
      rw [Sem.bind_eq_wrap', Sem.bind_eq_wrap', Sem.wrap_wrap, Sem.wrap_wrap]
      refine seg_wrap ?_
      rw [hA]
      refine wpAny_mono (he.run _ s5 σ3 H5 _ I5 q5) (fun v s6 h6 => ?_) fun _ _ e => e.elim
      obtain ⟨y, H6, I6, ry, rfl, n', rfl, q6⟩ := h6
      obtain ⟨t, rfl⟩ := ry
      obtain ⟨⟨k1, k2⟩, k3, k4⟩ := keeps I6
      obtain ⟨m', hm, w'⟩ := hN n' H6 q6
      refine seg_at (seg_yield rfl rfl rfl ⟨H6, σ3, t, rfl, I6.unpinned.unpinned, k4, by rw [k3, ← hS0, ho], ⟨o, k3, hoc⟩, fun s' wk => ?_⟩)
      exact seg_again rfl (ih m' hm n' (i + 1) H6 s' s' (inv_wokeS (back I6) k4 (hSo H6 k4) wk) k4 wk.at_ rfl (T.keep _ _ _ k1 fun b hb o e => wk.keep b o (fun z => hSf (z ▸ hb)) e) k2 w')
theorem seg_sx0 (hA : B.over (.compLoop (.GeneratorExp elt [⟨tg, iter, ifs, 0⟩] scope pos) 0 (.ref it) .none cenv) [] = A') (hc : X.calm = true) (hco : cenv.scope.isCoroutine = false) (T : Turn X.prog X.w X.K tg J fp it tn)
    (hst : ∀ (pl : List (Addr × Obj)) (H : Hp), (∀ p ∈ pl, p.1 = Sa) → (∀ b ∈ fp, H b = none) → ∀ b ∈ fp, FpOk (gcx X A' s4 H4 cenv fp pn) pl H b) (hSf : Sa ∉ fp) (hSo : ∀ H : Hp, H Sa = none → FpOk (gcx X A' s4 H4 cenv fp pn) [] H Sa) (hσ : wipe σ0 vs = σ0)
    (hg : PG (gcx X A' s4 H4 cenv fp pn) tg g) (ht : PTs (gcx X A' s4 H4 cenv fp pn) ifs tt) (he : PE (gcx X A' s4 H4 cenv fp pn) elt te) (hturn : TurnsS J g tt te vs σ0 W Qt)
    (m n : Nat) (H : Hp) (s : Shared) (I : Inv (gcx X A' s4 H4 cenv fp pn) [] σ0 H s) (hSn : H Sa = none) (hSe : ∃ o, s.heap.get? Sa = some o ∧ ∀ v, o.data ≠ .cell v) (st : tn 0 s.heap) (fr : ∀ b ∈ fp, H b = none) (w : W 0 m n H) :
      Seg (model X.prog X.w) B (RS (gcx X A' s4 H4 cenv fp pn) σ0 Sa Qt) (YS (gcx X A' s4 H4 cenv fp pn) Sa) n s (.compStart (.GeneratorExp elt [⟨tg, iter, ifs, 0⟩] scope pos) 0 (.ref it) .none cenv)
        ((model X.prog X.w).den (.compStart (.GeneratorExp elt [⟨tg, iter, ifs, 0⟩] scope pos) 0 (.ref it) .none cenv)) [] s := by
  have loop := seg_sx hA hc hco T hst hSf hSo hσ hg ht he hturn m n 0 H s s I hSn hSe rfl st fr w
  show Seg _ B _ _ _ s _ ((compStart (.GeneratorExp elt [⟨tg, iter, ifs, 0⟩] scope pos) 0 (.ref it) .none cenv).onRaise (leaving cenv)) [] s
  unfold compStart
  rw [Sem.onRaise_eq_wrap]
  show Seg _ B _ _ _ s _ ((ask >>= _).wrap _ _ _ _) [] s
  refine seg_bind_wrap (wpAny_askSetting ?_)
  split
  · exact seg_again rfl loop
  · first
      | exact seg_bind_wrap (wpAny_rule (seg_bind_wrap (wpAny_standAt (seg_bind_wrap (T.self _ 0 s _ _ st (seg_again rfl loop))))))
      | (refine seg_bind_wrap (wpAny_rule ?_); show Seg _ B _ _ _ s _ ((standAt iter.pos >>= _).wrap _ _ _ _) [] s; exact seg_bind_wrap (wpAny_standAt (seg_bind_wrap (T.self _ 0 s _ _ st (seg_again rfl loop)))))
end
end Gx
set_option Elab.async false
set_option linter.all false
set_option maxRecDepth 100000
set_option maxHeartbeats 2000000
namespace Gx
open PySem PySem.Spec PyProof.Rows L2 GenW GxR
theorem fits_small (a : Int) (h1 : 0 ≤ a) (h2 : a ≤ 1000000) : ((decide (-(2 ^ 63) ≤ (1 : Int)) && decide ((1 : Int) < 2 ^ 63)) && (decide (-(2 ^ 63) ≤ a + 1) && decide (a + 1 < 2 ^ 63))) = true := by
  rw [decide_eq_true (by omega : -(2 ^ 63) ≤ a + 1), decide_eq_true (by omega : a + 1 < 2 ^ 63)]
  decide
section
variable {P : Program} {w : World} {Y : Cx} {σ0 : L2.St} {Qt : Nat → Hp → Prop} {A : Around} {R : Result → Shared → Prop} {a Sa : Addr} {g N : Nat} {gobj : Obj}
theorem sum_loop (hh : A.handled = none) (hd : A.depth < recursionLimit) (hp : (a, gobj) ∈ Y.pn) (hgo : ∀ s : Shared, s.heap.get? a = some gobj → s.heap.IsGen a g) (haS : a ≠ Sa) (hN : N ≤ 100000) (hSb : Y.base.get? Sa = none)
    (hT : ∀ s₁ H s' n t, Inv Y [] σ0 H s₁ → H Sa = none → Qt n H → (∀ b o, s₁.heap.get? b = some o → s'.heap.get? b = some o) → s'.os = s₁.os → AllBare s'.gens → R (.ok (.ret (.int ((N : Int) - (n : Int)) t))) s') :
    ∀ (n : Nat) (s : Shared) (t : Tok) (c : Nat), n ≤ N → s.heap.IsGen a g → s.heap.NoLimit → s.heap.get? Sa = some { cls := .type "list", dict := none, data := .seq #[.int ((N : Int) - (n : Int)) t] c, slots := #[] } →
      (∃ gs, s.gens[g]? = some gs ∧ gs.Goes (model P w) A.in1.in1 (RS Y σ0 Sa Qt) (YS Y Sa) n (.send .none) (s.setGen g .running)) →
      codeAny (model P w) A (.builtin "sum.loop" ⟨[.ref a, .ref Sa, rawInt 0, rawInt 0], []⟩) R s := by
  intro n
  induction n with
  | zero =>
    intro s t c hnN hg hl hS ⟨gs, hgs, hgoes⟩
    refine codeAny_builtin F.entry_sum_loop ?_
    rw [Around.under_plainId F.plain_sum_loop _]
    show wpAny _ A.in1 (seqItems? (.ref Sa) >>= _) _ _ s
    refine wpAny_bind (wpAny_seqItems hS rfl ?_)
    show wpAny _ A.in1 (tryCatch (pyNext (.ref a)) _ >>= _) _ _ s
    refine wpAny_bind (wpAny_tryCatch (next_genG (A := A.in1) hh hl hd hg hgs hgoes (fun v s₁ gs' hbare hv => ?_) (fun s₁ hq h' hk => ?_) fun e s₁ he => he.elim))
    · obtain ⟨H, σ2, t2, rfl, I, hSn, hS0, hSe, h2⟩ := hv
      exact (h2 s₁ ⟨fun _ _ _ e => e, hSe, rfl, I.bare⟩).elim
    · obtain ⟨hS0, H, I, hSn, q⟩ := hq
      exact wpAny_pure (hT s₁ H _ 0 t I hSn q hk rfl (allBare_setGen I.bare rfl))
  | succ n ih =>
    intro s t c hnN hg hl hS ⟨gs, hgs, hgoes⟩
    have hgl : g < s.gens.size := (Array.getElem?_eq_some_iff.mp hgs).1
    refine codeAny_builtin F.entry_sum_loop ?_
    rw [Around.under_plainId F.plain_sum_loop _]
    show wpAny _ A.in1 (seqItems? (.ref Sa) >>= _) _ _ s
    refine wpAny_bind (wpAny_seqItems hS rfl ?_)
    show wpAny _ A.in1 (tryCatch (pyNext (.ref a)) _ >>= _) _ _ s
    refine wpAny_bind (wpAny_tryCatch (wpAny_gsz (n := g + 1) hgl (next_genG (A := A.in1) hh hl hd hg hgs hgoes (fun v s₁ gs' hbare hv => ?_) (fun s₁ hq h' hk => ?_) fun e s₁ he => he.elim)))
    · intro hsz
      obtain ⟨H, σ2, t2, rfl, I, hSn, hS0, hSe, h2⟩ := hv
      have hsz1 : g < s₁.gens.size := by
        have q : (s₁.setGen g gs').gens.size = s₁.gens.size := setGen_size _ _ _
        have hsz' : g + 1 ≤ (s₁.setGen g gs').gens.size := hsz
        omega
      have hS1 : (s₁.setGen g gs').heap.get? Sa = some { cls := .type "list", dict := none, data := .seq #[.int ((N : Int) - ((n + 1 : Nat) : Int)) t] c, slots := #[] } := hS0.trans hS
      show wpAny _ A.in1 (if (_ : Bool) = true then (mkInt (((N : Int) - ((n + 1 : Nat) : Int)) + 1) >>= _) else _) _ _ _
      split
      · rw [show ((N : Int) - ((n + 1 : Nat) : Int)) + 1 = (N : Int) - (n : Int) by omega]
        refine wpAny_bind (wpAny_mkInt ?_)
        show wpAny _ A.in1 (updateSeq Sa (fun _ => #[.int ((N : Int) - (n : Int)) s₁.toks]) >>= _) _ _ _
        refine wpAny_bind ?_
        have kb : ∀ b o, b ≠ Sa → (s₁.setGen g gs').heap.get? b = some o → ((s₁.setGen g gs').heap.update Sa (Obj.mapSeq fun _ => #[Value.int ((N : Int) - (n : Int)) s₁.toks])).get? b = some o := fun b o hb e => (Heap.get?_update_other _ _ (fun h : Sa = b => hb h.symm)).trans e
        refine wpAny_updateSeq hS1 rfl (wpAny_pure ⟨plainId_quiet F.plain_sum_loop _, ih _ s₁.toks _ (by omega) ?_ ?_ (Heap.get?_update_self _ hS1 rfl) ⟨gs', setGen_at hsz1, ?_⟩⟩)
        · have q := hgo _ (I.pin (a, gobj) (List.mem_append_left _ hp)).1
          exact hgo _ (kb a gobj haS (I.pin (a, gobj) (List.mem_append_left _ hp)).1)
        · exact I.ok.mod.nolimit.keeps fun b o e => kb b o (fun z => by rw [z, hSb] at e; cases e) (I.bk b o e)
        · refine h2 _ ⟨fun b o hb e => kb b o hb e, ⟨_, Heap.get?_update_self _ hS1 rfl, fun v z => by cases z⟩, rfl, ?_⟩
          exact allBare_setGen (s := s₁.setGen g gs') (allBare_setGen I.bare hbare) rfl
      · rename_i hno
        exact absurd (fits_small ((N : Int) - ((n + 1 : Nat) : Int)) (by omega) (by omega)) hno
    · intro hsz
      obtain ⟨hS0, H, I, hSn, q⟩ := hq
      exact wpAny_pure (hT s₁ H _ (n + 1) t I hSn q hk rfl (allBare_setGen I.bare rfl))
end
end Gx
set_option Elab.async false
set_option linter.all false
set_option maxRecDepth 100000
set_option maxHeartbeats 2000000
namespace Gx
open PySem PySem.Spec PyProof.Rows L2 GenW GxR
theorem inv_more {Y : Cx} {σ : L2.St} {H : Hp} {s s' : Shared} (I : Inv Y [] σ H s) (k : ∀ b o, s.heap.get? b = some o → s'.heap.get? b = some o) (ho : s'.os = s.os) (hb : AllBare s'.gens) : Inv Y [] σ H s' :=
  I.call' (ch := []) ho (Un.kept k) (I.hok.kept k) hb fun b hb => nomatch hb
section
variable {X : Cx} {pins : List (Addr × Obj)} {σ : L2.St} {H : Hp} {s : Shared}
theorem gen_readyS {c P : Addr} {elt tg iter : Expr} {ifs : List Expr} {scope : Scope} {own : List (Str × Nat)} {gpos : Pos} {wi : TI} {g : TG} {tt : TT} {te : TE} {k : Nat} {Q' : Value → Shared → Prop} {Qt : Nat → Nat → Hp → Prop}
    (hc : X.calm = true) (hr : Room (k + 1) X.A) (hN : X.N.Nodup) (TB : TabB X.base X.mg c P) (hcode : X.env.code = .ref c) (S : GenOk X.env X.N scope own) (hi : PI X tg iter wi)
    (hg : ∀ (A' : Around) (s : Shared) (H : Hp) (cl : List (Str × Addr)) (C : Addr) (code : Value) (fp : List Addr) (pn : List (Addr × Obj)), Room k A' → PG (gcx X A' s H (genEnv scope cl C code builtinsNs X.env) fp pn) tg g)
    (ht : ∀ (A' : Around) (s : Shared) (H : Hp) (cl : List (Str × Addr)) (C : Addr) (code : Value) (fp : List Addr) (pn : List (Addr × Obj)), Room k A' → PTs (gcx X A' s H (genEnv scope cl C code builtinsNs X.env) fp pn) ifs tt)
    (he : ∀ (A' : Around) (s : Shared) (H : Hp) (cl : List (Str × Addr)) (C : Addr) (code : Value) (fp : List Addr) (pn : List (Addr × Obj)), Room k A' → PE (gcx X A' s H (genEnv scope cl C code builtinsNs X.env) fp pn) elt te)
    (hs : ∀ v, genFold iter X.env v = pure v) (I : Inv X pins σ H s)
    (h : wi σ H fun J H1 => TabX H1 P ∧ ∀ H2, TabbedX P H1 H2 → ∃ (W : Nat → Nat → Nat → Hp → Prop) (N : Nat), N ≤ 100000 ∧ (∃ m, W 0 m N H2) ∧ TurnsS J g tt te (own.map (·.2)) (wipe σ (own.map (·.2))) W (Qt N))
    (hQ : ∀ (a : Addr) (gi N : Nat) (s5 : Shared) (Y : Cx) (gobj : Obj), N ≤ 100000 → (a, gobj) ∈ Y.pn → (∀ s : Shared, s.heap.get? a = some gobj → s.heap.IsGen a gi) → s5.heap.get? a = some gobj → s5.heap.NoLimit → Y.base.get? s5.heap.objs.size = none →
      (∀ (s6 : Shared) (o : Obj), s6.gens = s5.gens → s6.os = s5.os → (∀ b o, s5.heap.get? b = some o → s6.heap.get? b = some o) → s6.heap.get? s5.heap.objs.size = some o → (∀ v, o.data ≠ .cell v) →
        ∃ gs, s6.gens[gi]? = some gs ∧ gs.Goes (model X.prog X.w) X.A.in1.in1 (RS Y (wipe σ (own.map (·.2))) s5.heap.objs.size (Qt N)) (YS Y s5.heap.objs.size) N (.send .none) (s6.setGen gi .running)) →
      (∀ s₁ H σ2 s', Inv Y [] σ2 H s₁ → (∀ b o, s₁.heap.get? b = some o → s'.heap.get? b = some o) → s'.os = s₁.os → AllBare s'.gens → Inv X pins σ H s') → Q' (.ref a) s5) :
    wpAny (model X.prog X.w) X.A (eval (.GeneratorExp elt [⟨tg, iter, ifs, 0⟩] scope gpos) X.env) Q' X.xe s := by
  have hfree : ∀ y ∈ scope.names, y.2 = .free → ∃ c, X.env.cells.lookup y.1 = some c := fun y hy e => by
    rcases S.blk.free y hy e with k | k
    · exact I.ok.has _ (.inl k)
    · exact I.ok.has _ (.inr k)
  refine wpAny_GeneratorExp_make S.co (closure_ok hfree) S.cell S.dot S.blk.kind (by have := hr.dp; omega) ?_ hs
  refine thn (hi.run pins s σ H _ I h) fun v s1 h1 => thn h1 fun itv s2 h2 => ?_
  obtain ⟨it, fp, tn, J, H1, rfl, I1, T, st1, f1, ⟨ps, hP, htr, hall⟩, q1⟩ := h2
  have hPs : s2.heap.get? P = some { cls := .none, data := .fields ps } := I1.hok P _ hP
  have cd : PySem.W.CodeHd s2.heap c P := TB.code.keeps fun b u e => I1.bk b u e
  refine ⟨I1.nolimit, ?_⟩
  have nfP : ∀ b ∈ fp, b ≠ P := fun b hb z => by
    have := (f1 b hb).1
    rw [z, hP] at this
    cases this
  have cont : ∀ (code : Value) (h3 : Heap) (tk : Nat) (H2 : Hp), Heap.ExtBut P s2.heap h3 → s2.heap.objs.size ≤ h3.objs.size → Inv X pins σ H2 { s2 with heap := h3, toks := tk } → TabbedX P H1 H2 → (∀ b, b < s2.heap.objs.size → b ≠ P → H2 b = H1 b) →
      wpAny (model X.prog X.w) X.A (builtinsFor X.env.globals X.env.builtins) (fun bi s₄ =>
        ∀ h', h'.Ns s₄.heap.objs.size (fun y => if y = ".0" then some (.ref it) else none) → Heap.SameBut s₄.heap.objs.size (s₄.heap.push { cls := .type "frame", data := .dict #[] }) h' →
          Q' (.ref h'.objs.size) { s₄ with
            gens := s₄.gens.push (.fresh (.compStart (.GeneratorExp elt [⟨tg, iter, ifs, 0⟩] scope gpos) 0 (.ref it) .none (genEnv scope (cloFrom X.env.cells scope.names []) s₄.heap.objs.size code bi X.env))),
            toks := s₄.toks + 1 + 1 + 1,
            heap := h'.push { cls := .type "generator", data := .fields #[.int s₄.gens.size 0, .str "<genexpr>" (s₄.toks + 1), .str (X.env.qual ++ "<genexpr>") (s₄.toks + 1 + 1)] } }) X.xe { s2 with heap := h3, toks := tk } := by
    intro code h3 tk H2 hx hsz J2 hTb hEq
    obtain ⟨bm, ob, e1, e2, e3, e4, e5, e6, e7, e8⟩ := TB.bm
    refine wpAny_builtinsFor (m := X.mg) (by rw [I1.ok.glob]; exact (I1.mod.glob.keeps I1.bk).extBut hx TB.gP) e1 e2 (hx _ _ e4 (I1.bk _ _ e5)) e6 e7 e8 ?_
    intro h' hns hsb
    obtain ⟨W, N, hN5, ⟨m, w0⟩, hturn⟩ := q1 H2 hTb
    -- the new objects
    have szp : (h3.push { cls := .type "frame", data := .dict #[] }).objs.size = h3.objs.size + 1 := Heap.size_push ..
    have sz' : h'.objs.size = h3.objs.size + 1 := by rw [← szp]; exact hsb.1
    have kp : ∀ b o, h3.get? b = some o → (h'.push { cls := .type "generator", data := .fields #[.int s2.gens.size 0, .str "<genexpr>" (tk + 1), .str (X.env.qual ++ "<genexpr>") (tk + 1 + 1)] }).get? b = some o := fun b o e =>
      Heap.get?_push_of_some _ ((hsb.2 b (Nat.ne_of_lt (Heap.lt_size e))).trans (Heap.get?_push_of_some _ e))
    have f2 : ∀ b ∈ fp, FpOk X pins H2 b ∧ b < h3.objs.size := fun b hb => by
      obtain ⟨o, e, _⟩ := T.obj _ _ st1 b hb
      refine ⟨⟨by rw [hEq b (Heap.lt_size e) (nfP b hb)]; exact (f1 b hb).1, (f1 b hb).2⟩, Nat.lt_of_lt_of_le (Heap.lt_size e) hsz⟩
    have st3 : tn 0 h3 := T.keep _ _ _ st1 fun b hb o e => hx b o (nfP b hb) e
    obtain ⟨A', hA'⟩ : ∃ A', X.A.in1.in1.over (.compLoop (.GeneratorExp elt [⟨tg, iter, ifs, 0⟩] scope gpos) 0 (.ref it) .none (genEnv scope (cloFrom X.env.cells scope.names []) h3.objs.size code builtinsNs X.env)) [] = A' := ⟨_, rfl⟩
    have hroom : Room k A' := by rw [← hA']; exact room_gen hr
    have hfrm : A'.frames = some (genEnv scope (cloFrom X.env.cells scope.names []) h3.objs.size code builtinsNs X.env :: X.stack) := by
      have e : X.A.frames = some X.stack := I1.ok.frames
      rw [← hA']
      unfold Around.over
      dsimp only
      rw [e]
      rfl
    have start : ∀ gens' : Array GenState, AllBare gens' → ∀ tk', Inv (gcx X A' { s2 with heap := h3, toks := tk } H2 (genEnv scope (cloFrom X.env.cells scope.names []) h3.objs.size code builtinsNs X.env) fp [(h'.objs.size, _)]) [] (wipe σ (own.map (·.2))) H2
        { s2 with gens := gens', toks := tk', heap := h'.push { cls := .type "generator", data := .fields #[.int s2.gens.size 0, .str "<genexpr>" (tk + 1), .str (X.env.qual ++ "<genexpr>") (tk + 1 + 1)] } } := fun gens' hb tk' =>
      gen_start (code := code) J2 S.blk hN S.cell f2 hroom.hd rfl hfrm rfl hb kp (Heap.Ns.keeps hns fun b o e => Heap.get?_push_of_some _ e) (fun p hp => by
        rw [List.mem_singleton.mp hp]
        exact ⟨Heap.get?_push_size _ rfl, by show h3.objs.size < h'.objs.size; rw [sz']; exact Nat.lt_succ_self _, fun v z => by cases z⟩)
    have hgen : ∀ s : Shared, s.heap.get? h'.objs.size = some { cls := .type "generator", data := .fields #[.int s2.gens.size 0, .str "<genexpr>" (tk + 1), .str (X.env.qual ++ "<genexpr>") (tk + 1 + 1)] } → s.heap.IsGen h'.objs.size s2.gens.size := fun s e => ⟨_, _, _, e, rfl, rfl, rfl⟩
    have sz5 : (h'.push { cls := .type "generator", data := .fields #[.int s2.gens.size 0, .str "<genexpr>" (tk + 1), .str (X.env.qual ++ "<genexpr>") (tk + 1 + 1)] }).objs.size = h3.objs.size + 2 := by rw [Heap.size_push, sz']
    have I5 := start s2.gens I1.bare 0
    have hb5 : X.base.get? (h3.objs.size + 2) = none := by
      cases q : X.base.get? (h3.objs.size + 2) with
      | none => rfl
      | some o =>
        exact absurd (Nat.lt_of_lt_of_eq (Heap.lt_size (I5.bk _ o q)) sz5) (Nat.lt_irrefl _)
    refine hQ h'.objs.size s2.gens.size N _ (gcx X A' { s2 with heap := h3, toks := tk } H2 (genEnv scope (cloFrom X.env.cells scope.names []) h3.objs.size code builtinsNs X.env) fp [(h'.objs.size, _)]) _ hN5 (List.mem_singleton.mpr rfl) hgen (Heap.get?_push_size _ rfl) I5.nolimit (by dsimp only; rw [sz5]; exact hb5) (fun s6 o6 hg6 ho6 kp6 hS6 hoc6 => ⟨.fresh (.compStart (.GeneratorExp elt [⟨tg, iter, ifs, 0⟩] scope gpos) 0 (.ref it) .none (genEnv scope (cloFrom X.env.cells scope.names []) h3.objs.size code builtinsNs X.env)), by rw [hg6]; exact Array.getElem?_push_size, rfl, ?_⟩) fun s₁ Hz σ2 s' Iz ext hos hbz => ?_
    · have bare5 : AllBare (s2.gens.push (.fresh (.compStart (.GeneratorExp elt [⟨tg, iter, ifs, 0⟩] scope gpos) 0 (.ref it) .none (genEnv scope (cloFrom X.env.cells scope.names []) h3.objs.size code builtinsNs X.env)))) := I1.bare.push rfl
      have hst : ∀ (pl : List (Addr × Obj)) (H : Hp), (∀ p ∈ pl, p.1 = (h'.push { cls := .type "generator", data := .fields #[.int s2.gens.size 0, .str "<genexpr>" (tk + 1), .str (X.env.qual ++ "<genexpr>") (tk + 1 + 1)] }).objs.size) → (∀ b ∈ fp, H b = none) → ∀ b ∈ fp, FpOk (gcx X A' { s2 with heap := h3, toks := tk } H2 (genEnv scope (cloFrom X.env.cells scope.names []) h3.objs.size code builtinsNs X.env) fp [(h'.objs.size, _)]) pl H b := fun pl Hq hpl hq b hb => by
        have ok := I5.ok
        refine ⟨hq b hb, (ok.exf b hb).1, ok.exfs b hb, .inl hb, (ok.exf b hb).2, fun p hp => ?_⟩
        have := (f2 b hb).2
        rcases List.mem_append.mp hp with hp | hp
        · rw [List.mem_singleton.mp hp]
          show h'.objs.size ≠ b
          rw [sz']
          exact Nat.ne_of_gt (Nat.lt_succ_of_lt this)
        · rw [hpl p hp, sz5]
          exact Nat.ne_of_gt (Nat.lt_of_lt_of_le this (Nat.le_add_right _ 2))
      have wf : wipe (wipe σ (own.map (·.2))) (own.map (·.2)) = wipe σ (own.map (·.2)) := wipe_wipe _ _
      have fS : H2 (h'.push { cls := .type "generator", data := .fields #[.int s2.gens.size 0, .str "<genexpr>" (tk + 1), .str (X.env.qual ++ "<genexpr>") (tk + 1 + 1)] }).objs.size = none := I5.hok.fresh (Nat.le_refl _)
      have I6 := inv_more (s' := s6.setGen s2.gens.size .running) I5 (fun b o e => kp6 b o e) (ho6.trans rfl) (allBare_setGen (s := s6) (by rw [hg6]; exact bare5) rfl)
      exact seg_sx0 hA' hc S.co T hst (fun z => Nat.lt_irrefl _ (Nat.lt_of_lt_of_eq (Nat.lt_of_lt_of_le (f2 _ z).2 (Nat.le_add_right _ 2)) sz5.symm)) (fun Hq hq => I5.fpOk (Nat.le_refl _) hq) wf (hg _ _ _ _ _ _ _ _ hroom) (ht _ _ _ _ _ _ _ _ hroom) (he _ _ _ _ _ _ _ _ hroom) hturn m N _ _ I6 fS ⟨o6, hS6, hoc6⟩ (T.keep _ _ _ st3 fun b hb o e => kp6 b o (kp b o e)) (fun b hb => (f2 b hb).1.1) w0
    · have u : Un (frs X.stack) fp H2 Hz h3 s'.heap := Iz.base.trans (Un.kept ext)
      refine J2.call' (s' := s') (hos.trans Iz.os) u (Iz.hok.kept ext) hbz fun b hb => ?_
      obtain ⟨⟨_, a1, _, a3, a4, a5⟩, _⟩ := f2 b hb
      exact ⟨a3, a1, a4, a5⟩
  cases hf : codeAmong gpos ps.toList with
  | none =>
    refine wpAny_genexprCodeX hcode (cd.code hPs htr) (cd.tab hPs) hf fun c' h' tk hx hge hlt hco' hrec htab' _ => ?_
    obtain ⟨c2, oc, vs, t, e2, hoc, hd, hv⟩ := hrec
    cases e2
    have I3 := LamX.inv_table (t' := tk) (more := #[rawInt gpos.line, rawInt gpos.col, .ref c']) I1 hP (fun b u hb e => hx b u hb e) htab'.2 hge ⟨oc, vs, t, hoc, hd, hv⟩
    exact cont _ h' tk _ hx (Nat.le_trans hge (Nat.le_of_lt hlt)) I3 (tabX_new hP htr hall (I1.hok.fresh hge)) fun b hb hp => by rw [upd_ne (Nat.ne_of_lt (Nat.lt_of_lt_of_le hb hge)), upd_ne hp]
  | some cv =>
    refine wpAny_genexprCode_hit hcode (cd.code hPs htr) hf ?_
    exact cont cv s2.heap s2.toks H1 (Heap.ExtBut.refl _ _) (Nat.le_refl _) I1 (TabbedX.same ⟨ps, hP, htr, hall⟩) fun _ _ _ => rfl
end
/-- sum(1 for x in .. if ..) -/
def tSum (P : Addr) (wi : TI) (g : TG) (tt : TT) (te : TE) (vs : List Nat) : TE := fun σ H Q => wi σ H fun J H1 => TabX H1 P ∧ ∀ H2, TabbedX P H1 H2 →
  ∃ (W : Nat → Nat → Nat → Hp → Prop) (N : Nat), N ≤ 100000 ∧ (∃ m, W 0 m N H2) ∧ TurnsS J g tt te vs (wipe σ vs) W fun n H => Q (.int ((N : Int) - (n : Int))) H
section
variable {X : Cx} {c P : Addr} {elt tg iter : Expr} {ifs : List Expr} {scope : Scope} {own : List (Str × Nat)} {p pos gpos : Pos} {wi : TI} {g : TG} {tt : TT} {te : TE} {k : Nat}
theorem pe_sumG (hc : X.calm = true) (hr : Room (k + 1) X.A) (hN : X.N.Nodup) (hgl : Gl X "sum") (hm : X.mg "sum" = none) (hb : bootBuiltins "sum" = some (.builtin "sum")) (TB : TabB X.base X.mg c P) (hcode : X.env.code = .ref c) (S : GenOk X.env X.N scope own) (hi : PI X tg iter wi)
    (hg : ∀ (A' : Around) (s : Shared) (H : Hp) (cl : List (Str × Addr)) (C : Addr) (code : Value) (fp : List Addr) (pn : List (Addr × Obj)), Room k A' → PG (gcx X A' s H (genEnv scope cl C code builtinsNs X.env) fp pn) tg g)
    (ht : ∀ (A' : Around) (s : Shared) (H : Hp) (cl : List (Str × Addr)) (C : Addr) (code : Value) (fp : List Addr) (pn : List (Addr × Obj)), Room k A' → PTs (gcx X A' s H (genEnv scope cl C code builtinsNs X.env) fp pn) ifs tt)
    (he : ∀ (A' : Around) (s : Shared) (H : Hp) (cl : List (Str × Addr)) (C : Addr) (code : Value) (fp : List Addr) (pn : List (Addr × Obj)), Room k A' → PE (gcx X A' s H (genEnv scope cl C code builtinsNs X.env) fp pn) elt te)
    (hs : ∀ v, genFold iter X.env v = pure v := by intro _; rfl)
    (hst : starEach [.GeneratorExp elt [⟨tg, iter, ifs, 0⟩] scope gpos] X.env = (false, eval (.GeneratorExp elt [⟨tg, iter, ifs, 0⟩] scope gpos) X.env) :: starEach [] X.env := by rfl) :
    PE X (.Call (.Name "sum" p) [.GeneratorExp elt [⟨tg, iter, ifs, 0⟩] scope gpos] [] pos) (tSum P wi g tt te (own.map (·.2))) := by
  refine ⟨fun pins s σ H Q I h => ?_⟩
  refine wpAny_Call_Name_kw (ld_blt I hgl hm hb ?_)
  refine PyProof.Rows.callWith_builtin1 ?_ hst (by rfl)
  rw [hst]
  show wpAny _ _ (spliced ((false, eval (.GeneratorExp elt [⟨tg, iter, ifs, 0⟩] scope gpos) X.env) :: backTo pos (starEach [] X.env))) _ _ s
  refine Calls.spliced_cons (gen_readyS (Qt := fun N n H => Q (.int ((N : Int) - (n : Int))) H) hc hr hN TB hcode S hi hg ht he hs I h fun a gi N s5 Y gobj hN5 hpn hgo hg5 hl5 hb5 hgoes back => ?_)
  refine Calls.spliced_nil ?_
  refine call_function_tree F.kind_sum F.plain_sum F.entry_sum (F.args_sum1 _) ?_
  unfold Builtin.«sum»
  simp only [List.length_cons, List.length_nil]
  rw [if_neg (by decide)]
  refine wpAny_bind (wpAny_of_eq (show Builtin.Builtins.bindParams "sum" ["start"] 0 { } = pure [none] from rfl) ?_)
  refine wpAny_bind (wpAny_pyIter_gen (hgo _ hg5) ?_)
  refine wpAny_bind (wpAny_mkInt ?_)
  refine wpAny_bind (wpAny_pure ?_)
  simp only [List.forIn_cons, List.forIn_nil]
  refine wpAny_bind (wpAny_bind (wpAny_bind (wpAny_isInstance (T := "int") (b := false) (typeIs_int _ _ _) PySem.sub_int_str ?_)))
  simp only [Bool.false_eq_true, if_false]
  refine wpAny_pure (wpAny_bind (wpAny_bind (wpAny_isInstance (T := "int") (b := false) (typeIs_int _ _ _) PySem.sub_int_bytes ?_)))
  simp only [Bool.false_eq_true, if_false]
  refine wpAny_pure (wpAny_bind (wpAny_bind (wpAny_isInstance (T := "int") (b := false) (typeIs_int _ _ _) PySem.sub_int_bytearray ?_)))
  simp only [Bool.false_eq_true, if_false]
  refine wpAny_pure (wpAny_pure ?_)
  refine wpAny_bind (wpAny_newObj_type ?_)
  have ext : ∀ b o, s5.heap.get? b = some o → (s5.heap.push { cls := .type "list", data := .seq #[.int 0 s5.toks] 0 }).get? b = some o := fun b o e => Heap.get?_push_of_some _ e
  refine wpAny_pure ⟨plainId_quiet F.plain_sum_loop _, sum_loop (Sa := s5.heap.objs.size) (σ0 := wipe σ (own.map (·.2))) (Qt := fun n H => Q (.int ((N : Int) - (n : Int))) H) hr.hd hr.depth hpn hgo (Nat.ne_of_lt (Heap.lt_size hg5)) hN5 hb5 (fun s₁ Hz s' n t Iz hz q ext hos hb => ⟨.int ((N : Int) - (n : Int)), Hz, back s₁ Hz _ s' Iz ext hos hb, ⟨t, rfl⟩, q⟩) N _ s5.toks 0 (Nat.le_refl _) (hgo _ (ext _ _ hg5)) ?_ ?_ ?_⟩
  · exact hl5.keeps ext
  · rw [Int.sub_self]
    exact Heap.get?_push_size _ rfl
  · exact hgoes _ _ rfl rfl ext (Heap.get?_push_size _ rfl) (fun v z => by cases z)
end
end Gx
set_option Elab.async false
set_option linter.all false
set_option maxRecDepth 100000
set_option maxHeartbeats 2000000
/-! max(d.values(), default=c) -/
namespace Gx
open PySem PySem.Spec PyProof.Rows L2
def tMaxVals (td : TE) (c : Int) : TE := fun σ H Q => td σ H fun x H1 => ∃ (d : Addr) (kvs : List (Key × V)) (ns : List Int), x = .ref d ∧ H1 d = some (.dK kvs) ∧ kvs.map (·.2) = ns.map V.int ∧ (ns = [] → Q (.int c) H1) ∧ ∀ m, m ∈ ns → (∀ y ∈ ns, y ≤ m) → Q (.int m) H1
theorem paired_get {α β : Type} {F : α → β → Prop} : ∀ {l : List α} {m : List β} {i : Nat} {x : α}, Paired F l m → l[i]? = some x → ∃ y, m[i]? = some y ∧ F x y
  | _, _, _, _, .nil, h => by cases h
  | _, _, 0, _, .cons a _, h => by cases h; exact ⟨_, rfl, a⟩
  | _, _, i + 1, _, .cons _ t, h => paired_get (i := i) t h
theorem best_of (x : Int) : ∀ (xs : List Int), (xs.foldl (fun a y => if decide (a < y) then y else a) x) ∈ x :: xs ∧ ∀ y ∈ x :: xs, y ≤ xs.foldl (fun a y => if decide (a < y) then y else a) x := fun xs => by
  induction xs generalizing x with
  | nil => exact ⟨List.mem_cons_self .., fun y hy => by rw [List.mem_singleton.mp hy]; exact Int.le_refl _⟩
  | cons c cs ih =>
    rw [List.foldl_cons]
    by_cases h : x < c
    · rw [if_pos (decide_eq_true h)]
      obtain ⟨h1, h2⟩ := ih c
      refine ⟨List.mem_cons_of_mem _ h1, fun y hy => ?_⟩
      rcases List.mem_cons.mp hy with rfl | hy
      · have := h2 c (List.mem_cons_self ..); omega
      · exact h2 y hy
    · rw [if_neg (by rw [decide_eq_true_eq]; exact h)]
      obtain ⟨h1, h2⟩ := ih x
      refine ⟨?_, fun y hy => ?_⟩
      · rcases List.mem_cons.mp h1 with e | e
        · rw [e]; exact List.mem_cons_self ..
        · exact List.mem_cons_of_mem _ (List.mem_cons_of_mem _ e)
      · rcases List.mem_cons.mp hy with e | hy
        · rw [e]; exact h2 x (List.mem_cons_self ..)
        · rcases List.mem_cons.mp hy with e | hy
          · have := h2 x (List.mem_cons_self ..); rw [e]; omega
          · exact h2 y (List.mem_cons_of_mem _ hy)
section
variable {prog : Program} {w : World} {A : Around} {E : Value → Shared → Prop} {s : Shared} {T : String} {r d : Addr} {P : Nat → Value → Prop} {OK : Heap → Prop} {Q : Value → Shared → Prop} {dv : Value}
theorem max_src {ns : List Int} (K : PySem.W.KdlSrc prog w T r d ns.length P OK) (hh : A.handled = none) (hu : A.units + 8 < cLine) (hok : OK s.heap) (hval : ∀ (i : Nat) (v : Value), P i v → ∃ t : Tok, v = Value.int (ns.getD i 0) t)
    (h0 : ns = [] → ∀ h' tk, (∀ b o, s.heap.get? b = some o → h'.get? b = some o) → Q dv { s with heap := h', toks := tk })
    (h1 : ∀ m t h' tk, m ∈ ns → (∀ y ∈ ns, y ≤ m) → (∀ b o, s.heap.get? b = some o → h'.get? b = some o) → Q (.int m t) { s with heap := h', toks := tk }) :
    wpAny (model prog w) A (call (.builtin "max") [.ref r] [(Str.ofString "default", dv)]) Q E s := by
  refine call_max_walkD ?_
  obtain ⟨oI, St, hit, W, st⟩ := K.iter A.in1 s hh hok
  have fin : ∀ s' : Shared, Moved [s.heap.objs.size] (fun a b => b = a) { s with heap := s.heap.push oI } s' → ∃ h' tk, s' = { s with heap := h', toks := tk } ∧ ∀ b o, s.heap.get? b = some o → h'.get? b = some o := fun s' hm => PySem.W.moved_old rfl rfl hm
  refine hit _ _ ⟨s.heap.objs.size, _, _, _, ns.length, P, _, s.heap, fun i j => decide (ns.getD j 0 < ns.getD i 0), rfl, W.toS, st, fun b hb => ?_, fun b o e hb => ?_, fun b o e => Heap.get?_push_of_some _ e, fun hn s' hm => ?_, fun hn => ⟨fun i j vi vj s' Q E hk hi hj hq => ?_, fun v s' hv hm => ?_⟩⟩
  · show b < (s.heap.push oI).objs.size
    rw [Heap.size_push]
    rcases List.mem_cons.mp hb with e | hb
    · rw [e]; exact Nat.lt_succ_self _
    · rw [List.mem_singleton.mp hb]; exact Nat.lt_succ_of_lt (K.there _ hok).2
  · exact absurd (Heap.lt_size e) (by rw [List.mem_singleton.mp hb]; exact Nat.lt_irrefl _)
  · obtain ⟨h', tk, rfl, hk⟩ := fin s' hm
    exact h0 (List.eq_nil_of_length_eq_zero hn) h' tk hk
  · obtain ⟨t1, rfl⟩ := hval i vi hi
    obtain ⟨t2, rfl⟩ := hval j vj hj
    refine PySem.W.rcGt_alike (.int (ns.getD i 0)) (.int (ns.getD j 0)) A.in1 s' _ _ _ _ (.int _ _) (.int _ _) rfl (fun z => by cases z) ?_ prog w E Q ?_
    · show A.units + 1 + min 0 0 < cLine
      omega
    · rw [PySem.W.dataLt_int]
      exact hq
  · obtain ⟨h', tk, rfl, hk⟩ := fin s' hm
    obtain ⟨t, rfl⟩ := hval _ v hv
    cases ns with
    | nil => cases hn
    | cons x xs =>
      have e := (PySem.W.argBest_fold (fun a b => decide (b < a)) (0 : Int) x xs xs.length (Nat.le_refl _)).2
      rw [List.take_length] at e
      obtain ⟨b1, b2⟩ := best_of x xs
      have e2 : (x :: xs).getD (argBest (fun i j => decide ((x :: xs).getD j 0 < (x :: xs).getD i 0)) ((x :: xs).length - 1)) 0 = xs.foldl (fun a y => if decide (a < y) then y else a) x := e
      rw [e2]
      exact h1 _ t h' tk b1 b2 hk
end
section
variable {X : Cx} {e : Expr} {td : TE} {p apos cpos pos kp kpos : Pos} {c : Int} {j : Nat}
theorem pe_maxVals (hc : X.calm = true) (hu : X.A.units + 8 < cLine) (hgl : Gl X "max") (hm : X.mg "max" = none) (hb : bootBuiltins "max" = some (.builtin "max")) (he : PE X e td)
    (hbase : attributeBase e "values" X.env (eval e X.env) = eval e X.env := by rfl) (hline : (apos.endLine == cpos.line) = true := by rfl)
    (hst : backTo pos (starEach [.Call (.Attribute e "values" apos) [] [] cpos] X.env) = (false, eval (.Call (.Attribute e "values" apos) [] [] cpos) X.env) :: backTo pos (starEach [] X.env) := by rfl) :
    PE X (.Call (.Name "max" p) [.Call (.Attribute e "values" apos) [] [] cpos] [⟨some "default", .Constant (.int c) j kp, kpos⟩] pos) (tMaxVals td c) := by
  refine ⟨fun pins s σ H Q I h => ?_⟩
  refine wpAny_Call_Name_kw (ld_blt I hgl hm hb ?_)
  refine callWith_kw ?_ hst (by rw [hst]; rfl)
  rw [hst]
  refine Calls.spliced_cons (wpAny_Call_method (T := "dict") (id := "dict.values") hbase rfl hline F.plainAttrs_dict F.slot_dict_values F.type_dict_values (thn (he.run pins s σ H _ I h) fun u s1 ⟨x, H1, I1, rx, d, kvs, ns, ex, hd, hv, q0, q1⟩ => ?_))
  subst ex
  obtain rfl : u = Value.ref d := rx
  obtain ⟨hz, hs, vs, kv, hdo⟩ := I1.hok d _ hd
  have hl : kvs.length = vs.length := Paired.length kv
  have hln : kvs.length = ns.length := by have := congrArg List.length hv; simpa using this
  refine ⟨hdo.typeIs, hdo.mapOf.noDict, ?_⟩
  have fin : ∀ s2 : Shared, s2 = { s1 with heap := s1.heap.push { cls := .type "dict_values", data := .fields #[.ref d] } } → wpAny (model X.prog X.w) X.A (spliced (backTo pos (starEach [] X.env))) (fun us s3 => wpAny (model X.prog X.w) X.A (evalAll ((backToKw pos (keywordEach [⟨some "default", .Constant (.int c) j kp, kpos⟩] X.env)).map (·.2))) (fun ks s4 => wpAny (model X.prog X.w) X.A (call (.builtin "max") (.ref s1.heap.objs.size :: us) (((backToKw pos (keywordEach [⟨some "default", .Constant (.int c) j kp, kpos⟩] X.env)).filterMap (·.1)).zip ks)) (EP X pins σ Q) X.xe s4) X.xe s3) X.xe s2 := fun s2 e2 => by
    subst e2
    refine Calls.spliced_nil ?_
    refine kws_cons ?_
    refine wpAny_Constant_int ?_
    refine kws_nil ?_
    obtain ⟨ep, hat⟩ := hdo.dictAt
    have hk1 : ∀ b o, s1.heap.get? b = some o → (s1.heap.push { cls := .type "dict_values", data := .fields #[.ref d] }).get? b = some o := fun b o q => Heap.get?_push_of_some _ q
    have src := PySem.W.kdl_values (prog := X.prog) (w := X.w) (knd := mixKind X.prog X.w) (r := s1.heap.objs.size) (d := d) (kvs := vs) (ep := ep)
    rw [show vs.length = ns.length by omega] at src
    refine max_src (ns := ns) src (I.ok.hd hc) hu ⟨⟨_, Heap.get?_push_size _ rfl, rfl, rfl⟩, hat.push _⟩ (fun i v hvi => ?_) (fun hn h' tk hk => ⟨.int c, H1, I1.kept (t' := tk) fun b o q => hk b o (hk1 b o q), ⟨_, rfl⟩, q0 hn⟩) fun m t h' tk hm1 hm2 hk => ⟨.int m, H1, I1.kept (t' := tk) fun b o q => hk b o (hk1 b o q), ⟨t, rfl⟩, q1 m hm1 hm2⟩
    obtain ⟨k, hvi⟩ := hvi
    have hi : i < kvs.length := by have := (List.getElem?_eq_some_iff.mp hvi).1; omega
    obtain ⟨y, hy, _, hr⟩ := paired_get kv (List.getElem?_eq_getElem hi)
    rw [hvi] at hy
    cases hy
    have hn : (kvs.map (·.2))[i]? = some kvs[i].2 := by rw [List.getElem?_map, List.getElem?_eq_getElem hi]; rfl
    rw [hv, List.getElem?_map] at hn
    cases hq : ns[i]? with
    | none => rw [hq] at hn; cases hn
    | some z =>
      rw [hq] at hn
      have hz2 : V.int z = kvs[i].2 := Option.some.inj hn
      rw [← hz2] at hr
      obtain ⟨t, e⟩ := hr
      exact ⟨t, by rw [List.getD_eq_getElem?_getD, hq]; exact e⟩
  show wpAny _ _ (callWith cpos (.builtin "dict.values") [.ref d] [] []) _ X.xe s1
  exact method_meetsIn F.slot_dict_values F.entry_dict_values rfl (PySem.evalArgs_none ⟨rfl, hdo.typeIs, F.args_dict_values_1 _, _, meets_dict_values (mixKind X.prog X.w) d hs, ⟨vs, hdo⟩, fin _ rfl⟩)
end
end Gx
set_option Elab.async false
set_option linter.all false
set_option maxRecDepth 100000
set_option maxHeartbeats 4000000
/-! sorted(range(..), key=lambda p: ..): the sort's shell over any kept property, the lambda made and called -/
namespace Gx
open PySem PySem.Spec PyProof.Rows L2 GenW GxR
/-! ### a function of one expression is called, its code object bearing any name -/
section
variable {prog : Program} {w : World} {A : Around} {R : Result → Shared → Prop} {s : Shared}
theorem call_lamQ {a : Addr} {args : Args} {o : Obj} {fd : FuncData} {e : Expr} {q : Str} (room : A.depth < recursionLimit) (at_ : s.heap.get? a = some o) (isf : o.data = .func fd) (noco : fd.scope.isCoroutine = false) (nogen : fd.scope.isGenerator = false)
    (isx : fd.body = .expr e) (rec_ : s.heap.CodeRec fd.code q)
    (h : wpAny (model prog w) A.in1 (bindArgs fd args) (fun bs s1 => wpAny (model prog w) A.in1 (newFunctionEnv fd.scope fd.globals fd.closure bs (q ++ ".<locals>.") (some a) fd.code none fd.builtins)
        (fun env s2 => s2.heap.NoLimit ∧ codeAny (model prog w) A (.expr e env) R s2) (fun x s' => R (.error x) s') s1) (fun x s' => R (.error x) s') s) : codeAny (model prog w) A (.call (.ref a) args) R s := by
  refine codeAny_of_tree ?_
  show wpAny _ A.in1 (callAny (.ref a) args) _ _ s
  simp only [callAny]
  refine wpAny_bind (wpAny_load at_ ?_)
  obtain ⟨c, oc, vs, tq, e1, e2, e3, e4⟩ := rec_
  simp only [isf, callFunction, noco, nogen, isx, e1]
  rw [e1] at h
  refine wpAny_bind (m := field (.ref c) 1) (wpAny_field e2 e3 e4 (wpAny_bind (wpAny_pure ?_)))
  refine wpAny_bind (wpAny_mono h (fun bs s1 h1 => ?_) fun _ _ z => z)
  refine wpAny_bind (wpAny_mono h1 (fun env s2 h2 => ?_) fun _ _ z => z)
  exact wpAny_bind (wpAny_enterFrame h2.1 room (wpAny_pure (And.intro rfl h2.2)))
end
/-! ### the shell of a sort by keys -/
section
variable {prog : Program} {w : World} {A : Around} {E : Value → Shared → Prop} {a kS : Addr} {vs : List Value} {kz : List Int} {e1 : Nat} {P : PySem.Fin → Shared → Prop} {J : Shared → Prop}
/-- J is kept where the objects at a and at kS are written -/
def KeptAt (J : Shared → Prop) (a kS : Addr) : Prop := ∀ (x : Addr) (s : Shared) (h' : Heap) (tk : Nat), (x = a ∨ x = kS) → J s → Heap.SameBut x s.heap h' → J { s with heap := h', toks := tk }
theorem sh_tail {st : SortSt} {s : Shared} {keys : Array Value} {e : Nat} (jk : KeptAt J a kS) (j : J s) (ok : s.heap.get? kS = some (seqObj "list" keys e)) (oa : s.heap.get? a = some (seqObj "list" #[] e1)) (ne : kS ≠ a)
    (hk : IntsAre keys.toList kz) (hl : kz.length = vs.length) (small : vs.length < 64) (perm : (arrOf st).Perm (keys.zip vs.toArray)) (sorted : SortedTo (arrOf st) (arrOf st).size) (fine : failedOf st = none)
    (h : ∀ s' out c, J s' → s'.heap.get? a = some (seqObj "list" out c) → KskOut false kz vs out.toList → P (.done (.ret .none)) s') : wpAny (model prog w) A (ksk_tail a false e1 (.ref kS) st) P E s := by
  have n1 : keys.size = vs.length := by
    have := hk.length
    rw [Array.length_toList] at this
    omega
  have n2 : (arrOf st).size = vs.length := by rw [perm.size_eq, Array.size_zip, n1, List.size_toArray, Nat.min_self]
  have s1 := Heap.SameBut.update s.heap kS (Obj.mapSeq fun _ => (#[] : Array Value))
  have oa1 : (s.heap.update kS (Obj.mapSeq fun _ => (#[] : Array Value))).get? a = some (seqObj "list" #[] e1) := (s1.2 a (Ne.symm ne)).trans oa
  have s2 := Heap.SameBut.update (s.heap.update kS (Obj.mapSeq fun _ => (#[] : Array Value))) a (Obj.mapSeq fun _ => (arrOf st).map (·.2))
  obtain ⟨c2, oa2⟩ : ∃ c2, ((s.heap.update kS (Obj.mapSeq fun _ => (#[] : Array Value))).update a (Obj.mapSeq fun _ => (arrOf st).map (·.2))).get? a = some (seqObj "list" ((arrOf st).map (·.2)) c2) := ⟨_, get?_update_seq oa1 fun _ => (arrOf st).map (·.2)⟩
  unfold ksk_tail
  dsimp only
  refine wpAny_bind (listUpdate_at ok rfl ?_ (by rw [n1, sizeLine_eq]; omega) (Nat.zero_le _))
  refine wpAny_bind (wpAny_letGo ?_)
  refine wpAny_bind (seqEpoch_at oa1 rfl ?_)
  refine wpAny_bind (listUpdate_at oa1 rfl ?_ (Nat.zero_le _) (by simp only [Bool.false_eq_true, if_false, Array.size_map]; rw [n2, sizeLine_eq]; omega))
  rw [fine]
  simp only [bne_self_eq_false, Bool.false_eq_true, if_false]
  have j1 := jk kS s _ s.toks (.inr rfl) j s1
  have j2 := jk a _ _ s.toks (.inl rfl) j1 s2
  exact wpAny_pure (h _ _ c2 j2 oa2 (ksk_out (b := false) hk perm sorted))
theorem sh_end {s : Shared} {keys : Array Value} {e : Nat} (jk : KeptAt J a kS) (j : J s) (ok : s.heap.get? kS = some (seqObj "list" keys e)) (oa : s.heap.get? a = some (seqObj "list" #[] e1)) (ne : kS ≠ a)
    (hk : IntsAre keys.toList kz) (hl : kz.length = vs.length) (small : vs.length < 64)
    (h : ∀ s' out c, J s' → s'.heap.get? a = some (seqObj "list" out c) → KskOut false kz vs out.toList → P (.done (.ret .none)) s') : wpAny (model prog w) A (ksk_end a false vs.toArray e1 (.ref kS) keys) P E s := by
  have n1 : keys.size = vs.length := by
    have := hk.length
    rw [Array.length_toList] at this
    omega
  have n2 : (keys.zip vs.toArray).size = vs.length := by rw [Array.size_zip, n1, List.size_toArray, Nat.min_self]
  unfold ksk_end
  simp only [Bool.false_eq_true, if_false]
  by_cases few : vs.toArray.size < 2
  · rw [if_pos few, if_pos few]
    refine wpAny_bind (wpAny_pure ?_)
    rw [StateT.run_pure]
    refine wpAny_bind (wpAny_pure ?_)
    refine sh_tail (st := SortSt.mk' general' (keys.zip vs.toArray) #[] 7 none) jk j ok oa ne hk hl small (Array.Perm.refl _) (fun i i' hi hj => ?_) rfl h
    have hj : i' < (keys.zip vs.toArray).size := hj
    rw [n2] at hj
    rw [List.size_toArray] at few
    have : i = i' := by omega
    subst this
    exact Int.le_refl _
  · rw [if_neg few, if_neg few]
    rw [List.size_toArray] at few
    rw [ksk_kind hk (by rw [n1]; omega)]
    refine wpAny_bind (wpAny_pure ?_)
    refine wpAny_bind (wpAny_mono (wpS_sortRuns (a₀ := keys.zip vs.toArray) (st := SortSt.mk' oneType' (keys.zip vs.toArray) #[] 7 none)
      (Q := fun _ st' => (arrOf st').Perm (keys.zip vs.toArray) ∧ failedOf st' = none ∧ SortedTo (arrOf st') (keys.zip vs.toArray).size)
      (ksk_intKeys hk) ⟨Array.Perm.refl _, rfl, rfl, rfl⟩ (by rw [n2]; omega) (by rw [n2]; exact small) fun st' a1 a2 a3 => ⟨a1, a2, a3⟩) ?_ fun _ _ e => e)
    rintro ⟨⟨⟩, st'⟩ s' ⟨rfl, p1, p2, p3⟩
    exact sh_tail jk j ok oa ne hk hl small p1 (by rw [p1.size_eq]; exact p3) p2 h
theorem sh_rest {s : Shared} {f : Value} (jk : KeptAt J a kS) (j : J s) (ok : s.heap.get? kS = some (seqObj "list" #[] 0)) (oa : s.heap.get? a = some (seqObj "list" #[] e1)) (ne : kS ≠ a) (hl : kz.length = vs.length) (small : vs.length < 64)
    (turn : ∀ (i : Nat) (v : Value) (k : Int), vs[i]? = some v → kz[i]? = some k → ∀ (s' : Shared) (o : Obj), J s' → s'.heap.get? kS = some o → s'.heap.get? a = some (seqObj "list" #[] e1) →
      wpAny (model prog w) A (call f [v]) (fun u s2 => ∃ t, u = .int k t ∧ J s2 ∧ s2.heap.get? kS = some o ∧ s2.heap.get? a = some (seqObj "list" #[] e1)) (fun _ _ => False) s')
    (h : ∀ s' out c, J s' → s'.heap.get? a = some (seqObj "list" out c) → KskOut false kz vs out.toList → P (.done (.ret .none)) s') : wpAny (model prog w) A (ksk_rest a f false vs.toArray e1 (.ref kS)) P E s := by
  unfold ksk_rest
  refine wpAny_bind (wpAny_rule ?_)
  rw [List.forIn_toArray]
  refine wpAny_bind (ksk_fold (fun i s' => ∃ (ks : Array Value) (e : Nat), J s' ∧ s'.heap.get? kS = some (seqObj "list" ks e) ∧ s'.heap.get? a = some (seqObj "list" #[] e1) ∧ IntsAre ks.toList (kz.take i)) vs 0 s ⟨#[], 0, j, ok, oa, by simpa using IntsAre.nil⟩ ?_ ?_)
  · rintro m x s' hx ⟨ks, e, j', k1, k2, hk⟩
    simp only [Nat.zero_add] at hk ⊢
    have hm : m < vs.length := (List.getElem?_eq_some_iff.mp hx).1
    obtain ⟨k, hkm⟩ : ∃ k, kz[m]? = some k := ⟨_, List.getElem?_eq_getElem (by omega)⟩
    have hz : ks.size ≤ vs.length := by
      have := hk.length
      rw [Array.length_toList, List.length_take] at this
      omega
    refine wpAny_bind (wpAny_attempt (wpAny_mono (turn m x k hx hkm s' _ j' k1 k2) (fun u s2 he => ?_) fun _ _ z => z.elim))
    obtain ⟨t, rfl, j2, q1, q2⟩ := he
    dsimp only
    have s1 := Heap.SameBut.update s2.heap kS (Obj.mapSeq (·.push (.int k t)))
    obtain ⟨c2, hc2⟩ : ∃ c2, (s2.heap.update kS (Obj.mapSeq (·.push (.int k t)))).get? kS = some (seqObj "list" (ks.push (.int k t)) c2) := ⟨_, get?_update_seq q1 (·.push (.int k t))⟩
    have ek : kz.take (m + 1) = kz.take m ++ [k] := by rw [List.take_add_one, hkm]; simp
    have ea : (ks.push (Value.int k t)).toList = ks.toList ++ [Value.int k t] := by simp
    refine wpAny_bind (listUpdate_at q1 rfl ?_ (by rw [sizeLine_eq]; omega) (Nat.le_trans (Nat.le_of_eq (Array.size_push ..)) (by rw [sizeLine_eq]; omega)))
    exact wpAny_pure ⟨rfl, ks.push (.int k t), c2, jk kS s2 _ s2.toks (.inr rfl) j2 s1, hc2, (s1.2 a (Ne.symm ne)).trans q2, by rw [ea, ek]; exact ksk_snoc hk⟩
  · rintro s' ⟨ks, e, j', k1, k2, hk⟩
    have hk' : IntsAre ks.toList kz := by
      have e3 : kz.take (0 + vs.length) = kz := List.take_of_length_le (by omega)
      rw [e3] at hk
      exact hk
    refine wpAny_bind (listItems_at k1 rfl ?_)
    exact sh_end jk j' k1 k2 ne hk' hl small h
theorem sh_tree {s : Shared} {f : Value} {n : Nat} (oa : s.heap.get? a = some (seqObj "list" vs.toArray n)) (hl : kz.length = vs.length) (small : vs.length < 64)
    (jk : ∀ kS, a < kS → KeptAt J a kS) (j : ∀ h' tk, (∀ b o, b ≠ a → s.heap.get? b = some o → h'.get? b = some o) → J { s with heap := h', toks := tk })
    (turn : ∀ (kS : Addr) (e1 i : Nat) (v : Value) (k : Int), a < kS → s.heap.objs.size ≤ kS → vs[i]? = some v → kz[i]? = some k → ∀ (s' : Shared) (o : Obj), J s' → s'.heap.get? kS = some o → s'.heap.get? a = some (seqObj "list" #[] e1) →
      wpAny (model prog w) A (call f [v]) (fun u s2 => ∃ t, u = .int k t ∧ J s2 ∧ s2.heap.get? kS = some o ∧ s2.heap.get? a = some (seqObj "list" #[] e1)) (fun _ _ => False) s')
    (h : ∀ s' out c, J s' → s'.heap.get? a = some (seqObj "list" out c) → KskOut false kz vs out.toList → P (.done (.ret .none)) s') : wpAny (model prog w) A (ksk_tree a f false) P E s := by
  have ha : a < s.heap.objs.size := Heap.lt_size oa
  have s1 := Heap.SameBut.update s.heap a (Obj.mapSeq fun _ => (#[] : Array Value))
  obtain ⟨e1, oa1⟩ : ∃ e1, (s.heap.update a (Obj.mapSeq fun _ => (#[] : Array Value))).get? a = some (seqObj "list" #[] e1) := ⟨_, get?_update_seq oa fun _ => #[]⟩
  have hS : ((s.heap.update a (Obj.mapSeq fun _ => (#[] : Array Value))).push (seqObj "tuple" vs.toArray 0)).objs.size = s.heap.objs.size + 1 := by rw [size_push', Heap.size_update]
  unfold ksk_tree
  refine wpAny_bind (listItems_at oa rfl ?_)
  refine wpAny_bind (listUpdate_at oa rfl ?_ (by rw [List.size_toArray, sizeLine_eq]; omega) (Nat.zero_le _))
  refine wpAny_bind (seqEpoch_at oa1 rfl ?_)
  refine wpAny_bind (wpAny_newTuple ?_ (by show vs.length ≤ _; rw [sizeLine_eq]; omega))
  refine wpAny_bind (wpAny_newList ?_ (Nat.zero_le _))
  refine wpAny_holding ?_
  have gt : a < ((s.heap.update a (Obj.mapSeq fun _ => (#[] : Array Value))).push (seqObj "tuple" vs.toArray 0)).objs.size := by rw [hS]; exact Nat.lt_succ_of_lt ha
  exact sh_rest (s := { s with heap := ((s.heap.update a (Obj.mapSeq fun _ => (#[] : Array Value))).push (seqObj "tuple" vs.toArray 0)).push (seqObj "list" #[] 0) }) (kS := ((s.heap.update a (Obj.mapSeq fun _ => (#[] : Array Value))).push (seqObj "tuple" vs.toArray 0)).objs.size)
    (jk _ gt) (j _ s.toks fun b o hb e => Heap.get?_push_of_some _ (Heap.get?_push_of_some _ ((s1.2 b hb).trans e))) (Heap.get?_push_size _ rfl) (Heap.get?_push_of_some _ (Heap.get?_push_of_some _ oa1)) (Nat.ne_of_gt gt) hl small (fun i v k hv hk => turn _ e1 i v k gt (by rw [hS]; exact Nat.le_succ _) hv hk) h
end
end Gx
set_option Elab.async false
set_option linter.all false
set_option maxRecDepth 100000
set_option maxHeartbeats 4000000
namespace Gx
open PySem PySem.Spec PyProof.Rows L2 GenW GxR
/-! ### the lambda -/
/-- one parameter p, else captured names and globals -/
structure LamP (sc scope : Scope) (p : Str) : Prop where
  kind : scope.kind = .function
  co : scope.isCoroutine = false
  gen : scope.isGenerator = false
  loc : scope.names.lookup p = some .local
  own : ∀ y ∈ scope.names, y.2 ≠ .cell ∧ (y.2 = .local → y.1 = p)
  free : ∀ y ∈ scope.names, y.2 = .free → sc.names.lookup y.1 = some .cell ∨ sc.names.lookup y.1 = some .free
def lamPB (sc scope : Scope) (p : Str) : Bool :=
  decide (scope.kind = .function) && !scope.isCoroutine && !scope.isGenerator && decide (scope.names.lookup p = some .local) && scope.names.all fun y => !decide (y.2 = .cell) && (!decide (y.2 = .local) || decide (y.1 = p)) && (!decide (y.2 = .free) || decide (sc.names.lookup y.1 = some .cell) || decide (sc.names.lookup y.1 = some .free))
theorem lamP_by {sc scope : Scope} {p : Str} (h : lamPB sc scope p = true) : LamP sc scope p := by
  unfold lamPB at h
  simp only [Bool.and_eq_true, Bool.or_eq_true, Bool.not_eq_true', decide_eq_true_eq, decide_eq_false_iff_not, List.all_eq_true] at h
  obtain ⟨⟨⟨⟨h1, h2⟩, h3⟩, h5⟩, h4⟩ := h
  refine ⟨h1, h2, h3, h5, fun y hy => ⟨(h4 y hy).1.1, fun e => ?_⟩, fun y hy e => ?_⟩
  · rcases (h4 y hy).1.2 with z | z
    · exact absurd e z
    · exact z
  · rcases (h4 y hy).2 with (z | z) | z
    · exact absurd e z
    · exact .inl z
    · exact .inr z
theorem LamP.has {X : Cx} {scope : Scope} {p : Str} (L : LamP X.env.scope scope p) (ok : X.Ok) : ∀ y ∈ scope.names, y.2 = .free → ∃ c, X.env.cells.lookup y.1 = some c := fun y hy e => by
  rcases L.free y hy e with k | k
  · exact ok.has _ (.inl k)
  · exact ok.has _ (.inr k)
abbrev envQ (X : Cx) (q : Str) (scope : Scope) (L f c' : Addr) : Env := PySem.W.envX q scope L f (.ref c') (cloFrom X.env.cells scope.names [])
/-- the context of the lambda's body -/
abbrev lamQ (X : Cx) (A : Around) (s : Shared) (H : Hp) (q : Str) (scope : Scope) (f c' : Addr) : Cx :=
  { X with A := A.deeper (envQ X q scope s.heap.objs.size f c'), s_0 := s, H_0 := H, env := envQ X q scope s.heap.objs.size f c', outer := X.stack, stack := envQ X q scope s.heap.objs.size f c' :: X.stack, ex := [], fn := fun _ => false, calm := true, pn := [], xe := fun _ _ => False }
section
variable {X : Cx} {pins : List (Addr × Obj)} {σ : L2.St} {H : Hp} {s : Shared}
theorem lamQ_start {A : Around} {scope : Scope} {p q : Str} {ip : Nat} {v : V} {u : Value} {f c' : Addr} {h1 : Heap} {tk : Nat} (I : Inv X pins σ H s) (L : LamP X.env.scope scope p) (hN : X.N.Nodup) (hip : X.N[ip]? = some p) (hA : A.frames = some X.stack) (hd : A.handled = none)
    (hns : h1.Ns s.heap.objs.size fun y => ([(p, u)] : List (Str × Value)).reverse.lookup y) (ru : RelV v u) (kp : ∀ b o, s.heap.get? b = some o → h1.get? b = some o) :
    Inv (lamQ X A s H q scope f c') [] (σ.set ip (some v)) H { s with heap := h1, toks := tk } := by
  have e0 := I.env0
  have hfree := L.has I.ok
  have cm : ∀ {y c}, (cloFrom X.env.cells scope.names []).lookup y = some c → X.env.cells.lookup y = some c := fun {y c} e => by
    rcases cloFrom_mem (PySem.mem_of_lookup e) with hm | ⟨k1, k2⟩
    · cases hm
    · obtain ⟨c1, hc⟩ := hfree _ k1 rfl
      have hc : X.env.cells.lookup y = some c1 := hc
      have e2 : c = c1 := by
        rw [k2, hc] <;> rfl
      rw [e2]
      exact hc
  have look : ∀ {y}, scope.names.lookup y = some .free → ∃ c, (cloFrom X.env.cells scope.names []).lookup y = some c := fun {y} hl => by
    have hy : (y, NameKind.free) ∈ scope.names := PySem.mem_of_lookup hl
    exact mem_lookup (cloFrom_has (cells := X.env.cells) (acc := []) hy)
  have cellK : ∀ {c : Addr} {z : Option Value}, s.heap.IsCell c z → h1.IsCell c z := fun {c z} ⟨o, ho, hz⟩ => ⟨o, kp _ _ ho, hz⟩
  have noA : ∀ b : Addr, b ∉ (lamQ X A s H q scope f c').ex := fun b z => absurd (show b ∈ ([] : List Addr) from z) (by simp)
  refine ⟨⟨e0.mod, L.kind, rfl, rfl, Nat.le_refl _, fun y z c k1 k2 => I.ok.inj y z c (cm k1) (cm k2), fun y hy => ?_, fun y c z _ => ?_, fun _ => hd, Around.frames_deeper hA, .inr ⟨rfl, rfl⟩, fun b z => absurd z (noA b), e0.bs, e0.bsz, fun b _ _ => noA b,
      fun b z => absurd z (noA b), e0.funs, e0.frf⟩,
    rfl, e0.bare, Un.kept kp, ⟨_, hns, fun i y x k1 k2 k3 => ?_⟩, fun y c e => ?_, e0.hok.fresh (Nat.le_refl _), fun y c e => ?_, fun z hz => absurd (show z ∈ ([] : List (Addr × Obj)) ++ [] from hz) (by simp), e0.hok.kept kp, by rw [List.length_set]; exact I.len⟩
  · have hy : scope.names.lookup y = some .cell ∨ scope.names.lookup y = some .free := hy
    rcases hy with hy | hy
    · exact absurd rfl (L.own _ (PySem.mem_of_lookup hy)).1
    · exact look hy
  · have z : false = true := z
    cases z
  · have k3 : Vis scope y := k3
    by_cases hi : ip = i
    · subst hi
      rw [hip] at k1
      have := Option.some.inj k1
      subst this
      have hlt : ip < σ.length := by
        have := (List.getElem?_eq_some_iff.mp k2).1
        rw [List.length_set] at this
        exact this
      rw [List.getElem?_set_self hlt] at k2
      have := Option.some.inj (Option.some.inj k2)
      subst this
      refine ⟨u, ru, .inl ⟨L.loc, ?_⟩⟩
      show ([(p, u)] : List (Str × Value)).lookup p = some u
      simp
    · rw [List.getElem?_set_ne hi] at k2
      have hyp : y ≠ p := fun z => by
        subst z
        have h3 := (List.getElem?_eq_some_iff.mp k1).1
        exact hi ((List.getElem?_inj (List.getElem?_eq_some_iff.mp hip).1 hN).mp (hip.trans k1.symm))
      rcases k3 with k | k | k
      · exact absurd ((L.own _ (PySem.mem_of_lookup k)).2 rfl) hyp
      · exact absurd rfl (L.own _ (PySem.mem_of_lookup k)).1
      · obtain ⟨m, hn, hl⟩ := I.loc
        have hvis : Vis X.env.scope y := (L.free _ (PySem.mem_of_lookup k) rfl).elim (fun k => .inr (.inl k)) (fun k => .inr (.inr k))
        obtain ⟨w', r, z⟩ := hl i y x k1 k2 hvis
        obtain ⟨c2, h2⟩ := look k
        refine ⟨w', r, .inr ⟨.inr k, c2, h2, ?_⟩⟩
        have c1 := cm h2
        rcases z with ⟨k', _⟩ | ⟨_, c3, e', z⟩
        · have k' : X.env.scope.names.lookup y = some .local := k'
          rcases L.free _ (PySem.mem_of_lookup k) rfl with k2 | k2 <;> rw [show X.env.scope.names.lookup y = _ from k2] at k' <;> cases k'
        · rw [c1] at e'
          cases e'
          exact cellK z
  · obtain ⟨w', z⟩ := I.cell y c (cm e)
    exact ⟨w', cellK z⟩
  · exact I.freeC y c (cm e)
/-- the lambda is made: its code object is new, or found in the table -/
theorem lamX_make {c P : Addr} {params : Arguments} {body : Expr} {scope : Scope} {pos : Pos} {E : Value → Shared → Prop} {Q : Value → Shared → Prop} (I : Inv X pins σ H s) (TB : TabB X.base X.mg c P) (hcode : X.env.code = .ref c) (hT : TabX H P)
    (hdef : defaultsOf params X.env = ([], [])) (hfree : ∀ y ∈ scope.names, y.2 = .free → ∃ c, X.env.cells.lookup y.1 = some c)
    (h : ∀ (f c' : Addr) (q : Str) (pm ctv : Value) (H1 : Hp) (s' : Shared), Inv X pins σ H1 s' → TabbedX P H H1 → s'.heap.get? f = some (PySem.W.kla_obj "<lambda>" (X.env.qual ++ "<lambda>") params body scope (cloFrom X.env.cells scope.names []) pm c' ctv) →
      H1 f = none → s.heap.objs.size ≤ f → H1 c' = some (LamX.CodeO c' q) → (∀ b o, b ≠ P → s.heap.get? b = some o → s'.heap.get? b = some o) → Q (.ref f) s') :
    wpAny (model X.prog X.w) X.A (eval (.Lambda params body scope pos) X.env) Q E s := by
  obtain ⟨ps, hP, ht, ha⟩ := hT
  refine PySem.W.kla_eval hdef ?_
  have bP : s.heap.BuiltinsAt X.mg P := (LamX.TabB.bm ⟨TB.code, TB.bm, TB.gP⟩).keeps I.bk
  have hP' : s.heap.get? P = some { cls := .none, data := .fields ps } := I.hok P _ hP
  cases hc : codeAmong pos ps.toList with
  | none =>
    refine PySem.W.kla_makeFunction (mg := X.mg) (c := c) (P := P) (ps := ps) (closure_ok hfree) I.ok.glob (I.mod.glob.keeps I.bk) hcode (TB.code.keeps I.bk) hP' ht hc TB.gP bP fun c' ctv h' tk hx hge hlt hrec htb => ?_
    obtain ⟨c2, oc, vs, t, e2, hoc, hd, hv⟩ := hrec
    cases e2
    have hsz : s.heap.objs.size ≤ h'.objs.size := Nat.le_trans hge (Nat.le_of_lt hlt)
    have nC : H c' = none := I.hok.fresh hge
    have I1 := LamX.inv_table (t' := tk) (more := #[rawInt pos.line, rawInt pos.col, .ref c']) (h' := h'.push (PySem.W.kla_obj "<lambda>" (X.env.qual ++ "<lambda>") params body scope (cloFrom X.env.cells scope.names []) ((X.mg "__name__").getD .none) c' ctv)) I hP
      (fun b o hb e => Heap.get?_push_of_some _ (hx b o hb e)) (Heap.get?_push_of_some _ htb) hge ⟨oc, vs, t, Heap.get?_push_of_some _ hoc, hd, hv⟩
    refine h h'.objs.size c' _ ((X.mg "__name__").getD .none) ctv _ _ I1 (tabX_new hP ht ha nC) (Heap.get?_push_size _ rfl) ?_ hsz upd_same (fun b o n e => Heap.get?_push_of_some _ (hx b o n e))
    · have n2 : h'.objs.size ≠ P := Nat.ne_of_gt (Nat.lt_of_lt_of_le (Heap.lt_size hP') hsz)
      rw [upd_ne (Nat.ne_of_gt hlt), upd_ne n2]
      exact I.hok.fresh hsz
  | some cv =>
    obtain ⟨c', q, e, hco⟩ := ha pos cv hc
    subst e
    refine PySem.W.kla_makeFunctionHit (mg := X.mg) (c := c) (P := P) (ps := ps) (closure_ok hfree) I.ok.glob (I.mod.glob.keeps I.bk) hcode (TB.code.keeps I.bk) hP' ht hc bP fun ctv h' tk hx hsz => ?_
    have I1 : Inv X pins σ H { s with heap := h'.push (PySem.W.kla_obj "<lambda>" (X.env.qual ++ "<lambda>") params body scope (cloFrom X.env.cells scope.names []) ((X.mg "__name__").getD .none) c' ctv), toks := tk } := I.kept fun b o e => Heap.get?_push_of_some _ (hx b o e)
    exact h h'.objs.size c' q ((X.mg "__name__").getD .none) ctv H _ I1 (TabbedX.same ⟨ps, hP, ht, ha⟩) (Heap.get?_push_size _ rfl) (I.hok.fresh hsz) hsz hco (fun b o _ e => Heap.get?_push_of_some _ (hx b o e))
end
end Gx
set_option Elab.async false
set_option linter.all false
set_option maxRecDepth 100000
set_option maxHeartbeats 4000000
namespace Gx
open PySem PySem.Spec PyProof.Rows L2 GenW GxR
section
variable {X : Cx} {pins : List (Addr × Obj)} {σ : L2.St} {H : Hp} {s : Shared}
/-- an untracked object of ours is tracked from now on -/
theorem inv_track {a : Addr} {o : HO} (I : Inv X pins σ H s) (hn : H a = none) (nl : a ≠ X.env.locals) (h1 : X.s_0.heap.objs.size ≤ a) (h2 : ∀ x c, X.env.cells.lookup x = some c → c ≠ a) (h3 : ∀ p ∈ X.pn ++ pins, p.1 ≠ a)
    (new : ObjOk X.prog X.w (upd H a o) s.heap a o) : Inv X pins σ (upd H a o) s := by
  have hok : HOk X.prog X.w (upd H a o) s.heap := HOk.laidN I.hok (fun _ _ e => e) hn new
  have := I.step (h' := s.heap) (H' := upd H a o) (g' := s.gens) (t' := s.toks) (d' := s.drawn) (ch := [a]) (fun b hb => by
      have e : b = a := by simpa using hb
      subst e
      exact ⟨.inr h1, nl, h2, h3⟩) (fun b o _ _ _ e _ => e) (fun b o _ _ _ e _ => ⟨o.slots, e⟩) (fun b u hb e n => by
      rw [upd_ne (fun z => hb (by simp [z]))]; exact n) (fun b u _ e => ⟨u, e⟩) (fun b xs e => by rw [upd_ne (ne_of_none e hn)]; exact e) (fun b u v e => by rw [upd_ne (ne_of_none e hn)]; exact e)
      (fun b ps e => ⟨#[], by rw [upd_ne (ne_of_none e hn), e]; simp⟩) (fun m hm => hm) hok I.bare
  exact this
theorem inv_pin {f : Addr} {fo : Obj} (I : Inv X pins σ H s) (hf : s.heap.get? f = some fo) (hn : H f = none) (nl : f ≠ X.env.locals) (nf : f ∉ X.fs) (nc : ∀ v, fo.data ≠ .cell v) : Inv X ((f, fo) :: pins) σ H s :=
  ⟨I.ok, I.os, I.bare, I.base, I.loc, I.cell, I.free, I.freeC, fun p hp => by
    rcases List.mem_append.mp hp with hp | hp
    · exact I.pin p (List.mem_append.mpr (.inl hp))
    · rcases List.mem_cons.mp hp with rfl | hp
      · exact ⟨hf, hn, nl, nf, nc⟩
      · exact I.pin p (List.mem_append.mpr (.inr hp)), I.hok, I.len⟩
theorem inv_unpin {p : Addr × Obj} (I : Inv X (p :: pins) σ H s) : Inv X pins σ H s :=
  ⟨I.ok, I.os, I.bare, I.base, I.loc, I.cell, I.free, I.freeC, fun q hq => I.pin q (by
    rcases List.mem_append.mp hq with hq | hq
    · exact List.mem_append.mpr (.inl hq)
    · exact List.mem_append.mpr (.inr (List.mem_cons_of_mem _ hq))), I.hok, I.len⟩
end
/-- sorted(range(..), key=lambda p: ..) -/
def tSortK (P : Addr) (te : L2.St → Hp → (Int → Int → Hp → Prop) → Prop) (tb : TE) (ip : Nat) : TE := fun σ H Q => te σ H fun a b H1 => TabX H1 P ∧ ∀ H2, TabbedX P H1 H2 → ∃ (n : Nat) (key : Nat → Int), a = 0 ∧ b = n ∧ n < 64 ∧
  (∀ i, i < n → tb (σ.set ip (some (.int (i : Nat)))) H2 fun v H' => v = .int (key i) ∧ H' = H2) ∧
  ∀ (out : List Nat) (p : Addr), out.Perm (List.range n) → (out.map key).Pairwise (· ≤ ·) → H2 p = none → Q (.ref p) (upd H2 p (.lst (out.map fun i => V.int ((i : Nat) : Int))))
/-- what the sort tells of numbered items -/
theorem ksk_nums {n : Nat} {key : Nat → Int} {vs out : List Value} (hv : vs.length = n) (hi : ∀ (j : Nat) v, vs[j]? = some v → ∃ t, v = .int (j : Nat) t) (h : KskOut false ((List.range n).map key) vs out) :
    ∃ ns : List Nat, ns.Perm (List.range n) ∧ (ns.map key).Pairwise (· ≤ ·) ∧ Vals (ns.map fun i => V.int ((i : Nat) : Int)) out := by
  obtain ⟨ps, p1, rfl, p3⟩ := h
  have mem : ∀ p ∈ ((List.range n).map key).zip vs, ∃ (j : Nat) (t : Tok), p = (key j, .int (j : Nat) t) := fun p hp => by
    obtain ⟨j, hj⟩ := List.mem_iff_getElem?.mp hp
    rw [List.getElem?_zip_eq_some] at hj
    obtain ⟨h1, h2⟩ := hj
    obtain ⟨t, ht⟩ := hi j _ h2
    rw [List.getElem?_map] at h1
    have hj : j < n := by
      have := (List.getElem?_eq_some_iff.mp h2).1
      omega
    rw [List.getElem?_range hj] at h1
    have h1 : key j = p.1 := Option.some.inj h1
    exact ⟨j, t, by rw [h1, ← ht]⟩
  have e1 : (((List.range n).map key).zip vs).map (fun p : Int × Value => (numOf p.2).toNat) = List.range n := by
    apply List.ext_getElem?
    intro j
    rw [List.getElem?_map]
    rcases Nat.lt_or_ge j n with z | z
    · have h2 : vs[j]? = some (vs[j]'(by omega)) := List.getElem?_eq_getElem _
      obtain ⟨t, ht⟩ := hi j _ h2
      have : (((List.range n).map key).zip vs)[j]? = some (key j, vs[j]'(by omega)) := List.getElem?_zip_eq_some.mpr ⟨by rw [List.getElem?_map, List.getElem?_range z]; rfl, h2⟩
      rw [this, List.getElem?_range z, ht]
      show some ((((j : Nat) : Int)).toNat) = some j
      rw [Int.toNat_natCast]
    · rw [List.getElem?_eq_none (by rw [List.length_zip, List.length_map, List.length_range]; omega), List.getElem?_eq_none (by rw [List.length_range]; exact z)]
      rfl
  refine ⟨ps.map fun p => (numOf p.2).toNat, by rw [← e1]; exact p1.map _, ?_, ?_⟩
  · have : (ps.map fun p => (numOf p.2).toNat).map key = ps.map (·.1) := by
      rw [List.map_map]
      apply List.map_congr_left
      intro p hp
      obtain ⟨j, t, rfl⟩ := mem p (p1.mem_iff.mp hp)
      show key (((j : Nat) : Int).toNat) = key j
      rw [Int.toNat_natCast]
    rw [this, List.pairwise_map]
    exact p3.imp fun h => by simpa using h
  · have all : ∀ l : List (Int × Value), (∀ p ∈ l, ∃ (j : Nat) (t : Tok), p = (key j, .int (j : Nat) t)) → Vals ((l.map fun p => (numOf p.2).toNat).map fun i => V.int ((i : Nat) : Int)) (l.map Prod.snd) := by
      intro l
      induction l with
      | nil => intro _; exact .nil
      | cons p l ih =>
        intro hl
        obtain ⟨j, t, rfl⟩ := hl p (List.mem_cons_self ..)
        refine .cons ⟨t, ?_⟩ (ih fun q hq => hl q (List.mem_cons_of_mem _ hq))
        show Value.int (j : Nat) t = Value.int (((((j : Nat) : Int)).toNat : Nat) : Int) t
        rw [Int.toNat_natCast]
    exact all ps fun p hp => mem p (p1.mem_iff.mp hp)
section
variable {X : Cx}
theorem pe_sortKey {c P : Addr} {e body : Expr} {te : L2.St → Hp → (Int → Int → Hp → Prop) → Prop} {params : Arguments} {scope : Scope} {y : Str} {ip : Nat} {tb : TE} {k : Nat} {p1 kp lpos pos : Pos}
    (hc : X.calm = true) (hr : Room (k + 3) X.A) (hN : X.N.Nodup) (hg : Gl X "sorted") (hm : X.mg "sorted" = none) (hv : bootBuiltins "sorted" = some (.builtin "sorted")) (TB : TabB X.base X.mg c P) (hcode : X.env.code = .ref c) (he : PRg X e te)
    (L : LamP X.env.scope scope y) (hip : X.N[ip]? = some y) (hdef : defaultsOf params X.env = ([], [])) (hbind : ∀ (q : Str) (cl : List (Str × Addr)) (pm cv ctv u : Value), bindArgs (PySem.W.kla_fn "<lambda>" q params body scope cl pm cv ctv) ⟨[u], []⟩ = pure [(y, u)])
    (hb : ∀ (A : Around) (s : Shared) (H : Hp) (q : Str) (f c' : Addr), Room k (A.deeper (envQ X q scope s.heap.objs.size f c')) → PE (lamQ X A s H q scope f c') body tb)
    (hs : backTo pos (starEach [e] X.env) = (false, eval e X.env) :: backTo pos (starEach [] X.env) := by rfl) (hpl : (backTo pos (starEach [e] X.env)).any (·.1) = false := by rfl) :
    PE X (.Call (.Name "sorted" p1) [e] [⟨some "key", .Lambda params body scope lpos, kp⟩] pos) (tSortK P te tb ip) := by
  refine ⟨fun pins s σ H Q I h => ?_⟩
  refine wpAny_Call_Name_kw (ld_blt I hg hm hv ?_)
  refine PyProof.Rows.callWith_kw ?_ hs hpl (by rfl) (by rfl)
  rw [hs]
  refine Calls.spliced_cons (thn (he pins s σ H _ I h) fun x s1 ⟨r, a, b, t, u, v, H1, ex, hrg, I1, hT, q1⟩ => Calls.spliced_nil ?_)
  subst ex
  show wpAny _ _ (evalAll [(do let z ← eval (.Lambda params body scope lpos) X.env; standAt pos; pure z)]) _ _ s1
  refine wpAny_evalAll_cons (wpAny_bind (lamX_make I1 TB hcode hT hdef (L.has I1.ok) fun f c' q pm ctv H2 s2 I2 hTb hf hfn hfsz hco hkeep => ?_))
  refine wpAny_bind (wpAny_standAt (wpAny_pure (wpAny_evalAll_nil ?_)))
  show wpAny _ _ (call (.builtin "sorted") [.ref r] [("key", .ref f)]) _ _ s2
  obtain ⟨n, key, ea, eb, hn, hkey, hq⟩ := q1 H2 hTb
  subst ea eb
  obtain ⟨ps, hP, _⟩ := hT
  have hrP : r ≠ P := fun z => by
    have h1 : s1.heap.get? P = some { cls := .none, data := .fields ps } := I1.hok P _ hP
    rw [← z] at h1
    have h2 := hrg
    unfold IsRange at h2
    rw [h2] at h1
    cases h1
  have hrg2 : IsRange s2.heap r 0 n 1 t u v := hkeep r _ hrP hrg
  have hfl : f < s2.heap.objs.size := Heap.lt_size hf
  have fnl : f ≠ X.env.locals := fun z => by
    have := I1.lt
    rw [← z] at this
    exact Nat.lt_irrefl _ (Nat.lt_of_lt_of_le this hfsz)
  have I3 := inv_pin I2 hf hfn fnl (I1.nofs hfsz) (fun v z => by cases z)
  refine call_function_entry_kw kind_sorted plain_sorted entry_sorted (ksk_s1 _ _) ?_
  unfold Builtin.«sorted»
  refine wpAny_bind (m := checkCount "sorted" 1 1 _) (wpAny_pure ?_)
  refine wpAny_bind (collect_range (A := X.A.in1) (n := n) hr.hd hrg2 (small_one (by decide) (by decide) (by omega) (by omega)) (by rw [rangeSize_nat]; simp) (by omega) fun h4 tk4 acc hk4 hi4 => ?_)
  have hal : acc.toList.length = n := by rw [Array.length_toList]; exact hi4.1
  have hitems : ∀ (j : Nat) w, acc.toList[j]? = some w → ∃ t, w = .int (j : Nat) t := fun j w hj => by
    obtain ⟨t, ht⟩ := hi4.2 j w (by rw [← hj, Array.getElem?_toList])
    exact ⟨t, by rw [ht, Int.mul_one, Int.zero_add]⟩
  refine wpAny_bind (wpAny_newList ?_ (by rw [hal, sizeLine_eq]; omega))
  have I4 : Inv X ((f, _) :: pins) σ H2 { s2 with heap := h4, toks := tk4 } := I3.kept hk4
  have fresh : ∀ x, h4.objs.size ≤ x → H2 x = none ∧ x ≠ X.env.locals ∧ X.s_0.heap.objs.size ≤ x ∧ (∀ y c, X.env.cells.lookup y = some c → c ≠ x) ∧ ∀ p ∈ X.pn ++ ((f, _) :: pins), p.1 ≠ x := fun x hx => by
    refine ⟨I4.hok.fresh hx, Nat.ne_of_gt (Nat.lt_of_lt_of_le I4.lt hx), Nat.le_trans I4.sz hx, fun y c e z => ?_, fun p hp z => ?_⟩
    · obtain ⟨w, o, ho, _⟩ := I4.cell y c e
      rw [z] at ho
      exact absurd (Heap.lt_size ho) (Nat.not_lt.mpr hx)
    · have := (I4.pin p hp).1
      rw [z] at this
      exact absurd (Heap.lt_size this) (Nat.not_lt.mpr hx)
  refine wpAny_bind (wpAny_holding (wpAny_call_entry_kw slot_list_sort ⟨_, Heap.get?_push_size _ rfl, rfl⟩ entry_list_sort ?_ (ksk_l1 _ _)))
  rw [ksk_t1]
  refine sh_tree (J := fun s' => Inv X ((f, PySem.W.kla_obj "<lambda>" (X.env.qual ++ "<lambda>") params body scope (cloFrom X.env.cells scope.names []) pm c' ctv) :: pins) σ H2 s') (kz := (List.range n).map key) (vs := acc.toList) (n := 0) (Heap.get?_push_size _ rfl) (by rw [List.length_map, List.length_range, hal]) (by rw [hal]; exact hn) (fun kS hkS x s' h' tk hx J' sb => ?_) (fun h' tk hk => ?_) (fun kS e1 i w kk hkS hkz hw hkk s' o J' ok oa => ?_) (fun s' out c0 J' oa ko => ?_)
  · have hx' : h4.objs.size ≤ x := by
      rcases hx with rfl | rfl
      · exact Nat.le_refl _
      · exact Nat.le_of_lt hkS
    obtain ⟨z1, z2, z3, z4, z5⟩ := fresh x hx'
    exact Inv.turned J' (fun b o hb e => (sb.2 b hb).trans e) z1 z2 (.inr z3) z4 z5
  · exact I4.kept fun b o e => hk b o (Nat.ne_of_lt (Heap.lt_size e)) (Heap.get?_push_of_some _ e)
  · -- the lambda called
    obtain ⟨tw, rfl⟩ := hitems i w hw
    have hin : i < n := by
      have := (List.getElem?_eq_some_iff.mp hw).1
      omega
    have ek : key i = kk := by
      rw [List.getElem?_map, List.getElem?_range hin] at hkk
      exact Option.some.inj hkk
    have of1 : s'.heap.get? f = some (PySem.W.kla_obj "<lambda>" (X.env.qual ++ "<lambda>") params body scope (cloFrom X.env.cells scope.names []) pm c' ctv) := (J'.pin (f, _) (List.mem_append.mpr (.inr (List.mem_cons_self ..)))).1
    obtain ⟨⟨oc, vs, tc, hoc, hdc, hvc⟩, _, _⟩ := J'.hok c' _ hco
    have nfr : ∀ x, h4.objs.size ≤ x → x ∉ frs X.stack := fun x hx z => by
      rcases List.mem_cons.mp (I4.stkSub x z) with e | e
      · exact (fresh x hx).2.1 e
      · exact I4.nofs hx e
    have hroom : Room (k + 1) X.A.in1.in1 := (hr.in1).in1
    have rc : codeAny (model X.prog X.w) X.A.in1.in1 (.call (.ref f) ⟨[.int (i : Nat) tw], []⟩) (fun rr s3 => match rr with | .ok (.ret u) => (∃ t, u = .int kk t) ∧ Inv X ((f, PySem.W.kla_obj "<lambda>" (X.env.qual ++ "<lambda>") params body scope (cloFrom X.env.cells scope.names []) pm c' ctv) :: pins) σ H2 s3 ∧ Un (frs X.stack) [] H2 H2 s'.heap s3.heap | _ => False) s' := by
      refine call_lamQ hroom.depth of1 rfl L.co L.gen rfl ⟨c', oc, vs, tc, rfl, hoc, hdc, hvc⟩ ?_
      rw [hbind]
      refine wpAny_pure (wpAny_newFunctionEnv (fun z hz => (L.own z hz).1) (fun z hz => by rw [List.mem_singleton.mp hz]; exact L.loc) (fun h1 hns hsb => ⟨J'.nolimit.fresh _ hsb, ?_⟩) L.kind)
      show codeAny _ _ (.expr body (envQ X q scope s'.heap.objs.size f c')) _ _
      have kp : ∀ b o, s'.heap.get? b = some o → h1.get? b = some o := fun b o e => hsb.extBut b o (Nat.ne_of_lt (Heap.lt_size e)) (Heap.get?_push_of_some _ e)
      have J1 := lamQ_start (v := .int ((i : Nat) : Int)) (A := X.A.in1.in1) (q := q) (f := f) (c' := c') (tk := s'.toks + ([(y, Value.int (i : Nat) tw)] : List (Str × Value)).length) J' L hN hip J'.ok.frames hr.hd hns ⟨tw, rfl⟩ kp
      refine PySem.W.kla_codeExpr (wpAny_mono ((hb X.A.in1.in1 s' H2 q f c' (hroom.deeper _)).run [] _ _ H2 _ J1 (hkey i hin)) (fun u' s3 hq' => ?_) fun _ _ z => z.elim)
      obtain ⟨w', H', J2, rv, ev, eH⟩ := hq'
      subst ev eH
      obtain ⟨tu, rfl⟩ := rv
      obtain ⟨v2, H3, I5, r4, q4⟩ := J'.after (Q := fun _ H'' => H'' = H') (u := .int (key i) tu) ⟨.int (key i), H', J2.os, J2.bare, J2.base, J2.hok, ⟨tu, rfl⟩, rfl⟩
      rw [q4] at I5
      exact ⟨⟨tu, by rw [ek]⟩, I5, J2.base⟩
    refine wpAny_call (codeAny_mono rc fun rr s3 hz => ?_)
    cases rr with
    | error e => exact hz.elim
    | ok fl =>
      cases fl with
      | ret u' =>
        obtain ⟨⟨tu, rfl⟩, I5, un⟩ := hz
        have hS : h4.objs.size ≤ kS := Nat.le_of_lt hkS
        exact ⟨tu, rfl, I5, un.keep kS o ok (fresh kS hS).1 (nfr kS hS) (by simp), un.keep _ _ oa (fresh _ (Nat.le_refl _)).1 (nfr _ (Nat.le_refl _)) (by simp)⟩
      | next => exact hz.elim
      | brk => exact hz.elim
      | cont => exact hz.elim
  · obtain ⟨ns, g1, g2, g3⟩ := ksk_nums hal hitems ko
    obtain ⟨z1, z2, z3, z4, z5⟩ := fresh h4.objs.size (Nat.le_refl _)
    refine ⟨_, rfl, wpAny_pure ⟨_, rfl, .ref h4.objs.size, upd H2 h4.objs.size (.lst (ns.map fun i => V.int ((i : Nat) : Int))), inv_unpin (inv_track J' z1 z2 z3 z4 z5 ⟨?_, out.toList, c0, g3, by rw [Array.toArray_toList]; exact oa⟩), rfl, hq ns _ g1 g2 z1⟩⟩
    rw [List.length_map, g1.length_eq, List.length_range, sizeLine_eq]
    omega
end
end Gx
set_option Elab.async false
set_option linter.all false
set_option maxRecDepth 100000
set_option maxHeartbeats 4000000
/-! a generator expression whose items are collected -/
namespace Gx
open PySem PySem.Spec PyProof.Rows L2 GenW GxR
/-- turn by turn: acc is out -/
def TurnsC (J : It) (g : TG) (tt : TT) (te : TE) (vs : List Nat) (σ0 : L2.St) (W : Nat → Nat → List V → Hp → Prop) (Qt : List V → Hp → Prop) : Prop :=
  ∀ i m acc H, W i m acc H → (J.stop i H ∧ Qt acc H) ∨ (J.go i H ∧ ∃ Nx : List V → Hp → Prop, (∀ acc' H', Nx acc' H' → ∃ m', m' < m ∧ W (i + 1) m' acc' H') ∧ ∀ x H', J.yld i H x H' → g x σ0 H' fun σ2 H2 => wipe σ2 vs = σ0 ∧ tt σ2 H2 fun b H3 => if b = true then te σ2 H3 fun y H4 => acc.length < 100000 ∧ Nx (acc ++ [y]) H4 else Nx acc H3)
theorem slept_woke {Sa : Addr} {v : Value} {s s' : Shared} {arr : Array Value} {c : Nat} (h : Slept Sa v s s') (e : s.heap.get? Sa = some (lstObj arr c)) : WokeS Sa s s' := by
  obtain ⟨c', e'⟩ := h.own arr c e
  exact ⟨h.keep, ⟨_, e', fun v z => by cases z⟩, h.os, h.bare⟩
section
variable {X : Cx} {A' B : Around} {s4 : Shared} {H4 : Hp} {cenv : Env} {fp : List Addr} {pn : List (Addr × Obj)} {it Sa a : Addr} {gi : Nat} {gobj : Obj} {E : XK} {tn : Nat → Heap → Prop} {J : It} {elt tg iter : Expr} {ifs : List Expr} {scope : Scope} {pos : Pos} {g : TG} {tt : TT} {te : TE} {vs : List Nat} {σ0 : L2.St} {W : Nat → Nat → List V → Hp → Prop} {Qt : List V → Hp → Prop}
theorem seg_cx (hA : B.over (.compLoop (.GeneratorExp elt [⟨tg, iter, ifs, 0⟩] scope pos) 0 (.ref it) .none cenv) [] = A') (hc : X.calm = true) (hco : cenv.scope.isCoroutine = false) (T : Turn X.prog X.w X.K tg J fp it tn) (hpn : (a, gobj) ∈ pn) (hgo : ∀ h : Heap, h.get? a = some gobj → h.IsGen a gi)
    (hst : ∀ (pl : List (Addr × Obj)) (H : Hp), (∀ p ∈ pl, p.1 = Sa) → (∀ b ∈ fp, H b = none) → ∀ b ∈ fp, FpOk (gcx X A' s4 H4 cenv fp pn) pl H b) (hSf : Sa ∉ fp) (hSo : ∀ H : Hp, H Sa = none → FpOk (gcx X A' s4 H4 cenv fp pn) [] H Sa) (hσ : wipe σ0 vs = σ0)
    (hg : PG (gcx X A' s4 H4 cenv fp pn) tg g) (ht : PTs (gcx X A' s4 H4 cenv fp pn) ifs tt) (he : PE (gcx X A' s4 H4 cenv fp pn) elt te) (hturn : TurnsC J g tt te vs σ0 W Qt) :
    ∀ (m n i : Nat) (acc : List V) (H : Hp) (s₀ s : Shared) (arr : Array Value) (c : Nat), Inv (gcx X A' s4 H4 cenv fp pn) [] σ0 H s → H Sa = none → s.heap.get? Sa = some (lstObj arr c) → Vals acc arr.toList → n + acc.length = sizeLine → tn i s.heap → (∀ b ∈ fp, H b = none) → W i m acc H →
      Seg (model X.prog X.w) B (REnd X.prog X.w X.stack H4 s4 fp Sa a gi Qt E) (YItem s4 Sa a gi) n s₀ (.compLoop (.GeneratorExp elt [⟨tg, iter, ifs, 0⟩] scope pos) 0 (.ref it) .none cenv)
        ((model X.prog X.w).den (.compLoop (.GeneratorExp elt [⟨tg, iter, ifs, 0⟩] scope pos) 0 (.ref it) .none cenv)) [] s := by
  intro m
  induction m using Nat.strongRecOn with
  | _ m ih =>
  intro n i acc H s₀ s arr c I hSn ho hva hn st fr w
  show Seg _ B _ _ _ s₀ _ ((compTurn (.GeneratorExp elt [⟨tg, iter, ifs, 0⟩] scope pos) 0 (.ref it) .none cenv).onRaise (leaving cenv)) [] s
  rw [compTurn_gen, Sem.onRaise_eq_wrap]
  refine seg_bind_wrap (wpAny_standAt ?_)
  have hoc : ∀ v, (lstObj arr c).data ≠ .cell v := fun v z => by cases z
  have I0 : Inv (gcx X A' s4 H4 cenv fp pn) ([] ++ pinsAt [Sa] s.heap) σ0 H s := I.pinned (fun b hb => by rw [List.mem_singleton.mp hb]; exact hSo H hSn) (fun b hb => by rw [List.mem_singleton.mp hb]; exact ⟨_, ho, hoc⟩)
  have pl : ∀ p ∈ ([] ++ pinsAt [Sa] s.heap : List (Addr × Obj)), p.1 = Sa := fun p hp => by
    rw [List.nil_append] at hp
    exact List.mem_singleton.mp (of_pinsAt hp).1
  have mS : (Sa, lstObj arr c) ∈ ([] ++ pinsAt [Sa] s.heap : List (Addr × Obj)) := by
    rw [List.nil_append]
    exact mem_pinsAt (List.mem_singleton.mpr rfl) ho
  rcases hturn i m acc H w with ⟨stop, qn⟩ | ⟨goes, Nx, hN, step⟩
  · refine seg_bind_wrap ?_
    rw [hA]
    refine wpAny_mono (T.done (gcx X A' s4 H4 cenv fp pn) rfl rfl rfl hc i _ s σ0 H _ I0 (hst _ H pl fr) st stop) (fun r s1 hr => ?_) fun _ _ e => e
    obtain ⟨rfl, I1⟩ := hr
    have q := I1.pin (Sa, lstObj arr c) (List.mem_append_right _ mS)
    exact seg_end (.ok .next) (.inl ⟨.inr rfl, H, acc, arr, c, I1.os, I1.bare, I1.base, I1.hok, hSn, q.1, hva, by omega, qn⟩)
  · refine seg_bind_wrap ?_
    rw [hA]
    refine wpAny_mono (T.item (gcx X A' s4 H4 cenv fp pn) rfl rfl rfl hc i _ s σ0 H _ I0 (hst _ H pl fr) st goes) (fun r s1 hr => ?_) fun _ _ e => e
    obtain ⟨u, rfl, h1⟩ := hr
    refine seg_bind_wrap ?_
    rw [hA]
    refine wpAny_mono h1 (fun _ s2 h2 => ?_) fun _ _ e => e
    obtain ⟨x, H2, I2, rx, yl, st2, fr2⟩ := h2
    have I2' := I2.pinned (hst _ H2 pl fr2) (T.obj _ _ st2)
    refine seg_bind_wrap ?_
    rw [hA]
    refine wpAny_mono (hg.run _ s2 σ0 H2 x u _ I2' rx (step x H2 yl)) (fun _ s3 h3 => ?_) fun _ _ e => e.elim
    obtain ⟨σ3, H3, I3, hw3, q3⟩ := h3
    have keeps : ∀ {σ' : L2.St} {H' : Hp} {s' : Shared}, Inv (gcx X A' s4 H4 cenv fp pn) (([] ++ pinsAt [Sa] s.heap) ++ pinsAt fp s2.heap) σ' H' s' → (tn (i + 1) s'.heap ∧ ∀ b ∈ fp, H' b = none) ∧ s'.heap.get? Sa = some (lstObj arr c) ∧ H' Sa = none := fun {σ' H' s'} I' =>
      ⟨⟨T.keep _ _ _ st2 fun b hb o e => (I'.pin (b, o) (List.mem_append_right _ (List.mem_append_right _ (mem_pinsAt hb e)))).1, fun b hb => by
        obtain ⟨o, e, _⟩ := T.obj _ _ st2 b hb
        exact (I'.pin (b, o) (List.mem_append_right _ (List.mem_append_right _ (mem_pinsAt hb e)))).2.1⟩, by
        have q := I'.pin (Sa, lstObj arr c) (List.mem_append_right _ (List.mem_append_left _ mS))
        exact ⟨q.1, q.2.1⟩⟩
    have back : ∀ {H' : Hp} {s' : Shared}, Inv (gcx X A' s4 H4 cenv fp pn) (([] ++ pinsAt [Sa] s.heap) ++ pinsAt fp s2.heap) σ3 H' s' → Inv (gcx X A' s4 H4 cenv fp pn) [] σ0 H' s' := fun {H' s'} I' => by
      refine (I'.unpinned).unpinned.weak ?_ fun j v e => ?_
      · rw [← hw3, wipe_length]
      · rw [← hw3] at e
        exact (wipe_some e).1
    refine seg_bind_wrap ?_
    rw [hA]
    refine wpAny_mono (ht.run _ s3 σ3 H3 _ I3 q3) (fun b s5 h5 => ?_) fun _ _ e => e.elim
    obtain ⟨H5, I5, q5⟩ := h5
    cases b with
    | false =>
      simp only [Bool.false_eq_true, if_false]
      obtain ⟨m', hm, w'⟩ := hN acc H5 q5
      obtain ⟨⟨k1, k2⟩, k3, k4⟩ := keeps I5
      exact seg_again rfl (ih m' hm n (i + 1) acc H5 s₀ s5 arr c (back I5) k4 k3 hva hn k1 k2 w')
    | true =>
      simp only [if_true]
      have hy : ∀ v, yieldOut cenv v = yieldValue v := fun v => by simp only [yieldOut, hco, Bool.false_eq_true, if_false]
      simp only [hy]
      rw [Sem.bind_eq_wrap', Sem.bind_eq_wrap', Sem.wrap_wrap, Sem.wrap_wrap]
      refine seg_wrap ?_
      rw [hA]
      refine wpAny_mono (he.run _ s5 σ3 H5 _ I5 q5) (fun v s6 h6 => ?_) fun _ _ e => e.elim
      obtain ⟨y, H6, I6, ry, hlt, q6⟩ := h6
      obtain ⟨⟨k1, k2⟩, k3, k4⟩ := keeps I6
      obtain ⟨m', hm, w'⟩ := hN _ H6 q6
      have hz : sizeLine = 16777216 := sizeLine_eq
      obtain ⟨n', rfl⟩ : ∃ n', n = n' + 1 := ⟨n - 1, by omega⟩
      have hsz : arr.size = acc.length := by rw [hva.length, Array.length_toList]
      have hga := I6.pin (a, gobj) (List.mem_append_left _ hpn)
      refine seg_at (seg_yield rfl rfl rfl ⟨I6.os, I6.bare, I6.nolimit, hgo _ hga.1, ⟨arr, c, k3, by omega⟩, fun s' wk => ?_⟩)
      obtain ⟨c', e'⟩ := wk.own arr c k3
      exact seg_again rfl (ih m' hm n' (i + 1) (acc ++ [y]) H6 s' s' (arr.push v) c' (inv_wokeS (back I6) k4 (hSo H6 k4) (slept_woke wk k3)) k4 e' (by rw [Array.toList_push]; exact Paired.snoc hva ry) (by rw [List.length_append]; show n' + (acc.length + 1) = _; omega) (T.keep _ _ _ k1 fun b hb o e => wk.keep b o (fun z => hSf (z ▸ hb)) e) k2 w')
theorem seg_cx0 (hA : B.over (.compLoop (.GeneratorExp elt [⟨tg, iter, ifs, 0⟩] scope pos) 0 (.ref it) .none cenv) [] = A') (hc : X.calm = true) (hco : cenv.scope.isCoroutine = false) (T : Turn X.prog X.w X.K tg J fp it tn) (hpn : (a, gobj) ∈ pn) (hgo : ∀ h : Heap, h.get? a = some gobj → h.IsGen a gi)
    (hst : ∀ (pl : List (Addr × Obj)) (H : Hp), (∀ p ∈ pl, p.1 = Sa) → (∀ b ∈ fp, H b = none) → ∀ b ∈ fp, FpOk (gcx X A' s4 H4 cenv fp pn) pl H b) (hSf : Sa ∉ fp) (hSo : ∀ H : Hp, H Sa = none → FpOk (gcx X A' s4 H4 cenv fp pn) [] H Sa) (hσ : wipe σ0 vs = σ0)
    (hg : PG (gcx X A' s4 H4 cenv fp pn) tg g) (ht : PTs (gcx X A' s4 H4 cenv fp pn) ifs tt) (he : PE (gcx X A' s4 H4 cenv fp pn) elt te) (hturn : TurnsC J g tt te vs σ0 W Qt)
    (m : Nat) (H : Hp) (s : Shared) (c : Nat) (I : Inv (gcx X A' s4 H4 cenv fp pn) [] σ0 H s) (hSn : H Sa = none) (hSe : s.heap.get? Sa = some (lstObj #[] c)) (st : tn 0 s.heap) (fr : ∀ b ∈ fp, H b = none) (w : W 0 m [] H) :
      Seg (model X.prog X.w) B (REnd X.prog X.w X.stack H4 s4 fp Sa a gi Qt E) (YItem s4 Sa a gi) sizeLine s (.compStart (.GeneratorExp elt [⟨tg, iter, ifs, 0⟩] scope pos) 0 (.ref it) .none cenv)
        ((model X.prog X.w).den (.compStart (.GeneratorExp elt [⟨tg, iter, ifs, 0⟩] scope pos) 0 (.ref it) .none cenv)) [] s := by
  have loop := seg_cx (E := E) hA hc hco T hpn hgo hst hSf hSo hσ hg ht he hturn m sizeLine 0 [] H s s #[] c I hSn hSe .nil rfl st fr w
  show Seg _ B _ _ _ s _ ((compStart (.GeneratorExp elt [⟨tg, iter, ifs, 0⟩] scope pos) 0 (.ref it) .none cenv).onRaise (leaving cenv)) [] s
  unfold compStart
  rw [Sem.onRaise_eq_wrap]
  show Seg _ B _ _ _ s _ ((ask >>= _).wrap _ _ _ _) [] s
  refine seg_bind_wrap (wpAny_askSetting ?_)
  split
  · exact seg_again rfl loop
  · first
      | exact seg_bind_wrap (wpAny_rule (seg_bind_wrap (wpAny_standAt (seg_bind_wrap (T.self _ 0 s _ _ st (seg_again rfl loop))))))
      | (refine seg_bind_wrap (wpAny_rule ?_); show Seg _ B _ _ _ s _ ((standAt iter.pos >>= _).wrap _ _ _ _) [] s; exact seg_bind_wrap (wpAny_standAt (seg_bind_wrap (T.self _ 0 s _ _ st (seg_again rfl loop)))))
end
/-- (e for x in .. if ..), its items collected -/
def tgGx (P : Addr) (wi : TI) (g : TG) (tt : TT) (te : TE) (vs : List Nat) : TGen := fun σ H Q => wi σ H fun J H1 => TabX H1 P ∧ ∀ H2, TabbedX P H1 H2 →
  ∃ W : Nat → Nat → List V → Hp → Prop, (∃ m, W 0 m [] H2) ∧ TurnsC J g tt te vs (wipe σ vs) W Q
section
variable {X : Cx} {c P : Addr} {elt tg iter : Expr} {ifs : List Expr} {scope : Scope} {own : List (Str × Nat)} {gpos : Pos} {wi : TI} {g : TG} {tt : TT} {te : TE} {k : Nat} {E : XK}
theorem room_over {A : Around} {env : Env} (hr : Room (k + 1) A) : Room k (A.over (.compLoop (.GeneratorExp elt [⟨tg, iter, ifs, 0⟩] scope gpos) 0 (.ref c) .none env) []) :=
  ⟨hr.hd, by have := hr.dp; show A.depth + 1 + 3 * k + 5 < _; omega, by have := hr.un; show A.units + 3 + 16 * k + 200 < _; omega⟩
theorem pgen_gx (hc : X.calm = true) (hr : Room (k + 2) X.A) (hN : X.N.Nodup) (TB : TabB X.base X.mg c P) (hcode : X.env.code = .ref c) (S : GenOk X.env X.N scope own) (hi : PI X tg iter wi)
    (hg : ∀ (A' : Around) (s : Shared) (H : Hp) (cl : List (Str × Addr)) (C : Addr) (code : Value) (fp : List Addr) (pn : List (Addr × Obj)), Room k A' → PG (gcx X A' s H (genEnv scope cl C code builtinsNs X.env) fp pn) tg g)
    (ht : ∀ (A' : Around) (s : Shared) (H : Hp) (cl : List (Str × Addr)) (C : Addr) (code : Value) (fp : List Addr) (pn : List (Addr × Obj)), Room k A' → PTs (gcx X A' s H (genEnv scope cl C code builtinsNs X.env) fp pn) ifs tt)
    (he : ∀ (A' : Around) (s : Shared) (H : Hp) (cl : List (Str × Addr)) (C : Addr) (code : Value) (fp : List Addr) (pn : List (Addr × Obj)), Room k A' → PE (gcx X A' s H (genEnv scope cl C code builtinsNs X.env) fp pn) elt te)
    (hs : ∀ v, genFold iter X.env v = pure v := by intro _; rfl) : PGen X (k + 1) (.GeneratorExp elt [⟨tg, iter, ifs, 0⟩] scope gpos) (tgGx P wi g tt te (own.map (·.2))) E := by
  refine ⟨fun pins s σ H Q I h => ?_⟩
  have hfree : ∀ y ∈ scope.names, y.2 = .free → ∃ c, X.env.cells.lookup y.1 = some c := fun y hy e => by
    rcases S.blk.free y hy e with k | k
    · exact I.ok.has _ (.inl k)
    · exact I.ok.has _ (.inr k)
  refine wpAny_GeneratorExp_make S.co (closure_ok hfree) S.cell S.dot S.blk.kind (by have := hr.dp; omega) ?_ hs
  refine thn (hi.run pins s σ H _ I h) fun v s1 h1 => thn h1 fun itv s2 h2 => ?_
  obtain ⟨it, fp, tn, J, H1, rfl, I1, T, st1, f1, ⟨ps, hP, htr, hall⟩, q1⟩ := h2
  have hPs : s2.heap.get? P = some { cls := .none, data := .fields ps } := I1.hok P _ hP
  have cd : PySem.W.CodeHd s2.heap c P := TB.code.keeps fun b u e => I1.bk b u e
  refine ⟨I1.nolimit, ?_⟩
  have nfP : ∀ b ∈ fp, b ≠ P := fun b hb z => by
    have := (f1 b hb).1
    rw [z, hP] at this
    cases this
  have cont : ∀ (code : Value) (h3 : Heap) (tk : Nat) (H2 : Hp), Heap.ExtBut P s2.heap h3 → s2.heap.objs.size ≤ h3.objs.size → Inv X pins σ H2 { s2 with heap := h3, toks := tk } → TabbedX P H1 H2 → (∀ b, b < s2.heap.objs.size → b ≠ P → H2 b = H1 b) →
      wpAny (model X.prog X.w) X.A (builtinsFor X.env.globals X.env.builtins) (fun bi s₄ =>
        ∀ h', h'.Ns s₄.heap.objs.size (fun y => if y = ".0" then some (.ref it) else none) → Heap.SameBut s₄.heap.objs.size (s₄.heap.push { cls := .type "frame", data := .dict #[] }) h' →
          (fun u s' => ∃ H1 sc ex, Inv X pins σ H1 sc ∧ ExOk X pins ex ∧ GMade X.prog X.w (k + 1) X.stack H1 sc ex Q E u s') (.ref h'.objs.size) { s₄ with
            gens := s₄.gens.push (.fresh (.compStart (.GeneratorExp elt [⟨tg, iter, ifs, 0⟩] scope gpos) 0 (.ref it) .none (genEnv scope (cloFrom X.env.cells scope.names []) s₄.heap.objs.size code bi X.env))),
            toks := s₄.toks + 1 + 1 + 1,
            heap := h'.push { cls := .type "generator", data := .fields #[.int s₄.gens.size 0, .str "<genexpr>" (s₄.toks + 1), .str (X.env.qual ++ "<genexpr>") (s₄.toks + 1 + 1)] } }) X.xe { s2 with heap := h3, toks := tk } := by
    intro code h3 tk H2 hx hsz J2 hTb hEq
    obtain ⟨bm, ob, e1, e2, e3, e4, e5, e6, e7, e8⟩ := TB.bm
    refine wpAny_builtinsFor (m := X.mg) (by rw [I1.ok.glob]; exact (I1.mod.glob.keeps I1.bk).extBut hx TB.gP) e1 e2 (hx _ _ e4 (I1.bk _ _ e5)) e6 e7 e8 ?_
    intro h' hns hsb
    obtain ⟨W, ⟨m, w0⟩, hturn⟩ := q1 H2 hTb
    have szp : (h3.push { cls := .type "frame", data := .dict #[] }).objs.size = h3.objs.size + 1 := Heap.size_push ..
    have sz' : h'.objs.size = h3.objs.size + 1 := by rw [← szp]; exact hsb.1
    have kp : ∀ b o, h3.get? b = some o → (h'.push { cls := .type "generator", data := .fields #[.int s2.gens.size 0, .str "<genexpr>" (tk + 1), .str (X.env.qual ++ "<genexpr>") (tk + 1 + 1)] }).get? b = some o := fun b o e =>
      Heap.get?_push_of_some _ ((hsb.2 b (Nat.ne_of_lt (Heap.lt_size e))).trans (Heap.get?_push_of_some _ e))
    have f2 : ∀ b ∈ fp, FpOk X pins H2 b ∧ b < h3.objs.size := fun b hb => by
      obtain ⟨o, e, _⟩ := T.obj _ _ st1 b hb
      refine ⟨⟨by rw [hEq b (Heap.lt_size e) (nfP b hb)]; exact (f1 b hb).1, (f1 b hb).2⟩, Nat.lt_of_lt_of_le (Heap.lt_size e) hsz⟩
    have st3 : tn 0 h3 := T.keep _ _ _ st1 fun b hb o e => hx b o (nfP b hb) e
    have hgen : ∀ h : Heap, h.get? h'.objs.size = some { cls := .type "generator", data := .fields #[.int s2.gens.size 0, .str "<genexpr>" (tk + 1), .str (X.env.qual ++ "<genexpr>") (tk + 1 + 1)] } → h.IsGen h'.objs.size s2.gens.size := fun s e => ⟨_, _, _, e, rfl, rfl, rfl⟩
    have sz5 : (h'.push { cls := .type "generator", data := .fields #[.int s2.gens.size 0, .str "<genexpr>" (tk + 1), .str (X.env.qual ++ "<genexpr>") (tk + 1 + 1)] }).objs.size = h3.objs.size + 2 := by rw [Heap.size_push, sz']
    refine ⟨H2, { s2 with heap := h3, toks := tk }, fp, J2, fun b hb => ?_, h'.objs.size, s2.gens.size, _, rfl, by show h3.objs.size ≤ _; omega, by show h'.objs.size < _; dsimp only; omega, hgen _ (Heap.get?_push_size _ rfl), Array.getElem?_push_size, rfl, I1.bare.push rfl, J2.nolimit.keeps kp, kp, fun A Sa s6 hrA hfA hSa kp6 hSe ho6 hb6 => ?_⟩
    · obtain ⟨⟨_, a1, _, a3, a4, a5⟩, _⟩ := f2 b hb
      exact ⟨a3, a1, a4, a5⟩
    obtain ⟨c6, hSe⟩ := hSe
    obtain ⟨A', hA'⟩ : ∃ A', A.over (.compLoop (.GeneratorExp elt [⟨tg, iter, ifs, 0⟩] scope gpos) 0 (.ref it) .none (genEnv scope (cloFrom X.env.cells scope.names []) h3.objs.size code builtinsNs X.env)) [] = A' := ⟨_, rfl⟩
    have hroom : Room k A' := by rw [← hA']; exact room_over hrA
    have hfrm : A'.frames = some (genEnv scope (cloFrom X.env.cells scope.names []) h3.objs.size code builtinsNs X.env :: X.stack) := by
      rw [← hA']
      unfold Around.over
      dsimp only
      rw [hfA]
      rfl
    have hSa : (h'.push { cls := .type "generator", data := .fields #[.int s2.gens.size 0, .str "<genexpr>" (tk + 1), .str (X.env.qual ++ "<genexpr>") (tk + 1 + 1)] }).objs.size ≤ Sa := hSa
    rw [sz5] at hSa
    have kp7 : ∀ b o, h3.get? b = some o → s6.heap.get? b = some o := fun b o e => kp6 b o (kp b o e)
    have I6 : Inv (gcx X A' { s2 with heap := h3, toks := tk } H2 (genEnv scope (cloFrom X.env.cells scope.names []) h3.objs.size code builtinsNs X.env) fp [(h'.objs.size, _)]) [] (wipe σ (own.map (·.2))) H2 s6 :=
      gen_start (code := code) J2 S.blk hN S.cell f2 hroom.hd rfl hfrm ho6 hb6 kp7 (Heap.Ns.keeps hns fun b o e => kp6 b o (Heap.get?_push_of_some _ e)) (fun p hp => by
        rw [List.mem_singleton.mp hp]
        exact ⟨kp6 _ _ (Heap.get?_push_size _ rfl), by show h3.objs.size < h'.objs.size; rw [sz']; exact Nat.lt_succ_self _, fun v z => by cases z⟩)
    have hSn : H2 Sa = none := J2.hok.fresh (Nat.le_trans (Nat.le_add_right _ 2) hSa)
    have hst : ∀ (pl : List (Addr × Obj)) (H : Hp), (∀ p ∈ pl, p.1 = Sa) → (∀ b ∈ fp, H b = none) → ∀ b ∈ fp, FpOk (gcx X A' { s2 with heap := h3, toks := tk } H2 (genEnv scope (cloFrom X.env.cells scope.names []) h3.objs.size code builtinsNs X.env) fp [(h'.objs.size, _)]) pl H b := fun pl Hq hpl hq b hb => by
      have ok := I6.ok
      refine ⟨hq b hb, (ok.exf b hb).1, ok.exfs b hb, .inl hb, (ok.exf b hb).2, fun p hp => ?_⟩
      have hb3 : b < h3.objs.size := (f2 b hb).2
      rcases List.mem_append.mp hp with hp | hp
      · rw [List.mem_singleton.mp hp]
        show h'.objs.size ≠ b
        rw [sz']
        exact Nat.ne_of_gt (Nat.lt_succ_of_lt hb3)
      · rw [hpl p hp]
        exact Nat.ne_of_gt (Nat.lt_of_lt_of_le hb3 (Nat.le_trans (Nat.le_add_right _ 2) hSa))
    have I5 : Inv (gcx X A' { s2 with heap := h3, toks := tk } H2 (genEnv scope (cloFrom X.env.cells scope.names []) h3.objs.size code builtinsNs X.env) fp [(h'.objs.size, _)]) [] (wipe σ (own.map (·.2))) H2
        { s2 with toks := 0, heap := h'.push { cls := .type "generator", data := .fields #[.int s2.gens.size 0, .str "<genexpr>" (tk + 1), .str (X.env.qual ++ "<genexpr>") (tk + 1 + 1)] } } :=
      gen_start (code := code) J2 S.blk hN S.cell f2 hroom.hd rfl hfrm rfl I1.bare kp (Heap.Ns.keeps hns fun b o e => Heap.get?_push_of_some _ e) (fun p hp => by
        rw [List.mem_singleton.mp hp]
        exact ⟨Heap.get?_push_size _ rfl, by show h3.objs.size < h'.objs.size; rw [sz']; exact Nat.lt_succ_self _, fun v z => by cases z⟩)
    have hSo : ∀ H : Hp, H Sa = none → FpOk (gcx X A' { s2 with heap := h3, toks := tk } H2 (genEnv scope (cloFrom X.env.cells scope.names []) h3.objs.size code builtinsNs X.env) fp [(h'.objs.size, _)]) [] H Sa := fun Hq hq => I5.fpOk (by dsimp only; rw [sz5]; exact hSa) hq
    exact seg_cx0 hA' hc S.co T (List.mem_singleton.mpr rfl) hgen hst (fun z => absurd (Nat.lt_of_lt_of_le (f2 _ z).2 (Nat.le_trans (Nat.le_add_right _ 2) hSa)) (Nat.lt_irrefl _)) hSo (wipe_wipe _ _) (hg _ _ _ _ _ _ _ _ hroom) (ht _ _ _ _ _ _ _ _ hroom) (he _ _ _ _ _ _ _ _ hroom) hturn m H2 s6 c6 I6 hSn hSe (T.keep _ _ _ st3 fun b hb o e => kp7 b o e) (fun b hb => (f2 b hb).1.1) w0
  cases hf : codeAmong gpos ps.toList with
  | none =>
    refine wpAny_genexprCodeX hcode (cd.code hPs htr) (cd.tab hPs) hf fun c' h' tk hx hge hlt hco' hrec htab' _ => ?_
    obtain ⟨c2, oc, vs, t, e2, hoc, hd, hv⟩ := hrec
    cases e2
    have I3 := LamX.inv_table (t' := tk) (more := #[rawInt gpos.line, rawInt gpos.col, .ref c']) I1 hP (fun b u hb e => hx b u hb e) htab'.2 hge ⟨oc, vs, t, hoc, hd, hv⟩
    exact cont _ h' tk _ hx (Nat.le_trans hge (Nat.le_of_lt hlt)) I3 (tabX_new hP htr hall (I1.hok.fresh hge)) fun b hb hp => by rw [upd_ne (Nat.ne_of_lt (Nat.lt_of_lt_of_le hb hge)), upd_ne hp]
  | some cv =>
    refine wpAny_genexprCode_hit hcode (cd.code hPs htr) hf ?_
    exact cont cv s2.heap s2.toks H1 (Heap.ExtBut.refl _ _) (Nat.le_refl _) I1 (TabbedX.same ⟨ps, hP, htr, hall⟩) fun _ _ _ => rfl
end
end Gx
set_option Elab.async false
set_option linter.all false
set_option maxRecDepth 100000
/-! dicts whose keys are tuples within tuples -/
namespace Gn
open PySem PySem.Spec PyProof.Rows L2
/-- keys, where they lie, values -/
abbrev NE := NestedKey × Addr × V
def RelN (p : NE) (q : NestedKey × Addr × Value) : Prop := p.1 = q.1 ∧ p.2.1 = q.2.1 ∧ RelV p.2.2 q.2.2
def Lies (w : World) (l : Addr) (kvs : List NE) (h : Heap) : Prop := kvs.length ≤ sizeLine ∧ (l == sysModules) = false ∧ ∃ xs : List (NestedKey × Addr × Value), Paired RelN kvs xs ∧
  ∃ o es ep, h.get? l = some o ∧ o.ExactDict ∧ o.data = .dict es ep ∧ es.toList = xs.map (fun x => (⟨x.1.hash w, .ref x.2.1, x.2.2⟩ : DictEntry)) ∧ (xs.map (·.1)).Nodup
def NO (w : World) (l : Addr) (kvs : List NE) : HO := .ext (Lies w l kvs)
theorem noCode (w : World) (l : Addr) (kvs : List NE) (q : Str) : NO w l kvs ≠ LamX.CodeO l q := fun z => by
  unfold NO LamX.CodeO at z
  injection z with z
  have h0 := congrFun z ⟨Array.replicate (l + 1) { cls := .none, data := .fields #[.none, .str q default] }, {}⟩
  have g : (⟨Array.replicate (l + 1) { cls := .none, data := .fields #[.none, .str q default] }, {}⟩ : Heap).get? l = some { cls := .none, data := .fields #[.none, .str q default] } := by
    unfold Heap.get?
    simp
  have h1 : Lies w l kvs ⟨Array.replicate (l + 1) { cls := .none, data := .fields #[.none, .str q default] }, {}⟩ := by
    rw [h0]
    exact ⟨_, _, _, g, rfl, rfl⟩
  obtain ⟨_, _, xs, _, o, es, ep, e1, _, e2, _⟩ := h1
  rw [g] at e1
  cases e1
  cases e2
/-- a value that is the key k -/
inductive NK (K : PySem.W.Frag) (H : Hp) : NestedKey → V → Prop
  | none : NK K H .none .non
  | int (i : Int) : NK K H (.num i) (.int i)
  | str (x : Str) : NK K H (.text x) (.str x)
  | tup {a xs ks} : SqT K H a xs → xs.length = ks.length → (∀ (i : Nat) x k, xs[i]? = some x → ks[i]? = some k → NK K H k x) → NK K H (.tup ks) (.ref a)
def getN (kvs : List NE) (k : NestedKey) : Option V := (kvs.find? fun p => decide (p.1 = k)).map (·.2.2)
def putN (kvs : List NE) (k : NestedKey) (b : Addr) (v : V) : List NE := if (kvs.any fun p => decide (p.1 = k)) = true then kvs.map (fun p => if p.1 = k then (p.1, p.2.1, v) else p) else kvs ++ [(k, b, v)]
theorem putN_len (kvs : List NE) (k : NestedKey) (b : Addr) (v : V) : (putN kvs k b v).length ≤ kvs.length + 1 := by
  unfold putN
  split
  · rw [List.length_map]; omega
  · rw [List.length_append]; exact Nat.le_refl _
theorem all_of {h : Heap} : ∀ {ks : List NestedKey} {us : List Value}, us.length = ks.length → (∀ (i : Nat) u k, us[i]? = some u → ks[i]? = some k → NestedIs h k u) → NestedAll h ks us
  | [], [], _, _ => .nil
  | k :: ks, u :: us, e, f => .cons (f 0 u k rfl rfl) (all_of (by simpa using e) fun i u' k' h1 h2 => f (i + 1) u' k' (by simpa using h1) (by simpa using h2))
  | [], _ :: _, e, _ => by simp at e
  | _ :: _, [], e, _ => by simp at e
section
variable {X : Cx} {pins : List (Addr × Obj)} {σ : L2.St} {H : Hp} {s : Shared}
theorem NK.is (I : Inv X pins σ H s) {k : NestedKey} {v : V} (h : NK X.K H k v) : ∀ {u : Value}, RelV v u → NestedIs s.heap k u := by
  induction h with
  | none =>
    intro u r
    obtain rfl : u = Value.none := r
    exact .none
  | int i =>
    intro u r
    obtain ⟨t, rfl⟩ : ∃ t, u = Value.int i t := r
    exact .int _ _
  | str x =>
    intro u r
    obtain ⟨t, rfl⟩ : ∃ t, u = Value.str x t := r
    exact .text _ _
  | @tup a xs ks hs hl hx ih =>
    intro u r
    obtain rfl : u = Value.ref a := r
    obtain ⟨its, r1, ⟨o, h1, h2, n, h3⟩, _⟩ := I.tuple hs
    refine .tup h1 h2 h3 ?_
    refine all_of (by rw [← hl, r1.length]) fun i u' k' e1 e2 => ?_
    have hi : i < xs.length := by
      have := (List.getElem?_eq_some_iff.mp e1).1
      rw [r1.length]
      simpa using this
    obtain ⟨w2, e3, r3⟩ := r1.get (List.getElem?_eq_getElem hi)
    have e1 : its[i]? = some u' := by simpa using e1
    rw [e3] at e1
    cases e1
    exact ih i _ k' (List.getElem?_eq_getElem hi) e2 r3
end
theorem rel_get {kvs : List NE} {xs : List (NestedKey × Addr × Value)} (r : Paired RelN kvs xs) (k : NestedKey) : RelO (getN kvs k) ((atKey xs k).map (·.2)) := by
  induction r with
  | nil => exact True.intro
  | @cons p q ps qs h t ih =>
    obtain ⟨h1, _, h2⟩ := h
    by_cases e : p.1 = k
    · have e' : q.1 = k := h1.symm.trans e
      have b : atKey (q :: qs) k = some q.2 := by simp [atKey, List.find?_cons, e']
      have c : getN (p :: ps) k = some p.2.2 := by simp [getN, List.find?_cons, e]
      rw [c, b]; exact h2
    · have e' : ¬ q.1 = k := fun z => e (h1.trans z)
      have b : atKey (q :: qs) k = atKey qs k := by simp [atKey, List.find?_cons, e']
      have c : getN (p :: ps) k = getN ps k := by simp [getN, List.find?_cons, e]
      rw [c, b]; exact ih
theorem any_get (k : NestedKey) : ∀ kvs : List NE, (kvs.any fun p => decide (p.1 = k)) = (getN kvs k).isSome
  | [] => rfl
  | p :: ps => by
    rw [List.any_cons, any_get k ps]
    by_cases e : p.1 = k
    · simp [getN, List.find?_cons, e]
    · simp [getN, List.find?_cons, e]
theorem rel_put {kvs : List NE} {xs : List (NestedKey × Addr × Value)} (r : Paired RelN kvs xs) (k : NestedKey) (b : Addr) {v : V} {u : Value} (rv : RelV v u) : Paired RelN (putN kvs k b v) (storedH xs k b u) := by
  have e : (kvs.any fun p => decide (p.1 = k)) = (atKey xs k).isSome := by
    rw [any_get, (rel_get r k).isSome_eq, Option.isSome_map]
  unfold putN storedH
  rw [e]
  by_cases q : (atKey xs k).isSome = true
  · rw [if_pos q, if_pos q]
    clear e q
    induction r with
    | nil => exact .nil
    | @cons p q ps qs h t ih =>
      rw [List.map_cons, List.map_cons]
      refine .cons ?_ ih
      obtain ⟨h1, h2, h3⟩ := h
      unfold putAt
      by_cases e : p.1 = k
      · rw [if_pos e, if_pos (h1.symm.trans e)]; exact ⟨h1, h2, rv⟩
      · rw [if_neg e, if_neg (fun z => e (h1.trans z))]; exact ⟨h1, h2, h3⟩
  · rw [if_neg q, if_neg q]; exact Paired.snoc r ⟨rfl, rfl, rv⟩
/-- the keys of the dict are keys in the heap -/
def Keys (K : PySem.W.Frag) (H : Hp) (kvs : List NE) : Prop := ∀ p ∈ kvs, NK K H p.1 (.ref p.2.1) ∧ p.1.depth ≤ 8
section
variable {X : Cx} {pins : List (Addr × Obj)} {σ : L2.St} {H : Hp} {s : Shared} {a : Addr} {kvs : List NE}
theorem lies (I : Inv X pins σ H s) (e : Rd H a (NO X.w a kvs)) (hk : Keys X.K H kvs) : kvs.length ≤ sizeLine ∧ (a == sysModules) = false ∧ ∃ xs, Paired RelN kvs xs ∧ s.heap.DictOfH (nestedKind X.prog X.w) a xs := by
  obtain ⟨⟨z, y, xs, r, o, es, ep, h1, h2, h3, h4, h5⟩, _, _⟩ := (show ObjOk X.prog X.w H s.heap a (NO X.w a kvs) from e.ok I.hok)
  refine ⟨z, y, xs, r, o, es, ep, h1, h2, h3, h4, fun x hx => ?_, h5⟩
  have all : ∀ {l : List NE} {m : List (NestedKey × Addr × Value)}, Paired RelN l m → Keys X.K H l → ∀ x ∈ m, (nestedKind X.prog X.w).is s.heap x.1 x.2.1 := by
    intro l m r
    induction r with
    | nil => intro _ x hx; exact nomatch hx
    | @cons p q ps qs h t ih =>
      intro hk x hx
      rcases List.mem_cons.mp hx with e | hx
      · subst e
        obtain ⟨k1, k2⟩ := hk p (List.mem_cons_self ..)
        rw [← h.1, ← h.2.1]
        exact ⟨k1.is I rfl, k2⟩
      · exact ih (fun p hp => hk p (List.mem_cons_of_mem _ hp)) x hx
  exact all r hk x hx
theorem laid {P : Program} {w : World} {H' : Hp} {h' : Heap} {xs : List (NestedKey × Addr × Value)} (z : kvs.length ≤ sizeLine) (hd : (a == sysModules) = false) (r : Paired RelN kvs xs) (dd : h'.DictOfH (nestedKind P w) a xs) : ObjOk P w H' h' a (NO w a kvs) := by
  obtain ⟨q, es, ep, hq, h2, h3, h4, _, h5⟩ := dd
  refine ⟨⟨z, hd, xs, r, q, es, ep, hq, h2, h3, h4, h5⟩, ⟨q, hq⟩, fun h1 h2 ⟨z, y, xs, r, o, es, ep, g1, g2⟩ k => ⟨z, y, xs, r, o, es, ep, k o g1, g2⟩⟩
end
/-! ### readings -/
def tGet (w : World) (K : PySem.W.Frag) (td ty : TE) : TE := fun σ H Q => td σ H fun x H1 => ty σ H1 fun y H2 => ∃ a b kvs k v, x = .ref a ∧ y = .ref b ∧ Rd H2 a (NO w a kvs) ∧ Keys K H2 kvs ∧ NK K H2 k y ∧ k.depth ≤ 8 ∧ getN kvs k = some v ∧ Q v H2
def tIn (w : World) (K : PySem.W.Frag) (neg : Bool) (ty td : TE) : TE := fun σ H Q => ty σ H fun y H1 => td σ H1 fun x H2 => ∃ a b kvs k, x = .ref a ∧ y = .ref b ∧ Rd H2 a (NO w a kvs) ∧ Keys K H2 kvs ∧ NK K H2 k y ∧ k.depth ≤ 8 ∧ Q (.bl (neg != (getN kvs k).isSome)) H2
def sPut (w : World) (K : PySem.W.Frag) (td ty tv : TE) : TS := fun D σ H => tv σ H fun v H1 => td σ H1 fun x H2 => ty σ H2 fun y H3 => ∃ a b kvs k, x = .ref a ∧ y = .ref b ∧ H3 a = some (NO w a kvs) ∧ Keys K H3 kvs ∧ NK K H3 k y ∧ k.depth ≤ 8 ∧ kvs.length < sizeLine ∧ D.nx σ (upd H3 a (NO w a (putN kvs k b v)))
def tNew (w : World) : TE := fun _ H Q => ∀ p, H p = none → Q (.ref p) (upd H p (NO w p []))
section
variable {X : Cx} {K : PySem.W.Frag} {w : World} {o i e value : Expr} {pos pos' tpos : Pos} {td ty tv : TE}
theorem room_of {P : Program} {A : Around} (hu : A.units + 9 < cLine) : (nestedKind P w).room A.in1 := by show A.units + 1 + 8 < cLine; omega
theorem pe_get (hK : X.K = K) (hw : X.w = w) (hu : X.A.units + 9 < cLine) (ho : PE X o td) (hi : PE X i ty) (hs : NoSl i) : PE X (.Subscript o i pos) (tGet w K td ty) := by
  subst hK hw
  refine ⟨fun pins s σ H Q I h => ?_⟩
  refine subD_of PySem.F.slot_dict_getitem.lookup hs (thn (ho.run pins s σ H _ I h) fun u s1 ⟨x, H1, I1, rx, q1⟩ => thn (hi.run pins s1 σ H1 _ I1 q1) fun iv s2 ⟨y, H2, I2, ry, a, b, kvs, k, v, ex, ey, g, gk, hk, hkd, l, q2⟩ => ?_)
  subst ex ey
  obtain rfl : u = Value.ref a := rx
  obtain rfl : iv = Value.ref b := ry
  obtain ⟨z, hd, xs, rel, dd⟩ := lies I2 g gk
  obtain ⟨w', hw, rw'⟩ := RelO.some_of (v := v) (o := (atKey xs k).map (·.2)) (by rw [← l]; exact rel_get rel k)
  obtain ⟨p, hp, hp2⟩ := Option.map_eq_some_iff.mp hw
  refine ⟨dd.typeIs, wpAny_getItem_heap (room_of hu) ⟨hk.is I2 rfl, hkd⟩ dd hp ?_⟩
  rw [hp2]
  exact ⟨v, H2, I2.tok _, rw', q2⟩
theorem pc_in (hK : X.K = K) (hw : X.w = w) (hu : X.A.units + 9 < cLine) (hi : PE X i ty) (ho : PE X o td) : PC X .In i o (tIn w K false ty td) := by
  subst hK hw
  refine ⟨fun pins s σ H Q I h => ?_⟩
  refine thn (hi.run pins s σ H _ I h) fun iv s1 ⟨y, H1, I1, ry, q1⟩ => thn (ho.run pins s1 σ H1 _ I1 q1) fun u s2 ⟨x, H2, I2, rx, a, b, kvs, k, ex, ey, g, gk, hk, hkd, q2⟩ => ?_
  subst ex ey
  obtain rfl : u = Value.ref a := rx
  obtain rfl : iv = Value.ref b := ry
  obtain ⟨z, hd, xs, rel, dd⟩ := lies I2 g gk
  refine wpAny_in_heap (room_of hu) ⟨hk.is I2 rfl, hkd⟩ hd dd ?_
  have q := (rel_get rel k).isSome_eq
  rw [Option.isSome_map] at q
  rw [← q]
  rw [show (false != (getN kvs k).isSome) = (getN kvs k).isSome from Bool.false_bne _] at q2
  exact ⟨.bl (getN kvs k).isSome, H2, I2.tok _, rfl, q2⟩
theorem pc_notin (hK : X.K = K) (hw : X.w = w) (hu : X.A.units + 9 < cLine) (hi : PE X i ty) (ho : PE X o td) : PC X .NotIn i o (tIn w K true ty td) := by
  subst hK hw
  refine ⟨fun pins s σ H Q I h => ?_⟩
  refine thn (hi.run pins s σ H _ I h) fun iv s1 ⟨y, H1, I1, ry, q1⟩ => thn (ho.run pins s1 σ H1 _ I1 q1) fun u s2 ⟨x, H2, I2, rx, a, b, kvs, k, ex, ey, g, gk, hk, hkd, q2⟩ => ?_
  subst ex ey
  obtain rfl : u = Value.ref a := rx
  obtain rfl : iv = Value.ref b := ry
  obtain ⟨z, hd, xs, rel, dd⟩ := lies I2 g gk
  refine wpAny_notIn_heap (room_of hu) ⟨hk.is I2 rfl, hkd⟩ hd dd ?_
  have q := (rel_get rel k).isSome_eq
  rw [Option.isSome_map] at q
  rw [← q]
  rw [show (true != (getN kvs k).isSome) = !(getN kvs k).isSome from Bool.true_bne _] at q2
  exact ⟨.bl (!(getN kvs k).isSome), H2, I2.tok _, rfl, q2⟩
theorem ps_put (hK : X.K = K) (hw : X.w = w) (hu : X.A.units + 9 < cLine) (ho : PE X o td) (hi : PE X i ty) (hv : PE X value tv) (hs : swapsWith value (some (.Subscript o i pos')) pos.line X.env = pure false) :
    PS X (.Assign [.Subscript o i pos'] value pos) (sPut w K td ty tv) := by
  subst hK hw
  refine ⟨fun pins s σ H D I h => ?_⟩
  refine wpAny_Assign_Subscript (thn (hv.run pins s σ H _ I h) fun r s1 ⟨v, H1, I1, rv, q1⟩ => thn (ho.run pins s1 σ H1 _ I1 q1) fun u s2 ⟨x, H2, I2, rx, q2⟩ => thn (hi.run pins s2 σ H2 _ I2 q2) fun iv s3 ⟨y, H3, I3, ry, a, b, kvs, k, ex, ey, g, gk, hk, hkd, hz, q3⟩ => ?_) hs
  subst ex ey
  obtain rfl : u = Value.ref a := rx
  obtain rfl : iv = Value.ref b := ry
  obtain ⟨z, hd, xs, rel, dd⟩ := lies I3 (.inl g) gk
  have hz2 : xs.length ≤ sizeLine := by rw [← Paired.length rel]; exact z
  have hl : (putN kvs k b v).length ≤ sizeLine := by have := putN_len kvs k b v; omega
  refine wpAny_setItem_heap (hsz := hz2) (room_of hu) ⟨hk.is I3 rfl, hkd⟩ dd fun h' dd' hs => ⟨σ, _, d_write I3 (by rw [g]; exact True.intro) hs (let ⟨q, _, _, hq, _⟩ := dd'; ⟨q, hq⟩) (laid hl hd (rel_put rel k b rv) dd'), q3⟩
theorem pe_new (hw : X.w = w) : PE X (.Dict [] [] pos) (tNew w) := by
  subst hw
  exact ⟨fun pins s σ H Q I h =>
    wpAny_Dict_empty ⟨.ref s.heap.objs.size, _, I.laid (a := s.heap.objs.size) (o := NO X.w s.heap.objs.size []) (t' := s.toks) (fun _ _ q => Heap.get?_push_of_some _ q) (Nat.le_refl _) (laid (P := X.prog) (Nat.zero_le _) (beq_eq_false_iff_ne.mpr (Ne.symm (Nat.ne_of_lt I.big))) .nil (Heap.DictOfH.new s.heap)), rfl, h _ (I.hok.fresh (Nat.le_refl _))⟩⟩
end
end Gn
namespace Gn
open PySem PySem.Spec PyProof.Rows L2
/-- the keys, one by one -/
theorem src {P : Program} {w : World} {d : Addr} {es : Array DictEntry} {ep : Nat} {xs : List (NestedKey × Addr × Value)} (lo : (d == sysModules) = false) (hx : ∀ i (hi : i < es.size), ∃ y, xs[i]? = some y ∧ es[i].key = .ref y.2.1 ∧ es[i].val = y.2.2) :
    PySem.W.KdlSrc P w "dict" d d es.size (fun i v => ∃ y, xs[i]? = some y ∧ v = .ref y.2.1) (fun h => h.DictRaw d es ep) where
  type := fun _ hm => hm.typeIs
  there := fun _ hm => let ⟨o, ho, _⟩ := hm; ⟨Heap.lt_size ho, Heap.lt_size ho⟩
  keep := fun _ _ hm hk => hm.at fun o e => hk d (.inl rfl) o e
  notList := by decide
  notTuple := by decide
  hint := fun _ _ _ _ hm hq => PySem.W.kdl_hint_dict hm.typeIs hq
  iter := fun _ s hh hm => ⟨_, _, (fun _ _ hq => wpAny_pyIter_dict_raw lo hm hq), Walks.keysH hh _ d (Nat.ne_of_lt (let ⟨_, ho, _⟩ := hm; Heap.lt_size ho)) es ep hx, ⟨⟨_, Heap.get?_push_size _ rfl, rfl, rfl⟩, hm.at fun o e => Heap.get?_push_of_some _ e⟩⟩
theorem rel_keys {kvs : List NE} {xs : List (NestedKey × Addr × Value)} (r : Paired RelN kvs xs) : xs.map (·.2.1) = kvs.map (·.2.1) := by
  induction r with
  | nil => rfl
  | cons h _ ih => rw [List.map_cons, List.map_cons, ih, h.2.1]
def refsV (kvs : List NE) : List V := kvs.map fun p => V.ref p.2.1
theorem vals_refs : ∀ {as : List Addr}, Vals (as.map V.ref) (as.map Value.ref)
  | [] => .nil
  | _ :: as => .cons rfl vals_refs
/-- list(d) -/
def rListN (w : World) (K : PySem.W.Frag) : List V → Hp → VK → Prop := fun xs H Q => ∃ a kvs, xs = [.ref a] ∧ Rd H a (NO w a kvs) ∧ Keys K H kvs ∧ ∀ q, H q = none → Q (.ref q) (upd H q (.lst (refsV kvs)))
section
variable {X : Cx}
theorem items_of {kvs : List NE} {xs : List (NestedKey × Addr × Value)} {acc : Array Value} (r : Paired RelN kvs xs) (h : ItemsOf (fun i v => ∃ y, xs[i]? = some y ∧ v = Value.ref y.2.1) acc xs.length) : acc.toList = (kvs.map (·.2.1)).map Value.ref := by
  apply List.ext_getElem?
  intro i
  have hl : acc.toList.length = xs.length := by rw [Array.length_toList]; exact h.1
  have hk : kvs.length = xs.length := Paired.length r
  rcases Nat.lt_or_ge i xs.length with z | z
  · obtain ⟨y, hy, e⟩ := h.2 i acc.toList[i] (by rw [← Array.getElem?_toList, List.getElem?_eq_getElem (by omega)])
    rw [List.getElem?_eq_getElem (show i < acc.toList.length by omega), e, List.getElem?_map, ← rel_keys r, List.getElem?_map, hy]
    rfl
  · rw [List.getElem?_eq_none (by omega), List.getElem?_eq_none (by rw [List.length_map, List.length_map]; omega)]
theorem call_list {K : PySem.W.Frag} {w : World} (hK : X.K = K) (hw : X.w = w) (hc : X.calm = true) : CallR X (.type "list") (rListN w K) := by
  subst hK hw
  intro pins s σ H xs us Q I r h
  obtain ⟨p, kvs, e, hk, hks, q⟩ := h
  subst e
  obtain ⟨u, eu, rx⟩ := vals1 r
  subst eu
  obtain rfl : u = Value.ref p := rx
  obtain ⟨z, lo, xs, rel, dd⟩ := lies I hk hks
  obtain ⟨es, ep, raw, hsz, hx⟩ := dd.raw
  have hl : kvs.length = xs.length := Paired.length rel
  refine PySem.W.kdl_call (src lo fun i hi => let ⟨y, h1, h2, h3, _⟩ := hx i hi; ⟨y, h1, h2, h3⟩) (I.ok.hd hc) raw (by rw [hsz, ← hl]; exact z) fun h' tk acc' c' hkeep hS hacc => ?_
  rw [hsz] at hacc
  have e1 := items_of rel hacc
  refine ⟨.ref s.heap.objs.size, upd H s.heap.objs.size (.lst (refsV kvs)), I.laid hkeep (Nat.le_refl _) (show ObjOk X.prog X.w _ _ _ (.lst (refsV kvs)) from ⟨?_, acc'.toList, c', ?_, ?_⟩), rfl, q _ (I.hok.fresh (Nat.le_refl _))⟩
  · unfold refsV; rw [List.length_map]; exact z
  · rw [e1, show refsV kvs = (kvs.map (·.2.1)).map V.ref from by unfold refsV; rw [List.map_map]; rfl]
    exact vals_refs
  · rw [Array.toArray_toList]; exact hS
end
end Gn
set_option Elab.async false
set_option linter.all false
set_option maxRecDepth 100000
/-! Data layer: what readings ask, said of data (PyData) and of a list of slots. -/
namespace Dl
open PySem PySem.Spec PyProof.Rows L2

/-! ### data stand where the heap only grows -/
theorem rd_mono {G G' : Hp} (e : Same G G') {a : Addr} {u : HO} (h : Rd G a u) : Rd G' a u := by
  rcases h with h | ⟨o, h⟩
  · exact .inl (e _ _ h)
  · exact .inr ⟨o, e _ _ h⟩
theorem sqT_mono {K : PySem.W.Frag} {G G' : Hp} (e : Same G G') {a : Addr} {xs : List V} (h : SqT K G a xs) : SqT K G' a xs := by
  rcases h with h | h
  · exact .inl (rd_mono e h)
  · exact .inr h
theorem sqL_mono {K : PySem.W.Frag} {G G' : Hp} (e : Same G G') {a : Addr} {xs : List V} (h : SqL K G a xs) : SqL K G' a xs := e.seq h
mutual
theorem dp_mono {K : PySem.W.Frag} {G G' : Hp} (e : Same G G') : ∀ (d : PyData) (v : V), Dp K G v d → Dp K G' v d
  | .none, _, h => by cases h; exact .non
  | .bool b, _, h => by cases h; exact .bl b
  | .int i, _, h => by cases h; exact .int i
  | .str x, _, h => by cases h; exact .str x
  | .list ds, _, h => by
    cases h with
    | lst hs ha => exact .lst (sqL_mono e hs) (dpa_mono e ds _ ha)
  | .tuple ds, _, h => by
    cases h with
    | tup hs ha => exact .tup (sqT_mono e hs) (dpa_mono e ds _ ha)
  | .dict _, _, h => by cases h
theorem dpa_mono {K : PySem.W.Frag} {G G' : Hp} (e : Same G G') : ∀ (ds : List PyData) (vs : List V), DpAll K G vs ds → DpAll K G' vs ds
  | [], _, h => by cases h; exact .nil
  | d :: ds, _, h => by
    cases h with
    | cons h1 h2 => exact .cons (dp_mono e d _ h1) (dpa_mono e ds _ h2)
end
theorem dpa_len {K : PySem.W.Frag} {G : Hp} : ∀ {vs : List V} {ds : List PyData}, DpAll K G vs ds → vs.length = ds.length
  | _, _, .nil => rfl
  | _, _, .cons _ h => by rw [List.length_cons, List.length_cons, dpa_len h]
theorem dpa_get {K : PySem.W.Frag} {G : Hp} : ∀ {vs : List V} {ds : List PyData} {i : Nat} {d : PyData}, DpAll K G vs ds → ds[i]? = some d → ∃ v, vs[i]? = some v ∧ Dp K G v d
  | _, _, _, _, .nil, e => by simp at e
  | _, _, 0, _, .cons (v := v) h _, e => by
    have e' := Option.some.inj e
    subst e'
    exact ⟨v, rfl, h⟩
  | _, _, i + 1, d, .cons _ t, e => dpa_get (i := i) (d := d) t e
theorem dpa_getV {K : PySem.W.Frag} {G : Hp} : ∀ {vs : List V} {ds : List PyData} {i : Nat} {v : V}, DpAll K G vs ds → vs[i]? = some v → ∃ d, ds[i]? = some d ∧ Dp K G v d
  | _, _, _, _, .nil, e => by simp at e
  | _, _, 0, _, .cons (d := d) h _, e => by
    have e' := Option.some.inj e
    subst e'
    exact ⟨d, rfl, h⟩
  | _, _, i + 1, v, .cons _ t, e => dpa_getV (i := i) (v := v) t e
theorem dpa_app {K : PySem.W.Frag} {G : Hp} : ∀ {vs ws : List V} {ds es : List PyData}, DpAll K G vs ds → DpAll K G ws es → DpAll K G (vs ++ ws) (ds ++ es)
  | _, _, _, _, .nil, h => h
  | _, _, _, _, .cons h t, h' => .cons h (dpa_app t h')
theorem dpa_take {K : PySem.W.Frag} {G : Hp} : ∀ (n : Nat) {vs : List V} {ds : List PyData}, DpAll K G vs ds → DpAll K G (vs.take n) (ds.take n)
  | 0, _, _, _ => .nil
  | _ + 1, _, _, .nil => .nil
  | n + 1, _, _, .cons h t => .cons h (dpa_take n t)
theorem dpa_drop {K : PySem.W.Frag} {G : Hp} : ∀ (n : Nat) {vs : List V} {ds : List PyData}, DpAll K G vs ds → DpAll K G (vs.drop n) (ds.drop n)
  | 0, _, _, h => h
  | _ + 1, _, _, .nil => .nil
  | n + 1, _, _, .cons _ t => dpa_drop n t
theorem dpa_set {K : PySem.W.Frag} {G : Hp} {v : V} {d : PyData} (hd : Dp K G v d) : ∀ (n : Nat) {vs : List V} {ds : List PyData}, DpAll K G vs ds → DpAll K G (vs.set n v) (ds.set n d)
  | _, _, _, .nil => .nil
  | 0, _, _, .cons _ t => .cons hd t
  | n + 1, _, _, .cons h t => .cons h (dpa_set hd n t)

/-! ### the pen, the spring -/
inductive PK where
  | pen (c : Addr) (n : Nat)
  | spr
structure Pn where
  a : Addr
  k : PK
def Pn.on (p : Pn) (a : Addr) : Prop := a = p.a ∨ ∃ c n, p.k = .pen c n ∧ a = c
def PkOk (H : Hp) (a : Addr) : PK → Prop
  | .pen c n => ∃ (cells : List Int) (at_ rest : Int), H a = some (.lst [.ref c, .int at_, .int rest]) ∧ H c = some (.lst (cells.map V.int)) ∧ 0 ≤ at_ ∧ 0 ≤ rest ∧ cells.length = n
  | .spr => ∃ z : Int, H a = some (.lst [.int z])
def PenOk (p : Pn) (H : Hp) : Prop := PkOk H p.a p.k
def isExt : HO → Bool
  | .ext _ => true
  | _ => false
/-- no code object stands there -/
theorem code_ne {H : Hp} {D : Addr} {o : HO} (h : H D = some o) (he : isExt o = false) : ∀ q, H D ≠ some (LamX.CodeO D q) := fun q z => by
  rw [h] at z
  rw [Option.some.inj z] at he
  unfold LamX.CodeO at he
  cases he
theorem code_ne0 {H : Hp} {D : Addr} (h : H D = none) : ∀ q, H D ≠ some (LamX.CodeO D q) := fun q z => by
  rw [h] at z
  cases z
theorem tabX_upd {H : Hp} {P D : Addr} {o : HO} (h : _root_.Gx.TabX H P) (hp : P ≠ D) (hk : ∀ q, H D ≠ some (LamX.CodeO D q)) : _root_.Gx.TabX (upd H D o) P := by
  obtain ⟨ps, e, t, a⟩ := h
  refine ⟨ps, by rw [upd_ne hp]; exact e, t, fun pos cv hc => ?_⟩
  obtain ⟨c, q, e1, e2⟩ := a pos cv hc
  refine ⟨c, q, e1, ?_⟩
  rw [upd_ne (fun z => hk q (by rw [← z]; exact e2))]
  exact e2
/-- what may change: the pen, the tables of code objects -/
structure Pc where
  pen : Option Pn
  ts : List Addr
def POk (c : Pc) (H : Hp) : Prop := (∀ p, c.pen = some p → PenOk p H) ∧ ∀ P ∈ c.ts, _root_.Gx.TabX H P
/-- a is the pen's own list or a table -/
def IsPn (c : Pc) (a : Addr) : Prop := (∃ p, c.pen = some p ∧ a = p.a) ∨ a ∈ c.ts
theorem PenOk.mono {p : Pn} {H H' : Hp} (h : PenOk p H) (k : ∀ a o, p.on a → H a = some o → H' a = some o) : PenOk p H' := by
  obtain ⟨a, kk⟩ := p
  cases kk with
  | pen c n =>
    obtain ⟨cells, at_, rest, h1, h2, h3⟩ := h
    exact ⟨cells, at_, rest, k _ _ (.inl rfl) h1, k _ _ (.inr ⟨c, n, rfl, rfl⟩) h2, h3⟩
  | spr =>
    obtain ⟨z, h1⟩ := h
    exact ⟨z, k _ _ (.inl rfl) h1⟩
theorem PenOk.lst {p : Pn} {H : Hp} (h : PenOk p H) {a : Addr} (o : p.on a) : ∃ xs, H a = some (.lst xs) := by
  obtain ⟨b, kk⟩ := p
  cases kk with
  | pen c n =>
    obtain ⟨cells, at_, rest, h1, h2, h3⟩ := h
    rcases o with rfl | ⟨c', n', e, rfl⟩
    · exact ⟨_, h1⟩
    · cases e; exact ⟨_, h2⟩
  | spr =>
    obtain ⟨z, h1⟩ := h
    rcases o with rfl | ⟨c', n', e, rfl⟩
    · exact ⟨_, h1⟩
    · cases e
theorem POk.keep {pen : Pc} {H H' : Hp} (h : POk pen H) (k : ∀ a o, H a = some o → H' a = some o) : POk pen H' := by
  exact ⟨fun p hp => (h.1 p hp).mono fun a o _ e => k a o e, fun P hP => (h.2 P hP).keep k⟩
/-- tables and the pen stand apart -/
theorem POk.apart {pen : Pc} {H : Hp} (h : POk pen H) {p : Pn} (hp : pen.pen = some p) {P : Addr} (hP : P ∈ pen.ts) : ¬ p.on P := fun z => by
  obtain ⟨xs, h1⟩ := (h.1 p hp).lst z
  obtain ⟨ps, e, t⟩ := h.2 P hP
  rw [h1] at e; cases e

structure Vw (pen : Pc) (G H : Hp) : Prop where
  vw : Same G H
  no : ∀ a, IsPn pen a → G a = none
  ok : POk pen H
structure Go (pen : Pc) (G H G' H' : Hp) : Prop where
  gg : Same G G'
  nw : ∀ a, H a ≠ none → G' a = G a
  od : ∀ a o, ¬ IsPn pen a → H a = some o → H' a = some o
  vw : Vw pen G' H'
theorem POk.there {pen : Pc} {H : Hp} {a : Addr} (h : POk pen H) (p : IsPn pen a) : H a ≠ none := by
  rcases p with ⟨q, hq, rfl⟩ | hP
  · obtain ⟨xs, h1⟩ := (h.1 q hq).lst (.inl rfl)
    rw [h1]
    exact fun z => by cases z
  · obtain ⟨ps, e, t⟩ := h.2 a hP
    rw [e]
    exact fun z => by cases z
theorem Go.dom {pen : Pc} {G H G' H' : Hp} (g : Go pen G H G' H') {a : Addr} (h : H a ≠ none) : H' a ≠ none := by
  by_cases p : IsPn pen a
  · exact g.vw.ok.there p
  · cases e : H a with
    | none => exact absurd e h
    | some o =>
      rw [g.od a o p e]
      exact fun z => by cases z
theorem Go.refl {pen : Pc} {G H : Hp} (v : Vw pen G H) : Go pen G H G H := ⟨Same.refl _, fun _ _ => rfl, fun _ _ _ e => e, v⟩
theorem Go.trans {pen : Pc} {G H G1 H1 G2 H2 : Hp} (a : Go pen G H G1 H1) (b : Go pen G1 H1 G2 H2) : Go pen G H G2 H2 :=
  ⟨a.gg.trans b.gg, fun x h => (b.nw x (a.dom h)).trans (a.nw x h), fun x o p e => b.od x o p (a.od x o p e), b.vw⟩
/-- a new object that never changes -/
theorem Go.new {pen : Pc} {G H : Hp} (v : Vw pen G H) {p : Addr} {o : HO} (h : H p = none) : Go pen G H (upd G p o) (upd H p o) := by
  have np : ∀ a, IsPn pen a → a ≠ p := fun a q e => v.ok.there q (e ▸ h)
  have kH : ∀ a u, H a = some u → upd H p o a = some u := fun a u e => by rw [upd_ne (ne_of_none e h)]; exact e
  refine ⟨fun a u e => ?_, fun a e => ?_, fun a u _ e => kH a u e, ⟨fun a u e => ?_, fun a q => ?_, v.ok.keep kH⟩⟩
  · have h' : G p = none := by
      cases q : G p with
      | none => rfl
      | some u => rw [v.vw _ _ q] at h; cases h
    rw [upd_ne (ne_of_none e h')]; exact e
  · rw [upd_ne (fun (z : a = p) => e (by rw [z]; exact h))]
  · by_cases q : a = p
    · subst q; rw [upd_same] at e ⊢; exact e
    · rw [upd_ne q] at e ⊢; exact v.vw _ _ e
  · rw [upd_ne (np a q)]; exact v.no a q
/-- a new object that is not looked at as data -/
theorem Go.hid {pen : Pc} {G H : Hp} (v : Vw pen G H) {p : Addr} {o : HO} (h : H p = none) : Go pen G H G (upd H p o) := by
  have kH : ∀ a u, H a = some u → upd H p o a = some u := fun a u e => by rw [upd_ne (ne_of_none e h)]; exact e
  exact ⟨Same.refl _, fun _ _ => rfl, fun a u _ e => kH a u e, ⟨fun a u e => kH a u (v.vw a u e), v.no, v.ok.keep kH⟩⟩
/-- what a def without the pen does, seen by one who has it -/
theorem Go.lift {pn : Option Pn} {ts : List Addr} {G H G' H' : Hp} (v : Vw ⟨pn, ts⟩ G H) (g : Go ⟨none, ts⟩ G H G' H') : Go ⟨pn, ts⟩ G H G' H' := by
  have k : ∀ a o, a ∉ ts → H a = some o → H' a = some o := fun a o n e => g.od a o (fun z => by
    rcases z with ⟨p, z, _⟩ | z
    · cases z
    · exact n z) e
  refine ⟨g.gg, g.nw, fun a o n e => k a o (fun z => n (.inr z)) e, ⟨g.vw.vw, fun a q => (g.nw a (v.ok.there q)).trans (v.no a q), fun p hp => ?_, g.vw.ok.2⟩⟩
  exact (v.ok.1 p hp).mono fun a o ho e => k a o (fun z => v.ok.apart hp z ho) e
theorem Vw.plain {pn : Option Pn} {ts : List Addr} {G H : Hp} (v : Vw ⟨pn, ts⟩ G H) : Vw ⟨none, ts⟩ G H := by
  refine ⟨v.vw, fun a q => ?_, fun p z => (nomatch z), v.ok.2⟩
  rcases q with ⟨p, z, _⟩ | z
  · cases z
  · exact v.no a (.inr z)

/-! ### objects of one's own -/
def isLO : HO → Bool
  | .lst _ => true
  | .frz _ (.tup _) => false
  | .frz _ _ => true
  | _ => false
def newL (H0 H : Hp) (a : Addr) : Option HO := match H0 a with
  | some _ => none
  | none => match H a with
    | some (.lst xs) => some (.lst xs)
    | _ => none
/-- all that may be looked at: data, and the new lists -/
def vmax (H0 G H : Hp) : Hp := fun a => match G a with
  | some o => some o
  | none => newL H0 H a
/-- the new lists alone -/
def vnew (H0 G H : Hp) : Hp := fun a => match G a with
  | some o => if isLO o then none else some o
  | none => newL H0 H a
theorem newL_some {H0 H : Hp} {a : Addr} {o : HO} (h : newL H0 H a = some o) : H0 a = none ∧ H a = some o ∧ ∃ xs, o = .lst xs := by
  unfold newL at h
  cases h0 : H0 a with
  | some u => rw [h0] at h; cases h
  | none =>
    rw [h0] at h
    cases h1 : H a with
    | none => rw [h1] at h; cases h
    | some u =>
      rw [h1] at h
      cases u with
      | lst xs => cases h; exact ⟨rfl, rfl, xs, rfl⟩
      | _ => cases h
theorem newL_of {H0 H : Hp} {a : Addr} {xs : List V} (h0 : H0 a = none) (h : H a = some (.lst xs)) : newL H0 H a = some (.lst xs) := by
  unfold newL
  rw [h0, h]
theorem vmax_G {H0 G H : Hp} {a : Addr} {o : HO} (h : G a = some o) : vmax H0 G H a = some o := by
  unfold vmax; rw [h]
theorem vmax_new {H0 G H : Hp} {a : Addr} (h : G a = none) : vmax H0 G H a = newL H0 H a := by
  unfold vmax; rw [h]
theorem vmax_cases {H0 G H : Hp} {a : Addr} {o : HO} (h : vmax H0 G H a = some o) : G a = some o ∨ (G a = none ∧ H0 a = none ∧ H a = some o ∧ ∃ xs, o = .lst xs) := by
  cases g : G a with
  | some u => rw [vmax_G g] at h; exact .inl h
  | none => rw [vmax_new g] at h; exact .inr ⟨rfl, newL_some h⟩
theorem vnew_cases {H0 G H : Hp} {a : Addr} {o : HO} (h : vnew H0 G H a = some o) : (G a = some o ∧ isLO o = false) ∨ (G a = none ∧ H0 a = none ∧ H a = some o ∧ ∃ xs, o = .lst xs) := by
  unfold vnew at h
  cases g : G a with
  | some u =>
    rw [g] at h
    have h : (if isLO u = true then none else some u) = some o := h
    by_cases z : isLO u = true
    · rw [show (if isLO u = true then none else some u) = none from if_pos z] at h; cases h
    · rw [show (if isLO u = true then none else some u) = some u from if_neg z] at h
      cases h
      exact .inl ⟨rfl, by simpa using z⟩
  | none => rw [g] at h; exact .inr ⟨rfl, newL_some h⟩
theorem vnew_max {H0 G H : Hp} : Same (vnew H0 G H) (vmax H0 G H) := fun a o h => by
  rcases vnew_cases h with ⟨g, _⟩ | ⟨g, h0, h1, xs, rfl⟩
  · exact vmax_G g
  · rw [vmax_new g, newL_of h0 h1]
theorem vnew_of {H0 G H : Hp} {a : Addr} {xs : List V} (g : G a = none) (h0 : H0 a = none) (h : H a = some (.lst xs)) : vnew H0 G H a = some (.lst xs) := by
  unfold vnew; rw [g]; exact newL_of h0 h
theorem vnew_G {H0 G H : Hp} {a : Addr} {o : HO} (g : G a = some o) (h : isLO o = false) : vnew H0 G H a = some o := by
  unfold vnew; rw [g]; simp [h]
theorem vw_max {pen : Pc} {H0 G H : Hp} (v : Vw pen G H) (h0 : POk pen H0) : Vw pen (vmax H0 G H) H := by
  refine ⟨fun a o h => ?_, fun a p => ?_, v.ok⟩
  · rcases vmax_cases h with g | ⟨_, _, h1, _⟩
    · exact v.vw _ _ g
    · exact h1
  · rw [vmax_new (v.no a p)]
    cases e : newL H0 H a with
    | none => rfl
    | some o => exact absurd (newL_some e).1 (h0.there p)
mutual
/-- without a list -/
def noL : PyData → Bool
  | .list _ => false
  | .dict _ => false
  | .tuple ds => noLs ds
  | _ => true
def noLs : List PyData → Bool
  | [] => true
  | d :: ds => noL d && noLs ds
end
mutual
/-- new data: each list of it stands in W by itself -/
inductive Nd (K : PySem.W.Frag) (W : Hp) : V → PyData → Prop
  | non : Nd K W .non .none
  | bl (b : Bool) : Nd K W (.bl b) (.bool b)
  | int (i : Int) : Nd K W (.int i) (.int i)
  | str (x : Str) : Nd K W (.str x) (.str x)
  | lst {a : Addr} {xs : List V} {ds : List PyData} : W a = some (.lst xs) → NdAll K W xs ds → Nd K W (.ref a) (.list ds)
  | tup {a : Addr} {xs : List V} {ds : List PyData} : SqT K W a xs → NdAll K W xs ds → Nd K W (.ref a) (.tuple ds)
inductive NdAll (K : PySem.W.Frag) (W : Hp) : List V → List PyData → Prop
  | nil : NdAll K W [] []
  | cons {v : V} {vs : List V} {d : PyData} {ds : List PyData} : Nd K W v d → NdAll K W vs ds → NdAll K W (v :: vs) (d :: ds)
end
mutual
theorem nd_dp {K : PySem.W.Frag} {W : Hp} : ∀ (d : PyData) (v : V), Nd K W v d → Dp K W v d
  | .none, _, h => by cases h; exact .non
  | .bool b, _, h => by cases h; exact .bl b
  | .int i, _, h => by cases h; exact .int i
  | .str x, _, h => by cases h; exact .str x
  | .list ds, _, h => by
    cases h with
    | lst hs ha => exact .lst (.inl (.inl hs)) (nda_dpa ds _ ha)
  | .tuple ds, _, h => by
    cases h with
    | tup hs ha => exact .tup hs (nda_dpa ds _ ha)
  | .dict _, _, h => by cases h
theorem nda_dpa {K : PySem.W.Frag} {W : Hp} : ∀ (ds : List PyData) (vs : List V), NdAll K W vs ds → DpAll K W vs ds
  | [], _, h => by cases h; exact .nil
  | d :: ds, _, h => by
    cases h with
    | cons h1 h2 => exact .cons (nd_dp d _ h1) (nda_dpa ds _ h2)
end
mutual
theorem nd_mono {K : PySem.W.Frag} {G G' : Hp} (e : Same G G') : ∀ (d : PyData) (v : V), Nd K G v d → Nd K G' v d
  | .none, _, h => by cases h; exact .non
  | .bool b, _, h => by cases h; exact .bl b
  | .int i, _, h => by cases h; exact .int i
  | .str x, _, h => by cases h; exact .str x
  | .list ds, _, h => by
    cases h with
    | lst hs ha => exact .lst (e _ _ hs) (nda_mono e ds _ ha)
  | .tuple ds, _, h => by
    cases h with
    | tup hs ha => exact .tup (sqT_mono e hs) (nda_mono e ds _ ha)
  | .dict _, _, h => by cases h
theorem nda_mono {K : PySem.W.Frag} {G G' : Hp} (e : Same G G') : ∀ (ds : List PyData) (vs : List V), NdAll K G vs ds → NdAll K G' vs ds
  | [], _, h => by cases h; exact .nil
  | d :: ds, _, h => by
    cases h with
    | cons h1 h2 => exact .cons (nd_mono e d _ h1) (nda_mono e ds _ h2)
end
mutual
/-- data without a list, in a view that has the same tuples -/
theorem dp_nol {K : PySem.W.Frag} {G G' : Hp} (k : ∀ a xs, Rd G a (.tup xs) → Rd G' a (.tup xs)) : ∀ (d : PyData) (v : V), noL d = true → Dp K G v d → Dp K G' v d
  | .none, _, _, h => by cases h; exact .non
  | .bool b, _, _, h => by cases h; exact .bl b
  | .int i, _, _, h => by cases h; exact .int i
  | .str x, _, _, h => by cases h; exact .str x
  | .list ds, _, n, h => by rw [noL] at n; cases n
  | .tuple ds, _, n, h => by
    rw [noL] at n
    cases h with
    | tup hs ha =>
      refine .tup ?_ (dpa_nol k ds _ n ha)
      rcases hs with hs | hs
      · exact .inl (k _ _ hs)
      · exact .inr hs
  | .dict _, _, _, h => by cases h
theorem dpa_nol {K : PySem.W.Frag} {G G' : Hp} (k : ∀ a xs, Rd G a (.tup xs) → Rd G' a (.tup xs)) : ∀ (ds : List PyData) (vs : List V), noLs ds = true → DpAll K G vs ds → DpAll K G' vs ds
  | [], _, _, h => by cases h; exact .nil
  | d :: ds, _, n, h => by
    rw [noLs, Bool.and_eq_true] at n
    cases h with
    | cons h1 h2 => exact .cons (dp_nol k d _ n.1 h1) (dpa_nol k ds _ n.2 h2)
end
mutual
theorem dp_nd {K : PySem.W.Frag} {G : Hp} : ∀ (d : PyData) (v : V), noL d = true → Dp K G v d → Nd K G v d
  | .none, _, _, h => by cases h; exact .non
  | .bool b, _, _, h => by cases h; exact .bl b
  | .int i, _, _, h => by cases h; exact .int i
  | .str x, _, _, h => by cases h; exact .str x
  | .list ds, _, n, h => by rw [noL] at n; cases n
  | .tuple ds, _, n, h => by
    rw [noL] at n
    cases h with
    | tup hs ha => exact .tup hs (dpa_nda ds _ n ha)
  | .dict _, _, _, h => by cases h
theorem dpa_nda {K : PySem.W.Frag} {G : Hp} : ∀ (ds : List PyData) (vs : List V), noLs ds = true → DpAll K G vs ds → NdAll K G vs ds
  | [], _, _, h => by cases h; exact .nil
  | d :: ds, _, n, h => by
    rw [noLs, Bool.and_eq_true] at n
    cases h with
    | cons h1 h2 => exact .cons (dp_nd d _ n.1 h1) (dpa_nda ds _ n.2 h2)
end
theorem noLs_app : ∀ (a b : List PyData), noLs (a ++ b) = (noLs a && noLs b)
  | [], b => by rw [noLs]; rfl
  | x :: a, b => by rw [List.cons_append, noLs, noLs, noLs_app a b, Bool.and_assoc]
theorem noLs_iff : ∀ (a : List PyData), noLs a = true ↔ ∀ d ∈ a, noL d = true
  | [] => by rw [noLs]; exact ⟨fun _ d h => (nomatch h), fun _ => rfl⟩
  | x :: a => by
    rw [noLs, Bool.and_eq_true, noLs_iff a]
    exact ⟨fun h d hd => by rcases List.mem_cons.mp hd with rfl | hd; exact h.1; exact h.2 d hd, fun h => ⟨h x (List.mem_cons_self ..), fun d hd => h d (List.mem_cons_of_mem _ hd)⟩⟩
inductive OO where
  | lst (ds : List PyData)
  | dK (m : List (Key × PyData))
  | dN (w : World) (m : List (NestedKey × PyData))
  | dF (w : World) (m : List (NestedKey × PyData))
def KvOk {κ : Type} (K : PySem.W.Frag) (G : Hp) (kvs : List (κ × V)) (m : List (κ × PyData)) : Prop := Paired (fun (kv : κ × V) (xd : κ × PyData) => kv.1 = xd.1 ∧ Dp K G kv.2 xd.2) kvs m
def NvOk (K : PySem.W.Frag) (G : Hp) (kvs : List Gn.NE) (m : List (NestedKey × PyData)) : Prop := Paired (fun (p : Gn.NE) (q : NestedKey × PyData) => p.1 = q.1 ∧ p.1.depth ≤ 8 ∧ Dp K G (.ref p.2.1) p.1.data ∧ Dp K G p.2.2 q.2) kvs m
def OwnOk (K : PySem.W.Frag) (G : Hp) (l : Addr) : HO → OO → Prop
  | .lst vs, .lst ds => DpAll K G vs ds
  | .dK kvs, .dK m => KvOk K G kvs m
  | .ext φ, .dN w m => ∃ kvs, HO.ext φ = Gn.NO w l kvs ∧ NvOk K G kvs m
  | .frz _ u, .dF w m => ∃ kvs, u = Gn.NO w l kvs ∧ NvOk K G kvs m
  | _, _ => False
theorem NvOk.mono {K : PySem.W.Frag} {G G' : Hp} (e : Same G G') {kvs : List Gn.NE} {m : List (NestedKey × PyData)} (h : NvOk K G kvs m) : NvOk K G' kvs m := Paired.mapP h fun _ _ z => ⟨z.1, z.2.1, dp_mono e _ _ z.2.2.1, dp_mono e _ _ z.2.2.2⟩
theorem KvOk.mono {κ : Type} {K : PySem.W.Frag} {G G' : Hp} (e : Same G G') {kvs : List (κ × V)} {m : List (κ × PyData)} (h : KvOk K G kvs m) : KvOk K G' kvs m := Paired.mapP h fun _ _ z => ⟨z.1, dp_mono e _ _ z.2⟩
theorem OwnOk.mono {K : PySem.W.Frag} {G G' : Hp} (e : Same G G') {l : Addr} {ho : HO} {o : OO} (h : OwnOk K G l ho o) : OwnOk K G' l ho o := by
  cases ho <;> cases o <;> first | exact h.elim | exact dpa_mono e _ _ h | exact KvOk.mono e h | exact let ⟨vs, e1, h⟩ := h; ⟨vs, e1, NvOk.mono e h⟩
theorem OwnOk.noCode {K : PySem.W.Frag} {G : Hp} {l : Addr} {ho : HO} {o : OO} (h : OwnOk K G l ho o) (q : Str) : ho ≠ LamX.CodeO l q := by
  cases ho <;> cases o <;> first | exact h.elim | (intro z; unfold LamX.CodeO at z; cases z; done) | exact let ⟨vs, e1, h⟩ := h; fun z => Gn.noCode _ l vs q (e1.symm.trans z)
theorem OwnOk.lst {K : PySem.W.Frag} {G : Hp} {l : Addr} {ho : HO} {ds : List PyData} (h : OwnOk K G l ho (.lst ds)) : ∃ vs, ho = .lst vs ∧ DpAll K G vs ds := by
  cases ho <;> first | exact h.elim | exact ⟨_, rfl, h⟩
theorem OwnOk.dK {K : PySem.W.Frag} {G : Hp} {l : Addr} {ho : HO} {m : List (Key × PyData)} (h : OwnOk K G l ho (.dK m)) : ∃ vs, ho = .dK vs ∧ KvOk K G vs m := by
  cases ho <;> first | exact h.elim | exact ⟨_, rfl, h⟩
theorem OwnOk.dN {K : PySem.W.Frag} {G : Hp} {l : Addr} {ho : HO} {w : World} {m : List (NestedKey × PyData)} (h : OwnOk K G l ho (.dN w m)) : ∃ vs, ho = Gn.NO w l vs ∧ NvOk K G vs m := by
  cases ho <;> first | exact h.elim | exact h
theorem OwnOk.dF {K : PySem.W.Frag} {G : Hp} {l : Addr} {ho : HO} {w : World} {m : List (NestedKey × PyData)} (h : OwnOk K G l ho (.dF w m)) : ∃ od vs, ho = .frz od (Gn.NO w l vs) ∧ NvOk K G vs m := by
  cases ho <;> first | exact h.elim | exact let ⟨vs, e, h⟩ := h; ⟨_, vs, by rw [e], h⟩
theorem OwnOk.ofN {K : PySem.W.Frag} {G : Hp} {l : Addr} {w : World} {kvs : List Gn.NE} {m : List (NestedKey × PyData)} (h : NvOk K G kvs m) : OwnOk K G l (Gn.NO w l kvs) (.dN w m) := ⟨kvs, rfl, h⟩

/-! ### slots -/
inductive AV where
  | d (x : PyData)
  | pen
  | own (o : OO)
  | bor (o : OO)
  | fr (x : PyData)
abbrev Lv := List (Option AV)
def AvOk (K : PySem.W.Frag) (pen : Pc) (H0 G H : Hp) (v : V) : AV → Prop
  | .d x => Dp K G v x
  | .pen => ∃ p, pen.pen = some p ∧ v = .ref p.a
  | .own o => ∃ l ho, v = .ref l ∧ H l = some ho ∧ H0 l = none ∧ G l = none ∧ OwnOk K G l ho o
  | .bor o => ∃ l ho, v = .ref l ∧ H l = some ho ∧ H0 l = some ho ∧ ¬ IsPn pen l ∧ OwnOk K G l ho o
  | .fr x => Nd K (vnew H0 G H) v x
theorem vnew_go {pen : Pc} {H0 G H G' H' : Hp} (h0 : POk pen H0) (g : Go pen G H G' H') (vw : Same G H) : Same (vnew H0 G H) (vnew H0 G' H') := fun a o h => by
  rcases vnew_cases h with ⟨k, z⟩ | ⟨k, k0, k1, xs, rfl⟩
  · exact vnew_G (g.gg _ _ k) z
  · exact vnew_of ((g.nw a (by rw [k1]; exact fun z => by cases z)).trans k) k0 (g.od _ _ (fun q => h0.there q k0) k1)
structure Ev (K : PySem.W.Frag) (pen : Pc) (H0 G H : Hp) (σ : L2.St) (L : Lv) : Prop where
  vw : Vw pen G H
  h0 : POk pen H0
  dom : ∀ a, H0 a ≠ none → H a ≠ none
  len : σ.length = L.length
  sl : ∀ (i : Nat) av, L[i]? = some (some av) → ∃ v, σ[i]? = some (some v) ∧ AvOk K pen H0 G H v av
  ow : ∀ (i j : Nat) (ds es : OO) l, L[i]? = some (some (.own ds)) → L[j]? = some (some (.own es)) → σ[i]? = some (some (.ref l)) → σ[j]? = some (some (.ref l)) → i = j
section
variable {K : PySem.W.Frag} {pen : Pc} {H0 G H G' H' : Hp} {σ : L2.St} {L : Lv}
theorem POk.dom0 {a : Addr} (h : POk pen H0) (p : IsPn pen a) : H0 a ≠ none := h.there p
theorem AvOk.go {v : V} {av : AV} (h : AvOk K pen H0 G H v av) (h0 : POk pen H0) (vw : Same G H) (g : Go pen G H G' H') : AvOk K pen H0 G' H' v av := by
  cases av with
  | d x => exact dp_mono g.gg _ _ h
  | pen => exact h
  | own ds =>
    obtain ⟨l, vs, e, h1, h2, h3, h4⟩ := h
    have np : ¬ IsPn pen l := fun q => h0.there q h2
    refine ⟨l, vs, e, g.od _ _ np h1, h2, ?_, h4.mono g.gg⟩
    rw [g.nw l (by rw [h1]; exact fun z => by cases z)]
    exact h3
  | bor ds =>
    obtain ⟨l, vs, e, h1, h2, h3, h4⟩ := h
    exact ⟨l, vs, e, g.od _ _ h3 h1, h2, h3, h4.mono g.gg⟩
  | fr x => exact nd_mono (vnew_go h0 g vw) _ _ h
theorem Ev.go (e : Ev K pen H0 G H σ L) (g : Go pen G H G' H') : Ev K pen H0 G' H' σ L :=
  ⟨g.vw, e.h0, fun a h => g.dom (e.dom a h), e.len, fun i av h => by
    obtain ⟨v, h1, h2⟩ := e.sl i av h
    exact ⟨v, h1, h2.go e.h0 e.vw.vw g⟩, e.ow⟩
/-- a slot stored with data -/
theorem Ev.set (e : Ev K pen H0 G H σ L) {i : Nat} {v : V} {x : PyData} (h : Dp K G v x) : Ev K pen H0 G H (σ.set i (some v)) (L.set i (some (.d x))) := by
  refine ⟨e.vw, e.h0, e.dom, by rw [List.length_set, List.length_set]; exact e.len, fun j av hj => ?_, fun j k ds es l h1 h2 h3 h4 => ?_⟩
  · by_cases q : i = j
    · subst q
      have hl : i < L.length := by
        have := (List.getElem?_eq_some_iff.mp hj).1
        rw [List.length_set] at this; exact this
      rw [List.getElem?_set_self hl] at hj
      have := Option.some.inj (Option.some.inj hj)
      subst this
      exact ⟨v, List.getElem?_set_self (by rw [e.len]; exact hl), h⟩
    · rw [List.getElem?_set_ne q] at hj
      obtain ⟨w, h1, h2⟩ := e.sl j av hj
      exact ⟨w, by rw [List.getElem?_set_ne q]; exact h1, h2⟩
  · have nj : ∀ (j : Nat) (ds : OO), (L.set i (some (.d x)))[j]? = some (some (.own ds)) → i ≠ j := fun j ds hj q => by
      subst q
      have hl : i < L.length := by
        have := (List.getElem?_eq_some_iff.mp hj).1
        rw [List.length_set] at this; exact this
      rw [List.getElem?_set_self hl] at hj
      cases hj
    have q1 := nj j ds h1
    have q2 := nj k es h2
    rw [List.getElem?_set_ne q1] at h1 h3
    rw [List.getElem?_set_ne q2] at h2 h4
    exact e.ow j k ds es l h1 h2 h3 h4
end

/-! ### expressions -/
section
variable (K : PySem.W.Frag) (pen : Pc) (H0 : Hp)
def E (te : TE) (L : Lv) (P : PyData → Prop) : Prop := ∀ (σ : L2.St) (G H : Hp), Ev K pen H0 G H σ L → ∀ Q : VK, (∀ v d G' H', Go pen G H G' H' → Dp K G' v d → P d → Q v H') → te σ H Q
def EA (ta : TA) (L : Lv) (P : List PyData → Prop) : Prop := ∀ (σ : L2.St) (G H : Hp), Ev K pen H0 G H σ L → ∀ Q : List V → Hp → Prop, (∀ vs ds G' H', Go pen G H G' H' → DpAll K G' vs ds → P ds → Q vs H') → ta σ H Q
def ET (tt : TT) (L : Lv) (P : Bool → Prop) : Prop := ∀ (σ : L2.St) (G H : Hp), Ev K pen H0 G H σ L → ∀ Q : Bool → Hp → Prop, (∀ b G' H', Go pen G H G' H' → P b → Q b H') → tt σ H Q
def EO (to : TO) (L : Lv) (P : Option Int → Prop) : Prop := ∀ (σ : L2.St) (G H : Hp), Ev K pen H0 G H σ L → ∀ Q : Option Int → Hp → Prop, (∀ b G' H', Go pen G H G' H' → P b → Q b H') → to σ H Q
/-- an operation by values -/
def R2d (r : R2) (a b : PyData) (P : PyData → Prop) : Prop := ∀ (x y : V) (G H : Hp), Vw pen G H → Dp K G x a → Dp K G y b → ∀ Q : VK, (∀ v d G' H', Go pen G H G' H' → Dp K G' v d → P d → Q v H') → r x y H Q
def RCd (r : List V → Hp → VK → Prop) (ds : List PyData) (P : PyData → Prop) : Prop := ∀ (vs : List V) (G H : Hp), Vw pen G H → DpAll K G vs ds → ∀ Q : VK, (∀ v d G' H', Go pen G H G' H' → Dp K G' v d → P d → Q v H') → r vs H Q
def RSd (r : V → Option Int → Option Int → Hp → VK → Prop) (a : PyData) (lo hi : Option Int) (P : PyData → Prop) : Prop := ∀ (x : V) (G H : Hp), Vw pen G H → Dp K G x a → ∀ Q : VK, (∀ v d G' H', Go pen G H G' H' → Dp K G' v d → P d → Q v H') → r x lo hi H Q
def RUd (r : V → Hp → VK → Prop) (a : PyData) (P : PyData → Prop) : Prop := ∀ (x : V) (G H : Hp), Vw pen G H → Dp K G x a → ∀ Q : VK, (∀ v d G' H', Go pen G H G' H' → Dp K G' v d → P d → Q v H') → r x H Q
end
section
variable {K : PySem.W.Frag} {pen : Pc} {H0 : Hp} {L : Lv} {P P' : PyData → Prop} {ta tb tc te : TE} {tl tr : TA} {t u : TT} {Pb : Bool → Prop}
theorem E.mono (h : E K pen H0 te L P) (k : ∀ d, P d → P' d) : E K pen H0 te L P' := fun σ G H e Q q => h σ G H e Q fun v d G' H' g hd p => q v d G' H' g hd (k d p)
theorem ET.mono {Pb' : Bool → Prop} (h : ET K pen H0 t L Pb) (k : ∀ d, Pb d → Pb' d) : ET K pen H0 t L Pb' := fun σ G H e Q q => h σ G H e Q fun v G' H' g p => q v G' H' g (k v p)
theorem e_var {i : Nat} {x : PyData} (h : L[i]? = some (some (.d x))) (p : P x) : E K pen H0 (tVar i) L P := fun σ G H e Q q => by
  obtain ⟨v, h1, h2⟩ := e.sl i _ h
  exact ⟨v, h1, q v x G H (.refl e.vw) h2 p⟩
theorem e_int {i : Int} (p : P (.int i)) : E K pen H0 (tC (.int i)) L P := fun σ G H e Q q => q _ _ G H (.refl e.vw) (.int i) p
theorem e_str {i : Str} (p : P (.str i)) : E K pen H0 (tC (.str i)) L P := fun σ G H e Q q => q _ _ G H (.refl e.vw) (.str i) p
theorem e_bl {i : Bool} (p : P (.bool i)) : E K pen H0 (tC (.bl i)) L P := fun σ G H e Q q => q _ _ G H (.refl e.vw) (.bl i) p
theorem e_non (p : P .none) : E K pen H0 (tC .non) L P := fun σ G H e Q q => q _ _ G H (.refl e.vw) .non p
theorem e_op {r : R2} (h : E K pen H0 ta L fun a => E K pen H0 tb L fun b => R2d K pen r a b P) : E K pen H0 (tOp r ta tb) L P := fun σ G H e Q q =>
  h σ G H e _ fun v a G1 H1 g1 d1 h1 => h1 σ G1 H1 (e.go g1) _ fun w b G2 H2 g2 d2 h2 =>
    h2 v w G2 H2 g2.vw (dp_mono g2.gg _ _ d1) d2 Q fun z c G3 H3 g3 d3 p => q z c G3 H3 ((g1.trans g2).trans g3) d3 p
theorem e_un {r : V → Hp → VK → Prop} (h : E K pen H0 ta L fun a => RUd K pen r a P) : E K pen H0 (tUn r ta) L P := fun σ G H e Q q =>
  h σ G H e _ fun v a G1 H1 g1 d1 h1 => h1 v G1 H1 g1.vw d1 Q fun z c G3 H3 g3 d3 p => q z c G3 H3 (g1.trans g3) d3 p
theorem ea_nil {Pl : List PyData → Prop} (p : Pl []) : EA K pen H0 tNil L Pl := fun σ G H e Q q => q [] [] G H (.refl e.vw) .nil p
theorem ea_cons {Pl : List PyData → Prop} (h : E K pen H0 ta L fun a => EA K pen H0 tr L fun ds => Pl (a :: ds)) : EA K pen H0 (tCons ta tr) L Pl := fun σ G H e Q q =>
  h σ G H e _ fun v a G1 H1 g1 d1 h1 => h1 σ G1 H1 (e.go g1) _ fun vs ds G2 H2 g2 d2 p => q _ _ G2 H2 (g1.trans g2) (.cons (dp_mono g2.gg _ _ d1) d2) p
theorem e_tup (h : EA K pen H0 tl L fun ds => ds.length ≤ 100000 ∧ P (.tuple ds)) : E K pen H0 (tTup tl) L P := fun σ G H e Q q =>
  h σ G H e _ fun vs ds G1 H1 g1 d1 h1 => ⟨Nat.le_trans (by rw [dpa_len d1]; exact h1.1) (by decide : 100000 ≤ sizeLine), fun p hp => by
    have g2 := Go.new g1.vw (o := .tup vs) hp
    exact q _ _ _ _ (g1.trans g2) (.tup (.inl (.inl upd_same)) (dpa_mono g2.gg _ _ d1)) h1.2⟩
theorem e_lst (h : EA K pen H0 tl L fun ds => ds.length ≤ 100000 ∧ P (.list ds)) : E K pen H0 (tLst tl) L P := fun σ G H e Q q =>
  h σ G H e _ fun vs ds G1 H1 g1 d1 h1 => ⟨Nat.le_trans (by rw [dpa_len d1]; exact h1.1) (by decide : 100000 ≤ sizeLine), fun p hp => by
    have g2 := Go.new g1.vw (o := .lst vs) hp
    exact q _ _ _ _ (g1.trans g2) (.lst (.inl (.inl upd_same)) (dpa_mono g2.gg _ _ d1)) h1.2⟩
theorem e_cb {r : List V → Hp → VK → Prop} (h : EA K pen H0 tl L fun ds => RCd K pen r ds P) : E K pen H0 (tCB r tl) L P := fun σ G H e Q q =>
  h σ G H e _ fun vs ds G1 H1 g1 d1 h1 => h1 vs G1 H1 g1.vw d1 Q fun z c G3 H3 g3 d3 p => q z c G3 H3 (g1.trans g3) d3 p
theorem e_sl {r : V → Option Int → Option Int → Hp → VK → Prop} {to th : TO} (h : E K pen H0 te L fun a => EO K pen H0 to L fun lo => EO K pen H0 th L fun hi => RSd K pen r a lo hi P) : E K pen H0 (tSl r te to th) L P := fun σ G H e Q q =>
  h σ G H e _ fun v a G1 H1 g1 d1 h1 => h1 σ G1 H1 (e.go g1) _ fun lo G2 H2 g2 h2 => h2 σ G2 H2 (e.go (g1.trans g2)) _ fun hi G3 H3 g3 h3 =>
    h3 v G3 H3 g3.vw (dp_mono (g2.gg.trans g3.gg) _ _ d1) Q fun z c G4 H4 g4 d4 p => q z c G4 H4 (((g1.trans g2).trans g3).trans g4) d4 p
theorem eo_none {Po : Option Int → Prop} (p : Po none) : EO K pen H0 tNoPart L Po := fun σ G H e Q q => q _ G H (.refl e.vw) p
theorem eo_some {Po : Option Int → Prop} (h : E K pen H0 te L fun d => ∃ i, d = .int i ∧ Po (some i)) : EO K pen H0 (tPart te) L Po := fun σ G H e Q q =>
  h σ G H e _ fun v d G1 H1 g1 d1 ⟨i, hi, p⟩ => by
    subst hi
    cases d1
    exact ⟨i, rfl, q _ G1 H1 g1 p⟩
/-! tests -/
theorem et_test (h : E K pen H0 te L fun d => ∃ b, d = .bool b ∧ Pb b) : ET K pen H0 (tTest te) L Pb := fun σ G H e Q q =>
  h σ G H e _ fun v d G1 H1 g1 d1 ⟨b, hb, p⟩ => by
    subst hb
    cases d1
    exact ⟨b, rfl, q _ G1 H1 g1 p⟩
theorem et_B (h : E K pen H0 te L fun d => ∃ b, d = .bool b ∧ Pb b) : ET K pen H0 (tB te) L Pb := fun σ G H e Q q =>
  h σ G H e _ fun v d G1 H1 g1 d1 ⟨b, hb, p⟩ => by
    subst hb
    cases d1
    exact ⟨b, rfl, q _ G1 H1 g1 p⟩
theorem et_and (h : ET K pen H0 t L fun a => (a = true → ET K pen H0 u L Pb) ∧ (a = false → Pb false)) : ET K pen H0 (tAnd t u) L Pb := fun σ G H e Q q =>
  h σ G H e _ fun a G1 H1 g1 h1 => by
    cases a with
    | true => exact h1.1 rfl σ G1 H1 (e.go g1) Q fun b G2 H2 g2 p => q b G2 H2 (g1.trans g2) p
    | false => exact q false G1 H1 g1 (h1.2 rfl)
theorem et_or (h : ET K pen H0 t L fun a => (a = true → Pb true) ∧ (a = false → ET K pen H0 u L Pb)) : ET K pen H0 (tOr t u) L Pb := fun σ G H e Q q =>
  h σ G H e _ fun a G1 H1 g1 h1 => by
    cases a with
    | false => exact h1.2 rfl σ G1 H1 (e.go g1) Q fun b G2 H2 g2 p => q b G2 H2 (g1.trans g2) p
    | true => exact q true G1 H1 g1 (h1.1 rfl)
theorem et_not (h : ET K pen H0 t L fun a => Pb (!a)) : ET K pen H0 (tNot t) L Pb := fun σ G H e Q q => h σ G H e _ fun a G1 H1 g1 h1 => q (!a) G1 H1 g1 h1
theorem e_andV (h : E K pen H0 ta L fun d => ∃ a, d = .bool a ∧ (a = true → E K pen H0 tb L P) ∧ (a = false → P (.bool false))) : E K pen H0 (tAndV ta tb) L P := fun σ G H e Q q =>
  h σ G H e _ fun v d G1 H1 g1 d1 ⟨a, ha, h1, h2⟩ => by
    subst ha
    cases d1
    refine ⟨a, rfl, ?_⟩
    cases a with
    | true => exact h1 rfl σ G1 H1 (e.go g1) Q fun w b G2 H2 g2 d2 p => q w b G2 H2 (g1.trans g2) d2 p
    | false => exact q _ _ G1 H1 g1 (.bl false) (h2 rfl)
theorem e_orV (h : E K pen H0 ta L fun d => ∃ a, d = .bool a ∧ (a = true → P (.bool true)) ∧ (a = false → E K pen H0 tb L P)) : E K pen H0 (tOrV ta tb) L P := fun σ G H e Q q =>
  h σ G H e _ fun v d G1 H1 g1 d1 ⟨a, ha, h1, h2⟩ => by
    subst ha
    cases d1
    refine ⟨a, rfl, ?_⟩
    cases a with
    | false => exact h2 rfl σ G1 H1 (e.go g1) Q fun w b G2 H2 g2 d2 p => q w b G2 H2 (g1.trans g2) d2 p
    | true => exact q _ _ G1 H1 g1 (.bl true) (h1 rfl)
theorem e_notV (h : E K pen H0 ta L fun d => ∃ a, d = .bool a ∧ P (.bool (!a))) : E K pen H0 (tNotV ta) L P := fun σ G H e Q q =>
  h σ G H e _ fun v d G1 H1 g1 d1 ⟨a, ha, h1⟩ => by
    subst ha
    cases d1
    exact ⟨a, rfl, q _ _ G1 H1 g1 (.bl _) h1⟩
theorem e_if (h : ET K pen H0 t L fun a => (a = true → E K pen H0 ta L P) ∧ (a = false → E K pen H0 tb L P)) : E K pen H0 (tIf t ta tb) L P := fun σ G H e Q q =>
  h σ G H e _ fun a G1 H1 g1 h1 => by
    cases a with
    | true => exact h1.1 rfl σ G1 H1 (e.go g1) Q fun w b G2 H2 g2 d2 p => q w b G2 H2 (g1.trans g2) d2 p
    | false => exact h1.2 rfl σ G1 H1 (e.go g1) Q fun w b G2 H2 g2 d2 p => q w b G2 H2 (g1.trans g2) d2 p
theorem e_chain {r r' : R2} (h : E K pen H0 ta L fun a => E K pen H0 tb L fun b => R2d K pen r a b fun z => ∃ k, z = .bool k ∧ (k = true → E K pen H0 tc L fun c => R2d K pen r' b c P) ∧ (k = false → P (.bool false))) : E K pen H0 (tChain r r' ta tb tc) L P := fun σ G H e Q q =>
  h σ G H e _ fun v a G1 H1 g1 d1 h1 => h1 σ G1 H1 (e.go g1) _ fun w b G2 H2 g2 d2 h2 =>
    h2 v w G2 H2 g2.vw (dp_mono g2.gg _ _ d1) d2 _ fun z c G3 H3 g3 d3 ⟨k, hk, p1, p2⟩ => by
      subst hk
      cases d3
      refine ⟨k, rfl, ?_⟩
      cases k with
      | true =>
        exact p1 rfl σ G3 H3 (e.go ((g1.trans g2).trans g3)) _ fun y c G4 H4 g4 d4 p => p w y G4 H4 g4.vw (dp_mono (g3.gg.trans g4.gg) _ _ d2) d4 Q fun z c G5 H5 g5 d5 p' =>
          q z c G5 H5 ((((g1.trans g2).trans g3).trans g4).trans g5) d5 p'
      | false => exact q _ _ G3 H3 ((g1.trans g2).trans g3) (.bl false) (p2 rfl)
/-! operators by values -/
theorem r_I0 {g : Int → Int → V} {f : Int → Int → PyData} {i j : Int} (hg : ∀ G, Dp K G (g i j) (f i j)) (p : P (f i j)) : R2d K pen (rI0 g) (.int i) (.int j) P := fun x y G H v hx hy Q q => by
  cases hx
  cases hy
  exact ⟨i, j, rfl, rfl, q _ _ G H (.refl v) (hg G) p⟩
theorem r_I {C : Int → Int → Prop} {g : Int → Int → V} {f : Int → Int → PyData} {i j : Int} (hg : ∀ G, Dp K G (g i j) (f i j)) (hc : C i j) (p : P (f i j)) : R2d K pen (rI C g) (.int i) (.int j) P := fun x y G H v hx hy Q q => by
  cases hx
  cases hy
  exact ⟨i, j, rfl, rfl, hc, q _ _ G H (.refl v) (hg G) p⟩
theorem r_add {i j : Int} (p : P (.int (i + j))) : R2d K pen (rI0 fun i j => .int (i + j)) (.int i) (.int j) P := r_I0 (f := fun i j => .int (i + j)) (fun _ => .int _) p
theorem r_sub {i j : Int} (p : P (.int (i - j))) : R2d K pen (rI0 fun i j => .int (i - j)) (.int i) (.int j) P := r_I0 (f := fun i j => .int (i - j)) (fun _ => .int _) p
theorem r_mul {i j : Int} (hc : CMul i j) (p : P (.int (i * j))) : R2d K pen (rI CMul fun i j => .int (i * j)) (.int i) (.int j) P := r_I (f := fun i j => .int (i * j)) (fun _ => .int _) hc p
theorem r_mod {i j : Int} (hc : 0 < j) (p : P (.int (i % j))) : R2d K pen (rI (fun _ j => 0 < j) fun i j => .int (i % j)) (.int i) (.int j) P := r_I (f := fun i j => .int (i % j)) (fun _ => .int _) hc p
theorem r_lt {i j : Int} (p : P (.bool (decide (i < j)))) : R2d K pen (rI0 fun i j => .bl (decide (i < j))) (.int i) (.int j) P := r_I0 (f := fun i j => .bool (decide (i < j))) (fun _ => .bl _) p
theorem r_le {i j : Int} (p : P (.bool (decide (i ≤ j)))) : R2d K pen (rI0 fun i j => .bl (decide (i ≤ j))) (.int i) (.int j) P := r_I0 (f := fun i j => .bool (decide (i ≤ j))) (fun _ => .bl _) p
theorem r_gt {i j : Int} (p : P (.bool (decide (j < i)))) : R2d K pen (rI0 fun i j => .bl (decide (j < i))) (.int i) (.int j) P := r_I0 (f := fun i j => .bool (decide (j < i))) (fun _ => .bl _) p
theorem r_ge {i j : Int} (p : P (.bool (decide (j ≤ i)))) : R2d K pen (rI0 fun i j => .bl (decide (j ≤ i))) (.int i) (.int j) P := r_I0 (f := fun i j => .bool (decide (j ≤ i))) (fun _ => .bl _) p
theorem r_eqI {i j : Int} (p : P (.bool (decide (i = j)))) : R2d K pen rEq (.int i) (.int j) P := fun x y G H v hx hy Q q => by
  cases hx
  cases hy
  refine ⟨rfl, ?_⟩
  rw [show decide (V.int i = V.int j) = decide (i = j) by rw [dec_int]; exact Bool.beq_eq_decide_eq i j]
  exact q _ _ G H (.refl v) (.bl _) p
theorem r_neI {i j : Int} (p : P (.bool (!decide (i = j)))) : R2d K pen rNe (.int i) (.int j) P := fun x y G H v hx hy Q q => by
  cases hx
  cases hy
  refine ⟨rfl, ?_⟩
  rw [show decide (V.int i = V.int j) = decide (i = j) by rw [dec_int]; exact Bool.beq_eq_decide_eq i j]
  exact q _ _ G H (.refl v) (.bl _) p
theorem r_eqB {i j : Bool} (p : P (.bool (decide (i = j)))) : R2d K pen rEq (.bool i) (.bool j) P := fun x y G H v hx hy Q q => by
  cases hx
  cases hy
  refine ⟨rfl, ?_⟩
  rw [show decide (V.bl i = V.bl j) = decide (i = j) by rw [dec_bl]; exact Bool.beq_eq_decide_eq i j]
  exact q _ _ G H (.refl v) (.bl _) p
theorem r_eqS {i j : Str} (p : P (.bool (decide (i = j)))) : R2d K pen rEq (.str i) (.str j) P := fun x y G H v hx hy Q q => by
  cases hx
  cases hy
  refine ⟨rfl, ?_⟩
  rw [show decide (V.str i = V.str j) = decide (i = j) by rw [dec_str]; exact Bool.beq_eq_decide_eq i j]
  exact q _ _ G H (.refl v) (.bl _) p
theorem r_eqD {a b : PyData} (ha : SeqAt.shaped a = true) (hb : SeqAt.shaped b = true) (p : P (.bool (PyData.eqv a b))) : R2d K pen (rEqD K) a b P := fun x y G H v hx hy Q q =>
  ⟨a, b, dp_mono v.vw _ _ hx, dp_mono v.vw _ _ hy, ha, hb, q _ _ G H (.refl v) (.bl _) p⟩
theorem r_neD {a b : PyData} (ha : SeqAt.shaped a = true) (hb : SeqAt.shaped b = true) (p : P (.bool (!PyData.eqv a b))) : R2d K pen (rNeD K) a b P := fun x y G H v hx hy Q q =>
  ⟨a, b, dp_mono v.vw _ _ hx, dp_mono v.vw _ _ hy, ha, hb, q _ _ G H (.refl v) (.bl _) p⟩
theorem r_isN {a : PyData} (p : P (.bool (match a with | .none => true | _ => false))) : R2d K pen (fun x y H Q => y = .non ∧ Q (.bl (decide (x = .non))) H) a .none P := fun x y G H v hx hy Q q => by
  cases hy
  refine ⟨rfl, q _ _ G H (.refl v) ?_ p⟩
  cases hx <;> exact .bl _
theorem r_ixT {ds : List PyData} {i : Int} {d : PyData} (h : atI ds i = some d) (p : P d) : R2d K pen (rIxT K) (.tuple ds) (.int i) P := fun x y G H v hx hy Q q => by
  cases hy
  cases hx with
  | tup hs ha =>
    rename_i a xs
    unfold atI at h
    cases hj : ixN ds.length i with
    | none => rw [hj] at h; cases h
    | some j =>
      rw [hj] at h
      obtain ⟨w, h1, h2⟩ := dpa_get ha (show ds[j]? = some d from h)
      refine ⟨_, xs, i, w, rfl, rfl, sqT_mono v.vw hs, ?_, q w d G H (.refl v) h2 p⟩
      unfold atI
      rw [dpa_len ha, hj]
      exact h1
theorem r_ixL {ds : List PyData} {i : Int} {d : PyData} (h : atI ds i = some d) (p : P d) : R2d K pen (rIxL K) (.list ds) (.int i) P := fun x y G H v hx hy Q q => by
  cases hy
  cases hx with
  | lst hs ha =>
    rename_i a xs
    unfold atI at h
    cases hj : ixN ds.length i with
    | none => rw [hj] at h; cases h
    | some j =>
      rw [hj] at h
      obtain ⟨w, h1, h2⟩ := dpa_get ha (show ds[j]? = some d from h)
      refine ⟨_, xs, i, w, rfl, rfl, sqL_mono v.vw hs, ?_, q w d G H (.refl v) h2 p⟩
      unfold atI
      rw [dpa_len ha, hj]
      exact h1
/-- len -/
theorem c_len {ds es : List PyData} (h : ds = [.tuple es] ∨ ds = [.list es]) (p : P (.int es.length)) : RCd K pen (fun xs H Q => ∃ p ys, xs = [.ref p] ∧ (SqL K H p ys ∨ SqT K H p ys) ∧ Q (.int ys.length) H) ds P := fun vs G H v hv Q q => by
  rcases h with rfl | rfl
  · cases hv with
    | cons h1 h2 =>
      cases h2
      cases h1 with
      | tup hs ha =>
        refine ⟨_, _, rfl, .inr (sqT_mono v.vw hs), ?_⟩
        rw [dpa_len ha]
        exact q _ _ G H (.refl v) (.int _) p
  · cases hv with
    | cons h1 h2 =>
      cases h2
      cases h1 with
      | lst hs ha =>
        refine ⟨_, _, rfl, .inl (sqL_mono v.vw hs), ?_⟩
        rw [dpa_len ha]
        exact q _ _ G H (.refl v) (.int _) p
/-- list(xs) -/
theorem c_list {ds es : List PyData} (h : ds = [.tuple es] ∨ ds = [.list es]) (p : P (.list es)) : RCd K pen (fun xs H Q => ∃ p ys, xs = [.ref p] ∧ (SqL K H p ys ∨ SqT K H p ys) ∧ ∀ l, H l = none → Q (.ref l) (upd H l (.lst ys))) ds P := fun vs G H v hv Q q => by
  rcases h with rfl | rfl
  · cases hv with
    | cons h1 h2 =>
      cases h2
      cases h1 with
      | tup hs ha =>
        refine ⟨_, _, rfl, .inr (sqT_mono v.vw hs), fun l hl => ?_⟩
        rename_i xs
        have g := Go.new v (o := .lst xs) hl
        exact q _ _ _ _ g (.lst (.inl (.inl upd_same)) (dpa_mono g.gg _ _ ha)) p
  · cases hv with
    | cons h1 h2 =>
      cases h2
      cases h1 with
      | lst hs ha =>
        refine ⟨_, _, rfl, .inl (sqL_mono v.vw hs), fun l hl => ?_⟩
        rename_i xs
        have g := Go.new v (o := .lst xs) hl
        exact q _ _ _ _ g (.lst (.inl (.inl upd_same)) (dpa_mono g.gg _ _ ha)) p
/-- tuple(xs) -/
theorem c_tuple {ds es : List PyData} (h : ds = [.tuple es] ∨ ds = [.list es]) (p : P (.tuple es)) : RCd K pen (fun xs H Q => ∃ p ys, xs = [.ref p] ∧ ((SqL K H p ys ∧ ∀ l, H l = none → Q (.ref l) (upd H l (.tup ys))) ∨ (SqT K H p ys ∧ Q (.ref p) H))) ds P := fun vs G H v hv Q q => by
  rcases h with rfl | rfl
  · cases hv with
    | cons h1 h2 =>
      cases h2
      cases h1 with
      | tup hs ha => exact ⟨_, _, rfl, .inr ⟨sqT_mono v.vw hs, q _ _ G H (.refl v) (.tup hs ha) p⟩⟩
  · cases hv with
    | cons h1 h2 =>
      cases h2
      cases h1 with
      | lst hs ha =>
        refine ⟨_, _, rfl, .inl ⟨sqL_mono v.vw hs, fun l hl => ?_⟩⟩
        rename_i xs
        have g := Go.new v (o := .tup xs) hl
        exact q _ _ _ _ g (.tup (.inl (.inl upd_same)) (dpa_mono g.gg _ _ ha)) p
theorem c_min2 {i j : Int} (p : P (.int (if j < i then j else i))) : RCd K pen (fun xs H Q => ∃ i j, xs = [.int i, .int j] ∧ Q (.int (if j < i then j else i)) H) [.int i, .int j] P := fun vs G H v hv Q q => by
  cases hv with
  | cons h1 h2 =>
    cases h2 with
    | cons h3 h4 =>
      cases h4
      cases h1
      cases h3
      exact ⟨i, j, rfl, q _ _ G H (.refl v) (.int _) p⟩
theorem c_max2 {i j : Int} (p : P (.int (if j > i then j else i))) : RCd K pen (fun xs H Q => ∃ i j, xs = [.int i, .int j] ∧ Q (.int (if j > i then j else i)) H) [.int i, .int j] P := fun vs G H v hv Q q => by
  cases hv with
  | cons h1 h2 =>
    cases h2 with
    | cons h3 h4 =>
      cases h4
      cases h1
      cases h3
      exact ⟨i, j, rfl, q _ _ G H (.refl v) (.int _) p⟩
theorem c_intB {b : Bool} (p : P (.int (if b then 1 else 0))) : RCd K pen (fun xs H Q => (∃ i, xs = [.int i] ∧ Q (.int i) H) ∨ ∃ k, xs = [.bl k] ∧ Q (.int (if k then 1 else 0)) H) [.bool b] P := fun vs G H v hv Q q => by
  cases hv with
  | cons h1 h2 =>
    cases h2
    cases h1
    exact .inr ⟨b, rfl, q _ _ G H (.refl v) (.int _) p⟩
end
end Dl
set_option Elab.async false
set_option linter.all false
set_option maxRecDepth 100000
namespace Dl
open PySem PySem.Spec PyProof.Rows L2

/-! ### statements -/
structure Dn where
  nx : Lv → Prop
  rt : PyData → Prop
  bk : Lv → Prop := fun _ => False
  ct : Lv → Prop := fun _ => False
  rn : PyData → Prop := fun _ => False
  ro : OO → Prop := fun _ => False
structure Gx (pen : Pc) (H0 G H G' H' : Hp) : Prop where
  gg : Same G G'
  nw : ∀ a, H0 a ≠ none → G' a = G a
  od : ∀ a o, ¬ IsPn pen a → H0 a ≠ none → H a = some o → H' a = some o
theorem Gx.refl {pen : Pc} {H0 G H : Hp} : Gx pen H0 G H G H := ⟨Same.refl _, fun _ _ => rfl, fun _ _ _ _ e => e⟩
theorem Gx.trans {pen : Pc} {H0 G H G1 H1 G2 H2 : Hp} (a : Gx pen H0 G H G1 H1) (b : Gx pen H0 G1 H1 G2 H2) : Gx pen H0 G H G2 H2 :=
  ⟨a.gg.trans b.gg, fun x h => (b.nw x h).trans (a.nw x h), fun x o p h e => b.od x o p h (a.od x o p h e)⟩
section
variable {K : PySem.W.Frag} {pen : Pc} {H0 G H G' H' : Hp} {σ : L2.St} {L : Lv}
theorem Ev.gx (e : Ev K pen H0 G H σ L) (g : Go pen G H G' H') : Gx pen H0 G H G' H' := ⟨g.gg, fun a h => g.nw a (e.dom a h), fun a o p _ q => g.od a o p q⟩
/-- a slot forgotten -/
theorem Ev.unset (e : Ev K pen H0 G H σ L) (i : Nat) : Ev K pen H0 G H (σ.set i none) (L.set i none) := by
  have nj : ∀ (j : Nat) (av : AV), (L.set i none)[j]? = some (some av) → i ≠ j := fun j av hj q => by
    subst q
    have hl : i < L.length := by
      have := (List.getElem?_eq_some_iff.mp hj).1
      rw [List.length_set] at this; exact this
    rw [List.getElem?_set_self hl] at hj
    cases hj
  refine ⟨e.vw, e.h0, e.dom, by rw [List.length_set, List.length_set]; exact e.len, fun j av hj => ?_, fun j k ds es l h1 h2 h3 h4 => ?_⟩
  · have q := nj j av hj
    rw [List.getElem?_set_ne q] at hj
    obtain ⟨w, h1, h2⟩ := e.sl j av hj
    exact ⟨w, by rw [List.getElem?_set_ne q]; exact h1, h2⟩
  · have q1 := nj j _ h1
    have q2 := nj k _ h2
    rw [List.getElem?_set_ne q1] at h1 h3
    rw [List.getElem?_set_ne q2] at h2 h4
    exact e.ow j k ds es l h1 h2 h3 h4
end
section
variable (K : PySem.W.Frag) (pen : Pc) (H0 : Hp)
def S (t : TS) (L : Lv) (D : Dn) : Prop := ∀ (σ : L2.St) (G H : Hp) (N : Ends), Ev K pen H0 G H σ L →
  (∀ σ' G' H' L', Gx pen H0 G H G' H' → Ev K pen H0 G' H' σ' L' → D.nx L' → N.nx σ' H') →
  (∀ v d G' H', Gx pen H0 G H G' H' → Vw pen G' H' → Dp K G' v d → D.rt d → N.rt v H') →
  (∀ σ' G' H' L', Gx pen H0 G H G' H' → Ev K pen H0 G' H' σ' L' → D.bk L' → N.bk σ' H') →
  (∀ σ' G' H' L', Gx pen H0 G H G' H' → Ev K pen H0 G' H' σ' L' → D.ct L' → N.ct σ' H') →
  (∀ v d G' H', Gx pen H0 G H G' H' → Vw pen G' H' → Nd K (vnew H0 G' H') v d → D.rn d → N.rt v H') →
  (∀ l ho o G' H', Gx pen H0 G H G' H' → Vw pen G' H' → H' l = some ho → H0 l = none → G' l = none → OwnOk K G' l ho o → D.ro o → N.rt (.ref l) H') → t N σ H
def GT (g : TG) (d : PyData) (L : Lv) (P : Lv → Prop) : Prop := ∀ (σ : L2.St) (G H : Hp) (v : V), Ev K pen H0 G H σ L → Dp K G v d → ∀ R : L2.St → Hp → Prop, (∀ σ' L', Ev K pen H0 G H σ' L' → P L' → R σ' H) → g v σ H R
def GTs (g : TGs) (ds : List PyData) (L : Lv) (P : Lv → Prop) : Prop := ∀ (σ : L2.St) (G H : Hp) (vs : List V), Ev K pen H0 G H σ L → DpAll K G vs ds → ∀ R : L2.St → Hp → Prop, (∀ σ' L', Ev K pen H0 G H σ' L' → P L' → R σ' H) → g vs σ H R
end
section
variable {K : PySem.W.Frag} {pen : Pc} {H0 : Hp} {L : Lv} {P P' : PyData → Prop} {ta tb tc te ti : TE} {tl tr : TA} {tt : TT} {t u : TS} {Pb : Bool → Prop} {D : Dn} {g : TG} {gs : TGs}
theorem g_name {i : Nat} {d : PyData} {P : Lv → Prop} (h : P (L.set i (some (.d d)))) : GT K pen H0 (gName i) d L P := fun σ G H v e hd R r => r _ _ (e.set hd) h
theorem g_tup {n : Nat} {ds : List PyData} {P : Lv → Prop} (hn : ds.length = n) (h : GTs K pen H0 gs ds L P) : GT K pen H0 (gTup K n gs) (.tuple ds) L P := fun σ G H v e hd R r => by
  cases hd with
  | tup hs ha => exact ⟨_, _, rfl, sqT_mono e.vw.vw hs, (dpa_len ha).trans hn, h σ G H _ e ha R r⟩
theorem gs_nil {P : Lv → Prop} (h : P L) : GTs K pen H0 gNil [] L P := fun σ G H vs e hd R r => by
  cases hd
  exact ⟨rfl, r _ _ e h⟩
theorem gs_cons {d : PyData} {ds : List PyData} {P : Lv → Prop} (h : GT K pen H0 g d L fun L' => GTs K pen H0 gs ds L' P) : GTs K pen H0 (gCons g gs) (d :: ds) L P := fun σ G H vs e hd R r => by
  cases hd with
  | cons h1 h2 =>
    refine ⟨_, _, rfl, h σ G H _ e h1 _ fun σ' L' e' h' => ?_⟩
    exact h' σ' G H _ e' h2 R r
theorem s_seq (h : S K pen H0 t L { D with nx := fun L' => S K pen H0 u L' D }) : S K pen H0 (tSeq t u) L D := fun σ G H N e n1 n2 n3 n4 n5 n6 =>
  h σ G H _ e (fun σ' G' H' L' x e' h' => h' σ' G' H' N e' (fun σ2 G2 H2 L2 x2 e2 q => n1 σ2 G2 H2 L2 (x.trans x2) e2 q) (fun v d G2 H2 x2 vw hd q => n2 v d G2 H2 (x.trans x2) vw hd q)
    (fun σ2 G2 H2 L2 x2 e2 q => n3 σ2 G2 H2 L2 (x.trans x2) e2 q) (fun σ2 G2 H2 L2 x2 e2 q => n4 σ2 G2 H2 L2 (x.trans x2) e2 q) (fun v d G2 H2 x2 vw hd q => n5 v d G2 H2 (x.trans x2) vw hd q) (fun l ho o G2 H2 x2 vw h1 h2 h3 h4 q => n6 l ho o G2 H2 (x.trans x2) vw h1 h2 h3 h4 q)) n2 n3 n4 n5 n6
theorem s_next (h : D.nx L) : S K pen H0 tNext L D := fun σ G H N e n1 _ _ _ _ _ => n1 σ G H L .refl e h
theorem s_ret (h : E K pen H0 te L D.rt) : S K pen H0 (tRet te) L D := fun σ G H N e _ n2 _ _ _ _ => h σ G H e _ fun v d G' H' g hd p => n2 v d G' H' (e.gx g) g.vw hd p
theorem s_asg {i : Nat} (h : E K pen H0 te L fun d => D.nx (L.set i (some (.d d)))) : S K pen H0 (tAsg te (gName i)) L D := fun σ G H N e n1 _ _ _ _ _ =>
  h σ G H e _ fun v d G' H' g hd p => n1 _ G' H' _ (e.gx g) ((e.go g).set hd) p
theorem s_asgG (h : E K pen H0 te L fun d => GT K pen H0 g d L D.nx) : S K pen H0 (tAsg te g) L D := fun σ G H N e n1 _ _ _ _ _ =>
  h σ G H e _ fun v d G' H' go hd p => p σ G' H' v (e.go go) hd _ fun σ' L' e' p' => n1 σ' G' H' L' (e.gx go) e' p'
theorem s_drop (h : E K pen H0 te L fun _ => D.nx L) : S K pen H0 (tDrop te) L D := fun σ G H N e n1 _ _ _ _ _ => h σ G H e _ fun v d G' H' go _ p => n1 σ G' H' L (e.gx go) (e.go go) p
theorem s_if (h : ET K pen H0 tt L fun b => (b = true → S K pen H0 t L D) ∧ (b = false → S K pen H0 u L D)) : S K pen H0 (tIfS tt t u) L D := fun σ G H N e n1 n2 n3 n4 n5 n6 =>
  h σ G H e _ fun b G' H' go p => by
    have x := e.gx go
    have go2 : ∀ {t : TS}, S K pen H0 t L D → t N σ H' := fun {t} h => h σ G' H' N (e.go go) (fun σ2 G2 H2 L2 x2 e2 q => n1 σ2 G2 H2 L2 (x.trans x2) e2 q) (fun v d G2 H2 x2 vw hd q => n2 v d G2 H2 (x.trans x2) vw hd q)
      (fun σ2 G2 H2 L2 x2 e2 q => n3 σ2 G2 H2 L2 (x.trans x2) e2 q) (fun σ2 G2 H2 L2 x2 e2 q => n4 σ2 G2 H2 L2 (x.trans x2) e2 q) (fun v d G2 H2 x2 vw hd q => n5 v d G2 H2 (x.trans x2) vw hd q) (fun l ho o G2 H2 x2 vw h1 h2 h3 h4 q => n6 l ho o G2 H2 (x.trans x2) vw h1 h2 h3 h4 q)
    cases b with
    | true => exact go2 (p.1 rfl)
    | false => exact go2 (p.2 rfl)
theorem S.mono {D' : Dn} (h : S K pen H0 t L D) (h1 : ∀ L, D.nx L → D'.nx L) (h2 : ∀ d, D.rt d → D'.rt d) (h3 : ∀ L, D.bk L → D'.bk L) (h4 : ∀ L, D.ct L → D'.ct L) (h5 : ∀ d, D.rn d → D'.rn d := by intro _ h; exact h) (h6 : ∀ d, D.ro d → D'.ro d := by intro _ h; exact h) : S K pen H0 t L D' := fun σ G H N e n1 n2 n3 n4 n5 n6 =>
  h σ G H N e (fun σ' G' H' L' x e' q => n1 σ' G' H' L' x e' (h1 _ q)) (fun v d G' H' x vw hd q => n2 v d G' H' x vw hd (h2 _ q)) (fun σ' G' H' L' x e' q => n3 σ' G' H' L' x e' (h3 _ q)) (fun σ' G' H' L' x e' q => n4 σ' G' H' L' x e' (h4 _ q)) (fun v d G' H' x vw hd q => n5 v d G' H' x vw hd (h5 _ q)) (fun l ho o G' H' x vw h1 h2 h3 h4 q => n6 l ho o G' H' x vw h1 h2 h3 h4 (h6 _ q))
/-! loops -/
theorem s_forT (h : E K pen H0 te L fun d => ∃ ds, d = .tuple ds ∧ ∃ I : Nat → Lv → Prop, I 0 L ∧ (∀ (i : Nat) x L', ds[i]? = some x → I i L' → GT K pen H0 g x L' fun L2 => S K pen H0 t L2 { D with nx := I (i + 1), ct := I (i + 1), bk := D.nx }) ∧ (∀ L', I ds.length L' → D.nx L')) :
    S K pen H0 (tFor (iTup K te) g t) L D := fun σ G H N e n1 n2 n3 n4 n5 n6 => h σ G H e _ fun v d G1 H1 go hd ⟨ds, hds, I, i0, is, id⟩ => by
  subst hds
  cases hd with
  | tup hs ha =>
    rename_i a xs
    have x1 := e.gx go
    refine ⟨a, rfl, ⟨xs, sqT_mono go.vw.vw hs⟩, ?_⟩
    refine for_tup (fun i σ' H' => ∃ G' L', Gx pen H0 G1 H1 G' H' ∧ Ev K pen H0 G' H' σ' L' ∧ I i L') ⟨G1, L, .refl, e.go go, i0⟩ (fun i σ' H' _ ⟨G', L', x, e', _⟩ => sqT_mono (x.gg.trans e'.vw.vw) hs) (fun i y σ' H' hy ⟨G', L', x, e', q⟩ => ?_) (fun σ' H' ⟨G', L', x, e', q⟩ => ?_)
    · obtain ⟨z, hz, hd⟩ := dpa_getV ha hy
      refine is i z L' hz q σ' G' H' y e' (dp_mono x.gg _ _ hd) _ fun σ2 L2 e2 h2 => ?_
      exact h2 σ2 G' H' _ e2 (fun σ3 G3 H3 L3 x3 e3 q3 => ⟨G3, L3, x.trans x3, e3, q3⟩) (fun v d G3 H3 x3 vw hd q3 => n2 v d G3 H3 (x1.trans (x.trans x3)) vw hd q3)
        (fun σ3 G3 H3 L3 x3 e3 q3 => n1 σ3 G3 H3 L3 (x1.trans (x.trans x3)) e3 q3) (fun σ3 G3 H3 L3 x3 e3 q3 => ⟨G3, L3, x.trans x3, e3, q3⟩) (fun v d G3 H3 x3 vw hd q3 => n5 v d G3 H3 (x1.trans (x.trans x3)) vw hd q3) (fun l ho o G3 H3 x3 vw h1 h2 h3 h4 q3 => n6 l ho o G3 H3 (x1.trans (x.trans x3)) vw h1 h2 h3 h4 q3)
    · rw [dpa_len ha] at q
      exact n1 σ' G' H' L' (x1.trans x) e' (id L' q)
theorem s_forL (h : E K pen H0 te L fun d => ∃ ds, d = .list ds ∧ ∃ I : Nat → Lv → Prop, I 0 L ∧ (∀ (i : Nat) x L', ds[i]? = some x → I i L' → GT K pen H0 g x L' fun L2 => S K pen H0 t L2 { D with nx := I (i + 1), ct := I (i + 1), bk := D.nx }) ∧ (∀ L', I ds.length L' → D.nx L')) :
    S K pen H0 (tFor (iList K te) g t) L D := fun σ G H N e n1 n2 n3 n4 n5 n6 => h σ G H e _ fun v d G1 H1 go hd ⟨ds, hds, I, i0, is, id⟩ => by
  subst hds
  cases hd with
  | lst hs ha =>
    rename_i a xs
    have x1 := e.gx go
    refine ⟨a, rfl, ⟨xs, sqL_mono go.vw.vw hs⟩, ?_⟩
    refine for_list (fun i σ' H' => ∃ G' L', Gx pen H0 G1 H1 G' H' ∧ Ev K pen H0 G' H' σ' L' ∧ I i L') ⟨G1, L, .refl, e.go go, i0⟩ (fun i σ' H' _ ⟨G', L', x, e', _⟩ => sqL_mono (x.gg.trans e'.vw.vw) hs) (fun i y σ' H' hy ⟨G', L', x, e', q⟩ => ?_) (fun σ' H' ⟨G', L', x, e', q⟩ => ?_)
    · obtain ⟨z, hz, hd⟩ := dpa_getV ha hy
      refine is i z L' hz q σ' G' H' y e' (dp_mono x.gg _ _ hd) _ fun σ2 L2 e2 h2 => ?_
      exact h2 σ2 G' H' _ e2 (fun σ3 G3 H3 L3 x3 e3 q3 => ⟨G3, L3, x.trans x3, e3, q3⟩) (fun v d G3 H3 x3 vw hd q3 => n2 v d G3 H3 (x1.trans (x.trans x3)) vw hd q3)
        (fun σ3 G3 H3 L3 x3 e3 q3 => n1 σ3 G3 H3 L3 (x1.trans (x.trans x3)) e3 q3) (fun σ3 G3 H3 L3 x3 e3 q3 => ⟨G3, L3, x.trans x3, e3, q3⟩) (fun v d G3 H3 x3 vw hd q3 => n5 v d G3 H3 (x1.trans (x.trans x3)) vw hd q3) (fun l ho o G3 H3 x3 vw h1 h2 h3 h4 q3 => n6 l ho o G3 H3 (x1.trans (x.trans x3)) vw h1 h2 h3 h4 q3)
    · rw [dpa_len ha] at q
      exact n1 σ' G' H' L' (x1.trans x) e' (id L' q)
theorem s_forR (h : EA K pen H0 tl L fun ds => ∃ n : Nat, ds = [.int n] ∧ n ≤ 100000 ∧ ∃ I : Nat → Lv → Prop, I 0 L ∧ (∀ (i : Nat) L', i < n → I i L' → GT K pen H0 g (.int i) L' fun L2 => S K pen H0 t L2 { D with nx := I (i + 1), ct := I (i + 1), bk := D.nx }) ∧ (∀ L', I n L' → D.nx L')) :
    S K pen H0 (tFor (iRng1 tl) g t) L D := fun σ G H N e n1 n2 n3 n4 n5 n6 => h σ G H e _ fun vs ds G1 H1 go hd ⟨n, hds, hn, I, i0, is, id⟩ => by
  subst hds
  cases hd with
  | cons hd hd2 =>
    cases hd2
    cases hd
    have x1 := e.gx go
    refine ⟨(n : Int), rfl, by omega, by omega, ?_⟩
    rw [Int.toNat_natCast]
    refine for_range (lo := 0) (n := n) (fun i σ' H' => ∃ G' L', Gx pen H0 G1 H1 G' H' ∧ Ev K pen H0 G' H' σ' L' ∧ I i L') ⟨G1, L, .refl, e.go go, i0⟩ (fun i σ' H' hi ⟨G', L', x, e', q⟩ => ?_) (fun σ' H' ⟨G', L', x, e', q⟩ => ?_)
    · refine is i L' hi q σ' G' H' _ e' (by rw [Int.zero_add]; exact .int _) _ fun σ2 L2 e2 h2 => ?_
      exact h2 σ2 G' H' _ e2 (fun σ3 G3 H3 L3 x3 e3 q3 => ⟨G3, L3, x.trans x3, e3, q3⟩) (fun v d G3 H3 x3 vw hd q3 => n2 v d G3 H3 (x1.trans (x.trans x3)) vw hd q3)
        (fun σ3 G3 H3 L3 x3 e3 q3 => n1 σ3 G3 H3 L3 (x1.trans (x.trans x3)) e3 q3) (fun σ3 G3 H3 L3 x3 e3 q3 => ⟨G3, L3, x.trans x3, e3, q3⟩) (fun v d G3 H3 x3 vw hd q3 => n5 v d G3 H3 (x1.trans (x.trans x3)) vw hd q3) (fun l ho o G3 H3 x3 vw h1 h2 h3 h4 q3 => n6 l ho o G3 H3 (x1.trans (x.trans x3)) vw h1 h2 h3 h4 q3)
    · exact n1 σ' G' H' L' (x1.trans x) e' (id L' q)
theorem s_while (I : Nat → Lv → Prop) (h0 : ∃ m, I m L) (h : ∀ m L', I m L' → ET K pen H0 tt L' fun b => (b = true → S K pen H0 t L' { D with nx := fun L2 => ∃ m', m' < m ∧ I m' L2, ct := fun L2 => ∃ m', m' < m ∧ I m' L2, bk := D.nx }) ∧ (b = false → D.nx L')) :
    S K pen H0 (tWhile tt t) L D := fun σ G H N e n1 n2 n3 n4 n5 n6 => by
  obtain ⟨m0, i0⟩ := h0
  refine ⟨fun m σ' H' => ∃ G' L', Gx pen H0 G H G' H' ∧ Ev K pen H0 G' H' σ' L' ∧ I m L', ⟨m0, G, L, .refl, e, i0⟩, ?_⟩
  rintro m σ1 H1 ⟨G1, L1, x1, e1, q1⟩
  refine h m L1 q1 σ1 G1 H1 e1 _ fun b G2 H2 go p => ?_
  have x2 := x1.trans (e1.gx go)
  cases b with
  | false => exact n1 σ1 G2 H2 L1 x2 (e1.go go) (p.2 rfl)
  | true =>
    refine ⟨fun σ' H' => ∃ G' L' m', m' < m ∧ Gx pen H0 G H G' H' ∧ Ev K pen H0 G' H' σ' L' ∧ I m' L', fun σ' H' ⟨G', L', m', hm, r⟩ => ⟨m', hm, G', L', r⟩, ?_⟩
    exact p.1 rfl σ1 G2 H2 _ (e1.go go) (fun σ3 G3 H3 L3 x3 e3 ⟨m', hm, q3⟩ => ⟨G3, L3, m', hm, x2.trans x3, e3, q3⟩) (fun v d G3 H3 x3 vw hd q3 => n2 v d G3 H3 (x2.trans x3) vw hd q3)
      (fun σ3 G3 H3 L3 x3 e3 q3 => n1 σ3 G3 H3 L3 (x2.trans x3) e3 q3) (fun σ3 G3 H3 L3 x3 e3 ⟨m', hm, q3⟩ => ⟨G3, L3, m', hm, x2.trans x3, e3, q3⟩) (fun v d G3 H3 x3 vw hd q3 => n5 v d G3 H3 (x2.trans x3) vw hd q3) (fun l ho o G3 H3 x3 vw h1 h2 h3 h4 q3 => n6 l ho o G3 H3 (x2.trans x3) vw h1 h2 h3 h4 q3)
/-- x op= e -/
theorem s_aug {i : Nat} {x : PyData} {r : TIp} (hi : L[i]? = some (some (.d x))) (h : E K pen H0 te L fun y => R2d K pen r x y fun d => D.nx (L.set i (some (.d d)))) : S K pen H0 (tAug i te r) L D := fun σ G H N e n1 _ _ _ _ _ => by
  obtain ⟨v, h1, h2⟩ := e.sl i _ hi
  refine ⟨v, h1, h σ G H e _ fun w y G1 H1 g1 d1 p => ?_⟩
  exact p v w G1 H1 g1.vw (dp_mono g1.gg _ _ h2) d1 _ fun z d G2 H2 g2 d2 q => n1 _ G2 H2 _ ((e.gx g1).trans ((e.go g1).gx g2)) (((e.go g1).go g2).set d2) q
/-! calls -/
def SpX {α : Type} (K : PySem.W.Frag) (ts : List Addr) (Wf : α → Prop) (enc : α → List PyData) (res : α → PyData → Prop) : Sp := fun vs H Q _ => ∃ (x : α) (G : Hp), Vw ⟨none, ts⟩ G H ∧ DpAll K G vs (enc x) ∧ Wf x ∧ ∀ v d G' H', Go ⟨none, ts⟩ G H G' H' → Dp K G' v d → res x d → Q v H'
def PK.Is : Bool → PK → Prop
  | false, .pen _ _ => True
  | true, .spr => True
  | _, _ => False
def SpXk {α : Type} (b : Bool) (K : PySem.W.Frag) (ts : List Addr) (Wf : α → Prop) (enc : α → List PyData) (res : α → PyData → Prop) : Sp := fun vs H Q _ => ∃ (x : α) (p : Pn) (G : Hp) (us : List V), PK.Is b p.k ∧ vs = .ref p.a :: us ∧ Vw ⟨some p, ts⟩ G H ∧ DpAll K G us (enc x) ∧ Wf x ∧ ∀ v d G' H', Go ⟨some p, ts⟩ G H G' H' → Dp K G' v d → res x d → Q v H'
def SpXF {α : Type} (K : PySem.W.Frag) (ts : List Addr) (Wf : α → Prop) (enc : α → List PyData) (res : α → PyData → Prop) : Sp := fun vs H Q _ => ∃ (x : α) (G : Hp), Vw ⟨none, ts⟩ G H ∧ DpAll K G vs (enc x) ∧ Wf x ∧ ∀ v d G' H', Go ⟨none, ts⟩ G H G' H' → Nd K (vnew H G' H') v d → res x d → Q v H'
/-- told, seen as data -/
theorem Go.see {pen : Pc} {G H G' H' : Hp} (vw : Vw pen G H) (g : Go pen G H G' H') : Go pen G H (vmax H G' H') H' := by
  have v := vw_max (H0 := H) g.vw vw.ok
  refine ⟨fun a o e => vmax_G (g.gg _ _ e), fun a h => ?_, g.od, v⟩
  rw [← g.nw a h]
  cases e : G' a with
  | some o => exact vmax_G e
  | none =>
    rw [vmax_new e]
    cases z : newL H H' a with
    | none => rfl
    | some o => exact absurd (newL_some z).1 h
theorem e_callXF {α : Type} {pn : Option Pn} {ts : List Addr} {Wf : α → Prop} {enc : α → List PyData} {res : α → PyData → Prop} {X : XK} (h : EA K ⟨pn, ts⟩ H0 tl L fun ds => ∃ x, ds = enc x ∧ Wf x ∧ ∀ d, res x d → P d) : E K ⟨pn, ts⟩ H0 (tCall (SpXF K ts Wf enc res) [] X tl) L P := fun σ G H e Q q =>
  h σ G H e _ fun vs ds G1 H1 go hd ⟨x, hx, h1, h2⟩ => ⟨x, G1, go.vw.plain, by rw [List.append_nil, ← hx]; exact hd, h1, fun v d G' H' go2 hd2 p => by
    have g3 := Go.see go.vw (go2.lift go.vw)
    exact q v d _ H' (go.trans g3) (dp_mono vnew_max _ _ (nd_dp _ _ hd2)) (h2 d p)⟩
theorem e_callX {α : Type} {pn : Option Pn} {ts : List Addr} {Wf : α → Prop} {enc : α → List PyData} {res : α → PyData → Prop} {X : XK} (h : EA K ⟨pn, ts⟩ H0 tl L fun ds => ∃ x, ds = enc x ∧ Wf x ∧ ∀ d, res x d → P d) : E K ⟨pn, ts⟩ H0 (tCall (SpX K ts Wf enc res) [] X tl) L P := fun σ G H e Q q =>
  h σ G H e _ fun vs ds G1 H1 go hd ⟨x, hx, h1, h2⟩ => ⟨x, G1, go.vw.plain, by rw [List.append_nil, ← hx]; exact hd, h1, fun v d G' H' go2 hd2 p => q v d G' H' (go.trans (go2.lift go.vw)) hd2 (h2 d p)⟩
abbrev SpXP {α : Type} (K : PySem.W.Frag) (ts : List Addr) (Wf : α → Prop) (enc : α → List PyData) (res : α → PyData → Prop) : Sp := SpXk false K ts Wf enc res
abbrev SpXS {α : Type} (K : PySem.W.Frag) (ts : List Addr) (Wf : α → Prop) (enc : α → List PyData) (res : α → PyData → Prop) : Sp := SpXk true K ts Wf enc res
theorem e_callXP {α : Type} {b : Bool} {p : Pn} {ts : List Addr} {Wf : α → Prop} {enc : α → List PyData} {res : α → PyData → Prop} {X : XK} {i : Nat} (hi : L[i]? = some (some .pen)) (h : EA K ⟨some p, ts⟩ H0 tl L fun ds => ∃ x, ds = enc x ∧ Wf x ∧ ∀ d, res x d → P d) (hk : PK.Is b p.k := by exact trivial) : E K ⟨some p, ts⟩ H0 (tCall (SpXk b K ts Wf enc res) [] X (tCons (tVar i) tl)) L P := fun σ G H e Q q => by
  obtain ⟨v, hv, p', hp, rfl⟩ := e.sl i _ hi
  refine ⟨_, hv, h σ G H e _ fun vs ds G1 H1 go hd ⟨x, hx, h1, h2⟩ => ?_⟩
  cases hp
  exact ⟨x, p, G1, vs, hk, by rw [List.append_nil], go.vw, by rw [← hx]; exact hd, h1, fun v d G' H' go2 hd2 p => q v d G' H' (go.trans go2) hd2 (h2 d p)⟩
/-! defs -/
def st0 (N : List Str) (ds : List PyData) : Lv := ds.map (fun d => some (.d d)) ++ List.replicate (N.length - ds.length) none
def stP (N : List Str) (ds : List PyData) : Lv := some .pen :: (ds.map (fun d => some (.d d)) ++ List.replicate (N.length - (ds.length + 1)) none)
theorem start_get {N : List Str} {vs : List V} {ds : List PyData} {G : Hp} (h : DpAll K G vs ds) : ∀ (i : Nat) av, (st0 N ds)[i]? = some (some av) → ∃ v d, av = .d d ∧ (start N vs)[i]? = some (some v) ∧ Dp K G v d := fun i av hi => by
  unfold st0 at hi
  unfold L2.start
  by_cases q : i < ds.length
  · rw [List.getElem?_append_left (by rw [List.length_map]; exact q), List.getElem?_map] at hi
    cases hd : ds[i]? with
    | none => rw [hd] at hi; cases hi
    | some d =>
      rw [hd] at hi
      obtain ⟨v, h1, h2⟩ := dpa_get h hd
      refine ⟨v, d, (Option.some.inj (Option.some.inj hi)).symm, ?_, h2⟩
      rw [List.getElem?_append_left (by rw [List.length_map, dpa_len h]; exact q), List.getElem?_map, h1]
      rfl
  · rw [List.getElem?_append_right (by rw [List.length_map]; omega)] at hi
    have z := List.mem_of_getElem? hi
    have z2 := (List.mem_replicate.mp z).2
    cases z2
theorem ev_start {ts : List Addr} {N : List Str} {vs : List V} {ds : List PyData} {G H : Hp} (h : DpAll K G vs ds) (v : Vw ⟨none, ts⟩ G H) : Ev K ⟨none, ts⟩ H G H (start N vs) (st0 N ds) := by
  refine ⟨v, v.ok, fun _ h => h, ?_, fun i av hi => ?_, fun i j ds' es l h1 _ _ _ => ?_⟩
  · unfold L2.start st0
    rw [List.length_append, List.length_append, List.length_map, List.length_map, List.length_replicate, List.length_replicate, dpa_len h]
  · obtain ⟨v, d, rfl, h1, h2⟩ := start_get h i av hi
    exact ⟨v, h1, h2⟩
  · obtain ⟨v, d, e, _⟩ := start_get h i _ h1
    cases e
theorem ev_startP {ts : List Addr} {N : List Str} {p : Pn} {vs : List V} {ds : List PyData} {G H : Hp} (h : DpAll K G vs ds) (v : Vw ⟨some p, ts⟩ G H) (hN : ∃ x r, N = x :: r) : Ev K ⟨some p, ts⟩ H G H (start N (.ref p.a :: vs)) (stP N ds) := by
  obtain ⟨x, r, rfl⟩ := hN
  have e1 : start (x :: r) (.ref p.a :: vs) = some (.ref p.a) :: start r vs := by
    unfold L2.start
    rw [List.length_cons, List.length_cons, Nat.add_sub_add_right]
    rfl
  have e2 : stP (x :: r) ds = some .pen :: st0 r ds := by
    unfold stP st0
    rw [List.length_cons, Nat.add_sub_add_right]
  rw [e1, e2]
  have l0 : (start r vs).length = (st0 r ds).length := by
    unfold L2.start st0
    rw [List.length_append, List.length_append, List.length_map, List.length_map, List.length_replicate, List.length_replicate, dpa_len h]
  refine ⟨v, v.ok, fun _ h => h, ?_, fun i av hi => ?_, fun i j ds' es l h1 _ _ _ => ?_⟩
  · rw [List.length_cons, List.length_cons, l0]
  · cases i with
    | zero =>
      have e := Option.some.inj (Option.some.inj hi)
      subst e
      exact ⟨_, rfl, p, rfl, rfl⟩
    | succ i =>
      obtain ⟨v, d, rfl, h1, h2⟩ := start_get h i av hi
      exact ⟨v, h1, h2⟩
  · cases i with
    | zero => cases h1
    | succ i =>
      obtain ⟨v, d, e, _⟩ := start_get h i _ h1
      cases e
end
section
variable {P : Program} {w : World} {K : PySem.W.Frag} {mg : Str → Option Value} {base : Heap}
/-- a def without the pen -/
theorem fnX {α : Type} {x qual : Str} {st : Stmt} {f : Addr} {fd : FuncData} {N ps : List Str} {k : Nat} {ts : List Addr} {Wf : α → Prop} {enc : α → List PyData} {res : α → PyData → Prop} (F : Fun K x qual st f fd) (S0 : FnScope N ps (defScope st)) (hl : ∀ x, Wf x → (enc x).length = ps.length)
    (hbody : ∀ (cdv : Value) (A : Around) (outer : List Env) (s : Shared) (H : Hp) (E : XK), Room k (A.deeper (envOfC qual (defScope st) s.heap.objs.size f cdv)) →
      ∃ t, PSs (cxOf CX0 P w K mg base N qual (defScope st) f cdv A outer s H E).nox (defBody st) t ∧ ∀ x, Wf x → S K ⟨none, ts⟩ H t (st0 N (enc x)) { nx := fun _ => res x .none, rt := res x }) : FnOk P w K mg base CX0 (k + 1) f fd ps (SpX K ts Wf enc res) := by
  refine F.ok S0 (fun vs H Q E h => ?_) (fun cdv A outer s H vs Q E hr h => ?_)
  · obtain ⟨x, G, _, h1, h2, _⟩ := h
    rw [dpa_len h1]
    exact hl x h2
  · obtain ⟨x, G, v, h1, h2, q⟩ := h
    obtain ⟨t, ht, hS⟩ := hbody cdv A outer s H E hr
    refine ⟨t, ht, hS x h2 (L2.start N vs) G H _ (ev_start h1 v) (fun σ' G' H' L' x e' p => ?_) (fun v d G' H' x vw hd p => ?_) (fun _ _ _ _ _ _ z => z.elim) (fun _ _ _ _ _ _ z => z.elim) (fun _ _ _ _ _ _ _ z => z.elim) (fun _ _ _ _ _ _ _ _ _ _ _ z => z.elim)⟩
    · exact q .non .none G' H' ⟨x.gg, x.nw, fun a o hp e => x.od a o hp (by rw [e]; exact fun z => by cases z) e, e'.vw⟩ .non p
    · exact q v d G' H' ⟨x.gg, x.nw, fun a o hp e => x.od a o hp (by rw [e]; exact fun z => by cases z) e, vw⟩ hd p
/-- a def that tells what is new -/
theorem fnXF {α : Type} {x qual : Str} {st : Stmt} {f : Addr} {fd : FuncData} {N ps : List Str} {k : Nat} {ts : List Addr} {Wf : α → Prop} {enc : α → List PyData} {res : α → PyData → Prop} (F : Fun K x qual st f fd) (S0 : FnScope N ps (defScope st)) (hl : ∀ x, Wf x → (enc x).length = ps.length)
    (hbody : ∀ (cdv : Value) (A : Around) (outer : List Env) (s : Shared) (H : Hp) (E : XK), Room k (A.deeper (envOfC qual (defScope st) s.heap.objs.size f cdv)) →
      ∃ t, PSs (cxOf CX0 P w K mg base N qual (defScope st) f cdv A outer s H E).nox (defBody st) t ∧ ∀ x, Wf x → S K ⟨none, ts⟩ H t (st0 N (enc x)) { nx := fun _ => False, rt := fun _ => False, rn := res x }) : FnOk P w K mg base CX0 (k + 1) f fd ps (SpXF K ts Wf enc res) := by
  refine F.ok S0 (fun vs H Q E h => ?_) (fun cdv A outer s H vs Q E hr h => ?_)
  · obtain ⟨x, G, _, h1, h2, _⟩ := h
    rw [dpa_len h1]
    exact hl x h2
  · obtain ⟨x, G, v, h1, h2, q⟩ := h
    obtain ⟨t, ht, hS⟩ := hbody cdv A outer s H E hr
    refine ⟨t, ht, hS x h2 (L2.start N vs) G H _ (ev_start h1 v) (fun _ _ _ _ _ _ z => z.elim) (fun _ _ _ _ _ _ _ z => z.elim) (fun _ _ _ _ _ _ z => z.elim) (fun _ _ _ _ _ _ z => z.elim) (fun v d G' H' x vw hd p => ?_) (fun _ _ _ _ _ _ _ _ _ _ _ z => z.elim)⟩
    exact q v d G' H' ⟨x.gg, x.nw, fun a o hp e => x.od a o hp (by rw [e]; exact fun z => by cases z) e, vw⟩ hd p
/-- a def whose first argument is the pen, the spring -/
theorem fnXk {α : Type} {b : Bool} {x qual : Str} {st : Stmt} {f : Addr} {fd : FuncData} {N ps : List Str} {k : Nat} {ts : List Addr} {Wf : α → Prop} {enc : α → List PyData} {res : α → PyData → Prop} (F : Fun K x qual st f fd) (S0 : FnScope N ps (defScope st)) (hN : ∃ x r, N = x :: r) (hl : ∀ x, Wf x → (enc x).length + 1 = ps.length)
    (hbody : ∀ (cdv : Value) (A : Around) (outer : List Env) (s : Shared) (H : Hp) (E : XK), Room k (A.deeper (envOfC qual (defScope st) s.heap.objs.size f cdv)) →
      ∃ t, PSs (cxOf CX0 P w K mg base N qual (defScope st) f cdv A outer s H E).nox (defBody st) t ∧ ∀ (p : Pn) x, PK.Is b p.k → Wf x → S K ⟨some p, ts⟩ H t (stP N (enc x)) { nx := fun _ => res x .none, rt := res x }) : FnOk P w K mg base CX0 (k + 1) f fd ps (SpXk b K ts Wf enc res) := by
  refine F.ok S0 (fun vs H Q E h => ?_) (fun cdv A outer s H vs Q E hr h => ?_)
  · obtain ⟨x, p, G, us, hk, rfl, _, h1, h2, _⟩ := h
    rw [List.length_cons, dpa_len h1]
    exact hl x h2
  · obtain ⟨x, p, G, us, hk, rfl, v, h1, h2, q⟩ := h
    obtain ⟨t, ht, hS⟩ := hbody cdv A outer s H E hr
    refine ⟨t, ht, hS p x hk h2 _ G H _ (ev_startP h1 v hN) (fun σ' G' H' L' x e' p => ?_) (fun v d G' H' x vw hd p => ?_) (fun _ _ _ _ _ _ z => z.elim) (fun _ _ _ _ _ _ z => z.elim) (fun _ _ _ _ _ _ _ z => z.elim) (fun _ _ _ _ _ _ _ _ _ _ _ z => z.elim)⟩
    · exact q .non .none G' H' ⟨x.gg, x.nw, fun a o hp e => x.od a o hp (by rw [e]; exact fun z => by cases z) e, e'.vw⟩ .non p
    · exact q v d G' H' ⟨x.gg, x.nw, fun a o hp e => x.od a o hp (by rw [e]; exact fun z => by cases z) e, vw⟩ hd p
theorem fnXP {α : Type} {x qual : Str} {st : Stmt} {f : Addr} {fd : FuncData} {N ps : List Str} {k : Nat} {ts : List Addr} {Wf : α → Prop} {enc : α → List PyData} {res : α → PyData → Prop} (F : Fun K x qual st f fd) (S0 : FnScope N ps (defScope st)) (hN : ∃ x r, N = x :: r) (hl : ∀ x, Wf x → (enc x).length + 1 = ps.length)
    (hbody : ∀ (cdv : Value) (A : Around) (outer : List Env) (s : Shared) (H : Hp) (E : XK), Room k (A.deeper (envOfC qual (defScope st) s.heap.objs.size f cdv)) →
      ∃ t, PSs (cxOf CX0 P w K mg base N qual (defScope st) f cdv A outer s H E).nox (defBody st) t ∧ ∀ (pa pc : Addr) (pn : Nat) x, Wf x → S K ⟨some ⟨pa, .pen pc pn⟩, ts⟩ H t (stP N (enc x)) { nx := fun _ => res x .none, rt := res x }) : FnOk P w K mg base CX0 (k + 1) f fd ps (SpXP K ts Wf enc res) :=
  fnXk F S0 hN hl fun cdv A outer s H E hr => by
    obtain ⟨t, ht, h⟩ := hbody cdv A outer s H E hr
    refine ⟨t, ht, fun p x hk hw => ?_⟩
    obtain ⟨a, kk⟩ := p
    cases kk with
    | pen c n => exact h a c n x hw
    | spr => exact hk.elim
theorem fnXS {α : Type} {x qual : Str} {st : Stmt} {f : Addr} {fd : FuncData} {N ps : List Str} {k : Nat} {ts : List Addr} {Wf : α → Prop} {enc : α → List PyData} {res : α → PyData → Prop} (F : Fun K x qual st f fd) (S0 : FnScope N ps (defScope st)) (hN : ∃ x r, N = x :: r) (hl : ∀ x, Wf x → (enc x).length + 1 = ps.length)
    (hbody : ∀ (cdv : Value) (A : Around) (outer : List Env) (s : Shared) (H : Hp) (E : XK), Room k (A.deeper (envOfC qual (defScope st) s.heap.objs.size f cdv)) →
      ∃ t, PSs (cxOf CX0 P w K mg base N qual (defScope st) f cdv A outer s H E).nox (defBody st) t ∧ ∀ (pa : Addr) x, Wf x → S K ⟨some ⟨pa, .spr⟩, ts⟩ H t (stP N (enc x)) { nx := fun _ => res x .none, rt := res x }) : FnOk P w K mg base CX0 (k + 1) f fd ps (SpXS K ts Wf enc res) :=
  fnXk F S0 hN hl fun cdv A outer s H E hr => by
    obtain ⟨t, ht, h⟩ := hbody cdv A outer s H E hr
    refine ⟨t, ht, fun p x hk hw => ?_⟩
    obtain ⟨a, kk⟩ := p
    cases kk with
    | pen c n => exact hk.elim
    | spr => exact h a x hw
end
end Dl
set_option Elab.async false
set_option linter.all false
set_option maxRecDepth 100000
namespace Dl
open PySem PySem.Spec PyProof.Rows L2
section
variable {K : PySem.W.Frag} {pen : Pc} {H0 : Hp} {L : Lv} {P P' : PyData → Prop} {ta tb tc te ti : TE} {tl tr : TA} {tt : TT} {t u : TS} {Pb : Bool → Prop} {D : Dn} {g : TG} {gs : TGs}
/-! ### a new list -/
def EL (K : PySem.W.Frag) (pen : Pc) (H0 : Hp) (te : TE) (L : Lv) (Pl : List PyData → Prop) : Prop := ∀ (σ : L2.St) (G H : Hp), Ev K pen H0 G H σ L → ∀ Q : VK, (∀ l vs ds G' H', Go pen G H G' H' → H' l = some (.lst vs) → G' l = none → H l = none → DpAll K G' vs ds → Pl ds → Q (.ref l) H') → te σ H Q
/-- G with a list that is not yet data -/
theorem Go.list {G H G' H' : Hp} {l : Addr} {vs : List V} (vw : Vw pen G H) (g : Go pen G H G' H') (h1 : H' l = some (.lst vs)) (h2 : G' l = none) (h3 : H l = none) : Go pen G H (upd G' l (.lst vs)) H' ∧ Same G' (upd G' l (.lst vs)) := by
  have s : Same G' (upd G' l (.lst vs)) := fun a o e => by
    rw [upd_ne (ne_of_none e h2)]
    exact e
  refine ⟨⟨g.gg.trans s, fun a h => ?_, g.od, ⟨fun a o e => ?_, fun a p => ?_, g.vw.ok⟩⟩, s⟩
  · rw [upd_ne (fun z => h (by rw [z]; exact h3))]
    exact g.nw a h
  · by_cases z : a = l
    · subst z
      rw [upd_same] at e
      rw [h1]; exact e
    · rw [upd_ne z] at e
      exact g.vw.vw a o e
  · rw [upd_ne (fun z => vw.ok.there p (by rw [z]; exact h3))]
    exact g.vw.no a p
theorem e_ofL (h : EL K pen H0 te L fun ds => P (.list ds)) : E K pen H0 te L P := fun σ G H e Q q => h σ G H e Q fun l vs ds G' H' g h1 h2 h3 h4 p => by
  obtain ⟨g2, s⟩ := Go.list e.vw g h1 h2 h3
  exact q _ _ _ _ g2 (.lst (.inl (.inl upd_same)) (dpa_mono s _ _ h4)) p
theorem EL.mono {Pl Pl' : List PyData → Prop} (h : EL K pen H0 te L Pl) (k : ∀ d, Pl d → Pl' d) : EL K pen H0 te L Pl' := fun σ G H e Q q => h σ G H e Q fun l vs ds G' H' g h1 h2 h3 h4 p => q l vs ds G' H' g h1 h2 h3 h4 (k ds p)
/-! ### comprehensions -/
/-- POk behind a write elsewhere -/
theorem POk.upd {H H1 : Hp} {D : Addr} {o : HO} (h : POk pen H) (h1 : POk pen H1) (hD : H1 D = none) (hk : ∀ q, H D ≠ some (LamX.CodeO D q)) : POk pen (L2.upd H D o) := by
  refine ⟨fun p hp => (h.1 p hp).mono fun a u ho e => ?_, fun P hP => ?_⟩
  · obtain ⟨xs, k⟩ := (h1.1 p hp).lst ho
    rw [upd_ne (ne_of_none k hD)]
    exact e
  · exact tabX_upd (h.2 P hP) (fun z => h1.there (.inr hP) (by rw [z]; exact hD)) hk
/-- an object that was new at H1 and is not data changes -/
theorem Go.mut {G H1 G' H' : Hp} {D : Addr} {o : HO} (v1 : Vw pen G H1) (hD : H1 D = none) (gd : G' D = none) (hk : ∀ q, H' D ≠ some (LamX.CodeO D q)) (g : Go pen G H1 G' H') : Go pen G H1 G' (upd H' D o) := by
  refine ⟨g.gg, g.nw, fun a o hp e => ?_, ⟨fun a o e => ?_, g.vw.no, ?_⟩⟩
  · rw [upd_ne (ne_of_none e hD)]
    exact g.od a o hp e
  · rw [upd_ne (fun z => by rw [z, gd] at e; cases e)]
    exact g.vw.vw a o e
  · exact g.vw.ok.upd v1.ok hD hk
def LcI (K : PySem.W.Frag) (pen : Pc) (G H1 : Hp) (D : Addr) (J : Nat → List PyData → Prop) (i : Nat) (H' : Hp) : Prop :=
  ∃ G' vs acc, Go pen G H1 G' H' ∧ H' D = some (.lst vs) ∧ G' D = none ∧ DpAll K G' vs acc ∧ J i acc ∧ acc.length ≤ i
theorem lc_start {G H1 : Hp} {D : Addr} {J : Nat → List PyData → Prop} (v : Vw pen G H1) (hD : H1 D = none) (j0 : J 0 []) : LcI K pen G H1 D J 0 (upd H1 D (.lst [])) := by
  refine ⟨G, [], [], Go.hid v hD, upd_same, ?_, .nil, j0, Nat.le_refl _⟩
  cases q : G D with
  | none => rfl
  | some o => rw [v.vw _ _ q] at hD; cases hD
theorem lc_end {G H G1 H1 H' : Hp} {D : Addr} {J : Nat → List PyData → Prop} {n : Nat} {Q : VK} {Pl : List PyData → Prop} (go : Go pen G H G1 H1) (hD : H1 D = none) (I : LcI K pen G1 H1 D J n H') (j1 : ∀ acc, J n acc → Pl acc)
    (q : ∀ l vs ds G' H', Go pen G H G' H' → H' l = some (.lst vs) → G' l = none → H l = none → DpAll K G' vs ds → Pl ds → Q (.ref l) H') : Q (.ref D) H' := by
  obtain ⟨G', vs, acc, g, h1, h2, h3, h4, _⟩ := I
  refine q D vs acc G' H' (go.trans g) h1 h2 ?_ h3 (j1 acc h4)
  cases z : H D with
  | none => rfl
  | some o => exact absurd hD (go.dom (by rw [z]; exact fun z => by cases z))
theorem lc_turn {G H1 G' H' : Hp} {D : Addr} {J : Nat → List PyData → Prop} {i : Nat} {vs : List V} {acc : List PyData} {σ2 : L2.St} {L2 : Lv} (v1 : Vw pen G H1) (hD : H1 D = none) (hi : i < 100000) (go : Go pen G H1 G' H') (h1 : H' D = some (.lst vs)) (h2 : G' D = none) (h3 : DpAll K G' vs acc) (h5 : acc.length ≤ i)
    (e2 : Ev K pen H0 G' H' σ2 L2) (h : ET K pen H0 tt L2 fun b => (b = true → E K pen H0 te L2 fun d => J (i + 1) (acc ++ [d])) ∧ (b = false → J (i + 1) acc)) :
    tt σ2 H' fun b H3 => if b = true then te σ2 H3 fun y H4 => ∃ acc, H4 D = some (.lst acc) ∧ acc.length < sizeLine ∧ LcI K pen G H1 D J (i + 1) (upd H4 D (.lst (acc ++ [y]))) else LcI K pen G H1 D J (i + 1) H3 := by
  have np : ¬ IsPn pen D := fun p => v1.ok.there p hD
  have hz : H' D ≠ none := by rw [h1]; exact fun z => by cases z
  refine h σ2 G' H' e2 _ fun b G3 H3 g3 p => ?_
  have k1 : H3 D = some (.lst vs) := g3.od D _ np h1
  have k2 : G3 D = none := (g3.nw D hz).trans h2
  cases b with
  | true =>
    show te σ2 H3 _
    refine p.1 rfl σ2 G3 H3 (e2.go g3) _ fun y d G4 H4 g4 d4 p4 => ?_
    have m1 : H4 D = some (.lst vs) := g4.od D _ np k1
    have m2 : G4 D = none := (g4.nw D (by rw [k1]; exact fun z => by cases z)).trans k2
    have m3 := dpa_mono (g3.gg.trans g4.gg) _ _ h3
    refine ⟨vs, m1, Nat.lt_of_lt_of_le (Nat.lt_of_le_of_lt (by rw [dpa_len h3]; exact h5) hi) (by decide : 100000 ≤ sizeLine), G4, vs ++ [y], acc ++ [d], Go.mut v1 hD m2 (code_ne m1 rfl) ((go.trans g3).trans g4), upd_same, m2, dpa_app m3 (.cons d4 .nil), p4, ?_⟩
    rw [List.length_append]
    show acc.length + 1 ≤ i + 1
    omega
  | false =>
    show LcI K pen G H1 D J (i + 1) H3
    exact ⟨G3, vs, acc, go.trans g3, k1, k2, dpa_mono g3.gg _ _ h3, p.2 rfl, by omega⟩
theorem wipe1 (σ : L2.St) (j : Nat) (x : Option V) : wipe ((wipe σ [j]).set j x) [j] = wipe σ [j] := by
  show ((σ.set j none).set j x).set j none = σ.set j none
  rw [List.set_set, List.set_set]
theorem wipe2 (σ : L2.St) (j k : Nat) (x y : Option V) : wipe (((wipe σ [j, k]).set j x).set k y) [j, k] = wipe σ [j, k] := by
  show (((((σ.set k none).set j none).set j x).set k y).set k none).set j none = (σ.set k none).set j none
  apply List.ext_getElem?
  intro m
  simp only [List.getElem?_set, List.length_set]
  by_cases h1 : j = m <;> by_cases h2 : k = m <;> simp [h1, h2] <;> (try split) <;> simp_all
theorem ev_wipe1 {G H : Hp} {σ : L2.St} (e : Ev K pen H0 G H σ L) (j : Nat) : Ev K pen H0 G H (wipe σ [j]) (L.set j none) := e.unset j
theorem ev_wipe2 {G H : Hp} {σ : L2.St} (e : Ev K pen H0 G H σ L) (j k : Nat) : Ev K pen H0 G H (wipe σ [j, k]) ((L.set k none).set j none) := (e.unset k).unset j
/-- one turn, by data -/
abbrev LcT (K : PySem.W.Frag) (pen : Pc) (H0 : Hp) (tt : TT) (te : TE) (L2 : Lv) (acc : List PyData) (Jn : List PyData → Prop) : Prop :=
  ET K pen H0 tt L2 fun b => (b = true → E K pen H0 te L2 fun d => Jn (acc ++ [d])) ∧ (b = false → Jn acc)
theorem el_lcR {Pl : List PyData → Prop} {j : Nat} (h : EA K pen H0 tl L fun ds => ∃ n : Nat, ds = [.int n] ∧ n ≤ 100000 ∧ ∃ J : Nat → List PyData → Prop, J 0 [] ∧
    (∀ (i : Nat) acc, i < n → J i acc → LcT K pen H0 tt te ((L.set j none).set j (some (.d (.int i)))) acc (J (i + 1))) ∧ (∀ acc, J n acc → Pl acc)) :
    EL K pen H0 (tLc (iRng1 tl) (gName j) tt te [j]) L Pl := fun σ G H e Q q => h σ G H e _ fun vs ds G1 H1 go hd ⟨n, hds, hn, J, j0, js, je⟩ => by
  subst hds
  cases hd with
  | cons hd hd2 =>
    cases hd2
    cases hd
    refine ⟨(n : Int), rfl, by omega, by omega, fun Dl hD => ?_⟩
    rw [Int.toNat_natCast]
    refine lc_range (lo := 0) (n := n) (LcI K pen G1 H1 Dl J) (lc_start go.vw hD j0) (fun i H' hi ⟨G', vs, acc, g, h1, h2, h3, h4, h5⟩ => ?_) (fun H' I => lc_end go hD I je q)
    show wipe ((wipe σ [j]).set j (some (.int ((0 : Int) + (i : Int))))) [j] = wipe σ [j] ∧ tt ((wipe σ [j]).set j (some (.int ((0 : Int) + (i : Int))))) H' _
    refine ⟨wipe1 _ _ _, ?_⟩
    rw [Int.zero_add]
    exact lc_turn go.vw hD (by omega) g h1 h2 h3 h5 ((ev_wipe1 ((e.go go).go g) j).set (.int _)) (js i acc hi h4)
theorem e_lcR {j : Nat} (h : EA K pen H0 tl L fun ds => ∃ n : Nat, ds = [.int n] ∧ n ≤ 100000 ∧ ∃ J : Nat → List PyData → Prop, J 0 [] ∧
    (∀ (i : Nat) acc, i < n → J i acc → LcT K pen H0 tt te ((L.set j none).set j (some (.d (.int i)))) acc (J (i + 1))) ∧ (∀ acc, J n acc → P (.list acc))) :
    E K pen H0 (tLc (iRng1 tl) (gName j) tt te [j]) L P := e_ofL (el_lcR h)
theorem el_lcT {Pl : List PyData → Prop} {j : Nat} (h : E K pen H0 ta L fun d => ∃ ds, d = .tuple ds ∧ ds.length ≤ 100000 ∧ ∃ J : Nat → List PyData → Prop, J 0 [] ∧
    (∀ (i : Nat) x acc, ds[i]? = some x → J i acc → LcT K pen H0 tt te ((L.set j none).set j (some (.d x))) acc (J (i + 1))) ∧ (∀ acc, J ds.length acc → Pl acc)) :
    EL K pen H0 (tLc (iTup K ta) (gName j) tt te [j]) L Pl := fun σ G H e Q q => h σ G H e _ fun v d G1 H1 go hd ⟨ds, hds, hn, J, j0, js, je⟩ => by
  subst hds
  cases hd with
  | tup hs ha =>
    rename_i a xs
    refine ⟨a, rfl, ⟨xs, sqT_mono go.vw.vw hs⟩, fun Dl hD => ?_⟩
    refine lc_tup (xs := xs) (LcI K pen G1 H1 Dl J) (lc_start go.vw hD j0) (fun i H' _ ⟨G', vs, acc, g, _⟩ => sqT_mono (g.gg.trans g.vw.vw) hs) (fun i x H' hx ⟨G', vs, acc, g, h1, h2, h3, h4, h5⟩ => ?_) (fun H' I => ?_)
    · obtain ⟨z, hz, hd⟩ := dpa_getV ha hx
      refine ⟨wipe1 _ _ _, ?_⟩
      have := (List.getElem?_eq_some_iff.mp hz).1
      exact lc_turn go.vw hD (by omega) g h1 h2 h3 h5 ((ev_wipe1 ((e.go go).go g) j).set (dp_mono g.gg _ _ hd)) (js i z acc hz h4)
    · rw [dpa_len ha] at I
      exact lc_end go hD I je q
theorem e_lcT {j : Nat} (h : E K pen H0 ta L fun d => ∃ ds, d = .tuple ds ∧ ds.length ≤ 100000 ∧ ∃ J : Nat → List PyData → Prop, J 0 [] ∧
    (∀ (i : Nat) x acc, ds[i]? = some x → J i acc → LcT K pen H0 tt te ((L.set j none).set j (some (.d x))) acc (J (i + 1))) ∧ (∀ acc, J ds.length acc → P (.list acc))) :
    E K pen H0 (tLc (iTup K ta) (gName j) tt te [j]) L P := e_ofL (el_lcT h)
theorem el_lcL {Pl : List PyData → Prop} {j : Nat} (h : E K pen H0 ta L fun d => ∃ ds, d = .list ds ∧ ds.length ≤ 100000 ∧ ∃ J : Nat → List PyData → Prop, J 0 [] ∧
    (∀ (i : Nat) x acc, ds[i]? = some x → J i acc → LcT K pen H0 tt te ((L.set j none).set j (some (.d x))) acc (J (i + 1))) ∧ (∀ acc, J ds.length acc → Pl acc)) :
    EL K pen H0 (tLc (iList K ta) (gName j) tt te [j]) L Pl := fun σ G H e Q q => h σ G H e _ fun v d G1 H1 go hd ⟨ds, hds, hn, J, j0, js, je⟩ => by
  subst hds
  cases hd with
  | lst hs ha =>
    rename_i a xs
    refine ⟨a, rfl, ⟨xs, sqL_mono go.vw.vw hs⟩, fun Dl hD => ?_⟩
    refine lc_list (xs := xs) (LcI K pen G1 H1 Dl J) (lc_start go.vw hD j0) (fun i H' _ ⟨G', vs, acc, g, _⟩ => sqL_mono (g.gg.trans g.vw.vw) hs) (fun i x H' hx ⟨G', vs, acc, g, h1, h2, h3, h4, h5⟩ => ?_) (fun H' I => ?_)
    · obtain ⟨z, hz, hd⟩ := dpa_getV ha hx
      refine ⟨wipe1 _ _ _, ?_⟩
      have := (List.getElem?_eq_some_iff.mp hz).1
      exact lc_turn go.vw hD (by omega) g h1 h2 h3 h5 ((ev_wipe1 ((e.go go).go g) j).set (dp_mono g.gg _ _ hd)) (js i z acc hz h4)
    · rw [dpa_len ha] at I
      exact lc_end go hD I je q
theorem e_lcL {j : Nat} (h : E K pen H0 ta L fun d => ∃ ds, d = .list ds ∧ ds.length ≤ 100000 ∧ ∃ J : Nat → List PyData → Prop, J 0 [] ∧
    (∀ (i : Nat) x acc, ds[i]? = some x → J i acc → LcT K pen H0 tt te ((L.set j none).set j (some (.d x))) acc (J (i + 1))) ∧ (∀ acc, J ds.length acc → P (.list acc))) :
    E K pen H0 (tLc (iList K ta) (gName j) tt te [j]) L P := e_ofL (el_lcL h)
/-- [e for a, b in zip(x, y)], two tuples or two lists of one length -/
theorem el_lcZ {Pl : List PyData → Prop} {j k : Nat} (h : EA K pen H0 tl L fun ds => ∃ as bs, (ds = [.tuple as, .tuple bs] ∨ ds = [.list as, .list bs]) ∧ as.length = bs.length ∧ as.length ≤ 100000 ∧ ∃ J : Nat → List PyData → Prop, J 0 [] ∧
    (∀ (i : Nat) x y acc, as[i]? = some x → bs[i]? = some y → J i acc → LcT K pen H0 tt te ((((L.set k none).set j none).set j (some (.d x))).set k (some (.d y))) acc (J (i + 1))) ∧ (∀ acc, J as.length acc → Pl acc)) :
    EL K pen H0 (tLc (RZ.iZipA K tl) (gTup K 2 (gCons (gName j) (gCons (gName k) gNil))) tt te [j, k]) L Pl := fun σ G H e Q q => h σ G H e _ fun vs ds G1 H1 go hd ⟨as, bs, hds, hl, hn, J, j0, js, je⟩ => by
  have turn : ∀ (Dl : Addr) (i : Nat) (H' : Hp) (x y : V) (T : Addr) (a b : PyData), H1 Dl = none → as[i]? = some a → bs[i]? = some b → (∀ G', Same G1 G' → Dp K G' x a ∧ Dp K G' y b) → LcI K pen G1 H1 Dl J i H' → H' T = none →
      gTup K 2 (gCons (gName j) (gCons (gName k) gNil)) (.ref T) (wipe σ [j, k]) (upd H' T (.tup [x, y])) fun σ2 H2 => wipe σ2 [j, k] = wipe σ [j, k] ∧ tt σ2 H2 fun b H3 =>
        if b = true then te σ2 H3 fun y H4 => ∃ acc, H4 Dl = some (.lst acc) ∧ acc.length < sizeLine ∧ LcI K pen G1 H1 Dl J (i + 1) (upd H4 Dl (.lst (acc ++ [y]))) else LcI K pen G1 H1 Dl J (i + 1) H3 := fun Dl i H' x y T a b hD ha hb hxy ⟨G', vs, acc, g, h1, h2, h3, h4, h5⟩ hT => by
    have g2 := Go.new g.vw (o := .tup [x, y]) hT
    have nT : Dl ≠ T := ne_of_none h1 hT
    refine ⟨T, [x, y], rfl, .inl (.inl upd_same), rfl, x, [y], rfl, y, [], rfl, rfl, wipe2 _ _ _ _ _, ?_⟩
    have hi := (List.getElem?_eq_some_iff.mp ha).1
    have ex := ((((ev_wipe2 ((e.go go).go g) j k).go g2).set (i := j) (dp_mono g2.gg _ _ (hxy G' g.gg).1)).set (i := k) (dp_mono g2.gg _ _ (hxy G' g.gg).2))
    refine lc_turn go.vw hD (by omega) (g.trans g2) ?_ ?_ (dpa_mono g2.gg _ _ h3) h5 ex (js i a b acc ha hb h4)
    · rw [upd_ne nT]; exact h1
    · rw [upd_ne nT]; exact h2
  rcases hds with rfl | rfl
  · cases hd with
    | cons hd hd2 =>
      cases hd2 with
      | cons hd3 hd4 =>
        cases hd4
        cases hd with
        | tup hs ha =>
          cases hd3 with
          | tup hs' ha' =>
            rename_i a xs a' ys
            refine ⟨a, a', xs, ys, rfl, .inr ⟨sqT_mono go.vw.vw hs, sqT_mono go.vw.vw hs', fun Dl hD => ?_⟩⟩
            refine ⟨fun i m H' => m = as.length - i ∧ i ≤ as.length ∧ LcI K pen G1 H1 Dl J i H', ⟨as.length, rfl, Nat.zero_le _, lc_start go.vw hD j0⟩, ?_⟩
            rintro i m H' ⟨rfl, hi, I⟩
            obtain ⟨G', vs, acc, g, r⟩ := id I
            have z1 : SqT K H' a xs := sqT_mono (g.gg.trans g.vw.vw) hs
            have z2 : SqT K H' a' ys := sqT_mono (g.gg.trans g.vw.vw) hs'
            by_cases hlt : i < as.length
            · obtain ⟨x, hx, dx⟩ := dpa_get ha (List.getElem?_eq_getElem hlt)
              obtain ⟨y, hy, dy⟩ := dpa_get ha' (List.getElem?_eq_getElem (hl ▸ hlt))
              refine .inr ⟨⟨xs, ys, x, y, z1, z2, hx, hy⟩, LcI K pen G1 H1 Dl J (i + 1), fun H2 I2 => ⟨as.length - (i + 1), by omega, rfl, hlt, I2⟩, fun v H2 hv => ?_⟩
              obtain ⟨T, x', y', rfl, hT, rfl, f1, f2⟩ := hv
              have e1 : x' = x := Option.some.inj ((f1 _ z1).symm.trans hx)
              have e2 : y' = y := Option.some.inj ((f2 _ z2).symm.trans hy)
              subst e1 e2
              exact turn Dl i H' x' y' T _ _ hD (List.getElem?_eq_getElem hlt) (List.getElem?_eq_getElem (hl ▸ hlt)) (fun G2 s => ⟨dp_mono s _ _ dx, dp_mono s _ _ dy⟩) I hT
            · have e1 : i = as.length := by omega
              subst e1
              exact .inl ⟨⟨xs, ys, z1, z2, .inl (by rw [dpa_len ha]; exact Nat.le_refl _)⟩, lc_end go hD I je q⟩
  · cases hd with
    | cons hd hd2 =>
      cases hd2 with
      | cons hd3 hd4 =>
        cases hd4
        cases hd with
        | lst hs ha =>
          cases hd3 with
          | lst hs' ha' =>
            rename_i a xs a' ys
            refine ⟨a, a', xs, ys, rfl, .inl ⟨sqL_mono go.vw.vw hs, sqL_mono go.vw.vw hs', fun Dl hD => ?_⟩⟩
            refine ⟨fun i m H' => m = as.length - i ∧ i ≤ as.length ∧ LcI K pen G1 H1 Dl J i H', ⟨as.length, rfl, Nat.zero_le _, lc_start go.vw hD j0⟩, ?_⟩
            rintro i m H' ⟨rfl, hi, I⟩
            obtain ⟨G', vs, acc, g, r⟩ := id I
            have z1 : SqL K H' a xs := sqL_mono (g.gg.trans g.vw.vw) hs
            have z2 : SqL K H' a' ys := sqL_mono (g.gg.trans g.vw.vw) hs'
            by_cases hlt : i < as.length
            · obtain ⟨x, hx, dx⟩ := dpa_get ha (List.getElem?_eq_getElem hlt)
              obtain ⟨y, hy, dy⟩ := dpa_get ha' (List.getElem?_eq_getElem (hl ▸ hlt))
              refine .inr ⟨⟨xs, ys, x, y, z1, z2, hx, hy⟩, LcI K pen G1 H1 Dl J (i + 1), fun H2 I2 => ⟨as.length - (i + 1), by omega, rfl, hlt, I2⟩, fun v H2 hv => ?_⟩
              obtain ⟨T, x', y', rfl, hT, rfl, f1, f2⟩ := hv
              have e1 : x' = x := Option.some.inj ((f1 _ z1).symm.trans hx)
              have e2 : y' = y := Option.some.inj ((f2 _ z2).symm.trans hy)
              subst e1 e2
              exact turn Dl i H' x' y' T _ _ hD (List.getElem?_eq_getElem hlt) (List.getElem?_eq_getElem (hl ▸ hlt)) (fun G2 s => ⟨dp_mono s _ _ dx, dp_mono s _ _ dy⟩) I hT
            · have e1 : i = as.length := by omega
              subst e1
              exact .inl ⟨⟨xs, ys, z1, z2, .inl (by rw [dpa_len ha]; exact Nat.le_refl _)⟩, lc_end go hD I je q⟩
theorem e_lcZ {j k : Nat} (h : EA K pen H0 tl L fun ds => ∃ as bs, (ds = [.tuple as, .tuple bs] ∨ ds = [.list as, .list bs]) ∧ as.length = bs.length ∧ as.length ≤ 100000 ∧ ∃ J : Nat → List PyData → Prop, J 0 [] ∧
    (∀ (i : Nat) x y acc, as[i]? = some x → bs[i]? = some y → J i acc → LcT K pen H0 tt te ((((L.set k none).set j none).set j (some (.d x))).set k (some (.d y))) acc (J (i + 1))) ∧ (∀ acc, J as.length acc → P (.list acc))) :
    E K pen H0 (tLc (RZ.iZipA K tl) (gTup K 2 (gCons (gName j) (gCons (gName k) gNil))) tt te [j, k]) L P := e_ofL (el_lcZ h)
theorem et_yes (h : Pb true) : ET K pen H0 tYes L Pb := fun σ G H e Q q => q true G H (.refl e.vw) h
/-! ### slices, sums of tuples and lists -/
def cutD (xs : List PyData) (lo hi : Option Int) : List PyData := (xs.drop (HT.sIx xs.length 0 lo)).take (HT.sIx xs.length xs.length hi - HT.sIx xs.length 0 lo)
theorem dpa_cut {G : Hp} {vs : List V} {ds : List PyData} (h : DpAll K G vs ds) (lo hi : Option Int) : DpAll K G (cutV vs lo hi) (cutD ds lo hi) := by
  unfold cutV cutD
  rw [dpa_len h]
  exact dpa_take _ (dpa_drop _ h)
theorem r_slT {ds : List PyData} {lo hi : Option Int} (p : P (.tuple (cutD ds lo hi))) : RSd K pen (rSlA K) (.tuple ds) lo hi P := fun x G H v hx Q q => by
  cases hx with
  | tup hs ha =>
    rename_i a xs
    refine ⟨a, xs, rfl, sqT_mono v.vw hs, fun ⟨w1, w2⟩ => ?_, fun _ p' hp => ?_⟩
    · have e : cutD ds lo hi = ds := by
        unfold cutD
        rw [← dpa_len ha, w1, w2, dpa_len ha]
        show ds.take (ds.length - 0) = ds
        rw [Nat.sub_zero, List.take_length]
      rw [e] at p
      exact q _ _ G H (.refl v) (.tup hs ha) p
    · have g := Go.new v (o := .tup (cutV xs lo hi)) hp
      exact q _ _ _ _ g (.tup (.inl (.inl upd_same)) (dpa_mono g.gg _ _ (dpa_cut ha lo hi))) p
theorem r_slL {ds : List PyData} {lo hi : Option Int} (p : P (.list (cutD ds lo hi))) : RSd K pen (rSlL K) (.list ds) lo hi P := fun x G H v hx Q q => by
  cases hx with
  | lst hs ha =>
    rename_i a xs
    refine ⟨a, xs, rfl, sqL_mono v.vw hs, fun p' hp => ?_⟩
    have g := Go.new v (o := .lst (cutV xs lo hi)) hp
    exact q _ _ _ _ g (.lst (.inl (.inl upd_same)) (dpa_mono g.gg _ _ (dpa_cut ha lo hi))) p
theorem r_catT {as bs : List PyData} (hl : as.length + bs.length ≤ 100000) (p : P (.tuple (as ++ bs))) : R2d K pen (rCatA K) (.tuple as) (.tuple bs) P := fun x y G H v hx hy Q q => by
  cases hx with
  | tup hs ha =>
    cases hy with
    | tup hs' ha' =>
      rename_i a xs a' ys
      refine ⟨a, a', xs, ys, rfl, rfl, sqT_mono v.vw hs, sqT_mono v.vw hs', Nat.le_trans (by rw [dpa_len ha, dpa_len ha']; exact hl) (by decide : 100000 ≤ sizeLine), fun e => ?_, fun _ e => ?_, fun _ _ p' hp => ?_⟩
      · subst e
        cases ha
        exact q _ _ G H (.refl v) (.tup hs' ha') p
      · subst e
        cases ha'
        rw [List.append_nil] at p
        exact q _ _ G H (.refl v) (.tup hs ha) p
      · have g := Go.new v (o := .tup (xs ++ ys)) hp
        exact q _ _ _ _ g (.tup (.inl (.inl upd_same)) (dpa_mono g.gg _ _ (dpa_app ha ha'))) p
/-! ### isinstance -/
def tyD : PyData → String
  | .none => "NoneType"
  | .bool _ => "bool"
  | .int _ => "int"
  | .str _ => "str"
  | .list _ => "list"
  | .tuple _ => "tuple"
  | .dict _ => "dict"
theorem tyx_of {G H : Hp} (s : Same G H) : ∀ {v : V} {d : PyData}, Dp K G v d → TyX K H v (.type (tyD d))
  | _, _, .non => .base .non
  | _, _, .bl b => .base (.bl b)
  | _, _, .int i => .base (.int i)
  | _, _, .str x => .base (.str x)
  | _, _, .lst hs _ => by
    rcases hs with (h | ⟨o, h⟩) | ⟨o, its, n, h, hc, _⟩
    · exact .base (.lst (s _ _ h))
    · exact .base (.frz (s _ _ h))
    · exact .kList h hc
  | _, _, .tup hs _ => by
    rcases hs with (h | ⟨o, h⟩) | ⟨o, its, n, h, hc, _⟩
    · exact .base (.tup (s _ _ h))
    · exact .fTuple (s _ _ h)
    · exact .kTuple h hc
def isS (a T : String) : Bool := a == T || (a == "bool" && T == "int")
def isD (d : PyData) (T : String) : Bool := isS (tyD d) T
theorem kit_isS (a T : String) (ha : a = "NoneType" ∨ a = "bool" ∨ a = "int" ∨ a = "str" ∨ a = "list" ∨ a = "tuple") (hT : T = "int" ∨ T = "bool" ∨ T = "str" ∨ T = "tuple" ∨ T = "list") : kitB a T = some (isS a T) := by
  rcases ha with rfl | rfl | rfl | rfl | rfl | rfl <;> rcases hT with rfl | rfl | rfl | rfl | rfl <;> decide +kernel
theorem kit_isD (d : PyData) (T : String) (hT : T = "int" ∨ T = "bool" ∨ T = "str" ∨ T = "tuple" ∨ T = "list") (hd : ∀ x, d ≠ .dict x) : kitB (tyD d) T = some (isD d T) := by
  refine kit_isS _ _ ?_ hT
  cases d with
  | dict x => exact absurd rfl (hd x)
  | none => exact .inl rfl
  | bool _ => exact .inr (.inl rfl)
  | int _ => exact .inr (.inr (.inl rfl))
  | str _ => exact .inr (.inr (.inr (.inl rfl)))
  | list _ => exact .inr (.inr (.inr (.inr (.inl rfl))))
  | tuple _ => exact .inr (.inr (.inr (.inr (.inr rfl))))
theorem e_isi {T : String} (hT : T = "int" ∨ T = "bool" ∨ T = "str" ∨ T = "tuple" ∨ T = "list") (h : E K pen H0 ta L fun d => P (.bool (isD d T))) : E K pen H0 (tCB (rIsi K) (tCons ta (tCons (tC (.ty T)) tNil))) L P := fun σ G H e Q q =>
  h σ G H e _ fun v d G1 H1 go hd p => by
    refine ⟨v, .ty T, .type (tyD d), .type T, isD d T, rfl, .ty T, tyx_of go.vw.vw hd, kit_ty (kit_isD d T hT fun x z => ?_), q _ _ G1 H1 go (.bl _) p⟩
    subst z
    cases hd
end
end Dl
set_option Elab.async false
set_option linter.all false
set_option maxRecDepth 100000
namespace Dl
open PySem PySem.Spec PyProof.Rows L2
section
variable {K : PySem.W.Frag} {pen : Pc} {H0 : Hp} {L : Lv} {P P' : PyData → Prop} {ta tb tc te ti : TE} {tl tr : TA} {tt : TT} {t u : TS} {Pb : Bool → Prop} {D : Dn} {g : TG} {gs : TGs}
/-! ### objects of one's own, that change -/
theorem Ev.setOwn {G H : Hp} {σ : L2.St} (e : Ev K pen H0 G H σ L) {i : Nat} {l : Addr} {ho : HO} {o : OO} (hl : H l = some ho) (h0l : H0 l = none) (gl : G l = none) (old : ∀ (j : Nat) (es : OO), i ≠ j → L[j]? = some (some (.own es)) → σ[j]? ≠ some (some (.ref l))) (h : OwnOk K G l ho o) : Ev K pen H0 G H (σ.set i (some (.ref l))) (L.set i (some (.own o))) := by
  have here : ∀ (j : Nat) (av : AV), (L.set i (some (.own o)))[j]? = some (some av) → i = j → av = .own o ∧ (σ.set i (some (.ref l)))[j]? = some (some (.ref l)) := fun j av hj q => by
    subst q
    have hl : i < L.length := by
      have := (List.getElem?_eq_some_iff.mp hj).1
      rw [List.length_set] at this; exact this
    rw [List.getElem?_set_self hl] at hj
    exact ⟨(Option.some.inj (Option.some.inj hj)).symm, List.getElem?_set_self (by rw [e.len]; exact hl)⟩
  refine ⟨e.vw, e.h0, e.dom, by rw [List.length_set, List.length_set]; exact e.len, fun j av hj => ?_, fun j k ds' es l' h1 h2 h3 h4 => ?_⟩
  · by_cases q : i = j
    · obtain ⟨rfl, k⟩ := here j av hj q
      exact ⟨_, k, l, ho, rfl, hl, h0l, gl, h⟩
    · rw [List.getElem?_set_ne q] at hj
      obtain ⟨w, k1, k2⟩ := e.sl j av hj
      exact ⟨w, by rw [List.getElem?_set_ne q]; exact k1, k2⟩
  · by_cases q1 : i = j
    · by_cases q2 : i = k
      · exact q1.symm.trans q2
      · have k1 := (here j _ h1 q1).2
        rw [h3] at k1
        have z : l' = l := V.ref.inj (Option.some.inj (Option.some.inj k1))
        rw [List.getElem?_set_ne q2] at h2 h4
        exact absurd (z ▸ h4) (old k es q2 h2)
    · rw [List.getElem?_set_ne q1] at h1 h3
      by_cases q2 : i = k
      · have k1 := (here k _ h2 q2).2
        rw [h4] at k1
        have z : l' = l := V.ref.inj (Option.some.inj (Option.some.inj k1))
        exact absurd (z ▸ h3) (old j ds' q1 h1)
      · rw [List.getElem?_set_ne q2] at h2 h4
        exact e.ow j k ds' es l' h1 h2 h3 h4
theorem Ev.h0none {G H : Hp} {σ : L2.St} (e : Ev K pen H0 G H σ L) {l : Addr} (hl : H l = none) : H0 l = none := by
  cases q : H0 l with
  | none => rfl
  | some o => exact absurd hl (e.dom l (by rw [q]; exact fun z => by cases z))
theorem Ev.gnone {G H : Hp} {σ : L2.St} (e : Ev K pen H0 G H σ L) {l : Addr} (hl : H l = none) : G l = none := by
  cases q : G l with
  | none => rfl
  | some o => rw [e.vw.vw _ _ q] at hl; cases hl
/-- no own slot holds a place that was free -/
theorem Ev.oldOwn {G H : Hp} {σ : L2.St} (e : Ev K pen H0 G H σ L) {l : Addr} (hl : H l = none) : ∀ (j : Nat) (es : OO), L[j]? = some (some (.own es)) → σ[j]? ≠ some (some (.ref l)) := fun j es h1 h2 => by
  obtain ⟨v, k1, l2, ws, k2, k3, _⟩ := e.sl j _ h1
  rw [h2] at k1
  have := Option.some.inj (Option.some.inj k1)
  rw [← this] at k2
  cases k2
  rw [hl] at k3
  cases k3
/-- a new object goes to slot i -/
theorem Ev.newOwn {G H : Hp} {σ : L2.St} (e : Ev K pen H0 G H σ L) {i : Nat} {l : Addr} {ho : HO} {o : OO} (hl : H l = none) (h : OwnOk K G l ho o) : Ev K pen H0 G (upd H l ho) (σ.set i (some (.ref l))) (L.set i (some (.own o))) :=
  (e.go (Go.hid e.vw (o := ho) hl)).setOwn upd_same (e.h0none hl) (e.gnone hl) (fun j es _ h1 => e.oldOwn hl j es h1) h
def noFr : Lv → Bool
  | [] => true
  | some (.fr _) :: _ => false
  | _ :: L => noFr L
theorem noFr_get : ∀ {L : Lv} {i : Nat} {x : PyData}, noFr L = true → L[i]? = some (some (.fr x)) → False
  | [], _, _, _, h => by simp at h
  | a :: L, 0, x, n, h => by
    have := Option.some.inj h
    subst this
    cases n
  | a :: L, i + 1, x, n, h => by
    have n' : noFr L = true := by
      cases a with
      | none => exact n
      | some av => cases av <;> first | exact n | cases n
    exact noFr_get (L := L) (i := i) n' h
/-- the own object in slot j is written -/
theorem Ev.putOwn {G H : Hp} {σ : L2.St} (e : Ev K pen H0 G H σ L) (nf : noFr L = true) {j : Nat} {l : Addr} {o o' : OO} {ho : HO} (hj : L[j]? = some (some (.own o))) (hs : σ[j]? = some (some (.ref l))) (h : OwnOk K G l ho o') :
    Ev K pen H0 G (upd H l ho) σ (L.set j (some (.own o'))) ∧ Gx pen H0 G H G (upd H l ho) := by
  obtain ⟨v, k1, l2, vs, k2, k3, k4, k5, k6⟩ := e.sl j _ hj
  rw [hs] at k1
  have := Option.some.inj (Option.some.inj k1)
  rw [← this] at k2
  cases k2
  have n0 : ∀ a, H0 a ≠ none → a ≠ l := fun a h z => h (by rw [z]; exact k4)
  have ng : ∀ a o, G a = some o → a ≠ l := fun a o q z => by rw [z, k5] at q; cases q
  have vw : Vw pen G (upd H l ho) := by
    refine ⟨fun a o q => by rw [upd_ne (ng a o q)]; exact e.vw.vw a o q, e.vw.no, ?_⟩
    exact e.vw.ok.upd e.h0 k4 (fun q z => k6.noCode q (Option.some.inj (k3.symm.trans z)))
  have jl : j < L.length := (List.getElem?_eq_some_iff.mp hj).1
  refine ⟨⟨vw, e.h0, fun a h => ?_, by rw [List.length_set]; exact e.len, fun i av hi => ?_, fun i k ds' es' l' h1 h2 h3 h4 => ?_⟩, Same.refl _, fun _ _ => rfl, fun a o _ h q => by rw [upd_ne (n0 a h)]; exact q⟩
  · rw [upd_ne (n0 a h)]; exact e.dom a h
  · by_cases q : j = i
    · subst q
      rw [List.getElem?_set_self jl] at hi
      have := Option.some.inj (Option.some.inj hi)
      subst this
      exact ⟨_, hs, l, ho, rfl, upd_same, k4, k5, h⟩
    · rw [List.getElem?_set_ne q] at hi
      obtain ⟨w, m1, m2⟩ := e.sl i av hi
      refine ⟨w, m1, ?_⟩
      cases av with
      | d x => exact m2
      | pen => exact m2
      | own ds2 =>
        obtain ⟨l3, vs3, rfl, m3, m4, m5, m6⟩ := m2
        refine ⟨l3, vs3, rfl, ?_, m4, m5, m6⟩
        rw [upd_ne (fun z => q (e.ow j i o ds2 l hj hi hs (by rw [← z]; exact m1)))]
        exact m3
      | bor ds2 =>
        obtain ⟨l3, vs3, rfl, m3, m4, m5, m6⟩ := m2
        refine ⟨l3, vs3, rfl, ?_, m4, m5, m6⟩
        rw [upd_ne (n0 l3 (by rw [m4]; exact fun z => by cases z))]
        exact m3
      | fr x => exact (noFr_get nf hi).elim
  · have was : ∀ (i : Nat) (ds' : OO), (L.set j (some (.own o')))[i]? = some (some (.own ds')) → ∃ ds2, L[i]? = some (some (.own ds2)) := fun i ds' hi => by
      by_cases q : j = i
      · subst q; exact ⟨o, hj⟩
      · rw [List.getElem?_set_ne q] at hi; exact ⟨ds', hi⟩
    obtain ⟨a1, b1⟩ := was i ds' h1
    obtain ⟨a2, b2⟩ := was k es' h2
    exact e.ow i k a1 a2 l' b1 b2 h3 h4
/-- the own object's place and content -/
theorem Ev.own {G H : Hp} {σ : L2.St} (e : Ev K pen H0 G H σ L) {j : Nat} {o : OO} (hj : L[j]? = some (some (.own o))) : ∃ l ho, σ[j]? = some (some (.ref l)) ∧ H l = some ho ∧ OwnOk K G l ho o := by
  obtain ⟨x, k1, l, vs, rfl, k3, k4, k5, k6⟩ := e.sl j _ hj
  exact ⟨l, vs, k1, k3, k6⟩
theorem Ev.ownAt {G H : Hp} {σ : L2.St} (e : Ev K pen H0 G H σ L) {j : Nat} {o : OO} {l : Addr} (hj : L[j]? = some (some (.own o))) (hs : σ[j]? = some (some (.ref l))) : ∃ ho, H l = some ho ∧ OwnOk K G l ho o := by
  obtain ⟨l', ho, k1, k2, k3⟩ := e.own hj
  rw [hs] at k1
  cases k1
  exact ⟨ho, k2, k3⟩
/-- an object that is read: own, or borrowed -/
def RdO (L : Lv) (j : Nat) (o : OO) : Prop := L[j]? = some (some (.own o)) ∨ L[j]? = some (some (.bor o))
theorem Ev.rd {G H : Hp} {σ : L2.St} (e : Ev K pen H0 G H σ L) {j : Nat} {o : OO} (hj : RdO L j o) : ∃ l ho, σ[j]? = some (some (.ref l)) ∧ H l = some ho ∧ OwnOk K G l ho o := by
  rcases hj with hj | hj
  · exact e.own hj
  · obtain ⟨x, k1, l, vs, rfl, k3, k4, k5, k6⟩ := e.sl j _ hj
    exact ⟨l, vs, k1, k3, k6⟩
theorem Ev.rdAt {G H : Hp} {σ : L2.St} (e : Ev K pen H0 G H σ L) {j : Nat} {o : OO} {l : Addr} (hj : RdO L j o) (hs : σ[j]? = some (some (.ref l))) : ∃ ho, H l = some ho ∧ OwnOk K G l ho o := by
  obtain ⟨l', ho, k1, k2, k3⟩ := e.rd hj
  rw [hs] at k1
  cases k1
  exact ⟨ho, k2, k3⟩
/-- x = a new list -/
theorem s_ownL {i : Nat} (h : EL K pen H0 te L fun es => D.nx (L.set i (some (.own (.lst es))))) : S K pen H0 (tAsg te (gName i)) L D := fun σ G H N e n1 _ _ _ _ _ =>
  h σ G H e _ fun l vs ds G' H' g h1 h2 h3 h4 p => by
    have e1 := e.go g
    exact n1 _ G' H' _ (e.gx g) (e1.setOwn h1 (e.h0none h3) h2 (fun j es _ hj => e.oldOwn h3 j es hj) (o := .lst ds) h4) p
theorem el_list (h : E K pen H0 te L fun d => ∃ es, (d = .tuple es ∨ d = .list es) ∧ P (.list es)) :
    EL K pen H0 (tCB (fun xs H Q => ∃ p ys, xs = [.ref p] ∧ (SqL K H p ys ∨ SqT K H p ys) ∧ ∀ l, H l = none → Q (.ref l) (upd H l (.lst ys))) (tCons te tNil)) L fun es => P (.list es) := fun σ G H e Q q =>
  h σ G H e _ fun v d G1 H1 go hd ⟨es, hes, p⟩ => by
    have fin : ∀ (ys : List V) (l : Addr), DpAll K G1 ys es → H1 l = none → Q (.ref l) (upd H1 l (.lst ys)) := fun ys l hy hl => by
      have e1 := e.go go
      have g2 := Go.hid e1.vw (o := .lst ys) hl
      refine q l ys es G1 _ (go.trans g2) upd_same (e1.gnone hl) ?_ hy p
      cases z : H l with
      | none => rfl
      | some o => exact absurd hl (go.dom (by rw [z]; exact fun z => by cases z))
    rcases hes with rfl | rfl
    · cases hd with
      | tup hs ha => exact ⟨_, _, rfl, .inr (sqT_mono go.vw.vw hs), fun l hl => fin _ l ha hl⟩
    · cases hd with
      | lst hs ha => exact ⟨_, _, rfl, .inl (sqL_mono go.vw.vw hs), fun l hl => fin _ l ha hl⟩
theorem el_lst {Pl : List PyData → Prop} (h : EA K pen H0 tl L fun ds => ds.length ≤ 100000 ∧ Pl ds) : EL K pen H0 (tLst tl) L Pl := fun σ G H e Q q =>
  h σ G H e _ fun vs ds G1 H1 g1 d1 h1 => ⟨Nat.le_trans (by rw [dpa_len d1]; exact h1.1) (by decide : 100000 ≤ sizeLine), fun l hl => by
    have e1 := e.go g1
    have g2 := Go.hid e1.vw (o := .lst vs) hl
    refine q l vs ds G1 _ (g1.trans g2) upd_same (e1.gnone hl) ?_ d1 h1.2
    cases z : H l with
    | none => rfl
    | some o => exact absurd hl (g1.dom (by rw [z]; exact fun z => by cases z))⟩
/-- x = list(e) -/
theorem s_ownList {i : Nat} (h : E K pen H0 te L fun d => ∃ es, (d = .tuple es ∨ d = .list es) ∧ D.nx (L.set i (some (.own (.lst es))))) :
    S K pen H0 (tAsg (tCB (fun xs H Q => ∃ p ys, xs = [.ref p] ∧ (SqL K H p ys ∨ SqT K H p ys) ∧ ∀ l, H l = none → Q (.ref l) (upd H l (.lst ys))) (tCons te tNil)) (gName i)) L D :=
  s_ownL ((el_list (P := fun d => ∃ es, d = .list es ∧ D.nx (L.set i (some (.own (.lst es))))) (h.mono fun d ⟨es, e, p⟩ => ⟨es, e, es, rfl, p⟩)).mono fun ds ⟨es, e, p⟩ => by cases e; exact p)
/-- x = [] -/
theorem s_ownNil {i : Nat} (h : D.nx (L.set i (some (.own (.lst []))))) : S K pen H0 (tAsg (tLst tNil) (gName i)) L D := s_ownL (el_lst (ea_nil ⟨Nat.zero_le _, h⟩))
/-- x[k] = e -/
theorem s_putOwn {j : Nat} {ds : List PyData} (hj : L[j]? = some (some (.own (.lst ds)))) (h : E K pen H0 te L fun d => E K pen H0 ti L fun k => ∃ m : Nat, k = .int m ∧ m < ds.length ∧ D.nx (L.set j (some (.own (.lst (ds.set m d)))))) (nf : noFr L = true := by rfl) :
    S K pen H0 (tAsg te (gSub (tVar j) ti rSetL)) L D := fun σ G H N e n1 _ _ _ _ _ =>
  h σ G H e _ fun v d G1 H1 g1 d1 h1 => by
    have e1 := e.go g1
    obtain ⟨l, ho, k1, k3, k6⟩ := e1.own hj
    refine ⟨_, k1, h1 σ G1 H1 e1 _ fun w k G2 H2 g2 d2 ⟨m, hm, hl, p⟩ => ?_⟩
    subst hm
    cases d2
    have e2 := e1.go g2
    obtain ⟨ho2, q3, q6⟩ := e2.ownAt hj k1
    obtain ⟨vs2, rfl, q6⟩ := q6.lst
    obtain ⟨r1, r2⟩ := e2.putOwn nf hj k1 (o' := .lst (ds.set m d)) (ho := .lst (vs2.set m v)) (dpa_set (dp_mono g2.gg _ _ d1) m q6)
    refine ⟨l, vs2, (m : Int), m, rfl, rfl, q3, ?_, n1 σ G2 _ _ (((e.gx g1).trans (e1.gx g2)).trans r2) r1 p⟩
    rw [dpa_len q6]
    unfold ixN
    rw [if_pos (by omega), if_pos (by omega)]
    simp
/-- x.append(e) -/
theorem s_appOwn {j : Nat} {ds : List PyData} (hj : L[j]? = some (some (.own (.lst ds)))) (hz : ds.length < 100000) (h : E K pen H0 te L fun d => D.nx (L.set j (some (.own (.lst (ds ++ [d])))))) (nf : noFr L = true := by rfl) :
    S K pen H0 (tDrop (tBM K "list" rAppend (tVar j) (tCons te tNil))) L D := fun σ G H N e n1 _ _ _ _ _ => by
  obtain ⟨l, ho, k1, k3, k6⟩ := e.own hj
  obtain ⟨vs, rfl, k6⟩ := k6.lst
  refine ⟨_, k1, .inl ⟨rfl, vs, .inl (.inl k3)⟩, h σ G H e _ fun v d G1 H1 g1 d1 p => ?_⟩
  have e1 := e.go g1
  obtain ⟨ho2, q3, q6⟩ := e1.ownAt hj k1
  obtain ⟨vs2, rfl, q6⟩ := q6.lst
  obtain ⟨r1, r2⟩ := e1.putOwn nf hj k1 (o' := .lst (ds ++ [d])) (ho := .lst (vs2 ++ [v])) (dpa_app q6 (.cons d1 .nil))
  exact ⟨l, vs2, v, rfl, rfl, q3, Nat.lt_of_lt_of_le (by rw [dpa_len q6]; exact hz) (by decide : 100000 ≤ sizeLine), n1 σ G1 _ _ ((e.gx g1).trans r2) r1 p⟩
theorem dpa_erase {G : Hp} : ∀ (n : Nat) {vs : List V} {ds : List PyData}, DpAll K G vs ds → DpAll K G (vs.eraseIdx n) (ds.eraseIdx n)
  | _, _, _, .nil => .nil
  | 0, _, _, .cons _ t => t
  | n + 1, _, _, .cons h t => .cons h (dpa_erase n t)
/-- x.pop(0), the value dropped -/
theorem s_pop0 {j : Nat} {d0 : PyData} {ds : List PyData} (hj : L[j]? = some (some (.own (.lst (d0 :: ds))))) (h : D.nx (L.set j (some (.own (.lst ds))))) (nf : noFr L = true := by rfl) :
    S K pen H0 (tDrop (tBM K "list" rPopAt (tVar j) (tCons (tC (.int 0)) tNil))) L D := fun σ G H N e n1 _ _ _ _ _ => by
  obtain ⟨l, ho, k1, k3, k6⟩ := e.own hj
  obtain ⟨vs, rfl, k6⟩ := k6.lst
  cases k6 with
  | cons h1 h2 =>
    rename_i v vs
    obtain ⟨r1, r2⟩ := e.putOwn nf hj k1 (o' := .lst ds) (ho := .lst vs) h2
    exact ⟨_, k1, .inl ⟨rfl, _, .inl (.inl k3)⟩, l, v :: vs, 0, 0, v, rfl, rfl, k3, by decide, by decide, by unfold seqIndex?; simp, rfl, n1 σ G _ _ r2 r1 h⟩
/-- y = x.pop(0) as a value -/
theorem s_clearOwn {j : Nat} {ds : List PyData} (hj : L[j]? = some (some (.own (.lst ds)))) (h : D.nx (L.set j (some (.own (.lst []))))) (nf : noFr L = true := by rfl) :
    S K pen H0 (tDrop (tBM0 K "list" rClear (tVar j))) L D := fun σ G H N e n1 _ _ _ _ _ => by
  obtain ⟨l, ho, k1, k3, k6⟩ := e.own hj
  obtain ⟨vs, rfl, k6⟩ := k6.lst
  obtain ⟨r1, r2⟩ := e.putOwn nf hj k1 (o' := .lst []) (ho := .lst []) .nil
  exact ⟨_, k1, .inl ⟨rfl, _, .inl (.inl k3)⟩, l, vs, rfl, rfl, k3, n1 σ G _ _ r2 r1 h⟩
/-- tuple(x), x one's own list -/
theorem e_tupRd {j : Nat} {ds : List PyData} (hj : RdO L j (.lst ds)) (p : P (.tuple ds)) :
    E K pen H0 (tCB (fun xs H Q => ∃ p ys, xs = [.ref p] ∧ ((SqL K H p ys ∧ ∀ l, H l = none → Q (.ref l) (upd H l (.tup ys))) ∨ (SqT K H p ys ∧ Q (.ref p) H))) (tCons (tVar j) tNil)) L P := fun σ G H e Q q => by
  obtain ⟨l, ho, k1, k3, k6⟩ := e.rd hj
  obtain ⟨vs, rfl, k6⟩ := k6.lst
  refine ⟨_, k1, l, vs, rfl, .inl ⟨.inl (.inl k3), fun l' hl => ?_⟩⟩
  have g := Go.new e.vw (o := .tup vs) hl
  exact q _ _ _ _ g (.tup (.inl (.inl upd_same)) (dpa_mono g.gg _ _ k6)) p
/-- len(x), x one's own list -/
theorem e_lenRd {j : Nat} {ds : List PyData} (hj : RdO L j (.lst ds)) (p : P (.int ds.length)) :
    E K pen H0 (tCB (fun xs H Q => ∃ p ys, xs = [.ref p] ∧ (SqL K H p ys ∨ SqT K H p ys) ∧ Q (.int ys.length) H) (tCons (tVar j) tNil)) L P := fun σ G H e Q q => by
  obtain ⟨l, ho, k1, k3, k6⟩ := e.rd hj
  obtain ⟨vs, rfl, k6⟩ := k6.lst
  refine ⟨_, k1, l, vs, rfl, .inl (.inl (.inl k3)), ?_⟩
  rw [dpa_len k6]
  exact q _ _ G H (.refl e.vw) (.int _) p
theorem e_tupOwn {j : Nat} {ds : List PyData} (hj : L[j]? = some (some (.own (.lst ds)))) (p : P (.tuple ds)) :
    E K pen H0 (tCB (fun xs H Q => ∃ p ys, xs = [.ref p] ∧ ((SqL K H p ys ∧ ∀ l, H l = none → Q (.ref l) (upd H l (.tup ys))) ∨ (SqT K H p ys ∧ Q (.ref p) H))) (tCons (tVar j) tNil)) L P := e_tupRd (.inl hj) p
theorem e_lenOwn {j : Nat} {ds : List PyData} (hj : L[j]? = some (some (.own (.lst ds)))) (p : P (.int ds.length)) :
    E K pen H0 (tCB (fun xs H Q => ∃ p ys, xs = [.ref p] ∧ (SqL K H p ys ∨ SqT K H p ys) ∧ Q (.int ys.length) H) (tCons (tVar j) tNil)) L P := e_lenRd (.inl hj) p
/-! ### looking at what is one's own as data -/
def lookA : Option AV → Option AV
  | some (.own (.lst ds)) => some (.d (.list ds))
  | some (.fr d) => some (.d d)
  | a => a
def lookL (L : Lv) : Lv := L.map lookA
theorem lookL_get {L : Lv} {i : Nat} {av : AV} (h : (lookL L)[i]? = some (some av)) : ∃ a, L[i]? = some (some a) ∧ lookA (some a) = some av := by
  unfold lookL at h
  rw [List.getElem?_map] at h
  cases e : L[i]? with
  | none => rw [e] at h; cases h
  | some a =>
    rw [e] at h
    have h := Option.some.inj h
    cases a with
    | none => cases h
    | some a => exact ⟨a, rfl, h⟩
theorem same_max {G H : Hp} : Same G (vmax H0 G H) := fun _ _ h => vmax_G h
/-- the own dicts and borrowed ones stay as they are -/
theorem Ev.look {G H : Hp} {σ : L2.St} (e : Ev K pen H0 G H σ L) : Ev K pen H0 (vmax H0 G H) H σ (lookL L) := by
  refine ⟨vw_max e.vw e.h0, e.h0, e.dom, by rw [lookL, List.length_map]; exact e.len, fun i av hi => ?_, fun i j ds es l h1 h2 => ?_⟩
  · obtain ⟨a, ha, hl⟩ := lookL_get hi
    obtain ⟨v, k1, k2⟩ := e.sl i a ha
    refine ⟨v, k1, ?_⟩
    cases a with
    | d x => cases hl; exact dp_mono same_max _ _ k2
    | pen => cases hl; exact k2
    | bor o => cases hl; obtain ⟨l, ho, q1, q2, q3, q4, q5⟩ := k2; exact ⟨l, ho, q1, q2, q3, q4, q5.mono same_max⟩
    | fr x => cases hl; exact dp_mono vnew_max _ _ (nd_dp _ _ k2)
    | own o =>
      obtain ⟨l, ho, rfl, q2, q3, q4, q5⟩ := k2
      cases o with
      | lst ds =>
        cases hl
        obtain ⟨vs, rfl, q5⟩ := q5.lst
        exact .lst (.inl (.inl (by rw [vmax_new q4]; exact newL_of q3 q2))) (dpa_mono same_max _ _ q5)
      | dK m =>
        cases hl
        obtain ⟨kvs, rfl, q6⟩ := q5.dK
        refine ⟨l, _, rfl, q2, q3, ?_, q5.mono same_max⟩
        rw [vmax_new q4]
        unfold newL
        rw [q3, q2]
      | dN w m =>
        cases hl
        obtain ⟨kvs, rfl, q6⟩ := q5.dN
        refine ⟨l, _, rfl, q2, q3, ?_, q5.mono same_max⟩
        rw [vmax_new q4]
        unfold newL
        rw [q3, q2]
        rfl
      | dF w m =>
        cases hl
        obtain ⟨od, kvs, rfl, q6⟩ := q5.dF
        refine ⟨l, _, rfl, q2, q3, ?_, q5.mono same_max⟩
        rw [vmax_new q4]
        unfold newL
        rw [q3, q2]
  · obtain ⟨a, ha, hl⟩ := lookL_get h1
    obtain ⟨b, hb, hl2⟩ := lookL_get h2
    have own : ∀ (a : AV) (o : OO), lookA (some a) = some (.own o) → ∃ o', a = .own o' := fun a o h => by
      cases a with
      | own o' => exact ⟨o', rfl⟩
      | _ => cases h
    obtain ⟨o1, rfl⟩ := own a _ hl
    obtain ⟨o2, rfl⟩ := own b _ hl2
    exact e.ow i j o1 o2 l ha hb
/-- back to the data alone: what is without a list stays -/
def bakV (G H Gu : Hp) : Hp := fun a => match G a with
  | some o => some o
  | none => match H a with
    | some _ => none
    | none => Gu a
theorem bak_G {G H Gu : Hp} {a : Addr} {o : HO} (h : G a = some o) : bakV G H Gu a = some o := by unfold bakV; rw [h]
theorem bak_H {G H Gu : Hp} {a : Addr} (h : G a = none) (h2 : H a ≠ none) : bakV G H Gu a = none := by
  unfold bakV; rw [h]
  cases e : H a with
  | none => exact absurd e h2
  | some o => rfl
theorem bak_N {G H Gu : Hp} {a : Addr} (h : G a = none) (h2 : H a = none) : bakV G H Gu a = Gu a := by unfold bakV; rw [h, h2]
theorem look_back {G H Gu' H' : Hp} (vw : Vw pen G H) (h0 : POk pen H0) (g : Go pen (vmax H0 G H) H Gu' H') : ∃ G', Go pen G H G' H' ∧ (∀ a xs, Rd Gu' a (.tup xs) → Rd G' a (.tup xs)) ∧ ∀ a, H a = none → Gu' a = none → G' a = none := by
  have hN : ∀ a, H a = none → G a = none := fun a h => by
    cases e : G a with
    | none => rfl
    | some o => rw [vw.vw _ _ e] at h; cases h
  refine ⟨bakV G H Gu', ⟨fun a o e => bak_G e, fun a h => ?_, g.od, ⟨fun a o e => ?_, fun a p => bak_H (vw.no a p) (vw.ok.there p), g.vw.ok⟩⟩, fun a xs r => ?_, fun a h1 h2 => ?_⟩
  · cases e : G a with
    | some o => exact bak_G e
    | none => exact bak_H e h
  · cases e1 : G a with
    | some u =>
      rw [bak_G e1] at e
      cases e
      exact g.vw.vw _ _ (g.gg _ _ (vmax_G e1))
    | none =>
      by_cases e2 : H a = none
      · rw [bak_N e1 e2] at e
        exact g.vw.vw _ _ e
      · rw [bak_H e1 e2] at e; cases e
  · have one : ∀ u, (∀ ys, u ≠ HO.lst ys) → Gu' a = some u → bakV G H Gu' a = some u := fun u nu e => by
      by_cases e2 : H a = none
      · rw [bak_N (hN a e2) e2]; exact e
      · have e3 := g.nw a e2
        rw [e] at e3
        rcases vmax_cases e3.symm with k | ⟨_, _, _, ys, z⟩
        · exact bak_G k
        · exact absurd z (nu ys)
    rcases r with r | ⟨o, r⟩
    · exact .inl (one _ (fun _ z => by cases z) r)
    · exact .inr ⟨o, one _ (fun _ z => by cases z) r⟩
  · rw [bak_N (hN a h1) h1]; exact h2
theorem e_look (h : E K pen H0 te (lookL L) fun d => noL d = true ∧ P d) : E K pen H0 te L P := fun σ G H e Q q =>
  h σ _ H e.look Q fun v d G' H' g hd ⟨n, p⟩ => by
    obtain ⟨G1, g1, k, k0⟩ := look_back e.vw e.h0 g
    exact q v d G1 H' g1 (dp_nol k d v n hd) p
theorem et_look (h : ET K pen H0 tt (lookL L) Pb) : ET K pen H0 tt L Pb := fun σ G H e Q q =>
  h σ _ H e.look Q fun b G' H' g p => by
    obtain ⟨G1, g1, k, k0⟩ := look_back e.vw e.h0 g
    exact q b G1 H' g1 p
theorem ea_look {Pl : List PyData → Prop} (h : EA K pen H0 tl (lookL L) fun ds => noLs ds = true ∧ Pl ds) : EA K pen H0 tl L Pl := fun σ G H e Q q =>
  h σ _ H e.look Q fun v d G' H' g hd ⟨n, p⟩ => by
    obtain ⟨G1, g1, k, k0⟩ := look_back e.vw e.h0 g
    exact q v d G1 H' g1 (dpa_nol k d v n hd) p
/-- a new list, made while looking: its items without a list -/
theorem el_look {Pl : List PyData → Prop} (h : EL K pen H0 te (lookL L) fun ds => noLs ds = true ∧ Pl ds) : EL K pen H0 te L Pl := fun σ G H e Q q =>
  h σ _ H e.look Q fun l vs ds G' H' g h1 h2 h3 hd ⟨n, p⟩ => by
    obtain ⟨G1, g1, k, k0⟩ := look_back e.vw e.h0 g
    exact q l vs ds G1 H' g1 h1 (k0 l h3 h2) h3 (dpa_nol k ds vs n hd) p
/-- return, looking -/
theorem s_retL (h : E K pen H0 te (lookL L) D.rt) : S K pen H0 (tRet te) L D := fun σ G H N e _ n2 _ _ _ _ => h σ _ H e.look _ fun v d G' H' g hd p => by
  have x := e.look.gx g
  refine n2 v d G' H' ⟨same_max.trans x.gg, fun a ha => ?_, x.od⟩ g.vw hd p
  rw [x.nw a ha]
  cases e1 : G a with
  | some o => exact vmax_G e1
  | none =>
    rw [vmax_new e1]
    cases z : newL H0 H a with
    | none => rfl
    | some o => exact absurd (newL_some z).1 ha
/-! ### told as new -/
def EN (K : PySem.W.Frag) (pen : Pc) (H0 : Hp) (te : TE) (L : Lv) (P : PyData → Prop) : Prop := ∀ (σ : L2.St) (G H : Hp), Ev K pen H0 G H σ L → ∀ Q : VK, (∀ v d G' H', Go pen G H G' H' → Nd K (vnew H0 G' H') v d → P d → Q v H') → te σ H Q
def ENA (K : PySem.W.Frag) (pen : Pc) (H0 : Hp) (tl : TA) (L : Lv) (P : List PyData → Prop) : Prop := ∀ (σ : L2.St) (G H : Hp), Ev K pen H0 G H σ L → ∀ Q : List V → Hp → Prop, (∀ v d G' H', Go pen G H G' H' → NdAll K (vnew H0 G' H') v d → P d → Q v H') → tl σ H Q
theorem nd_of {G H : Hp} {v : V} {d : PyData} (n : noL d = true) (h : Dp K G v d) : Nd K (vnew H0 G H) v d := by
  refine dp_nd d v n (dp_nol (fun a xs r => ?_) d v n h)
  rcases r with r | ⟨o, r⟩
  · exact .inl (vnew_G r rfl)
  · exact .inr ⟨o, vnew_G r rfl⟩
theorem nda_of {G H : Hp} {v : List V} {d : List PyData} (n : noLs d = true) (h : DpAll K G v d) : NdAll K (vnew H0 G H) v d := by
  refine dpa_nda d v n (dpa_nol (fun a xs r => ?_) d v n h)
  rcases r with r | ⟨o, r⟩
  · exact .inl (vnew_G r rfl)
  · exact .inr ⟨o, vnew_G r rfl⟩
theorem en_e (h : E K pen H0 te L fun d => noL d = true ∧ P d) : EN K pen H0 te L P := fun σ G H e Q q => h σ G H e Q fun v d G' H' g hd ⟨n, p⟩ => q v d G' H' g (nd_of n hd) p
theorem en_own {j : Nat} {ds : List PyData} (hj : L[j]? = some (some (.own (.lst ds)))) (n : noLs ds = true) (p : P (.list ds)) : EN K pen H0 (tVar j) L P := fun σ G H e Q q => by
  obtain ⟨x, k1, l, ho, rfl, k3, k4, k5, k6⟩ := e.sl j _ hj
  obtain ⟨vs, rfl, k6⟩ := k6.lst
  exact ⟨_, k1, q _ _ G H (.refl e.vw) (.lst (vnew_of k5 k4 k3) (nda_of n k6)) p⟩
theorem en_el (h : EL K pen H0 te L fun ds => noLs ds = true ∧ P (.list ds)) : EN K pen H0 te L P := fun σ G H e Q q => h σ G H e Q fun l vs ds G' H' g h1 h2 h3 hd ⟨n, p⟩ =>
  q _ _ G' H' g (.lst (vnew_of h2 (e.h0none h3) h1) (nda_of n hd)) p
theorem ena_nil {Pl : List PyData → Prop} (p : Pl []) : ENA K pen H0 tNil L Pl := fun σ G H e Q q => q [] [] G H (.refl e.vw) .nil p
theorem ena_cons {Pl : List PyData → Prop} (h : EN K pen H0 ta L fun a => ENA K pen H0 tr L fun ds => Pl (a :: ds)) : ENA K pen H0 (tCons ta tr) L Pl := fun σ G H e Q q =>
  h σ G H e _ fun v a G1 H1 g1 d1 h1 => h1 σ G1 H1 (e.go g1) _ fun vs ds G2 H2 g2 d2 p => q _ _ G2 H2 (g1.trans g2) (.cons (nd_mono (vnew_go e.h0 g2 g1.vw.vw) _ _ d1) d2) p
theorem nda_len {W : Hp} : ∀ {vs : List V} {ds : List PyData}, NdAll K W vs ds → vs.length = ds.length
  | _, _, .nil => rfl
  | _, _, .cons _ h => by rw [List.length_cons, List.length_cons, nda_len h]
theorem en_tup (h : ENA K pen H0 tl L fun ds => ds.length ≤ 100000 ∧ P (.tuple ds)) : EN K pen H0 (tTup tl) L P := fun σ G H e Q q =>
  h σ G H e _ fun vs ds G1 H1 g1 d1 h1 => ⟨Nat.le_trans (by rw [nda_len d1]; exact h1.1) (by decide : 100000 ≤ sizeLine), fun p hp => by
    have g2 := Go.new g1.vw (o := .tup vs) hp
    exact q _ _ _ _ (g1.trans g2) (.tup (.inl (.inl (vnew_G upd_same rfl))) (nda_mono (vnew_go e.h0 g2 g1.vw.vw) _ _ d1)) h1.2⟩
theorem en_if {t : TT} (h : ET K pen H0 t L fun a => (a = true → EN K pen H0 ta L P) ∧ (a = false → EN K pen H0 tb L P)) : EN K pen H0 (tIf t ta tb) L P := fun σ G H e Q q =>
  h σ G H e _ fun a G1 H1 g1 h1 => by
    cases a with
    | true => exact h1.1 rfl σ G1 H1 (e.go g1) Q fun w b G2 H2 g2 d2 p => q w b G2 H2 (g1.trans g2) d2 p
    | false => exact h1.2 rfl σ G1 H1 (e.go g1) Q fun w b G2 H2 g2 d2 p => q w b G2 H2 (g1.trans g2) d2 p
theorem EN.mono {P' : PyData → Prop} (h : EN K pen H0 te L P) (k : ∀ d, P d → P' d) : EN K pen H0 te L P' := fun σ G H e Q q => h σ G H e Q fun v d G' H' g hd p => q v d G' H' g hd (k d p)
/-- a call that tells what is new, seen from a frame: lists new at the call are new in the frame -/
theorem vnew_call {G1 H1 G' H' : Hp} (dom : ∀ a, H0 a ≠ none → H1 a ≠ none) : Same (vnew H1 G' H') (vnew H0 G' H') := fun a o h => by
  rcases vnew_cases h with ⟨k, z⟩ | ⟨k, k0, k1, xs, rfl⟩
  · exact vnew_G k z
  · refine vnew_of k ?_ k1
    cases z : H0 a with
    | none => rfl
    | some u => exact absurd k0 (dom a (by rw [z]; exact fun z => by cases z))
theorem en_callF {α : Type} {pn : Option Pn} {ts : List Addr} {Wf : α → Prop} {enc : α → List PyData} {res : α → PyData → Prop} {X : XK} (h : EA K ⟨pn, ts⟩ H0 tl L fun ds => ∃ x, ds = enc x ∧ Wf x ∧ ∀ d, res x d → P d) : EN K ⟨pn, ts⟩ H0 (tCall (SpXF K ts Wf enc res) [] X tl) L P := fun σ G H e Q q =>
  h σ G H e _ fun vs ds G1 H1 go hd ⟨x, hx, h1, h2⟩ => ⟨x, G1, go.vw.plain, by rw [List.append_nil, ← hx]; exact hd, h1, fun v d G' H' go2 hd2 p =>
    q v d G' H' (go.trans (go2.lift go.vw)) (nd_mono (vnew_call (G1 := G1) (e.go go).dom) _ _ hd2) (h2 d p)⟩
theorem s_retN (h : EN K pen H0 te L D.rn) : S K pen H0 (tRet te) L D := fun σ G H N e _ _ _ _ n5 _ => h σ G H e _ fun v d G' H' g hd p => n5 v d G' H' (e.gx g) g.vw hd p
/-- x = what is told as new -/
theorem Ev.setFr {G H : Hp} {σ : L2.St} (e : Ev K pen H0 G H σ L) {i : Nat} {v : V} {x : PyData} (h : Nd K (vnew H0 G H) v x) : Ev K pen H0 G H (σ.set i (some v)) (L.set i (some (.fr x))) := by
  refine ⟨e.vw, e.h0, e.dom, by rw [List.length_set, List.length_set]; exact e.len, fun j av hj => ?_, fun j k ds es l h1 h2 h3 h4 => ?_⟩
  · by_cases q : i = j
    · subst q
      have hl : i < L.length := by
        have := (List.getElem?_eq_some_iff.mp hj).1
        rw [List.length_set] at this; exact this
      rw [List.getElem?_set_self hl] at hj
      have := Option.some.inj (Option.some.inj hj)
      subst this
      exact ⟨v, List.getElem?_set_self (by rw [e.len]; exact hl), h⟩
    · rw [List.getElem?_set_ne q] at hj
      obtain ⟨w, h1, h2⟩ := e.sl j av hj
      exact ⟨w, by rw [List.getElem?_set_ne q]; exact h1, h2⟩
  · have nj : ∀ (j : Nat) (ds : OO), (L.set i (some (.fr x)))[j]? = some (some (.own ds)) → i ≠ j := fun j ds hj q => by
      subst q
      have hl : i < L.length := by
        have := (List.getElem?_eq_some_iff.mp hj).1
        rw [List.length_set] at this; exact this
      rw [List.getElem?_set_self hl] at hj
      cases hj
    have q1 := nj j ds h1
    have q2 := nj k es h2
    rw [List.getElem?_set_ne q1] at h1 h3
    rw [List.getElem?_set_ne q2] at h2 h4
    exact e.ow j k ds es l h1 h2 h3 h4
theorem s_asgN {i : Nat} (h : EN K pen H0 te L fun d => D.nx (L.set i (some (.fr d)))) : S K pen H0 (tAsg te (gName i)) L D := fun σ G H N e n1 _ _ _ _ _ =>
  h σ G H e _ fun v d G' H' g hd p => n1 _ G' H' _ (e.gx g) ((e.go g).setFr hd) p
def onlyD : Lv → Bool
  | [] => true
  | some (.own _) :: _ => false
  | some (.fr _) :: _ => false
  | _ :: L => onlyD L
theorem onlyD_get : ∀ {L : Lv} {i : Nat} {a : AV}, onlyD L = true → L[i]? = some (some a) → (∀ o, a ≠ .own o) ∧ (∀ x, a ≠ .fr x)
  | [], _, _, _, h => by simp at h
  | a :: L, 0, x, n, h => by
    have := Option.some.inj h
    subst this
    cases x <;> first | cases n | exact ⟨fun _ z => (by cases z), fun _ z => (by cases z)⟩
  | a :: L, i + 1, x, n, h => by
    have n' : onlyD L = true := by
      cases a with
      | none => exact n
      | some av => cases av <;> first | exact n | cases n
    exact onlyD_get (L := L) (i := i) n' h
/-- a list that was told is changed, and looked at no more -/
theorem Ev.spoil {G H : Hp} {σ : L2.St} (e : Ev K pen H0 G H σ L) (od : onlyD L = true) {l : Addr} {ho : HO} (h0 : H0 l = none) (g : G l = none) (hk : ∀ q, H l ≠ some (LamX.CodeO l q)) : Ev K pen H0 G (upd H l ho) σ L ∧ Gx pen H0 G H G (upd H l ho) := by
  have n0 : ∀ a, H0 a ≠ none → a ≠ l := fun a h z => h (by rw [z]; exact h0)
  have ng : ∀ a o, G a = some o → a ≠ l := fun a o q z => by rw [z, g] at q; cases q
  refine ⟨⟨⟨fun a o q => by rw [upd_ne (ng a o q)]; exact e.vw.vw a o q, e.vw.no, e.vw.ok.upd e.h0 h0 hk⟩, e.h0, fun a h => by rw [upd_ne (n0 a h)]; exact e.dom a h, e.len, fun i av hi => ?_, e.ow⟩, Same.refl _, fun _ _ => rfl, fun a o _ h q => by rw [upd_ne (n0 a h)]; exact q⟩
  obtain ⟨v, k1, k2⟩ := e.sl i av hi
  obtain ⟨no, nf⟩ := onlyD_get od hi
  refine ⟨v, k1, ?_⟩
  cases av with
  | d x => exact k2
  | pen => exact k2
  | own o => exact absurd rfl (no o)
  | fr x => exact absurd rfl (nf x)
  | bor o =>
    obtain ⟨l3, vs3, rfl, m3, m4, m5, m6⟩ := k2
    refine ⟨l3, vs3, rfl, ?_, m4, m5, m6⟩
    rw [upd_ne (n0 l3 (by rw [m4]; exact fun z => by cases z))]
    exact m3
theorem same_new {G H : Hp} {σ : L2.St} (e : Ev K pen H0 G H σ L) : Same (vnew H0 G H) H := vnew_max.trans (vw_max e.vw e.h0).vw
theorem nd_list {G H : Hp} {v : V} {ds : List PyData} (h : Nd K (vnew H0 G H) v (.list ds)) : ∃ l vs, v = .ref l ∧ H l = some (.lst vs) ∧ H0 l = none ∧ G l = none ∧ vs.length = ds.length := by
  cases h with
  | lst hs ha =>
    rcases vnew_cases hs with ⟨_, z⟩ | ⟨k, k0, k1, _⟩
    · cases z
    · exact ⟨_, _, rfl, k1, k0, k, nda_len ha⟩
theorem nda_get {W : Hp} : ∀ {vs : List V} {ds : List PyData} {i : Nat} {d : PyData}, NdAll K W vs ds → ds[i]? = some d → ∃ v, vs[i]? = some v ∧ Nd K W v d
  | _, _, _, _, .nil, e => by simp at e
  | _, _, 0, _, .cons (v := v) h _, e => by
    have e' := Option.some.inj e
    subst e'
    exact ⟨v, rfl, h⟩
  | _, _, i + 1, d, .cons _ t, e => nda_get (i := i) (d := d) t e
theorem Ev.forget {G H : Hp} {σ : L2.St} (e : Ev K pen H0 G H σ L) (i : Nat) (od : onlyD (L.set i none) = true) : Ev K pen H0 G H σ (L.set i none) := ⟨e.vw, e.h0, e.dom, by rw [List.length_set]; exact e.len, fun j av hj => by
    by_cases q : i = j
    · subst q
      have hl : i < L.length := by
        have := (List.getElem?_eq_some_iff.mp hj).1
        rw [List.length_set] at this; exact this
      rw [List.getElem?_set_self hl] at hj
      cases hj
    · rw [List.getElem?_set_ne q] at hj
      exact e.sl j av hj, fun j k a b l' h1 h2 => by
    have z : ∀ (j : Nat) (o : OO), (L.set i none)[j]? ≠ some (some (.own o)) := fun j o hj => (onlyD_get od hj).1 o rfl
    exact absurd h1 (z j a)⟩
/-- x.append(e), x told as new -/
theorem s_appFr {i : Nat} {ds : List PyData} (hi : L[i]? = some (some (.fr (.list ds)))) (hz : ds.length < 100000) (h : E K pen H0 te (L.set i none) fun _ => D.nx (L.set i none)) (od : onlyD (L.set i none) = true := by rfl) :
    S K pen H0 (tDrop (tBM K "list" rAppend (tVar i) (tCons te tNil))) L D := fun σ G H N e n1 _ _ _ _ _ => by
  obtain ⟨v, k1, k2⟩ := e.sl i _ hi
  obtain ⟨l, vs, rfl, m1, m2, m3, m4⟩ := nd_list k2
  have e' := e.forget i od
  refine ⟨_, k1, .inl ⟨rfl, vs, .inl (.inl m1)⟩, h σ G H e' _ fun w d G1 H1 g1 d1 p => ?_⟩
  have np : ¬ IsPn pen l := fun q => e.h0.there q m2
  have q1 := g1.od _ _ np m1
  have q2 : G1 l = none := (g1.nw l (by rw [m1]; exact fun z => by cases z)).trans m3
  obtain ⟨r1, r2⟩ := (e'.go g1).spoil od (ho := .lst (vs ++ [w])) m2 q2 (code_ne q1 rfl)
  exact ⟨l, vs, w, rfl, rfl, q1, Nat.lt_of_lt_of_le (by rw [m4]; exact hz) (by decide : 100000 ≤ sizeLine), n1 σ G1 _ _ ((e'.gx g1).trans r2) r1 p⟩
theorem s_clearFr {i : Nat} {ds : List PyData} (hi : L[i]? = some (some (.fr (.list ds)))) (h : D.nx (L.set i none)) (od : onlyD (L.set i none) = true := by rfl) :
    S K pen H0 (tDrop (tBM0 K "list" rClear (tVar i))) L D := fun σ G H N e n1 _ _ _ _ _ => by
  obtain ⟨v, k1, k2⟩ := e.sl i _ hi
  obtain ⟨l, vs, rfl, m1, m2, m3, m4⟩ := nd_list k2
  obtain ⟨r1, r2⟩ := (e.forget i od).spoil od (ho := .lst []) m2 m3 (code_ne m1 rfl)
  exact ⟨_, k1, .inl ⟨rfl, vs, .inl (.inl m1)⟩, l, vs, rfl, rfl, m1, n1 σ G _ _ r2 r1 h⟩
theorem fr_part {G H : Hp} {σ : L2.St} (e : Ev K pen H0 G H σ L) {i k : Nat} {ds es : List PyData} (hi : L[i]? = some (some (.fr (.tuple ds)))) (hk : ds[k]? = some (.list es)) :
    ∃ t xs l vs, σ[i]? = some (some (.ref t)) ∧ SqT K H t xs ∧ xs[k]? = some (.ref l) ∧ H l = some (.lst vs) ∧ H0 l = none ∧ G l = none ∧ vs.length = es.length := by
  obtain ⟨v, k1, k2⟩ := e.sl i _ hi
  cases k2 with
  | tup hs ha =>
    obtain ⟨w, q1, q2⟩ := nda_get ha hk
    obtain ⟨l, vs, rfl, m1, m2, m3, m4⟩ := nd_list q2
    exact ⟨_, _, l, vs, k1, sqT_mono (same_new e) hs, q1, m1, m2, m3, m4⟩
/-- x[k].append(e), x a told tuple -/
theorem s_appFrT {i k : Nat} {ds es : List PyData} (hi : L[i]? = some (some (.fr (.tuple ds)))) (hk : ds[k]? = some (.list es)) (hz : es.length < 100000) (h : E K pen H0 te (L.set i none) fun _ => D.nx (L.set i none)) (od : onlyD (L.set i none) = true := by rfl) :
    S K pen H0 (tDrop (tBM K "list" rAppend (tOp (rIxT K) (tVar i) (tC (.int k))) (tCons te tNil))) L D := fun σ G H N e n1 _ _ _ _ _ => by
  obtain ⟨t, xs, l, vs, k1, k2, k3, m1, m2, m3, m4⟩ := fr_part e hi hk
  have e' := e.forget i od
  refine ⟨_, k1, t, xs, k, .ref l, rfl, rfl, k2, atI_nat k3, .inl ⟨rfl, vs, .inl (.inl m1)⟩, h σ G H e' _ fun w d G1 H1 g1 d1 p => ?_⟩
  have np : ¬ IsPn pen l := fun q => e.h0.there q m2
  have q1 := g1.od _ _ np m1
  have q2 : G1 l = none := (g1.nw l (by rw [m1]; exact fun z => by cases z)).trans m3
  obtain ⟨r1, r2⟩ := (e'.go g1).spoil od (ho := .lst (vs ++ [w])) m2 q2 (code_ne q1 rfl)
  exact ⟨l, vs, w, rfl, rfl, q1, Nat.lt_of_lt_of_le (by rw [m4]; exact hz) (by decide : 100000 ≤ sizeLine), n1 σ G1 _ _ ((e'.gx g1).trans r2) r1 p⟩
theorem s_clearFrT {i k : Nat} {ds es : List PyData} (hi : L[i]? = some (some (.fr (.tuple ds)))) (hk : ds[k]? = some (.list es)) (h : D.nx (L.set i none)) (od : onlyD (L.set i none) = true := by rfl) :
    S K pen H0 (tDrop (tBM0 K "list" rClear (tOp (rIxT K) (tVar i) (tC (.int k))))) L D := fun σ G H N e n1 _ _ _ _ _ => by
  obtain ⟨t, xs, l, vs, k1, k2, k3, m1, m2, m3, m4⟩ := fr_part e hi hk
  obtain ⟨r1, r2⟩ := (e.forget i od).spoil od (ho := .lst []) m2 m3 (code_ne m1 rfl)
  exact ⟨_, k1, t, xs, k, .ref l, rfl, rfl, k2, atI_nat k3, .inl ⟨rfl, vs, .inl (.inl m1)⟩, l, vs, rfl, rfl, m1, n1 σ G _ _ r2 r1 h⟩
theorem r_neB {i j : Bool} (p : P (.bool (!decide (i = j)))) : R2d K pen rNe (.bool i) (.bool j) P := fun x y G H v hx hy Q q => by
  cases hx
  cases hy
  refine ⟨rfl, ?_⟩
  rw [show decide (V.bl i = V.bl j) = decide (i = j) by rw [dec_bl]; exact Bool.beq_eq_decide_eq i j]
  exact q _ _ G H (.refl v) (.bl _) p
/-- False not in a list of truths -/
theorem dpa_bls {G : Hp} : ∀ {vs : List V} {bs : List Bool}, DpAll K G vs (bs.map PyData.bool) → vs = bs.map V.bl
  | _, [], h => by cases h; rfl
  | _, b :: bs, h => by
    cases h with
    | cons h1 h2 =>
      cases h1
      rw [dpa_bls h2]
      rfl
theorem inV_false (bs : List Bool) : inV (.bl false) (bs.map V.bl) = bs.any (!·) := by
  unfold inV
  rw [List.any_map]
  congr 1
  funext b
  cases b <;> rfl
theorem flat_bls (bs : List Bool) : (bs.map V.bl).all flatV = true := by
  rw [List.all_eq_true]
  intro x hx
  obtain ⟨b, _, rfl⟩ := List.mem_map.mp hx
  rfl
theorem r_notIn {bs : List Bool} (p : P (.bool (!bs.any (!·)))) : R2d K pen (rIn K true) (.bool false) (.list (bs.map PyData.bool)) P := fun x y G H v hx hy Q q => by
  cases hx
  cases hy with
  | lst hs ha =>
    have e := dpa_bls ha
    subst e
    refine ⟨_, _, rfl, .inl (sqL_mono v.vw hs), rfl, flat_bls bs, ?_⟩
    rw [if_pos rfl, inV_false]
    exact q _ _ G H (.refl v) (.bl _) p
end
/-! ### the pen's own def -/
section
variable {K : PySem.W.Frag} {p : Pn} {pa pc : Addr} {pn : Nat} {ts : List Addr} {H0 : Hp} {L : Lv} {P P' : PyData → Prop} {ta tb tc te ti : TE} {D : Dn}
theorem Ev.pen {G H : Hp} {σ : L2.St} (e : Ev K ⟨some p, ts⟩ H0 G H σ L) {i : Nat} (hi : L[i]? = some (some .pen)) : σ[i]? = some (some (.ref p.a)) := by
  obtain ⟨v, hv, q, hq, rfl⟩ := e.sl i _ hi
  cases hq
  exact hv
/-- the pen is written -/
theorem Ev.putPen {G H : Hp} {σ : L2.St} (e : Ev K ⟨some p, ts⟩ H0 G H σ L) {o : HO} (h : PenOk p (upd H p.a o)) : Ev K ⟨some p, ts⟩ H0 G (upd H p.a o) σ L ∧ Gx ⟨some p, ts⟩ H0 G H G (upd H p.a o) := by
  have h0 : H0 p.a ≠ none := e.h0.there (.inl ⟨p, rfl, rfl⟩)
  have ga : G p.a = none := e.vw.no _ (.inl ⟨p, rfl, rfl⟩)
  refine ⟨⟨⟨fun b o q => ?_, e.vw.no, fun p' hp' => by cases hp'; exact h, fun P hP => tabX_upd (e.vw.ok.2 P hP) (fun z => e.vw.ok.apart (p := p) rfl hP (.inl z)) (let ⟨_, hx⟩ := (e.vw.ok.1 p rfl).lst (.inl rfl); code_ne hx rfl)⟩, e.h0, fun b hb => ?_, e.len, fun j av hj => ?_, e.ow⟩, Same.refl _, fun _ _ => rfl, fun b o hb _ q => ?_⟩
  · rw [upd_ne (fun w => by rw [w, ga] at q; cases q)]; exact e.vw.vw b o q
  · by_cases w : b = p.a
    · rw [w, upd_same]; exact fun z => by cases z
    · rw [upd_ne w]; exact e.dom b hb
  · obtain ⟨x, q1, q2⟩ := e.sl j av hj
    refine ⟨x, q1, ?_⟩
    cases av with
    | d x => exact q2
    | pen => exact q2
    | own ds =>
      obtain ⟨l, vs, rfl, k3, k4, k5⟩ := q2
      exact ⟨l, vs, rfl, by rw [upd_ne (fun w => h0 (by rw [← w]; exact k4))]; exact k3, k4, k5⟩
    | bor ds =>
      obtain ⟨l, vs, rfl, k3, k4, k5, k6⟩ := q2
      exact ⟨l, vs, rfl, by rw [upd_ne (fun w => k5 (.inl ⟨p, rfl, w⟩))]; exact k3, k4, k5, k6⟩
    | fr x =>
      refine nd_mono (fun a o h => ?_) _ _ q2
      rcases vnew_cases h with ⟨k, z⟩ | ⟨k, k0, k1, xs, rfl⟩
      · exact vnew_G k z
      · exact vnew_of k k0 (by rw [upd_ne (fun w => h0 (by rw [← w]; exact k0))]; exact k1)
  · rw [upd_ne (fun w => hb (.inl ⟨p, rfl, w⟩))]; exact q
theorem e_pen {i : Nat} {k : Int} (hi : L[i]? = some (some .pen)) (hk : k = 1 ∨ k = 2) (h : ∀ z : Int, 0 ≤ z → P (.int z)) : E K ⟨some ⟨pa, .pen pc pn⟩, ts⟩ H0 (tOp (rIxL K) (tVar i) (tC (.int k))) L P := fun σ G H e Q q => by
  obtain ⟨cells, at_, rest, m1, m2, m3, m4, m5⟩ := e.vw.ok.1 _ rfl
  refine ⟨_, e.pen hi, pa, _, k, .int (if k = 1 then at_ else rest), rfl, rfl, .inl (.inl m1), ?_, q _ _ G H (.refl e.vw) (.int _) (h _ ?_)⟩
  · rcases hk with rfl | rfl
    · rfl
    · rfl
  · split <;> assumption
theorem e_penLen {i : Nat} (hi : L[i]? = some (some .pen)) (h : P (.int pn)) : E K ⟨some ⟨pa, .pen pc pn⟩, ts⟩ H0 (tCB (fun xs H Q => ∃ p ys, xs = [.ref p] ∧ (SqL K H p ys ∨ SqT K H p ys) ∧ Q (.int ys.length) H) (tCons (tOp (rIxL K) (tVar i) (tC (.int 0))) tNil)) L P := fun σ G H e Q q => by
  obtain ⟨cells, at_, rest, m1, m2, m3, m4, m5⟩ := e.vw.ok.1 _ rfl
  refine ⟨_, e.pen hi, pa, _, 0, .ref pc, rfl, rfl, .inl (.inl m1), rfl, pc, _, rfl, .inl (.inl (.inl m2)), ?_⟩
  rw [List.length_map, m5]
  exact q _ _ G H (.refl e.vw) (.int _) h
theorem e_penIx {i : Nat} (hi : L[i]? = some (some .pen)) (h : E K ⟨some ⟨pa, .pen pc pn⟩, ts⟩ H0 ti L fun k => ∃ m : Nat, k = .int m ∧ m < pn ∧ ∀ z : Int, P (.int z)) : E K ⟨some ⟨pa, .pen pc pn⟩, ts⟩ H0 (tOp (rIxL K) (tOp (rIxL K) (tVar i) (tC (.int 0))) ti) L P := fun σ G H e Q q => by
  obtain ⟨cells, at_, rest, m1, m2, m3, m4, m5⟩ := e.vw.ok.1 _ rfl
  refine ⟨_, e.pen hi, pa, _, 0, .ref pc, rfl, rfl, .inl (.inl m1), rfl, h σ G H e _ fun v k G1 H1 go hd ⟨m, hm, hl, hp⟩ => ?_⟩
  subst hm
  cases hd
  have m2' : H1 pc = some (.lst (cells.map V.int)) := go.od _ _ (fun z => by
    rcases z with ⟨q, z, w⟩ | z
    · cases z
      have w : pc = pa := w
      rw [w, m1] at m2
      cases cells with
      | nil => cases m2
      | cons x r => cases m2
    · exact e.vw.ok.apart (p := ⟨pa, .pen pc pn⟩) rfl z (.inr ⟨_, _, rfl, rfl⟩)) m2
  refine ⟨pc, _, (m : Int), .int cells[m], rfl, rfl, .inl (.inl m2'), ?_, q _ _ G1 H1 go (.int _) (hp _)⟩
  refine atI_nat ?_
  rw [List.getElem?_map, List.getElem?_eq_getElem (by rw [m5]; exact hl)]
  rfl
theorem s_pen {i : Nat} {k : Int} (hi : L[i]? = some (some .pen)) (hk : k = 1 ∨ k = 2) (h : E K ⟨some ⟨pa, .pen pc pn⟩, ts⟩ H0 te L fun d => ∃ z, d = .int z ∧ 0 ≤ z ∧ D.nx L) : S K ⟨some ⟨pa, .pen pc pn⟩, ts⟩ H0 (tAsg te (gSub (tVar i) (tC (.int k)) rSetL)) L D := fun σ G H N e n1 _ _ _ _ _ =>
  h σ G H e _ fun v d G1 H1 g1 d1 ⟨z, hz, z0, hp⟩ => by
    subst hz
    cases d1
    have e1 := e.go g1
    obtain ⟨cells, at_, rest, m1, m2, m3, m4, m5⟩ := e1.vw.ok.1 _ rfl
    have ne : pc ≠ pa := fun w => by
      have m1 : H1 pa = _ := m1
      rw [w, m1] at m2
      cases cells with
      | nil => cases m2
      | cons x r => cases m2
    have put : ∀ (a r : Int), 0 ≤ a → 0 ≤ r → N.nx σ (upd H1 pa (.lst [.ref pc, .int a, .int r])) := fun a r ha hr => by
      obtain ⟨r1, r2⟩ := e1.putPen (p := ⟨pa, .pen pc pn⟩) (o := .lst [.ref pc, .int a, .int r]) ⟨cells, a, r, upd_same, by show upd H1 pa _ pc = _; rw [upd_ne ne]; exact m2, ha, hr, m5⟩
      exact n1 σ G1 _ L ((e.gx g1).trans r2) r1 hp
    rcases hk with rfl | rfl
    · exact ⟨_, e1.pen hi, pa, _, 1, 1, rfl, rfl, m1, rfl, put z rest z0 m4⟩
    · exact ⟨_, e1.pen hi, pa, _, 2, 2, rfl, rfl, m1, rfl, put at_ z m3 z0⟩
/-- the spring -/
theorem e_spr {i : Nat} (hi : L[i]? = some (some .pen)) (h : ∀ z : Int, P (.int z)) : E K ⟨some ⟨pa, .spr⟩, ts⟩ H0 (tOp (rIxL K) (tVar i) (tC (.int 0))) L P := fun σ G H e Q q => by
  obtain ⟨z, m1⟩ := e.vw.ok.1 _ rfl
  exact ⟨_, e.pen hi, pa, _, 0, .int z, rfl, rfl, .inl (.inl m1), rfl, q _ _ G H (.refl e.vw) (.int _) (h _)⟩
theorem s_spr {i : Nat} (hi : L[i]? = some (some .pen)) (h : E K ⟨some ⟨pa, .spr⟩, ts⟩ H0 te L fun d => ∃ z, d = .int z ∧ D.nx L) : S K ⟨some ⟨pa, .spr⟩, ts⟩ H0 (tAsg te (gSub (tVar i) (tC (.int 0)) rSetL)) L D := fun σ G H N e n1 _ _ _ _ _ =>
  h σ G H e _ fun v d G1 H1 g1 d1 ⟨z, hz, hp⟩ => by
    subst hz
    cases d1
    have e1 := e.go g1
    obtain ⟨z0, m1⟩ := e1.vw.ok.1 _ rfl
    obtain ⟨r1, r2⟩ := e1.putPen (p := ⟨pa, .spr⟩) (o := .lst [.int z]) ⟨z, upd_same⟩
    exact ⟨_, e1.pen hi, pa, _, 0, 0, rfl, rfl, m1, rfl, n1 σ G1 _ L ((e.gx g1).trans r2) r1 hp⟩
end
def WfTake (m : Int) : Prop := 0 < m ∧ m ≤ 10 ^ 60
def resTake (m : Int) (d : PyData) : Prop := ∃ z : Nat, d = .int (z : Int) ∧ (z : Int) < m
theorem resTake_of {z m : Int} (h0 : 0 ≤ z) (h1 : z < m) : resTake m (.int z) := ⟨z.toNat, by rw [Int.toNat_of_nonneg h0], by rw [Int.toNat_of_nonneg h0]; exact h1⟩
theorem take_all {m : Int} {P : PyData → Prop} (h : ∀ k : Nat, (k : Int) < m → P (.int (k : Int))) : ∀ d, resTake m d → P d := fun d ⟨k, e, hk⟩ => by rw [e]; exact h k hk
abbrev spTake (K : PySem.W.Frag) (ts : List Addr) : Sp := SpXP (α := Int) K ts WfTake (fun m => [.int m]) resTake
section
variable {K : PySem.W.Frag} {pen : Pc} {H0 : Hp} {P P' : PyData → Prop}
theorem r_modAny {i j : Int} (hc : 0 < j) (p : ∀ z, 0 ≤ z → z < j → P (.int z)) : R2d K pen (rI (fun _ j => 0 < j) fun i j => .int (i % j)) (.int i) (.int j) P := r_mod hc (p _ (Int.emod_nonneg _ (by omega)) (Int.emod_lt_of_pos _ hc))
theorem r_fdivW {i j : Int} (hc : CDivW i j) (p : P (.int (i / j))) : R2d K pen (rI CDivW fun i j => .int (i / j)) (.int i) (.int j) P := r_I (f := fun i j => .int (i / j)) (fun _ => .int _) hc p
theorem r_pow {i j : Int} (hc : CPow i j) (p : P (.int (i ^ j.toNat))) : R2d K pen (rI CPow fun i j => .int (i ^ j.toNat)) (.int i) (.int j) P := r_I (f := fun i j => .int (i ^ j.toNat)) (fun _ => .int _) hc p
end
end Dl
namespace Dl
open PySem PySem.Spec PyProof.Rows L2
theorem nox_K {CX : CXT} {P : Program} {w : World} {K : PySem.W.Frag} {mg : Str → Option Value} {base : Heap} {N : List Str} {qual : Str} {scope : Scope} {f : Addr} {cd : Value} {A : Around} {outer : List Env} {s : Shared} {H : Hp} {E : XK} : (cxOf CX P w K mg base N qual scope f cd A outer s H E).nox.K = K := rfl
theorem cx_K {CX : CXT} {P : Program} {w : World} {K : PySem.W.Frag} {mg : Str → Option Value} {base : Heap} {N : List Str} {qual : Str} {scope : Scope} {f : Addr} {cd : Value} {A : Around} {outer : List Env} {s : Shared} {H : Hp} {E : XK} : (cxOf CX P w K mg base N qual scope f cd A outer s H E).K = K := rfl
theorem blk_K {X : Cx} {s : Shared} {H : Hp} {sc : Scope} {env : Env} {fp : List Addr} : (X.blk s H sc env fp).K = X.K := rfl
end Dl
namespace Dl
open PySem PySem.Spec PyProof.Rows L2
section
variable {X : Cx} (K : PySem.W.Frag)
theorem kx_ixT (h : X.K = K) : IxR X (rIxT K) := by subst h; exact ix_tup
theorem kx_ixL (h : X.K = K) : IxR X (rIxL K) := by subst h; exact ix_list
theorem kx_slT (h : X.K = K) : SlR X (rSlA K) := by subst h; exact sl_tupA
theorem kx_slL (h : X.K = K) : SlR X (rSlL K) := by subst h; exact sl_list
theorem kx_catT (h : X.K = K) : OpR X (binaryOp .Add) (rCatA K) := by subst h; exact op_catA
theorem kx_in (h : X.K = K) : OpR X (compareOp .In) (rIn K false) := by subst h; exact op_in_seq
theorem kx_notIn (h : X.K = K) : OpR X (compareOp .NotIn) (rIn K true) := by subst h; exact op_notIn_seq
theorem kx_eqD (h : X.K = K) (hu : X.A.units + 64 < cLine) : OpR X (compareOp .Eq) (rEqD K) := by subst h; exact op_eqD hu
theorem kx_neD (h : X.K = K) (hu : X.A.units + 64 < cLine) : OpR X (compareOp .NotEq) (rNeD K) := by subst h; exact op_neD hu
theorem kx_len (h : X.K = K) : CallR X (.builtin "len") (fun xs H Q => ∃ p ys, xs = [.ref p] ∧ (SqL K H p ys ∨ SqT K H p ys) ∧ Q (.int ys.length) H) := by subst h; exact call_len_seq
theorem kx_list (h : X.K = K) : CallR X (.type "list") (fun xs H Q => ∃ p ys, xs = [.ref p] ∧ (SqL K H p ys ∨ SqT K H p ys) ∧ ∀ l, H l = none → Q (.ref l) (upd H l (.lst ys))) := by subst h; exact call_list_of
theorem kx_tuple (h : X.K = K) : CallR X (.type "tuple") (fun xs H Q => ∃ p ys, xs = [.ref p] ∧ ((SqL K H p ys ∧ ∀ l, H l = none → Q (.ref l) (upd H l (.tup ys))) ∨ (SqT K H p ys ∧ Q (.ref p) H))) := by subst h; exact call_tuple_of
theorem kx_isi (h : X.K = K) : CallR X (.builtin "isinstance") (rIsi K) := by subst h; exact call_isi
variable {l tg : Expr} {tl : TE}
theorem kx_piL (h : X.K = K) (hl : PE X l tl) : PI X tg l (iList K tl) := by subst h; exact pi_list hl
theorem kx_piT (h : X.K = K) (hl : PE X l tl) : PI X tg l (iTup K tl) := by subst h; exact pi_tup hl
theorem kx_zip {e e2 : Expr} {ta : TA} {p pos tpos : Pos} {elts : List Expr} {kk : Nat} (h : X.K = K) (hg : Gl X "zip") (hm : X.mg "zip" = none) (ha : PA X [e, e2] ta)
    (hs : starEach [e, e2] X.env = (false, eval e X.env) :: starEach [e2] X.env := by rfl) (hpl : (backTo pos (starEach [e2] X.env)).any (·.1) = false := by rfl) :
    PI X (.Tuple elts kk tpos) (.Call (.Name "zip" p) [e, e2] [] pos) (RZ.iZipA K ta) := by subst h; exact RZ.pi_zipA hg hm ha hs hpl
theorem kx_pgT {es : List Expr} {k : Nat} {t : TGs} {n : Nat} {pos : Pos} (h : X.K = K) (hc : X.calm = true) (hp : PGs X es t)
    (hn : (assignEach es X.env).length = n := by rfl) (hst : (assignEach es X.env).findIdx? (·.1) = none := by rfl) : PG X (.Tuple es k pos) (gTup K n t) := by subst h; exact pg_tup hc hp hn hst
end
end Dl
namespace Dl
open PySem PySem.Spec PyProof.Rows L2
inductive Ty where
  | int | bool | str | tuple | list
def Ty.s : Ty → String
  | .int => "int"
  | .bool => "bool"
  | .str => "str"
  | .tuple => "tuple"
  | .list => "list"
def isT : PyData → Ty → Bool
  | .bool _, .int => true
  | .bool _, .bool => true
  | .int _, .int => true
  | .str _, .str => true
  | .tuple _, .tuple => true
  | .list _, .list => true
  | _, _ => false
theorem isT_eq (d : PyData) (t : Ty) : isD d t.s = isT d t := by
  cases d with
  | none => cases t <;> (show isS "NoneType" _ = _) <;> decide +kernel
  | bool b => cases t <;> (show isS "bool" _ = _) <;> (first | (show _ = true; decide +kernel) | (show _ = false; decide +kernel))
  | int b => cases t <;> (show isS "int" _ = _) <;> (first | (show _ = true; decide +kernel) | (show _ = false; decide +kernel))
  | str b => cases t <;> (show isS "str" _ = _) <;> (first | (show _ = true; decide +kernel) | (show _ = false; decide +kernel))
  | list b => cases t <;> (show isS "list" _ = _) <;> (first | (show _ = true; decide +kernel) | (show _ = false; decide +kernel))
  | tuple b => cases t <;> (show isS "tuple" _ = _) <;> (first | (show _ = true; decide +kernel) | (show _ = false; decide +kernel))
  | dict b => cases t <;> (show isS "dict" _ = _) <;> (first | (show _ = true; decide +kernel) | (show _ = false; decide +kernel))
section
variable {K : PySem.W.Frag} {pen : Pc} {H0 : Hp} {L : Lv} {P : PyData → Prop} {ta : TE}
theorem e_isT (t : Ty) (h : E K pen H0 ta L fun d => P (.bool (isT d t))) : E K pen H0 (tCB (rIsi K) (tCons ta (tCons (tC (.ty t.s)) tNil))) L P :=
  e_isi (by cases t <;> simp [Ty.s]) (h.mono fun d p => by rw [isT_eq]; exact p)
theorem e_isI (h : E K pen H0 ta L fun d => P (.bool (isT d .int))) : E K pen H0 (tCB (rIsi K) (tCons ta (tCons (tC (.ty "int")) tNil))) L P := e_isT .int h
theorem e_isB (h : E K pen H0 ta L fun d => P (.bool (isT d .bool))) : E K pen H0 (tCB (rIsi K) (tCons ta (tCons (tC (.ty "bool")) tNil))) L P := e_isT .bool h
theorem e_isS (h : E K pen H0 ta L fun d => P (.bool (isT d .str))) : E K pen H0 (tCB (rIsi K) (tCons ta (tCons (tC (.ty "str")) tNil))) L P := e_isT .str h
theorem e_isTu (h : E K pen H0 ta L fun d => P (.bool (isT d .tuple))) : E K pen H0 (tCB (rIsi K) (tCons ta (tCons (tC (.ty "tuple")) tNil))) L P := e_isT .tuple h
theorem e_isL (h : E K pen H0 ta L fun d => P (.bool (isT d .list))) : E K pen H0 (tCB (rIsi K) (tCons ta (tCons (tC (.ty "list")) tNil))) L P := e_isT .list h
def isNone : PyData → Bool
  | .none => true
  | _ => false
theorem r_isNone {a : PyData} (p : P (.bool (isNone a))) : R2d K pen (fun x y H Q => y = .non ∧ Q (.bl (decide (x = .non))) H) a .none P := r_isN (by cases a <;> exact p)
end
/-- data with a bound on its depth and its lengths -/
def Flat : Nat → PyData → Prop
  | _, .none => True
  | _, .bool _ => True
  | _, .int _ => True
  | _, .str _ => True
  | n + 1, .tuple ds => ds.length ≤ 1000 ∧ ∀ d ∈ ds, Flat n d
  | n + 1, .list ds => ds.length ≤ 1000 ∧ ∀ d ∈ ds, Flat n d
  | _, _ => False
end Dl
set_option Elab.async false
set_option linter.all false
set_option maxRecDepth 100000
namespace Dl
open PySem PySem.Spec PyProof.Rows L2
/-! ### forgetting slots -/
def Sub (L' L : Lv) : Prop := L'.length = L.length ∧ ∀ (i : Nat) av, L'[i]? = some (some av) → L[i]? = some (some av)
theorem Sub.refl (L : Lv) : Sub L L := ⟨rfl, fun _ _ h => h⟩
theorem Sub.trans {A B C : Lv} (h : Sub A B) (k : Sub B C) : Sub A C := ⟨h.1.trans k.1, fun i av q => k.2 i av (h.2 i av q)⟩
theorem Sub.nil : Sub [] [] := Sub.refl _
theorem Sub.keep {x : Option AV} {L' L : Lv} (h : Sub L' L) : Sub (x :: L') (x :: L) := by
  refine ⟨by rw [List.length_cons, List.length_cons, h.1], fun i av q => ?_⟩
  cases i with
  | zero => exact q
  | succ i => exact h.2 i av q
theorem Sub.drop {x : Option AV} {L' L : Lv} (h : Sub L' L) : Sub (none :: L') (x :: L) := by
  refine ⟨by rw [List.length_cons, List.length_cons, h.1], fun i av q => ?_⟩
  cases i with
  | zero => cases q
  | succ i => exact h.2 i av q
section
variable {K : PySem.W.Frag} {pen : Pc} {H0 : Hp} {L L' : Lv} {P P' : PyData → Prop} {ta tb tc te ti : TE} {tl tr : TA} {tt : TT} {t u : TS} {Pb : Bool → Prop} {D : Dn} {g : TG} {gs : TGs}
theorem Ev.sub {G H : Hp} {σ : L2.St} (e : Ev K pen H0 G H σ L) (s : Sub L' L) : Ev K pen H0 G H σ L' :=
  ⟨e.vw, e.h0, e.dom, e.len.trans s.1.symm, fun i av h => e.sl i av (s.2 i av h), fun i j ds es l h1 h2 => e.ow i j ds es l (s.2 _ _ h1) (s.2 _ _ h2)⟩
theorem S.sub (h : S K pen H0 t L' D) (s : Sub L' L) : S K pen H0 t L D := fun σ G H N e => h σ G H N (e.sub s)
theorem E.sub (h : E K pen H0 te L' P) (s : Sub L' L) : E K pen H0 te L P := fun σ G H e => h σ G H (e.sub s)
theorem GT.sub {d : PyData} {Q : Lv → Prop} (h : GT K pen H0 g d L' Q) (s : Sub L' L) : GT K pen H0 g d L Q := fun σ G H v e => h σ G H v (e.sub s)
/-- what a loop keeps, with slots forgotten -/
abbrev Wk (I : Nat → Lv → Prop) (i : Nat) (L : Lv) : Prop := ∃ L3, Sub L3 L ∧ I i L3
theorem s_forRw (h : EA K pen H0 tl L fun ds => ∃ n : Nat, ds = [.int n] ∧ n ≤ 100000 ∧ ∃ I : Nat → Lv → Prop, Wk I 0 L ∧ (∀ (i : Nat) L', i < n → I i L' → GT K pen H0 g (.int i) L' fun L2 => S K pen H0 t L2 { D with nx := Wk I (i + 1), ct := Wk I (i + 1), bk := D.nx }) ∧ (∀ L', I n L' → ∀ L4, Sub L' L4 → D.nx L4)) :
    S K pen H0 (tFor (iRng1 tl) g t) L D := s_forR fun σ G H e Q q => h σ G H e Q fun vs ds G' H' go hd ⟨n, h1, h2, I, h3, h4, h5⟩ => q vs ds G' H' go hd ⟨n, h1, h2, Wk I, h3, fun i L' hi ⟨L3, s, hI⟩ => (h4 i L3 hi hI).sub s, fun L' ⟨L3, s, hI⟩ => h5 L3 hI L' s⟩
theorem s_forTw (h : E K pen H0 te L fun d => ∃ ds, d = .tuple ds ∧ ∃ I : Nat → Lv → Prop, Wk I 0 L ∧ (∀ (i : Nat) x L', ds[i]? = some x → I i L' → GT K pen H0 g x L' fun L2 => S K pen H0 t L2 { D with nx := Wk I (i + 1), ct := Wk I (i + 1), bk := D.nx }) ∧ (∀ L', I ds.length L' → ∀ L4, Sub L' L4 → D.nx L4)) :
    S K pen H0 (tFor (iTup K te) g t) L D := s_forT fun σ G H e Q q => h σ G H e Q fun v d G' H' go hd ⟨ds, h1, I, h3, h4, h5⟩ => q v d G' H' go hd ⟨ds, h1, Wk I, h3, fun i x L' hi ⟨L3, s, hI⟩ => (h4 i x L3 hi hI).sub s, fun L' ⟨L3, s, hI⟩ => h5 L3 hI L' s⟩
theorem s_forLw (h : E K pen H0 te L fun d => ∃ ds, d = .list ds ∧ ∃ I : Nat → Lv → Prop, Wk I 0 L ∧ (∀ (i : Nat) x L', ds[i]? = some x → I i L' → GT K pen H0 g x L' fun L2 => S K pen H0 t L2 { D with nx := Wk I (i + 1), ct := Wk I (i + 1), bk := D.nx }) ∧ (∀ L', I ds.length L' → ∀ L4, Sub L' L4 → D.nx L4)) :
    S K pen H0 (tFor (iList K te) g t) L D := s_forL fun σ G H e Q q => h σ G H e Q fun v d G' H' go hd ⟨ds, h1, I, h3, h4, h5⟩ => q v d G' H' go hd ⟨ds, h1, Wk I, h3, fun i x L' hi ⟨L3, s, hI⟩ => (h4 i x L3 hi hI).sub s, fun L' ⟨L3, s, hI⟩ => h5 L3 hI L' s⟩
/-! ### the law's beginning -/
theorem pen_start {ts : List Addr} {N : Ends} {σ : L2.St} {H1 : Hp} {p c : Addr} {cells : List Int} (hp : H1 p = some (.lst [.ref c, .int 0, .int 0])) (hc : H1 c = some (.lst (cells.map V.int))) (hlen : σ.length = L.length)
    (hL : ∀ (i : Nat) av, L[i]? = some (some av) → av = .pen ∧ σ[i]? = some (some (.ref p))) (hts : ∀ P ∈ ts, _root_.Gx.TabX H1 P) (h : S K ⟨some ⟨p, .pen c cells.length⟩, ts⟩ H1 t L { nx := fun _ => False, rt := fun d => d = .bool true }) (q : ∀ H', N.rt (.bl true) H') : t N σ H1 := by
  have ok : POk ⟨some ⟨p, .pen c cells.length⟩, ts⟩ H1 := ⟨fun p' e => by cases e; exact ⟨cells, 0, 0, hp, hc, Int.le_refl _, Int.le_refl _, rfl⟩, hts⟩
  refine h σ (fun _ => none) H1 N ⟨⟨fun a o e => (nomatch e), fun _ _ => rfl, ok⟩, ok, fun _ h => h, hlen, fun i av hi => ?_, fun i j ds es l h1 => ?_⟩ (fun _ _ _ _ _ _ z => z.elim) (fun v d G' H' _ _ hd e => ?_) (fun _ _ _ _ _ _ z => z.elim) (fun _ _ _ _ _ _ z => z.elim) (fun _ _ _ _ _ _ _ z => z.elim) (fun _ _ _ _ _ _ _ _ _ _ _ z => z.elim)
  · obtain ⟨rfl, e⟩ := hL i av hi
    exact ⟨_, e, _, rfl, rfl⟩
  · cases (hL i _ h1).1
  · subst e
    cases hd
    exact q H'
def spPen (K : PySem.W.Frag) : Sp := fun vs H Q _ => ∃ (a : Addr) (ns : List Int), vs = [.ref a] ∧ SqL K H a (ns.map V.int) ∧
  ∀ (p c : Addr) (cells : List Int) H', H' p = some (.lst [.ref c, .int 0, .int 0]) → H' c = some (.lst (cells.map V.int)) → Q (.ref p) H'
def spLaw (K : PySem.W.Frag) : Sp := fun vs H Q _ => ∃ (a : Addr) (ns : List Int), vs = [.ref a] ∧ SqL K H a (ns.map V.int) ∧ ns.length ≤ 63 ∧ ∀ H', Q (.bl true) H'
theorem cut_ints (ns : List Int) (lo hi : Option Int) : ∃ ms : List Int, cutV (ns.map V.int) lo hi = ms.map V.int := by
  unfold cutV
  exact ⟨_, by rw [← List.map_drop, ← List.map_take]⟩
end
section
variable {P : Program} {w : World} {K : PySem.W.Frag} {mg : Str → Option Value} {base : Heap}
theorem fn_never {α : Type} {ts : List Addr} {k : Nat} {f : Addr} {fd : FuncData} {ps : List Str} {enc : α → List PyData} {res : α → PyData → Prop} : FnOk P w K mg base CX0 k f fd ps (SpX K ts (fun _ : α => False) enc res) :=
  ⟨fun _ _ _ _ ⟨_, _, _, _, z, _⟩ => z.elim, fun _ _ _ _ _ _ _ _ _ _ _ _ _ ⟨_, _, _, _, z, _⟩ => z.elim⟩
end
end Dl
set_option Elab.async false
set_option linter.all false
set_option maxRecDepth 100000
namespace Dl
open PySem PySem.Spec PyProof.Rows L2 _root_.Gx GxR
/-! ### a def whose code object is known -/
structure FunC (K : PySem.W.Frag) (x qual : Str) (st : Stmt) (f : Addr) (fd : FuncData) (c : Addr) : Prop where
  ex : ∃ (oc : Value) (od : Option Addr) (kV doc pm : Value) (an : Option Addr) (ct : Value) (osl : Array (Option Value)),
    fd = PySem.W.fnOf x qual (defArgs st) (defBody st) (defScope st) .none kV doc pm an (.ref c) ct ∧ K.lookup f = some ⟨oc, od, .func fd, osl⟩ ∧ PySem.W.codeIn K (.ref c) qual = true
  kp : PySem.W.keepIn K (.ref f) = true
section
variable {P : Program} {w : World} {K : PySem.W.Frag} {mg : Str → Option Value} {base : Heap}
theorem FunC.plain {x qual : Str} {st : Stmt} {f c : Addr} {fd : FuncData} (F : FunC K x qual st f fd c) : Fun K x qual st f fd := by
  obtain ⟨oc, od, kV, doc, pm, an, ct, osl, e, l, h⟩ := F.ex
  exact ⟨⟨oc, od, kV, doc, pm, an, .ref c, ct, osl, e, l, h⟩, F.kp⟩
theorem funC_mk {x qual : Str} {st : Stmt} {f c : Addr} {oc : Value} {od an : Option Addr} {osl : Array (Option Value)} {kV doc pm ct : Value} (l : K.lookup f = some ⟨oc, od, .func (PySem.W.fnOf x qual (defArgs st) (defBody st) (defScope st) .none kV doc pm an (.ref c) ct), osl⟩)
    (h : PySem.W.codeIn K (.ref c) qual = true) (k : PySem.W.keepIn K (.ref f) = true) : FunC K x qual st f (PySem.W.fnOf x qual (defArgs st) (defBody st) (defScope st) .none kV doc pm an (.ref c) ct) c := ⟨⟨oc, od, kV, doc, pm, an, ct, osl, rfl, l, h⟩, k⟩
theorem FunC.ok {x qual : Str} {st : Stmt} {f c : Addr} {fd : FuncData} {N ps : List Str} {k : Nat} {sp : Sp} (F : FunC K x qual st f fd c) (S : FnScope N ps (defScope st)) (len : ∀ vs H Q E, sp vs H Q E → vs.length = ps.length)
    (hbody : ∀ (A : Around) (outer : List Env) (s : Shared) (H : Hp) (vs : List V) (Q : VK) (E : XK), Room k (A.deeper (envOfC qual (defScope st) s.heap.objs.size f (.ref c))) → sp vs H Q E →
      ∃ t, PSs (cxOf CX0 P w K mg base N qual (defScope st) f (.ref c) A outer s H E).nox (defBody st) t ∧ t { nx := fun _ H' => Q .non H', rt := Q } (L2.start N vs) H) : FnOk P w K mg base CX0 (k + 1) f fd ps sp := by
  obtain ⟨oc, od, kV, doc, pm, an, ct, osl, rfl, lk, hcd⟩ := F.ex
  refine fn_of lk hcd S len fun A outer s H vs Q E hr hsp => ?_
  obtain ⟨t, h, q⟩ := hbody A outer s H vs Q E hr hsp
  exact ⟨t, h.nox, q⟩
/-- a def without the pen, its code object known -/
theorem fnXc {α : Type} {x qual : Str} {st : Stmt} {f c : Addr} {fd : FuncData} {N ps : List Str} {k : Nat} {ts : List Addr} {Wf : α → Prop} {enc : α → List PyData} {res : α → PyData → Prop} (F : FunC K x qual st f fd c) (S0 : FnScope N ps (defScope st)) (hl : ∀ x, Wf x → (enc x).length = ps.length)
    (hbody : ∀ (A : Around) (outer : List Env) (s : Shared) (H : Hp) (E : XK), Room k (A.deeper (envOfC qual (defScope st) s.heap.objs.size f (.ref c))) →
      ∃ t, PSs (cxOf CX0 P w K mg base N qual (defScope st) f (.ref c) A outer s H E).nox (defBody st) t ∧ ∀ x, Wf x → S K ⟨none, ts⟩ H t (st0 N (enc x)) { nx := fun _ => res x .none, rt := res x }) : FnOk P w K mg base CX0 (k + 1) f fd ps (SpX K ts Wf enc res) := by
  refine F.ok S0 (fun vs H Q E h => ?_) (fun A outer s H vs Q E hr h => ?_)
  · obtain ⟨x, G, _, h1, h2, _⟩ := h
    rw [dpa_len h1]
    exact hl x h2
  · obtain ⟨x, G, v, h1, h2, q⟩ := h
    obtain ⟨t, ht, hS⟩ := hbody A outer s H E hr
    refine ⟨t, ht, hS x h2 (L2.start N vs) G H _ (ev_start h1 v) (fun σ' G' H' L' x e' p => ?_) (fun v d G' H' x vw hd p => ?_) (fun _ _ _ _ _ _ z => z.elim) (fun _ _ _ _ _ _ z => z.elim) (fun _ _ _ _ _ _ _ z => z.elim) (fun _ _ _ _ _ _ _ _ _ _ _ z => z.elim)⟩
    · exact q .non .none G' H' ⟨x.gg, x.nw, fun a o hp e => x.od a o hp (by rw [e]; exact fun z => by cases z) e, e'.vw⟩ .non p
    · exact q v d G' H' ⟨x.gg, x.nw, fun a o hp e => x.od a o hp (by rw [e]; exact fun z => by cases z) e, vw⟩ hd p
end
/-! ### all(..), any(..) by data -/
section
variable {K : PySem.W.Frag} {pn : Option Pn} {ts : List Addr} {H0 : Hp} {L : Lv} {P P' : PyData → Prop} {ta tb tc te ti : TE} {tl tr : TA} {tt : TT} {Tb : Addr} {go : Bool}
/-- the table has grown -/
theorem Go.tab {c : Pc} {G H H' : Hp} (v : Vw c G H) (hT : Tb ∈ c.ts) (h : TabbedX Tb H H') : Go c G H G H' := by
  refine ⟨Same.refl _, fun _ _ => rfl, fun a o n e => ?_, ⟨fun a o e => ?_, v.no, fun p hp => ?_, fun P hP => ?_⟩⟩
  · exact h.2 a o (fun z => n (.inr (by rw [z]; exact hT))) e
  · exact h.2 a o (fun z => by rw [z, v.no _ (.inr hT)] at e; cases e) (v.vw a o e)
  · exact (v.ok.1 p hp).mono fun a o ho e => h.2 a o (fun z => v.ok.apart hp hT (z ▸ ho)) e
  · exact (v.ok.2 P hP).other h (v.ok.2 Tb hT)
/-- one turn of the element, by data: J is kept, or it ends -/
abbrev GnT (K : PySem.W.Frag) (c : Pc) (H0 : Hp) (go : Bool) (tt : TT) (te : TE) (L2 : Lv) (Jn : Prop) (P : PyData → Prop) : Prop :=
  ET K c H0 tt L2 fun b => (b = true → E K c H0 te L2 fun d => ∃ k, d = .bool k ∧ (k = go → Jn) ∧ (k = !go → P (.bool (!go)))) ∧ (b = false → Jn)
theorem gn_turn {c : Pc} {G1 H1 G' H' : Hp} {σ2 : L2.St} {L2 : Lv} {Jn : Prop} {Nx : Hp → Prop} {Q : VK} (g : Go c G1 H1 G' H') (e2 : Ev K c H0 G' H' σ2 L2) (h : GnT K c H0 go tt te L2 Jn P)
    (hN : ∀ G3 H3, Go c G1 H1 G3 H3 → Jn → Nx H3) (q : ∀ v d G' H', Go c G1 H1 G' H' → Dp K G' v d → P d → Q v H') :
    tt σ2 H' fun b H3 => if b = true then te σ2 H3 fun y H4 => YdB go (fun H => Q (.bl (!go)) H) y H4 Nx else Nx H3 := by
  refine h σ2 G' H' e2 _ fun b G3 H3 g3 p => ?_
  cases b with
  | false => exact hN G3 H3 (g.trans g3) (p.2 rfl)
  | true =>
    show te σ2 H3 _
    refine p.1 rfl σ2 G3 H3 (e2.go g3) _ fun y d G4 H4 g4 d4 ⟨k, hk, p1, p2⟩ => ?_
    subst hk
    cases d4
    refine ⟨k, rfl, ?_⟩
    by_cases z : k = go
    · rw [if_pos z]
      exact hN G4 H4 ((g.trans g3).trans g4) (p1 z)
    · rw [if_neg z]
      exact q _ _ G4 H4 ((g.trans g3).trans g4) (.bl _) (p2 (by cases k <;> cases go <;> simp_all))
theorem e_genT {j : Nat} (hT : Tb ∈ ts) (h : E K ⟨pn, ts⟩ H0 ta L fun d => ∃ ds, d = .tuple ds ∧ ∃ J : Nat → Prop, J 0 ∧
    (∀ (i : Nat) x, ds[i]? = some x → J i → GnT K ⟨pn, ts⟩ H0 go tt te ((L.set j none).set j (some (.d x))) (J (i + 1)) P) ∧ (J ds.length → P (.bool go))) :
    E K ⟨pn, ts⟩ H0 (tGen Tb go (iTup K ta) (gName j) tt te [j]) L P := fun σ G H e Q q => h σ G H e _ fun v d G1 H1 gg hd ⟨ds, hds, J, j0, js, je⟩ => by
  subst hds
  cases hd with
  | tup hs ha =>
    rename_i a xs
    refine ⟨a, rfl, ⟨xs, sqT_mono gg.vw.vw hs⟩, gg.vw.ok.2 Tb hT, fun H2 htab => ?_⟩
    have g2 := Go.tab gg.vw hT htab
    refine ⟨fun i m H' => m = ds.length - i ∧ i ≤ ds.length ∧ J i ∧ ∃ G', Go ⟨pn, ts⟩ G1 H2 G' H', ⟨ds.length, rfl, Nat.zero_le _, j0, G1, .refl g2.vw⟩, ?_⟩
    rintro i m H' ⟨rfl, hi, hJ, G', g⟩
    have z1 : SqT K H' a xs := sqT_mono (g.gg.trans g.vw.vw) hs
    have q' : ∀ v d G' H', Go ⟨pn, ts⟩ G1 H2 G' H' → Dp K G' v d → P d → Q v H' := fun v d G' H' g hd p => q v d G' H' ((gg.trans g2).trans g) hd p
    by_cases hlt : i < ds.length
    · obtain ⟨x, hx, dx⟩ := dpa_get ha (List.getElem?_eq_getElem hlt)
      refine .inr ⟨⟨xs, x, z1, hx⟩, fun H3 => J (i + 1) ∧ ∃ G', Go ⟨pn, ts⟩ G1 H2 G' H3, fun H3 ⟨k1, k2⟩ => ⟨ds.length - (i + 1), by omega, rfl, hlt, k1, k2⟩, fun y H3 hy => ?_⟩
      obtain ⟨rfl, hy⟩ := hy
      have e1 : y = x := Option.some.inj ((hy _ z1).symm.trans hx)
      subst e1
      refine ⟨wipe1 _ _ _, ?_⟩
      exact gn_turn g ((ev_wipe1 (((e.go gg).go g2).go g) j).set (dp_mono g.gg _ _ dx)) (js i _ (List.getElem?_eq_getElem hlt) hJ) (fun G3 H3 g3 k => ⟨k, G3, g3⟩) q'
    · have e1 : i = ds.length := by omega
      subst e1
      exact .inl ⟨⟨xs, z1, by rw [dpa_len ha]; exact Nat.le_refl _⟩, q' _ _ G' H' g (.bl _) (je hJ)⟩
theorem e_genL {j : Nat} (hT : Tb ∈ ts) (h : E K ⟨pn, ts⟩ H0 ta L fun d => ∃ ds, d = .list ds ∧ ∃ J : Nat → Prop, J 0 ∧
    (∀ (i : Nat) x, ds[i]? = some x → J i → GnT K ⟨pn, ts⟩ H0 go tt te ((L.set j none).set j (some (.d x))) (J (i + 1)) P) ∧ (J ds.length → P (.bool go))) :
    E K ⟨pn, ts⟩ H0 (tGen Tb go (iList K ta) (gName j) tt te [j]) L P := fun σ G H e Q q => h σ G H e _ fun v d G1 H1 gg hd ⟨ds, hds, J, j0, js, je⟩ => by
  subst hds
  cases hd with
  | lst hs ha =>
    rename_i a xs
    refine ⟨a, rfl, ⟨xs, sqL_mono gg.vw.vw hs⟩, gg.vw.ok.2 Tb hT, fun H2 htab => ?_⟩
    have g2 := Go.tab gg.vw hT htab
    refine ⟨fun i m H' => m = ds.length - i ∧ i ≤ ds.length ∧ J i ∧ ∃ G', Go ⟨pn, ts⟩ G1 H2 G' H', ⟨ds.length, rfl, Nat.zero_le _, j0, G1, .refl g2.vw⟩, ?_⟩
    rintro i m H' ⟨rfl, hi, hJ, G', g⟩
    have z1 : SqL K H' a xs := sqL_mono (g.gg.trans g.vw.vw) hs
    have q' : ∀ v d G' H', Go ⟨pn, ts⟩ G1 H2 G' H' → Dp K G' v d → P d → Q v H' := fun v d G' H' g hd p => q v d G' H' ((gg.trans g2).trans g) hd p
    by_cases hlt : i < ds.length
    · obtain ⟨x, hx, dx⟩ := dpa_get ha (List.getElem?_eq_getElem hlt)
      refine .inr ⟨⟨xs, x, z1, hx⟩, fun H3 => J (i + 1) ∧ ∃ G', Go ⟨pn, ts⟩ G1 H2 G' H3, fun H3 ⟨k1, k2⟩ => ⟨ds.length - (i + 1), by omega, rfl, hlt, k1, k2⟩, fun y H3 hy => ?_⟩
      obtain ⟨rfl, hy⟩ := hy
      have e1 : y = x := Option.some.inj ((hy _ z1).symm.trans hx)
      subst e1
      refine ⟨wipe1 _ _ _, ?_⟩
      exact gn_turn g ((ev_wipe1 (((e.go gg).go g2).go g) j).set (dp_mono g.gg _ _ dx)) (js i _ (List.getElem?_eq_getElem hlt) hJ) (fun G3 H3 g3 k => ⟨k, G3, g3⟩) q'
    · have e1 : i = ds.length := by omega
      subst e1
      exact .inl ⟨⟨xs, z1, by rw [dpa_len ha]; exact Nat.le_refl _⟩, q' _ _ G' H' g (.bl _) (je hJ)⟩
/-- over zip of two tuples of one length -/
theorem e_genZ {j k : Nat} (hT : Tb ∈ ts) (h : EA K ⟨pn, ts⟩ H0 tl L fun ds => ∃ as bs, ds = [.tuple as, .tuple bs] ∧ as.length = bs.length ∧ ∃ J : Nat → Prop, J 0 ∧
    (∀ (i : Nat) x y, as[i]? = some x → bs[i]? = some y → J i → GnT K ⟨pn, ts⟩ H0 go tt te ((((L.set k none).set j none).set j (some (.d x))).set k (some (.d y))) (J (i + 1)) P) ∧ (J as.length → P (.bool go))) :
    E K ⟨pn, ts⟩ H0 (tGen Tb go (RZ.iZipA K tl) (gTup K 2 (gCons (gName j) (gCons (gName k) gNil))) tt te [j, k]) L P := fun σ G H e Q q => h σ G H e _ fun vs ds G1 H1 gg hd ⟨as, bs, hds, hl, J, j0, js, je⟩ => by
  subst hds
  cases hd with
  | cons hd hd2 =>
    cases hd2 with
    | cons hd3 hd4 =>
      cases hd4
      cases hd with
      | tup hs ha =>
        cases hd3 with
        | tup hs' ha' =>
          rename_i a xs a' ys
          refine ⟨a, a', xs, ys, rfl, .inr ⟨sqT_mono gg.vw.vw hs, sqT_mono gg.vw.vw hs', gg.vw.ok.2 Tb hT, fun H2 htab => ?_⟩⟩
          have g2 := Go.tab gg.vw hT htab
          refine ⟨fun i m H' => m = as.length - i ∧ i ≤ as.length ∧ J i ∧ ∃ G', Go ⟨pn, ts⟩ G1 H2 G' H', ⟨as.length, rfl, Nat.zero_le _, j0, G1, .refl g2.vw⟩, ?_⟩
          rintro i m H' ⟨rfl, hi, hJ, G', g⟩
          have z1 : SqT K H' a xs := sqT_mono (g.gg.trans g.vw.vw) hs
          have z2 : SqT K H' a' ys := sqT_mono (g.gg.trans g.vw.vw) hs'
          have q' : ∀ v d G' H', Go ⟨pn, ts⟩ G1 H2 G' H' → Dp K G' v d → P d → Q v H' := fun v d G' H' g hd p => q v d G' H' ((gg.trans g2).trans g) hd p
          by_cases hlt : i < as.length
          · obtain ⟨x, hx, dx⟩ := dpa_get ha (List.getElem?_eq_getElem hlt)
            obtain ⟨y, hy, dy⟩ := dpa_get ha' (List.getElem?_eq_getElem (hl ▸ hlt))
            refine .inr ⟨⟨xs, ys, x, y, z1, z2, hx, hy⟩, fun H3 => J (i + 1) ∧ ∃ G', Go ⟨pn, ts⟩ G1 H2 G' H3, fun H3 ⟨k1, k2⟩ => ⟨as.length - (i + 1), by omega, rfl, hlt, k1, k2⟩, fun v H3 hv => ?_⟩
            obtain ⟨T, x', y', rfl, hT', rfl, f1, f2⟩ := hv
            have e1 : x' = x := Option.some.inj ((f1 _ z1).symm.trans hx)
            have e2 : y' = y := Option.some.inj ((f2 _ z2).symm.trans hy)
            subst e1 e2
            have g3 := Go.new g.vw (o := .tup [x', y']) hT'
            refine ⟨T, [x', y'], rfl, .inl (.inl upd_same), rfl, x', [y'], rfl, y', [], rfl, rfl, wipe2 _ _ _ _ _, ?_⟩
            have ex := (((ev_wipe2 (((e.go gg).go g2).go g) j k).go g3).set (i := j) (dp_mono (g.gg.trans g3.gg) _ _ dx)).set (i := k) (dp_mono (g.gg.trans g3.gg) _ _ dy)
            exact gn_turn (g.trans g3) ex (js i _ _ (List.getElem?_eq_getElem hlt) (List.getElem?_eq_getElem (hl ▸ hlt)) hJ) (fun G3 H3 g3 k => ⟨k, G3, g3⟩) q'
          · have e1 : i = as.length := by omega
            subst e1
            exact .inl ⟨⟨xs, ys, z1, z2, .inl (by rw [dpa_len ha]; exact Nat.le_refl _)⟩, q' _ _ G' H' g (.bl _) (je hJ)⟩
end
end Dl
set_option Elab.async false
set_option linter.all false
set_option maxRecDepth 100000
namespace Dl
open PySem PySem.Spec PyProof.Rows L2
/-! ### dicts with text keys, made and read -/
def DictOk (K : PySem.W.Frag) (G : Hp) (kvs : List (Key × V)) (m : List (Str × PyData)) : Prop := Paired (fun (kv : Key × V) (xd : Str × PyData) => kv.1 = Sum.inr xd.1 ∧ Dp K G kv.2 xd.2) kvs m
theorem dictOk_mono {K : PySem.W.Frag} {G G' : Hp} (e : Same G G') {kvs : List (Key × V)} {m : List (Str × PyData)} (h : DictOk K G kvs m) : DictOk K G' kvs m := Paired.mapP h fun _ _ z => ⟨z.1, dp_mono e _ _ z.2⟩
section
variable (K : PySem.W.Frag) (pen : Pc) (H0 : Hp)
def ED (te : TE) (L : Lv) (P : List (Str × PyData) → Prop) : Prop := ∀ (σ : L2.St) (G H : Hp), Ev K pen H0 G H σ L → ∀ Q : VK, (∀ p kvs m G' H', Go pen G H G' H' → G' p = some (.dK kvs) → DictOk K G' kvs m → P m → Q (.ref p) H') → te σ H Q
def EPs (trs : List (TE × TE)) (L : Lv) (P : List (Str × PyData) → Prop) : Prop := ∀ (σ : L2.St) (G H : Hp), Ev K pen H0 G H σ L → ∀ Q : List (V × V) → Hp → Prop, (∀ ps kvs m G' H', Go pen G H G' H' → ps = kvs.map (fun kv => (kV kv.1, kv.2)) → DictOk K G' kvs m → P m → Q ps H') → tPairs trs σ H Q
end
section
variable {K : PySem.W.Frag} {pen : Pc} {H0 : Hp} {L : Lv} {P : PyData → Prop} {Pm : List (Str × PyData) → Prop} {td ty tk tv : TE} {tl : TA} {trs : List (TE × TE)}
theorem eps_nil (h : Pm []) : EPs K pen H0 [] L Pm := fun σ G H e Q q => q [] [] [] G H (.refl e.vw) rfl .nil h
theorem eps_cons (h : E K pen H0 tk L fun k => ∃ x : Str, k = .str x ∧ E K pen H0 tv L fun d => EPs K pen H0 trs L fun m => Pm ((x, d) :: m)) : EPs K pen H0 ((tk, tv) :: trs) L Pm := fun σ G H e Q q =>
  h σ G H e _ fun v k G1 H1 g1 d1 ⟨x, hx, h1⟩ => by
    subst hx
    cases d1
    refine h1 σ G1 H1 (e.go g1) _ fun u d G2 H2 g2 d2 h2 => ?_
    refine h2 σ G2 H2 (e.go (g1.trans g2)) _ fun ps kvs m G3 H3 g3 hps hm p => ?_
    subst hps
    exact q _ ((Sum.inr x, u) :: kvs) ((x, d) :: m) G3 H3 ((g1.trans g2).trans g3) rfl (.cons ⟨rfl, dp_mono g3.gg _ _ d2⟩ hm) p
theorem dictOk_len {G : Hp} {kvs : List (Key × V)} {m : List (Str × PyData)} (h : DictOk K G kvs m) : kvs.length = m.length := Paired.length h
theorem dictOk_keys {G : Hp} : ∀ {kvs : List (Key × V)} {m : List (Str × PyData)}, DictOk K G kvs m → kvs.map (·.1) = m.map (fun xd => Sum.inr xd.1)
  | _, _, .nil => rfl
  | _, _, .cons h t => by rw [List.map_cons, List.map_cons, h.1, dictOk_keys t]
theorem merge_nodup : ∀ (more acc : List (Key × V)), (acc.map (·.1) ++ more.map (·.1)).Nodup → mergeK acc more = acc ++ more
  | [], acc, _ => by rw [List.append_nil]; rfl
  | kv :: r, acc, h => by
    show mergeK (putK acc kv.1 kv.2) r = acc ++ kv :: r
    have hn : kv.1 ∉ acc.map (·.1) := fun z => by
      rw [List.nodup_append] at h
      exact h.2.2 _ z _ (List.mem_cons_self ..) rfl
    have e : putK acc kv.1 kv.2 = acc ++ [kv] := by
      unfold putK
      rw [if_neg]
      intro z
      obtain ⟨x, hx, hk⟩ := List.any_eq_true.mp z
      exact hn (List.mem_map.mpr ⟨x, hx, of_decide_eq_true hk⟩)
    rw [e, merge_nodup r (acc ++ [kv]) (by rw [List.map_append, List.append_assoc]; exact h), List.append_assoc]
    rfl
theorem ed_disp (h : EPs K pen H0 trs L fun m => m.length ≤ 15 ∧ (m.map (·.1)).Nodup ∧ Pm m) : ED K pen H0 (tDisp trs) L Pm := fun σ G H e Q q p hp => by
  have g0 := Go.hid e.vw (o := .dK []) hp
  refine h σ G _ (e.go g0) _ fun ps kvs m G1 H1 g1 hps hm ⟨h1, h2, h3⟩ => ?_
  have hH : (upd H p (.dK [])) p = some (.dK []) := upd_same
  have np : ¬ IsPn pen p := fun z => e.vw.ok.there z hp
  have k1 : H1 p = some (.dK []) := g1.od p _ np hH
  have gp : G p = none := by
    cases z : G p with
    | none => rfl
    | some o => rw [e.vw.vw _ _ z] at hp; cases hp
  have k2 : G1 p = none := (g1.nw p (by rw [hH]; exact fun z => by cases z)).trans gp
  refine ⟨k1, kvs, hps, by rw [dictOk_len hm]; exact h1, ?_⟩
  have e1 : mergeK [] kvs = kvs := merge_nodup kvs [] (by
    show (kvs.map (·.1)).Nodup
    rw [dictOk_keys hm]
    rw [show (m.map fun xd => (Sum.inr xd.1 : Key)) = (m.map (·.1)).map Sum.inr by rw [List.map_map]; rfl]
    exact List.Pairwise.map _ (fun a b hab z => hab (Sum.inr.inj z)) h2)
  rw [e1]
  have s : Same G1 (upd G1 p (.dK kvs)) := fun a o z => by rw [upd_ne (ne_of_none z k2)]; exact z
  have gm := Go.mut (o := .dK kvs) e.vw hp k2 (code_ne k1 rfl) (g0.trans g1)
  refine q p kvs m (upd G1 p (.dK kvs)) _ ⟨gm.gg.trans s, fun a ha => ?_, gm.od, ⟨fun a o z => ?_, fun a z => ?_, gm.vw.ok⟩⟩ upd_same (dictOk_mono s hm) h3
  · rw [upd_ne (fun z => ha (by rw [z]; exact hp))]; exact gm.nw a ha
  · by_cases y : a = p
    · subst y; rw [upd_same] at z ⊢; exact z
    · rw [upd_ne y] at z; exact gm.vw.vw a o z
  · rw [upd_ne (fun (y : a = p) => np (by rw [← y]; exact z))]; exact gm.vw.no a z
theorem dict_val {G : Hp} (x : Str) : ∀ {kvs : List (Key × V)} {m : List (Str × PyData)}, DictOk K G kvs m → Dp K G ((valV kvs (Sum.inr x)).getD .non) ((m.lookup x).getD .none)
  | _, _, .nil => .non
  | kv :: kvs, (y, d) :: m, .cons h t => by
    obtain ⟨h1, h2⟩ := h
    unfold valV
    rw [List.find?_cons, List.lookup_cons]
    by_cases z : x = y
    · subst z
      rw [h1, decide_eq_true rfl, beq_self_eq_true]
      exact h2
    · have e1 : decide (kv.1 = Sum.inr x) = false := decide_eq_false (by rw [h1]; exact fun q => z (Sum.inr.inj q).symm)
      have e2 : (x == y) = false := beq_eq_false_iff_ne.mpr z
      rw [e1, e2]
      exact dict_val x t
theorem e_dget1 (h : ED K pen H0 td L fun m => E K pen H0 ty L fun k => ∃ x : Str, k = .str x ∧ P ((m.lookup x).getD .none)) : E K pen H0 (tDGet1 td ty) L P := fun σ G H e Q q =>
  h σ G H e _ fun p kvs m G1 H1 g1 hp hm h1 => ⟨p, rfl, .inl ⟨kvs, .inl (g1.vw.vw _ _ hp)⟩, h1 σ G1 H1 (e.go g1) _ fun v k G2 H2 g2 d2 ⟨x, hx, pp⟩ => by
    subst hx
    cases d2
    exact ⟨_, DGet.k (k := Sum.inr x) (g2.vw.vw _ _ (g2.gg _ _ hp)), q _ _ G2 H2 (g1.trans g2) (dict_val x (dictOk_mono g2.gg hm)) pp⟩⟩
/-! defs that tell a dict -/
def SpXD {α : Type} (K : PySem.W.Frag) (ts : List Addr) (Wf : α → Prop) (enc : α → List PyData) (res : α → List (Str × PyData)) : Sp := fun vs H Q _ => ∃ (x : α) (G : Hp), Vw ⟨none, ts⟩ G H ∧ DpAll K G vs (enc x) ∧ Wf x ∧ ∀ p kvs G' H', Go ⟨none, ts⟩ G H G' H' → G' p = some (.dK kvs) → DictOk K G' kvs (res x) → Q (.ref p) H'
theorem ed_callX {α : Type} {pn : Option Pn} {ts : List Addr} {Wf : α → Prop} {enc : α → List PyData} {res : α → List (Str × PyData)} {X : XK} (h : EA K ⟨pn, ts⟩ H0 tl L fun ds => ∃ x, ds = enc x ∧ Wf x ∧ Pm (res x)) : ED K ⟨pn, ts⟩ H0 (tCall (SpXD K ts Wf enc res) [] X tl) L Pm := fun σ G H e Q q =>
  h σ G H e _ fun vs ds G1 H1 go hd ⟨x, hx, h1, h2⟩ => ⟨x, G1, go.vw.plain, by rw [List.append_nil, ← hx]; exact hd, h1, fun p kvs G' H' go2 hp hm => q p kvs _ G' H' (go.trans (go2.lift go.vw)) hp hm h2⟩
end
section
variable {P : Program} {w : World} {K : PySem.W.Frag} {mg : Str → Option Value} {base : Heap}
theorem fnXD {α : Type} {x qual : Str} {st : Stmt} {f : Addr} {fd : FuncData} {N ps : List Str} {k : Nat} {ts : List Addr} {Wf : α → Prop} {enc : α → List PyData} {res : α → List (Str × PyData)} (F : Fun K x qual st f fd) (S0 : FnScope N ps (defScope st)) (hl : ∀ x, Wf x → (enc x).length = ps.length)
    (hbody : ∀ (cdv : Value) (A : Around) (outer : List Env) (s : Shared) (H : Hp) (E : XK), Room k (A.deeper (envOfC qual (defScope st) s.heap.objs.size f cdv)) →
      ∃ t, PSs (cxOf CX0 P w K mg base N qual (defScope st) f cdv A outer s H E).nox (defBody st) (tRet t) ∧ ∀ x, Wf x → ED K ⟨none, ts⟩ H t (st0 N (enc x)) fun m => m = res x) : FnOk P w K mg base CX0 (k + 1) f fd ps (SpXD K ts Wf enc res) := by
  refine F.ok S0 (fun vs H Q E h => ?_) (fun cdv A outer s H vs Q E hr h => ?_)
  · obtain ⟨x, G, _, h1, h2, _⟩ := h
    rw [dpa_len h1]
    exact hl x h2
  · obtain ⟨x, G, v, h1, h2, q⟩ := h
    obtain ⟨t, ht, hS⟩ := hbody cdv A outer s H E hr
    exact ⟨tRet t, ht, hS x h2 (L2.start N vs) G H (ev_start h1 v) _ fun p kvs m G' H' g hp hm e => by subst e; exact q p kvs G' H' g hp hm⟩
end
end Dl
set_option Elab.async false
set_option linter.all false
set_option maxRecDepth 100000
set_option maxHeartbeats 4000000
namespace Dl
open PySem PySem.Spec PyProof.Rows L2
/-! ### xs + ys of lists that are read -/
def rCatL (K : PySem.W.Frag) : R2 := fun x y H Q => ∃ l b xs zs, x = .ref l ∧ y = .ref b ∧ SqL K H l xs ∧ SqL K H b zs ∧ xs.length + zs.length ≤ sizeLine ∧ ∀ p, H p = none → Q (.ref p) (upd H p (.lst (xs ++ zs)))
section
variable {X : Cx}
theorem op_catL : OpR X (binaryOp .Add) (rCatL X.K) := by
  intro pins s σ H x y v u Q I rx ry h
  obtain ⟨l, b, xs, zs, rfl, rfl, hH, hB, hz, q⟩ := h
  cases rx
  cases ry
  obtain ⟨its, r, ⟨⟨cls, dd, data, sl⟩, n, ho, hc, hdd, hd⟩, z⟩ := I.list hH
  obtain ⟨its2, r2, ⟨⟨cls2, dd2, data2, sl2⟩, n2, ho2, hc2, hdd2, hd2⟩, z2⟩ := I.list hB
  simp only at hc hd hc2 hd2
  subst hc hd hc2 hd2
  have hl := r.length
  have hl2 := r2.length
  have ea : its.toArray ++ its2.toArray = (its ++ its2).toArray := by simp
  refine concat_meets ⟨_, ho, rfl⟩ ⟨_, ho2, rfl⟩ noFill_list_add seq_list_add PySem.F.slot_list_add PySem.F.entry_list_add (PySem.F.args_list_add_2 _ _) (list_addW l b its.toArray its2.toArray n n2 dd dd2 sl sl2 (by rw [List.size_toArray, List.size_toArray]; omega)) ⟨ho, ho2, ?_⟩
  rw [ea]
  exact ⟨.ref _, _, I.lnew (t' := s.toks) (r.append r2) (by rw [List.length_append]; omega), rfl, q _ I.fresh⟩
/-! ### a tuple once -/
theorem tuple_mul1 (l : Addr) (items : Array Value) (n : Nat) (dd : Option Addr) (sl : Array (Option Value)) (u : Tok) :
    Meets (Builtin.«tuple.__mul__» ⟨[.ref l, .int 1 u], []⟩) (fun _ R s => s.heap.get? l = some { cls := .type "tuple", dict := dd, data := .seq items n, slots := sl } ∧ R (.ok (.ret (Value.ref l))) s) :=
  .of_wp fun prog w A R s h => by
    obtain ⟨hp, g, d, tk, os⟩ := s
    obtain ⟨hl, h⟩ := h
    have f1 := AutoSeq1.idx_int
    have c0 : (decide ((1 : Int) < -(2 ^ 63)) || decide ((1 : Int) ≥ 2 ^ 63)) = false := by decide
    have c1 : (items.isEmpty || (1 : Int) == 1) = true := by rw [Bool.or_eq_true]; exact .inr rfl
    wp_walk using wpAny_loadPart' hl
    repeat (first
      | (refine wpAny_ite_false (decide_eq_false (by rw [c0]; exact Bool.false_ne_true)) ?_; wp_walk using wpAny_loadPart' hl)
      | (refine wpAny_ite_true (decide_eq_true c1) ?_; wp_walk using wpAny_loadPart' hl))
    exact ⟨_, rfl, h⟩
def rRepA (K : PySem.W.Frag) : R2 := fun x y H Q => ∃ l k xs, x = .ref l ∧ y = .int k ∧ SqT K H l xs ∧ xs ≠ [] ∧ 1 ≤ k ∧ k ≤ 1000 ∧ xs.length ≤ 1000 ∧ (k = 1 → Q (.ref l) H) ∧ (2 ≤ k → ∀ p, H p = none → Q (.ref p) (upd H p (.tup (List.replicate k.toNat xs).flatten)))
theorem op_repA : OpR X (binaryOp .Mult) (rRepA X.K) := by
  intro pins s σ H x y v u Q I rx ry h
  obtain ⟨l, k, xs, rfl, rfl, hT, hne, h1, h2, hz, q1, q2⟩ := h
  by_cases e : k = 1
  · subst e
    cases rx
    obtain ⟨t, rfl⟩ := ry
    obtain ⟨its, r, ⟨⟨cls, dd, data, sl⟩, ho, hc, n, hd⟩, hs⟩ := I.tuple hT
    simp only at hc hd
    subst hc hd
    refine wpAny_binaryOp_repeat_ref (T := "tuple") (U := "int") (by decide) ⟨_, ho, rfl⟩ (fun s' => typeIs_int s' 1 t) noFill_tuple_mul F.fills_int_mul F.slot_int_rmul repeat_tuple F.slot_int_index.lookup
      (call_meets F.slot_int_rmul (typeIs_int s 1 t) F.entry_int_rmul (F.args_int_rmul_2 _ _) (int_rmul_tuple 1 t l its.toArray n dd sl)
        ⟨ho, rfl, ⟨_, ho, rfl⟩, call_meets F.slot_tuple_mul ⟨_, ho, rfl⟩ F.entry_tuple_mul (F.args_tuple_mul_2 _ _) (tuple_mul1 l its.toArray n dd sl t) ⟨ho, ?_⟩⟩)
    exact ⟨.ref l, H, I, rfl, q1 rfl⟩
  · exact op_repT pins s σ H _ _ v u Q I rx ry ⟨l, k, xs, rfl, rfl, hT, hne, by omega, h2, hz, q2 (by omega)⟩
theorem kx_catL {K : PySem.W.Frag} (h : X.K = K) : OpR X (binaryOp .Add) (rCatL K) := by subst h; exact op_catL
theorem kx_repA {K : PySem.W.Frag} (h : X.K = K) : OpR X (binaryOp .Mult) (rRepA K) := by subst h; exact op_repA
end
section
variable {K : PySem.W.Frag} {pen : Pc} {H0 : Hp} {L : Lv} {P : PyData → Prop} {ta te : TE} {tl : TA}
theorem r_catL {as bs : List PyData} (hl : as.length + bs.length ≤ 100000) (p : P (.list (as ++ bs))) : R2d K pen (rCatL K) (.list as) (.list bs) P := fun x y G H v hx hy Q q => by
  cases hx with
  | lst hs ha =>
    cases hy with
    | lst hs' ha' =>
      rename_i a xs a' ys
      refine ⟨a, a', xs, ys, rfl, rfl, sqL_mono v.vw hs, sqL_mono v.vw hs', Nat.le_trans (by rw [dpa_len ha, dpa_len ha']; exact hl) (by decide : 100000 ≤ sizeLine), fun p' hp => ?_⟩
      have g := Go.new v (o := .lst (xs ++ ys)) hp
      exact q _ _ _ _ g (.lst (.inl (.inl upd_same)) (dpa_mono g.gg _ _ (dpa_app ha ha'))) p
theorem dpa_rep {G : Hp} {vs : List V} {ds : List PyData} (h : DpAll K G vs ds) : ∀ n : Nat, DpAll K G (List.replicate n vs).flatten (List.replicate n ds).flatten
  | 0 => .nil
  | n + 1 => by
    rw [List.replicate_succ, List.replicate_succ, List.flatten_cons, List.flatten_cons]
    exact dpa_app h (dpa_rep h n)
theorem r_repA {ds : List PyData} {k : Nat} (h0 : ds ≠ []) (h1 : 1 ≤ k) (h2 : k ≤ 1000) (h3 : ds.length ≤ 1000) (p : P (.tuple (List.replicate k ds).flatten)) : R2d K pen (rRepA K) (.tuple ds) (.int k) P := fun x y G H v hx hy Q q => by
  cases hx with
  | tup hs ha =>
    cases hy
    rename_i a xs
    have hl := dpa_len ha
    refine ⟨a, k, xs, rfl, rfl, sqT_mono v.vw hs, fun z => h0 ?_, by omega, by omega, by omega, fun e => ?_, fun _ p' hp => ?_⟩
    · rw [z] at hl
      exact List.eq_nil_of_length_eq_zero hl.symm
    · have e : k = 1 := by omega
      subst e
      have e1 : (List.replicate 1 ds).flatten = ds := by rw [List.replicate_one, List.flatten_singleton]
      rw [e1] at p
      exact q _ _ G H (.refl v) (.tup hs ha) p
    · have g := Go.new v (o := .tup (List.replicate ((k : Int)).toNat xs).flatten) hp
      exact q _ _ _ _ g (.tup (.inl (.inl upd_same)) (dpa_mono g.gg _ _ (dpa_rep ha k))) p
theorem r_notBl {i j : Bool} (p : P (.bool (!decide (i = j)))) : R2d K pen rNotB (.bool i) (.bool j) P := fun x y G H v hx hy Q q => by
  cases hx
  cases hy
  exact ⟨i, j, rfl, rfl, q _ _ G H (.refl v) (.bl _) p⟩
/-! ### all(f(x) for x in xs) -/
theorem e_allT {pn : Option Pn} {ts : List Addr} {Tb : Addr} {j : Nat} (f : PyData → Bool) (hT : Tb ∈ ts) (h : E K ⟨pn, ts⟩ H0 ta L fun d => ∃ ds, d = .tuple ds ∧ (∀ x ∈ ds, E K ⟨pn, ts⟩ H0 te ((L.set j none).set j (some (.d x))) fun d => d = .bool (f x)) ∧ P (.bool (ds.all f))) :
    E K ⟨pn, ts⟩ H0 (_root_.Gx.tGen Tb true (iTup K ta) (gName j) tYes te [j]) L P := by
  refine e_genT hT (h.mono fun d ⟨ds, e, hx, hp⟩ => ⟨ds, e, fun i => ds.all f = (ds.drop i).all f, rfl, fun i x hi hJ => et_yes ⟨fun _ => (hx x (List.mem_of_getElem? hi)).mono fun d e2 => ⟨f x, e2, fun hk => ?_, fun hk => ?_⟩, fun z => by cases z⟩, fun hJ => ?_⟩)
  · obtain ⟨hlt, hg⟩ := List.getElem?_eq_some_iff.mp hi
    rw [hJ, List.drop_eq_getElem_cons hlt, List.all_cons, hg, hk, Bool.true_and]
  · obtain ⟨hlt, hg⟩ := List.getElem?_eq_some_iff.mp hi
    rw [hJ, List.drop_eq_getElem_cons hlt, List.all_cons, hg, hk] at hp
    exact hp
  · rw [hJ, List.drop_eq_nil_of_le (Nat.le_refl _)] at hp
    exact hp
theorem e_allZ {pn : Option Pn} {ts : List Addr} {Tb : Addr} {j k : Nat} (f : PyData → PyData → Bool) (hT : Tb ∈ ts) (h : EA K ⟨pn, ts⟩ H0 tl L fun ds => ∃ as bs, ds = [.tuple as, .tuple bs] ∧ as.length = bs.length ∧
    (∀ x ∈ as, ∀ y ∈ bs, E K ⟨pn, ts⟩ H0 te ((((L.set k none).set j none).set j (some (.d x))).set k (some (.d y))) fun d => d = .bool (f x y)) ∧ P (.bool ((as.zip bs).all fun p => f p.1 p.2))) :
    E K ⟨pn, ts⟩ H0 (_root_.Gx.tGen Tb true (RZ.iZipA K tl) (gTup K 2 (gCons (gName j) (gCons (gName k) gNil))) tYes te [j, k]) L P := by
  have hm : ∀ {P P' : List PyData → Prop}, EA K ⟨pn, ts⟩ H0 tl L P → (∀ d, P d → P' d) → EA K ⟨pn, ts⟩ H0 tl L P' := fun h k σ G H e Q q => h σ G H e Q fun v d G' H' g hd p => q v d G' H' g hd (k d p)
  refine e_genZ hT (hm h fun d ⟨as, bs, e, hl, hx, hp⟩ => ⟨as, bs, e, hl, fun i => ((as.zip bs).all fun p => f p.1 p.2) = (((as.drop i).zip (bs.drop i)).all fun p => f p.1 p.2), rfl, fun i x y hi hi2 hJ => et_yes ⟨fun _ => (hx x (List.mem_of_getElem? hi) y (List.mem_of_getElem? hi2)).mono fun d e2 => ⟨f x y, e2, fun hk => ?_, fun hk => ?_⟩, fun z => by cases z⟩, fun hJ => ?_⟩)
  · obtain ⟨hlt, hg⟩ := List.getElem?_eq_some_iff.mp hi
    obtain ⟨hlt2, hg2⟩ := List.getElem?_eq_some_iff.mp hi2
    rw [hJ, List.drop_eq_getElem_cons hlt, List.drop_eq_getElem_cons hlt2, List.zip_cons_cons, List.all_cons, hg, hg2, hk, Bool.true_and]
  · obtain ⟨hlt, hg⟩ := List.getElem?_eq_some_iff.mp hi
    obtain ⟨hlt2, hg2⟩ := List.getElem?_eq_some_iff.mp hi2
    rw [hJ, List.drop_eq_getElem_cons hlt, List.drop_eq_getElem_cons hlt2, List.zip_cons_cons, List.all_cons, hg, hg2, hk] at hp
    exact hp
  · rw [hJ, List.drop_eq_nil_of_le (Nat.le_refl _)] at hp
    exact hp
/-! ### [f(x) for x in xs] -/
theorem e_mapT {j : Nat} (f : PyData → PyData) (h : E K pen H0 ta L fun d => ∃ ds, d = .tuple ds ∧ ds.length ≤ 100000 ∧ (∀ x ∈ ds, E K pen H0 te ((L.set j none).set j (some (.d x))) fun d => d = f x) ∧ P (.list (ds.map f))) :
    E K pen H0 (tLc (iTup K ta) (gName j) tYes te [j]) L P := by
  refine e_lcT (h.mono fun d ⟨ds, e, hz, hx, hp⟩ => ⟨ds, e, hz, fun i acc => acc = (ds.take i).map f, rfl, fun i x acc hi hJ => et_yes ⟨fun _ => (hx x (List.mem_of_getElem? hi)).mono fun d e2 => ?_, fun z => by cases z⟩, fun acc hJ => ?_⟩)
  · obtain ⟨hlt, hg⟩ := List.getElem?_eq_some_iff.mp hi
    rw [hJ, e2, List.take_succ_eq_append_getElem hlt, List.map_append, hg]
    rfl
  · rw [hJ, List.take_length]
    exact hp
end
/-! ### the end with tables -/
theorem tabB_of {base : Heap} {mg : Str → Option Value} {c P : Addr} (h : LamX.TabB base mg c P) : GxR.TabB base mg c P := ⟨h.code, h.bm, h.gP⟩
theorem tabG_nil {H : Hp} {P : Addr} (h : H P = some (.tbl #[])) : _root_.Gx.TabX H P := _root_.Gx.tabX_nil h
/-- the tables of all defs of the top are empty -/
def AllTabs (q : Program) (K : PySem.W.Frag) (mg : Str → Option Value) (h : Heap) : Prop := ∀ (x : Str) (fa c P : Addr) (o : Obj) (fd : FuncData) (e : Value) (dd : Option Addr) (vs : Array Value) (sl : Array (Option Value)), ((recsOf q).any fun e => e.name == x) = true → mg x = some (.ref fa) →
  K.lookup fa = some o → o.data = .func fd → fd.code = .ref c → K.lookup c = some ⟨e, dd, .fields vs, sl⟩ → vs[11]? = some (.ref P) → h.get? P = some { cls := .none, data := .fields #[] }
theorem walk_ofTabs {l : PySem.W.OpenLaw} {n k : Nat} {q : Program} {loose : List Str} {XP : (Str → Option Value) → Heap → Prop} {YP : World → Heap → Prop} {d : DefRec} {K : Params → PySem.W.Frag} {CX : World → CXT} {x : Str}
    (hn : l.most = some n) (hn2 : n ≤ sizeLine) (hdf : d.params.defaults = []) (hr : Room k callerA) (hY : ∀ (w : World) (h : Heap), YP w h → (K w.params).In h)
    (F : ∀ (w : World) (mg : Str → Option Value) (fa : Addr) (h : Heap), (K w.params).In h → h.Ns mainGlobals mg → mg d.name = some (.ref fa) → AllTabs q (K w.params) mg h → LamX.LawAtS l w (K w.params) (CX w) k n x mg fa h)
    (hCX : ∀ (w : World) (H : Hp) (s : Shared) (e : Value) (s' : Shared), CX w [] H s (fun _ _ _ => False) e s' → False) :
    PySem.W.WalkO q loose XP YP l.row.toRowW d [] (fun f vs => PySem.call f vs) := by
  refine Att.attach_callB hn hdf fun w s₀ s₁ mg mb fa o pm cd doc a vs ns G Y ho hd hcd hmg hobj hints hlen hbits hg => ?_
  have KX := hY w _ Y
  have own : AllTabs q (K w.params) mg s₁.heap := fun x f c P o1 fd1 e dd vs1 sl hrec hx k1 k2 k3 k4 k5 => by
    obtain ⟨dL, hm, hn1⟩ := List.any_eq_true.mp hrec
    obtain ⟨a', o', fd', c', P', h1, h2, h3, h4, h5, h6⟩ := G.T.tab dL hm
    rw [beq_iff_eq.mp hn1, hx] at h1
    cases h1
    rw [KX _ _ k1] at h2
    cases h2
    rw [k2] at h3
    cases h3
    rw [k3] at h4
    cases h4
    obtain ⟨⟨oc, vc, e1, _, e3, e4⟩, hP⟩ := h6
    rw [KX _ _ k4] at e1
    cases e1
    cases e3
    rw [k5] at e4
    cases e4
    exact hP
  obtain ⟨fd, cs, sp, hT, nT, C, hb, hsp, hF⟩ := F w mg fa _ KX G.T.g hmg own
  exact LamX.law_callTs KX G.T.g G.T.b G.T.builtins G.T.nolimit hg hT nT C G.T.bmain hobj hints (Nat.le_trans hlen hn2) hr hF hb (fun H hH hS => hsp H a ns hlen hbits hH hS) fun H e s' => hCX w H s₁ e s'
end Dl
set_option Elab.async false
set_option linter.all false
set_option maxRecDepth 100000
namespace Dl
open PySem PySem.Spec PyProof.Rows L2
/-! ### the law's beginning, with tables -/
theorem tabG_upd {H : Hp} {P l : Addr} {o : HO} (h : _root_.Gx.TabX H P) (hn : H l = none) : _root_.Gx.TabX (upd H l o) P := by
  exact h.keep fun a u e => by rw [upd_ne (fun z => by rw [z, hn] at e; cases e)]; exact e
def spPenT (K : PySem.W.Frag) (ts : List Addr) : Sp := fun vs H Q _ => ∃ (a : Addr) (ns : List Int), vs = [.ref a] ∧ SqL K H a (ns.map V.int) ∧ (∀ P ∈ ts, _root_.Gx.TabX H P) ∧
  ∀ (p c : Addr) (cells : List Int) H', H' p = some (.lst [.ref c, .int 0, .int 0]) → H' c = some (.lst (cells.map V.int)) → (∀ P ∈ ts, _root_.Gx.TabX H' P) → Q (.ref p) H'
def spLawT (K : PySem.W.Frag) (ts : List Addr) : Sp := fun vs H Q _ => ∃ (a : Addr) (ns : List Int), vs = [.ref a] ∧ SqL K H a (ns.map V.int) ∧ ns.length ≤ 63 ∧ (∀ P ∈ ts, _root_.Gx.TabX H P) ∧ ∀ H', Q (.bl true) H'
end Dl
set_option Elab.async false
set_option linter.all false
set_option maxRecDepth 100000
set_option maxHeartbeats 4000000
namespace Dl
open PySem PySem.Spec PyProof.Rows L2
/-! ### sorted(set(t)), t a tuple of ints -/
def rSetI (K : PySem.W.Frag) (w : World) : List V → Hp → VK → Prop := fun xs H Q => ∃ (l : Addr) (ns : List Int), xs = [V.ref l] ∧ SqT K H l (ns.map V.int) ∧ ns.length ≤ 1000 ∧ ∀ p c, H p = none → c ≤ ns.length → Q (.ref p) (upd H p (SetO w p (fun j => decide (j ∈ ns)) c))
section
variable {X : Cx}
theorem cr_setI (hc : X.calm = true) : CallR X (.type "set") (rSetI X.K X.w) := by
  intro pins s σ H xs us Q I r h
  obtain ⟨l, ns, rfl, hl, hz, q⟩ := h
  rw [Vals.ref1 r]
  obtain ⟨its, rv, pt, _⟩ := I.tuple hl
  have hb : (2000 : Nat) < scanBound := by decide +kernel
  refine call_set_tupI (P := X.prog) (w := X.w) ns (I.ok.hd hc) (show s.heap.IsTuple l its.toArray from pt) (by simpa using rv.ints) (by omega) fun h' tk c R hcl kp => ?_
  exact ⟨.ref s.heap.objs.size, _, I.laid (t' := tk) kp (Nat.le_refl _) (setO_new R), rfl, q _ c I.fresh hcl⟩
theorem kx_setI {K : PySem.W.Frag} {w : World} (h : X.K = K) (hw : X.w = w) (hc : X.calm = true) : CallR X (.type "set") (rSetI K w) := by subst h; subst hw; exact cr_setI hc
theorem kx_sortedSet {w : World} (hw : X.w = w) (hc : X.calm = true) : CallR X (.builtin "sorted") (rSortedSet w) := by subst hw; exact cr_sortedSet hc
end
def intsL (l : List Int) : List PyData := l.map .int
theorem dpa_ints {K : PySem.W.Frag} {G : Hp} : ∀ {vs : List V} {ns : List Int}, DpAll K G vs (intsL ns) → vs = ns.map V.int
  | _, [], h => by cases h; rfl
  | _, n :: ns, h => by
    cases h with
    | cons h1 h2 =>
      cases h1
      rw [dpa_ints h2]
      rfl
theorem ints_dpa {K : PySem.W.Frag} {G : Hp} : ∀ ns : List Int, DpAll K G (ns.map V.int) (intsL ns)
  | [] => .nil
  | n :: ns => .cons (.int n) (ints_dpa ns)
section
variable {K : PySem.W.Frag} {pen : Pc} {H0 : Hp} {L : Lv} {P : PyData → Prop} {ta te : TE} {tl : TA} {w : World}
theorem e_sortSet (h : E K pen H0 ta L fun d => ∃ ns : List Int, d = .tuple (intsL ns) ∧ ns.length < 64 ∧ ∀ ms : List Int, ms.Pairwise (· < ·) → (∀ k, k ∈ ms ↔ k ∈ ns) → P (.list (intsL ms))) :
    E K pen H0 (tCB (rSortedSet w) (tCons (tCB (rSetI K w) (tCons ta tNil)) tNil)) L P := fun σ G H e Q q => h σ G H e _ fun v d G1 H1 go hd ⟨ns, hds, hz, hp⟩ => by
  subst hds
  cases hd with
  | tup hs ha =>
    rename_i a xs
    have ex := dpa_ints ha
    subst ex
    refine ⟨a, ns, rfl, sqT_mono go.vw.vw hs, by omega, fun p c hpn hc => ?_⟩
    refine ⟨p, _, c, rfl, upd_same, by omega, fun ms r hm1 hm2 hm3 hr => ?_⟩
    have g2 := Go.hid go.vw (o := SetO w p (fun j => decide (j ∈ ns)) c) hpn
    have g3 := Go.new g2.vw (o := .lst (ms.map V.int)) hr
    exact q _ _ _ _ ((go.trans g2).trans g3) (.lst (.inl (.inl upd_same)) (ints_dpa ms)) (hp ms hm1 fun k => by rw [hm2 k, decide_eq_true_eq])
/-! ### k in t, k not in t, t a tuple of ints -/
theorem inV_ints (k : Int) (ns : List Int) : inV (.int k) (ns.map V.int) = decide (k ∈ ns) := by
  unfold inV
  rw [List.any_map]
  have e : ((fun y => eqV y (V.int k)) ∘ V.int) = fun n : Int => decide (n = k) := by
    funext n
    rfl
  rw [e]
  by_cases h : k ∈ ns
  · rw [decide_eq_true h, List.any_eq_true]
    exact ⟨k, h, decide_eq_true rfl⟩
  · rw [decide_eq_false h, List.any_eq_false]
    intro n hn z
    exact h (of_decide_eq_true z ▸ hn)
theorem r_inI {k : Int} {ns : List Int} (p : P (.bool (decide (k ∈ ns)))) : R2d K pen (rIn K false) (.int k) (.tuple (intsL ns)) P := fun x y G H v hx hy Q q => by
  cases hx
  cases hy with
  | tup hs ha =>
    rename_i a xs
    have ex := dpa_ints ha
    subst ex
    refine ⟨a, _, rfl, .inr (sqT_mono v.vw hs), rfl, ?_, ?_⟩
    · rw [List.all_eq_true]
      intro z hz
      obtain ⟨n, _, rfl⟩ := List.mem_map.mp hz
      rfl
    · rw [if_neg Bool.false_ne_true, inV_ints]
      exact q _ _ G H (.refl v) (.bl _) p
theorem r_notInI {k : Int} {ns : List Int} (p : P (.bool (!decide (k ∈ ns)))) : R2d K pen (rIn K true) (.int k) (.tuple (intsL ns)) P := fun x y G H v hx hy Q q => by
  cases hx
  cases hy with
  | tup hs ha =>
    rename_i a xs
    have ex := dpa_ints ha
    subst ex
    refine ⟨a, _, rfl, .inr (sqT_mono v.vw hs), rfl, ?_, ?_⟩
    · rw [List.all_eq_true]
      intro z hz
      obtain ⟨n, _, rfl⟩ := List.mem_map.mp hz
      rfl
    · rw [if_pos rfl, inV_ints]
      exact q _ _ G H (.refl v) (.bl _) p
end
end Dl
set_option Elab.async false
set_option linter.all false
set_option maxRecDepth 100000
set_option maxHeartbeats 4000000
namespace Dl
open PySem PySem.Spec PyProof.Rows L2
/-! ### t == () -/
def rEqNil (K : PySem.W.Frag) : R2 := fun x y H Q => ∃ a b xs, x = .ref a ∧ y = .ref b ∧ SqT K H a xs ∧ SqT K H b [] ∧ Q (.bl (decide (xs.length = 0))) H
section
variable {X : Cx}
theorem op_eqNil {k : Nat} (hr : Room k X.A) : OpR X (compareOp .Eq) (rEqNil X.K) := by
  intro pins s σ H x y v u Q I rx ry h
  obtain ⟨a, b, xs, rfl, rfl, ha, hb, q⟩ := h
  cases rx
  cases ry
  obtain ⟨its, r1, p1, _⟩ := I.tuple ha
  obtain ⟨its2, r2, p2, _⟩ := I.tuple hb
  have l1 := r1.length
  cases r2
  refine SeqAt.eq_tupleAt (e := fun _ => true) (show s.heap.IsTuple a its.toArray from p1) (show s.heap.IsTuple b #[] from p2) (Nat.lt_of_le_of_lt (Nat.le_add_right _ _) hr.units) (fun j _ h2 => absurd h2 (Nat.not_lt_zero _)) ?_
  refine ⟨.bl (decide (xs.length = 0)), H, I, ?_, q⟩
  show Value.bool _ = Value.bool _
  congr 1
  rw [show min its.toArray.size (#[] : Array Value).size = 0 from Nat.min_zero _]
  show (true && (its.toArray.size == 0)) = _
  rw [Bool.true_and, List.size_toArray, ← l1, Bool.eq_iff_iff, beq_iff_eq, decide_eq_true_eq]
theorem kx_eqNil {K : PySem.W.Frag} {k : Nat} (h : X.K = K) (hr : Room k X.A) : OpR X (compareOp .Eq) (rEqNil K) := by subst h; exact op_eqNil hr
end
section
variable {K : PySem.W.Frag} {pen : Pc} {H0 : Hp} {L : Lv} {P : PyData → Prop} {td ty ta te : TE} {tl : TA}
theorem r_eqNil {ds : List PyData} (p : P (.bool (decide (ds.length = 0)))) : R2d K pen (rEqNil K) (.tuple ds) (.tuple []) P := fun x y G H v hx hy Q q => by
  cases hx with
  | tup hs ha =>
    cases hy with
    | tup hs' ha' =>
      rename_i a xs a' ys
      cases ha'
      refine ⟨a, a', xs, rfl, rfl, sqT_mono v.vw hs, sqT_mono v.vw hs', ?_⟩
      rw [dpa_len ha]
      exact q _ _ G H (.refl v) (.bl _) p
/-! ### d[k] -/
theorem dict_some {G : Hp} (x : Str) {d : PyData} : ∀ {kvs : List (Key × V)} {m : List (Str × PyData)}, DictOk K G kvs m → m.lookup x = some d → ∃ v, valV kvs (Sum.inr x) = some v ∧ Dp K G v d
  | _, _, .nil, e => by cases e
  | kv :: kvs, (y, d') :: m, .cons h t, e => by
    obtain ⟨h1, h2⟩ := h
    unfold valV
    rw [List.find?_cons]
    rw [List.lookup_cons] at e
    by_cases z : x = y
    · subst z
      rw [beq_self_eq_true] at e
      cases e
      rw [h1, decide_eq_true rfl]
      exact ⟨_, rfl, h2⟩
    · rw [beq_eq_false_iff_ne.mpr z] at e
      rw [decide_eq_false (by rw [h1]; exact fun q => z (Sum.inr.inj q).symm)]
      exact dict_some x t e
theorem e_dget (h : ED K pen H0 td L fun m => E K pen H0 ty L fun k => ∃ x : Str, k = .str x ∧ ∃ d, m.lookup x = some d ∧ P d) : E K pen H0 (tDGet td ty) L P := fun σ G H e Q q =>
  h σ G H e _ fun p kvs m G1 H1 g1 hp hm h1 => h1 σ G1 H1 (e.go g1) _ fun v k G2 H2 g2 d2 ⟨x, hx, d, hd, pp⟩ => by
    subst hx
    cases d2
    obtain ⟨u, hu, du⟩ := dict_some x (dictOk_mono g2.gg hm) hd
    exact ⟨p, u, rfl, by rw [← hu]; exact DGet.k (k := Sum.inr x) (g2.vw.vw _ _ (g2.gg _ _ hp)), q _ _ G2 H2 (g1.trans g2) du pp⟩
/-! ### texts -/
def strsL (l : List Str) : List PyData := l.map .str
theorem dpa_strs {G : Hp} : ∀ {vs : List V} {ns : List Str}, DpAll K G vs (strsL ns) → vs = ns.map V.str
  | _, [], h => by cases h; rfl
  | _, n :: ns, h => by
    cases h with
    | cons h1 h2 =>
      cases h1
      rw [dpa_strs h2]
      rfl
theorem inV_strs (k : Str) (ns : List Str) : inV (.str k) (ns.map V.str) = decide (k ∈ ns) := by
  unfold inV
  rw [List.any_map]
  by_cases h : k ∈ ns
  · rw [decide_eq_true h, List.any_eq_true]
    exact ⟨k, h, show (k == k) = true from beq_self_eq_true k⟩
  · rw [decide_eq_false h, List.any_eq_false]
    intro n hn z
    have z : (n == k) = true := z
    exact h (beq_iff_eq.mp z ▸ hn)
theorem flat_strs (ns : List Str) : (ns.map V.str).all flatV = true := by
  rw [List.all_eq_true]
  intro x hx
  obtain ⟨b, _, rfl⟩ := List.mem_map.mp hx
  rfl
theorem r_inS {k : Str} {ns : List Str} (p : P (.bool (decide (k ∈ ns)))) : R2d K pen (rIn K false) (.str k) (.tuple (strsL ns)) P := fun x y G H v hx hy Q q => by
  cases hx
  cases hy with
  | tup hs ha =>
    have ex := dpa_strs ha
    subst ex
    refine ⟨_, _, rfl, .inr (sqT_mono v.vw hs), rfl, flat_strs ns, ?_⟩
    rw [if_neg Bool.false_ne_true, inV_strs]
    exact q _ _ G H (.refl v) (.bl _) p
theorem r_notInS {k : Str} {ns : List Str} (p : P (.bool (!decide (k ∈ ns)))) : R2d K pen (rIn K true) (.str k) (.tuple (strsL ns)) P := fun x y G H v hx hy Q q => by
  cases hx
  cases hy with
  | tup hs ha =>
    have ex := dpa_strs ha
    subst ex
    refine ⟨_, _, rfl, .inr (sqT_mono v.vw hs), rfl, flat_strs ns, ?_⟩
    rw [if_pos rfl, inV_strs]
    exact q _ _ G H (.refl v) (.bl _) p
theorem r_addS {i j : Str} (h : i.length + j.length ≤ 100000) (p : P (.str (i ++ j))) : R2d K pen (fun x y H Q => ∃ i j, x = .str i ∧ y = .str j ∧ i.length + j.length ≤ sizeLine ∧ Q (.str (i ++ j)) H) (.str i) (.str j) P := fun x y G H v hx hy Q q => by
  cases hx
  cases hy
  exact ⟨i, j, rfl, rfl, Nat.le_trans h (by decide : 100000 ≤ sizeLine), q _ _ G H (.refl v) (.str _) p⟩
theorem r_slS {z : Str} {lo hi : Option Int} (h : z.length ≤ 100000) (p : P (.str (cutS z lo hi))) : RSd K pen rSlS (.str z) lo hi P := fun x G H v hx Q q => by
  cases hx
  exact ⟨z, rfl, Nat.le_trans h (by decide : 100000 ≤ sizeLine), q _ _ G H (.refl v) (.str _) p⟩
theorem e_upper (h : E K pen H0 te L fun d => ∃ z : Str, d = .str z ∧ z.length ≤ 100000 ∧ P (.str (Txt.upper z))) : E K pen H0 (tM0 (fun x xs H Q => ∃ a, x = .str a ∧ xs = [] ∧ a.length ≤ 5592405 ∧ Q (.str (Txt.upper a)) H) te) L P := fun σ G H e Q q =>
  h σ G H e _ fun v d G1 H1 go hd ⟨z, hz, hl, p⟩ => by
    subst hz
    cases hd
    exact ⟨⟨z, rfl⟩, z, rfl, rfl, Nat.le_trans hl (by decide), q _ _ G1 H1 go (.str _) p⟩
theorem c_strI {i : Int} (h : i.natAbs.log2 < 1920) (p : P (.str (toString i))) : RCd K pen (fun xs H Q => ∃ i, xs = [.int i] ∧ i.natAbs.log2 < 1920 ∧ Q (.str (toString i)) H) [.int i] P := fun vs G H v hv Q q => by
  cases hv with
  | cons h1 h2 =>
    cases h2
    cases h1
    exact ⟨i, rfl, h, q _ _ G H (.refl v) (.str _) p⟩
theorem r_neg {i : Int} (p : P (.int (-i))) : RUd K pen (rU fun i => .int (-i)) (.int i) P := fun x G H v hx Q q => by
  cases hx
  exact ⟨i, rfl, q _ _ G H (.refl v) (.int _) p⟩
theorem cutS_len (z : Str) (lo hi : Option Int) : (cutS z lo hi).length ≤ z.length := by
  show (((z.cps.toList.drop _).take _).toArray).size ≤ z.cps.size
  rw [List.size_toArray, List.length_take, List.length_drop, Array.length_toList]
  omega
theorem e_mapL {j : Nat} (f : PyData → PyData) (h : E K pen H0 ta L fun d => ∃ ds, d = .list ds ∧ ds.length ≤ 100000 ∧ (∀ x ∈ ds, E K pen H0 te ((L.set j none).set j (some (.d x))) fun d => d = f x) ∧ P (.list (ds.map f))) :
    E K pen H0 (tLc (iList K ta) (gName j) tYes te [j]) L P := by
  refine e_lcL (h.mono fun d ⟨ds, e, hz, hx, hp⟩ => ⟨ds, e, hz, fun i acc => acc = (ds.take i).map f, rfl, fun i x acc hi hJ => et_yes ⟨fun _ => (hx x (List.mem_of_getElem? hi)).mono fun d e2 => ?_, fun z => by cases z⟩, fun acc hJ => ?_⟩)
  · obtain ⟨hlt, hg⟩ := List.getElem?_eq_some_iff.mp hi
    rw [hJ, e2, List.take_succ_eq_append_getElem hlt, List.map_append, hg]
    rfl
  · rw [hJ, List.take_length]
    exact hp
end
end Dl
set_option Elab.async false
set_option linter.all false
set_option maxRecDepth 100000
set_option maxHeartbeats 4000000
namespace Dl
open PySem PySem.Spec PyProof.Rows L2
/-! ### what is walked, by its items -/
def Wlk (K : PySem.W.Frag) (pen : Pc) (J : It) (G1 : Hp) (xs : List PyData) : Prop := ∀ G' H', Same G1 G' → Vw pen G' H' →
  (∀ (i : Nat) x, xs[i]? = some x → J.go i H' ∧ ∀ v H2, J.yld i H' v H2 → ∃ G2, Go pen G' H' G2 H2 ∧ Dp K G2 v x) ∧ J.stop xs.length H'
def IT (K : PySem.W.Frag) (pen : Pc) (H0 : Hp) (ti : TI) (L : Lv) (P : List PyData → Prop) : Prop := ∀ (σ : L2.St) (G H : Hp), Ev K pen H0 G H σ L → ∀ R : It → Hp → Prop, (∀ J G1 H1 xs, Go pen G H G1 H1 → Wlk K pen J G1 xs → P xs → R J H1) → ti σ H R
section
variable {K : PySem.W.Frag} {pen : Pc} {H0 : Hp} {L : Lv} {P : List PyData → Prop} {Pd : PyData → Prop} {te ta : TE} {tl : TA} {ti : TI} {tt : TT} {t : TS} {D : Dn} {g : TG} {gs : TGs}
theorem IT.mono {P' : List PyData → Prop} (h : IT K pen H0 ti L P) (k : ∀ d, P d → P' d) : IT K pen H0 ti L P' := fun σ G H e R r => h σ G H e R fun J G1 H1 xs g w p => r J G1 H1 xs g w (k xs p)
theorem it_list (h : E K pen H0 te L fun d => ∃ ds, d = .list ds ∧ P ds) : IT K pen H0 (iList K te) L P := fun σ G H e R r => h σ G H e _ fun v d G1 H1 go hd ⟨ds, hds, p⟩ => by
  subst hds
  cases hd with
  | lst hs ha =>
    rename_i a xs
    refine ⟨a, rfl, ⟨xs, sqL_mono go.vw.vw hs⟩, r _ G1 H1 ds go (fun G' H' s v => ⟨fun i x hx => ?_, ?_⟩) p⟩
    · have z := sqL_mono (s.trans v.vw) hs
      obtain ⟨y, hy, dy⟩ := dpa_get ha hx
      refine ⟨⟨xs, y, z, hy⟩, fun w H2 hw => ?_⟩
      obtain ⟨rfl, f⟩ := hw
      have e1 : w = y := Option.some.inj ((f _ z).symm.trans hy)
      subst e1
      exact ⟨G', .refl v, dp_mono s _ _ dy⟩
    · exact ⟨xs, sqL_mono (s.trans v.vw) hs, by rw [dpa_len ha]; exact Nat.le_refl _⟩
theorem it_tup (h : E K pen H0 te L fun d => ∃ ds, d = .tuple ds ∧ P ds) : IT K pen H0 (iTup K te) L P := fun σ G H e R r => h σ G H e _ fun v d G1 H1 go hd ⟨ds, hds, p⟩ => by
  subst hds
  cases hd with
  | tup hs ha =>
    rename_i a xs
    refine ⟨a, rfl, ⟨xs, sqT_mono go.vw.vw hs⟩, r _ G1 H1 ds go (fun G' H' s v => ⟨fun i x hx => ?_, ?_⟩) p⟩
    · have z := sqT_mono (s.trans v.vw) hs
      obtain ⟨y, hy, dy⟩ := dpa_get ha hx
      refine ⟨⟨xs, y, z, hy⟩, fun w H2 hw => ?_⟩
      obtain ⟨rfl, f⟩ := hw
      have e1 : w = y := Option.some.inj ((f _ z).symm.trans hy)
      subst e1
      exact ⟨G', .refl v, dp_mono s _ _ dy⟩
    · exact ⟨xs, sqT_mono (s.trans v.vw) hs, by rw [dpa_len ha]; exact Nat.le_refl _⟩
/-- lo, lo + 1, .., n of them -/
def rngL (lo : Int) (n : Nat) : List PyData := (List.range n).map fun i => .int (lo + (i : Nat))
theorem rngL_len (lo : Int) (n : Nat) : (rngL lo n).length = n := by unfold rngL; rw [List.length_map, List.length_range]
theorem rngL_get {lo : Int} {n i : Nat} {x : PyData} (h : (rngL lo n)[i]? = some x) : i < n ∧ x = .int (lo + i) := by
  have hi : i < n := by
    have := (List.getElem?_eq_some_iff.mp h).1
    rw [rngL_len] at this; exact this
  refine ⟨hi, ?_⟩
  unfold rngL at h
  rw [List.getElem?_map, List.getElem?_range hi] at h
  exact (Option.some.inj h).symm
theorem wlk_rng (lo : Int) (n : Nat) (G : Hp) : Wlk K pen (Itr lo n) G (rngL lo n) := fun G' H' s v => ⟨fun i x hx => by
    obtain ⟨hi, rfl⟩ := rngL_get hx
    refine ⟨hi, fun w H2 hw => ?_⟩
    obtain ⟨rfl, rfl⟩ := hw
    exact ⟨G', .refl v, .int _⟩, by rw [rngL_len]; exact Nat.le_refl _⟩
theorem it_rng (h : EA K pen H0 tl L fun ds => ∃ j : Int, ds = [.int j] ∧ -(2 ^ 62) ≤ j ∧ j < 2 ^ 62 ∧ P (rngL 0 j.toNat)) : IT K pen H0 (iRng1 tl) L P := fun σ G H e R r => h σ G H e _ fun vs ds G1 H1 go hd ⟨j, hds, h1, h2, p⟩ => by
  subst hds
  cases hd with
  | cons hd hd2 =>
    cases hd2
    cases hd
    exact ⟨j, rfl, h1, h2, r _ G1 H1 _ go (wlk_rng _ _ _) p⟩
theorem it_rng2 (h : EA K pen H0 tl L fun ds => ∃ i j : Int, ds = [.int i, .int j] ∧ (-(2 ^ 62) ≤ i ∧ i < 2 ^ 62 ∧ -(2 ^ 62) ≤ j ∧ j < 2 ^ 62) ∧ P (rngL i (j - i).toNat)) : IT K pen H0 (iRng2 tl) L P := fun σ G H e R r => h σ G H e _ fun vs ds G1 H1 go hd ⟨i, j, hds, h1, p⟩ => by
  subst hds
  cases hd with
  | cons hd hd2 =>
    cases hd2 with
    | cons hd3 hd4 =>
      cases hd4
      cases hd
      cases hd3
      exact ⟨i, j, rfl, h1, r _ G1 H1 _ go (wlk_rng _ _ _) p⟩
/-- enumerate(list) -/
def enumL (ds : List PyData) : List PyData := ds.mapIdx fun i x => .tuple [.int (i : Nat), x]
theorem enumL_get {ds : List PyData} {i : Nat} {x : PyData} (h : (enumL ds)[i]? = some x) : ∃ y, ds[i]? = some y ∧ x = .tuple [.int (i : Nat), y] := by
  unfold enumL at h
  rw [List.getElem?_mapIdx] at h
  cases e : ds[i]? with
  | none => rw [e] at h; cases h
  | some y => rw [e] at h; exact ⟨y, rfl, (Option.some.inj h).symm⟩
theorem enumL_len (ds : List PyData) : (enumL ds).length = ds.length := by unfold enumL; rw [List.length_mapIdx]
theorem it_enum (h : EA K pen H0 tl L fun es => ∃ ds, es = [.list ds] ∧ P (enumL ds)) : IT K pen H0 (iEnum K tl) L P := fun σ G H e R r => h σ G H e _ fun vs es G1 H1 go hd ⟨ds, hds, p⟩ => by
  subst hds
  cases hd with
  | cons hd hd2 =>
    cases hd2
    cases hd with
    | lst hs ha =>
      rename_i a xs
      refine ⟨a, xs, rfl, sqL_mono go.vw.vw hs, r _ G1 H1 _ go (fun G' H' s v => ⟨fun i x hx => ?_, ?_⟩) p⟩
      · have z := sqL_mono (s.trans v.vw) hs
        obtain ⟨y', hy', rfl⟩ := enumL_get hx
        obtain ⟨y, hy, dy⟩ := dpa_get ha hy'
        refine ⟨⟨xs, y, z, hy⟩, fun w H2 hw => ?_⟩
        obtain ⟨T, u, rfl, hT, rfl, f⟩ := hw
        have e1 : u = y := Option.some.inj ((f _ z).symm.trans hy)
        subst e1
        have g2 := Go.new v (o := .tup [.int (i : Nat), u]) hT
        exact ⟨_, g2, .tup (.inl (.inl upd_same)) (.cons (.int _) (.cons (dp_mono (s.trans g2.gg) _ _ dy) .nil))⟩
      · exact ⟨xs, sqL_mono (s.trans v.vw) hs, by rw [dpa_len ha, enumL_len]; exact Nat.le_refl _⟩
/-- zip -/
def zipL (as bs : List PyData) : List PyData := (as.zip bs).map fun p => .tuple [p.1, p.2]
theorem zipL_len (as bs : List PyData) : (zipL as bs).length = min as.length bs.length := by unfold zipL; rw [List.length_map, List.length_zip]
theorem zipL_get {as bs : List PyData} {i : Nat} {x : PyData} (h : (zipL as bs)[i]? = some x) : ∃ a b, as[i]? = some a ∧ bs[i]? = some b ∧ x = .tuple [a, b] := by
  unfold zipL at h
  rw [List.getElem?_map] at h
  cases e : (as.zip bs)[i]? with
  | none => rw [e] at h; cases h
  | some y =>
    rw [e] at h
    obtain ⟨h1, h2⟩ := List.getElem?_zip_eq_some.mp e
    exact ⟨y.1, y.2, h1, h2, (Option.some.inj h).symm⟩
theorem it_zip (h : EA K pen H0 tl L fun es => ∃ as bs, (es = [.tuple as, .tuple bs] ∨ es = [.list as, .list bs]) ∧ P (zipL as bs)) : IT K pen H0 (RZ.iZipA K tl) L P := fun σ G H e R r => h σ G H e _ fun vs es G1 H1 go hd ⟨as, bs, hds, p⟩ => by
  rcases hds with rfl | rfl
  · cases hd with
    | cons hd hd2 =>
      cases hd2 with
      | cons hd3 hd4 =>
        cases hd4
        cases hd with
        | tup hs ha =>
          cases hd3 with
          | tup hs' ha' =>
            rename_i a xs a' ys
            refine ⟨a, a', xs, ys, rfl, .inr ⟨sqT_mono go.vw.vw hs, sqT_mono go.vw.vw hs', r _ G1 H1 _ go (fun G' H' s v => ⟨fun i x hx => ?_, ?_⟩) p⟩⟩
            · have z := sqT_mono (s.trans v.vw) hs
              have z' := sqT_mono (s.trans v.vw) hs'
              obtain ⟨x1, x2, hx1, hx2, rfl⟩ := zipL_get hx
              obtain ⟨y1, hy1, dy1⟩ := dpa_get ha hx1
              obtain ⟨y2, hy2, dy2⟩ := dpa_get ha' hx2
              refine ⟨⟨xs, ys, y1, y2, z, z', hy1, hy2⟩, fun w H2 hw => ?_⟩
              obtain ⟨T, u1, u2, rfl, hT, rfl, f1, f2⟩ := hw
              have e1 : u1 = y1 := Option.some.inj ((f1 _ z).symm.trans hy1)
              have e2 : u2 = y2 := Option.some.inj ((f2 _ z').symm.trans hy2)
              subst e1 e2
              have g2 := Go.new v (o := .tup [u1, u2]) hT
              exact ⟨_, g2, .tup (.inl (.inl upd_same)) (.cons (dp_mono (s.trans g2.gg) _ _ dy1) (.cons (dp_mono (s.trans g2.gg) _ _ dy2) .nil))⟩
            · refine ⟨xs, ys, sqT_mono (s.trans v.vw) hs, sqT_mono (s.trans v.vw) hs', ?_⟩
              rw [dpa_len ha, dpa_len ha', zipL_len]
              omega
  · cases hd with
    | cons hd hd2 =>
      cases hd2 with
      | cons hd3 hd4 =>
        cases hd4
        cases hd with
        | lst hs ha =>
          cases hd3 with
          | lst hs' ha' =>
            rename_i a xs a' ys
            refine ⟨a, a', xs, ys, rfl, .inl ⟨sqL_mono go.vw.vw hs, sqL_mono go.vw.vw hs', r _ G1 H1 _ go (fun G' H' s v => ⟨fun i x hx => ?_, ?_⟩) p⟩⟩
            · have z := sqL_mono (s.trans v.vw) hs
              have z' := sqL_mono (s.trans v.vw) hs'
              obtain ⟨x1, x2, hx1, hx2, rfl⟩ := zipL_get hx
              obtain ⟨y1, hy1, dy1⟩ := dpa_get ha hx1
              obtain ⟨y2, hy2, dy2⟩ := dpa_get ha' hx2
              refine ⟨⟨xs, ys, y1, y2, z, z', hy1, hy2⟩, fun w H2 hw => ?_⟩
              obtain ⟨T, u1, u2, rfl, hT, rfl, f1, f2⟩ := hw
              have e1 : u1 = y1 := Option.some.inj ((f1 _ z).symm.trans hy1)
              have e2 : u2 = y2 := Option.some.inj ((f2 _ z').symm.trans hy2)
              subst e1 e2
              have g2 := Go.new v (o := .tup [u1, u2]) hT
              exact ⟨_, g2, .tup (.inl (.inl upd_same)) (.cons (dp_mono (s.trans g2.gg) _ _ dy1) (.cons (dp_mono (s.trans g2.gg) _ _ dy2) .nil))⟩
            · refine ⟨xs, ys, sqL_mono (s.trans v.vw) hs, sqL_mono (s.trans v.vw) hs', ?_⟩
              rw [dpa_len ha, dpa_len ha', zipL_len]
              omega
/-! ### for, over anything that is walked -/
theorem s_forI (h : IT K pen H0 ti L fun xs => ∃ I : Nat → Lv → Prop, Wk I 0 L ∧ (∀ (i : Nat) x L', xs[i]? = some x → I i L' → GT K pen H0 g x L' fun L2 => S K pen H0 t L2 { D with nx := Wk I (i + 1), ct := Wk I (i + 1), bk := D.nx }) ∧ (∀ L', I xs.length L' → ∀ L4, Sub L' L4 → D.nx L4)) :
    S K pen H0 (tFor ti g t) L D := fun σ G H N e n1 n2 n3 n4 n5 n6 => h σ G H e _ fun J G1 H1 xs go w ⟨I, i0, is, id⟩ => by
  have x1 := e.gx go
  refine ⟨fun i m σ' H' => m = xs.length - i ∧ i ≤ xs.length ∧ ∃ G' L', Gx pen H0 G1 H1 G' H' ∧ Ev K pen H0 G' H' σ' L' ∧ I i L', ⟨xs.length, rfl, Nat.zero_le _, ?_⟩, ?_⟩
  · obtain ⟨L3, s, hI⟩ := i0
    exact ⟨G1, L3, .refl, (e.go go).sub s, hI⟩
  rintro i m σ1 H2 ⟨rfl, hi, G2, L2, x2, e2, q2⟩
  obtain ⟨w1, w2⟩ := w G2 H2 x2.gg e2.vw
  by_cases hlt : i < xs.length
  · obtain ⟨k1, k2⟩ := w1 i _ (List.getElem?_eq_getElem hlt)
    refine .inr ⟨k1, fun σ' H' => ∃ G' L', Gx pen H0 G1 H1 G' H' ∧ Ev K pen H0 G' H' σ' L' ∧ Wk I (i + 1) L', fun σ' H' ⟨G', L', a, b, L3, s, c⟩ => ⟨xs.length - (i + 1), by omega, rfl, hlt, G', L3, a, b.sub s, c⟩, fun v H3 hy => ?_⟩
    obtain ⟨G3, g3, d3⟩ := k2 v H3 hy
    have x3 := x2.trans (e2.gx g3)
    refine is i _ L2 (List.getElem?_eq_getElem hlt) q2 σ1 G3 H3 v (e2.go g3) d3 _ fun σ4 L4 e4 h4 => ?_
    exact h4 σ4 G3 H3 _ e4 (fun σ5 G5 H5 L5 x5 e5 q5 => ⟨G5, L5, x3.trans x5, e5, q5⟩) (fun v d G5 H5 x5 vw hd q5 => n2 v d G5 H5 (x1.trans (x3.trans x5)) vw hd q5)
      (fun σ5 G5 H5 L5 x5 e5 q5 => n1 σ5 G5 H5 L5 (x1.trans (x3.trans x5)) e5 q5) (fun σ5 G5 H5 L5 x5 e5 q5 => ⟨G5, L5, x3.trans x5, e5, q5⟩) (fun v d G5 H5 x5 vw hd q5 => n5 v d G5 H5 (x1.trans (x3.trans x5)) vw hd q5) (fun l ho o G5 H5 x5 vw h1 h2 h3 h4 q5 => n6 l ho o G5 H5 (x1.trans (x3.trans x5)) vw h1 h2 h3 h4 q5)
  · have e1 : i = xs.length := by omega
    subst e1
    exact .inl ⟨w2, n1 σ1 G2 H2 L2 (x1.trans x2) e2 (id L2 q2 L2 (Sub.refl _))⟩
/-! ### targets within a comprehension -/
def Agree (vs : List Nat) (σ σ' : L2.St) : Prop := σ'.length = σ.length ∧ ∀ j, j ∉ vs → σ'[j]? = σ[j]?
theorem wipe_get (σ : L2.St) : ∀ (vs : List Nat) (j : Nat), (wipe σ vs)[j]? = if j ∈ vs then (if j < σ.length then some none else none) else σ[j]?
  | [], j => by simp [wipe]
  | v :: vs, j => by
    unfold wipe
    rw [List.getElem?_set, wipe_get σ vs j, wipe_length]
    by_cases h : v = j
    · subst h
      simp
    · rw [if_neg h]
      have : (j ∈ v :: vs) = (j ∈ vs) := by rw [List.mem_cons]; exact propext ⟨fun z => z.resolve_left fun q => h q.symm, .inr⟩
      simp only [this]
theorem wipe_agree {vs : List Nat} {σ σ' : L2.St} (h : Agree vs (wipe σ vs) σ') : wipe σ' vs = wipe σ vs := by
  apply List.ext_getElem?
  intro j
  have hl := h.1
  rw [wipe_length] at hl
  rw [wipe_get, wipe_get, hl]
  by_cases hj : j ∈ vs
  · rw [if_pos hj, if_pos hj]
  · rw [if_neg hj, if_neg hj, h.2 j hj, wipe_get, if_neg hj]
def wipeL (L : Lv) : List Nat → Lv
  | [] => L
  | v :: vs => (wipeL L vs).set v none
theorem ev_wipe {G H : Hp} {σ : L2.St} (e : Ev K pen H0 G H σ L) : ∀ vs : List Nat, Ev K pen H0 G H (wipe σ vs) (wipeL L vs)
  | [] => e
  | v :: vs => (ev_wipe e vs).unset v
def GTw (K : PySem.W.Frag) (pen : Pc) (H0 : Hp) (vs : List Nat) (g : TG) (d : PyData) (L : Lv) (P : Lv → Prop) : Prop := ∀ (σ : L2.St) (G H : Hp) (v : V), Ev K pen H0 G H σ L → Dp K G v d → ∀ R : L2.St → Hp → Prop, (∀ σ' L', Agree vs σ σ' → Ev K pen H0 G H σ' L' → P L' → R σ' H) → g v σ H R
def GTws (K : PySem.W.Frag) (pen : Pc) (H0 : Hp) (vs : List Nat) (g : TGs) (ds : List PyData) (L : Lv) (P : Lv → Prop) : Prop := ∀ (σ : L2.St) (G H : Hp) (us : List V), Ev K pen H0 G H σ L → DpAll K G us ds → ∀ R : L2.St → Hp → Prop, (∀ σ' L', Agree vs σ σ' → Ev K pen H0 G H σ' L' → P L' → R σ' H) → g us σ H R
theorem gw_name {vs : List Nat} {i : Nat} {d : PyData} {P : Lv → Prop} (hi : i ∈ vs) (h : P (L.set i (some (.d d)))) : GTw K pen H0 vs (gName i) d L P := fun σ G H v e hd R r =>
  r _ _ ⟨List.length_set .., fun j hj => List.getElem?_set_ne fun (z : i = j) => hj (z ▸ hi)⟩ (e.set hd) h
theorem gw_tup {vs : List Nat} {n : Nat} {ds : List PyData} {P : Lv → Prop} (hn : ds.length = n) (h : GTws K pen H0 vs gs ds L P) : GTw K pen H0 vs (gTup K n gs) (.tuple ds) L P := fun σ G H v e hd R r => by
  cases hd with
  | tup hs ha => exact ⟨_, _, rfl, sqT_mono e.vw.vw hs, (dpa_len ha).trans hn, h σ G H _ e ha R r⟩
theorem gws_nil {vs : List Nat} {P : Lv → Prop} (h : P L) : GTws K pen H0 vs gNil [] L P := fun σ G H us e hd R r => by
  cases hd
  exact ⟨rfl, r _ _ ⟨rfl, fun _ _ => rfl⟩ e h⟩
theorem gws_cons {vs : List Nat} {d : PyData} {ds : List PyData} {P : Lv → Prop} (h : GTw K pen H0 vs g d L fun L' => GTws K pen H0 vs gs ds L' P) : GTws K pen H0 vs (gCons g gs) (d :: ds) L P := fun σ G H us e hd R r => by
  cases hd with
  | cons h1 h2 =>
    refine ⟨_, _, rfl, h σ G H _ e h1 _ fun σ' L' a e' h' => ?_⟩
    exact h' σ' G H _ e' h2 R fun σ2 L2 a2 e2 p2 => r σ2 L2 ⟨a2.1.trans a.1, fun j hj => (a2.2 j hj).trans (a.2 j hj)⟩ e2 p2
/-! ### a comprehension over anything that is walked -/
theorem el_lcI {vs : List Nat} {Pl : List PyData → Prop} (h : IT K pen H0 ti L fun xs => xs.length ≤ 100000 ∧ ∃ J : Nat → List PyData → Prop, J 0 [] ∧
    (∀ (i : Nat) x acc, xs[i]? = some x → J i acc → GTw K pen H0 vs g x (wipeL L vs) fun L2 => LcT K pen H0 tt te L2 acc (J (i + 1))) ∧ (∀ acc, J xs.length acc → Pl acc)) :
    EL K pen H0 (tLc ti g tt te vs) L Pl := fun σ G H e Q q => h σ G H e _ fun It G1 H1 xs go w ⟨hn, J, j0, js, je⟩ => fun Dl hD => by
  refine ⟨fun i m H' => m = xs.length - i ∧ i ≤ xs.length ∧ LcI K pen G1 H1 Dl J i H', ⟨xs.length, rfl, Nat.zero_le _, lc_start go.vw hD j0⟩, ?_⟩
  rintro i m H' ⟨rfl, hi, I⟩
  obtain ⟨G', us, acc, g1, h1, h2, h3, h4, h5⟩ := id I
  obtain ⟨w1, w2⟩ := w G' H' g1.gg g1.vw
  by_cases hlt : i < xs.length
  · obtain ⟨k1, k2⟩ := w1 i _ (List.getElem?_eq_getElem hlt)
    refine .inr ⟨k1, LcI K pen G1 H1 Dl J (i + 1), fun H2 I2 => ⟨xs.length - (i + 1), by omega, rfl, hlt, I2⟩, fun v H2 hv => ?_⟩
    obtain ⟨G2, g2, d2⟩ := k2 v H2 hv
    have np : ¬ IsPn pen Dl := fun p => go.vw.ok.there p hD
    have e2 := ev_wipe (((e.go go).go g1).go g2) vs
    refine js i _ acc (List.getElem?_eq_getElem hlt) h4 (wipe σ vs) G2 H2 v e2 d2 _ fun σ3 L3 ag e3 h6 => ⟨wipe_agree ag, ?_⟩
    exact lc_turn go.vw hD (by omega) (g1.trans g2) (g2.od Dl _ np h1) ((g2.nw Dl (by rw [h1]; exact fun z => by cases z)).trans h2) (dpa_mono g2.gg _ _ h3) h5 e3 h6
  · have e1 : i = xs.length := by omega
    subst e1
    exact .inl ⟨w2, lc_end go hD I je q⟩
theorem e_lcI {vs : List Nat} (h : IT K pen H0 ti L fun xs => xs.length ≤ 100000 ∧ ∃ J : Nat → List PyData → Prop, J 0 [] ∧
    (∀ (i : Nat) x acc, xs[i]? = some x → J i acc → GTw K pen H0 vs g x (wipeL L vs) fun L2 => LcT K pen H0 tt te L2 acc (J (i + 1))) ∧ (∀ acc, J xs.length acc → Pd (.list acc))) :
    E K pen H0 (tLc ti g tt te vs) L Pd := e_ofL (el_lcI h)
/-- the plain way: each item gives one, or none -/
theorem el_lcF {vs : List Nat} {Pl : List PyData → Prop} (f : Nat → PyData → Option PyData) (h : IT K pen H0 ti L fun xs => xs.length ≤ 100000 ∧
    (∀ (i : Nat) x, xs[i]? = some x → GTw K pen H0 vs g x (wipeL L vs) fun L2 => ET K pen H0 tt L2 fun b => (b = true → E K pen H0 te L2 fun d => f i x = some d) ∧ (b = false → f i x = none)) ∧ Pl ((xs.mapIdx f).filterMap id)) :
    EL K pen H0 (tLc ti g tt te vs) L Pl := by
  refine el_lcI (h.mono fun xs ⟨hn, hs, hp⟩ => ⟨hn, fun i acc => acc = ((xs.take i).mapIdx f).filterMap id, by simp, fun i x acc hx ha => ?_, fun acc ha => ?_⟩)
  · have key : ((xs.take (i + 1)).mapIdx f).filterMap id = ((xs.take i).mapIdx f).filterMap id ++ (f i x).toList := by
      obtain ⟨hlt, hg⟩ := List.getElem?_eq_some_iff.mp hx
      rw [List.take_succ_eq_append_getElem hlt, List.mapIdx_append, List.filterMap_append, hg]
      congr 1
      simp only [List.mapIdx_cons, List.mapIdx_nil, List.length_take]
      rw [Nat.min_eq_left (Nat.le_of_lt hlt)]
      simp only [Nat.zero_add]
      cases f i x <;> rfl
    intro σ G H v e hd R r
    refine hs i x hx σ G H v e hd R fun σ' L' ag e' p => r σ' L' ag e' (p.mono fun b pb => ⟨fun hb => (pb.1 hb).mono fun d hd => ?_, fun hb => ?_⟩)
    · show acc ++ [d] = _
      rw [ha, key, hd]; rfl
    · show acc = _
      rw [ha, key, pb.2 hb]; simp
  · have ha : acc = ((xs.take xs.length).mapIdx f).filterMap id := ha
    rw [List.take_length] at ha
    rw [ha]; exact hp
/-! ### all(..), any(..) over anything that is walked -/
theorem e_genI {pn : Option Pn} {ts : List Addr} {Tb : Addr} {go : Bool} {vs : List Nat} (hT : Tb ∈ ts) (h : IT K ⟨pn, ts⟩ H0 ti L fun xs => ∃ J : Nat → Prop, J 0 ∧
    (∀ (i : Nat) x, xs[i]? = some x → J i → GTw K ⟨pn, ts⟩ H0 vs g x (wipeL L vs) fun L2 => GnT K ⟨pn, ts⟩ H0 go tt te L2 (J (i + 1)) Pd) ∧ (J xs.length → Pd (.bool go))) :
    E K ⟨pn, ts⟩ H0 (_root_.Gx.tGen Tb go ti g tt te vs) L Pd := fun σ G H e Q q => h σ G H e _ fun It G1 H1 xs gg w ⟨J, j0, js, je⟩ => by
  refine ⟨gg.vw.ok.2 Tb hT, fun H2 htab => ?_⟩
  have g2 := Go.tab gg.vw hT htab
  refine ⟨fun i m H' => m = xs.length - i ∧ i ≤ xs.length ∧ J i ∧ ∃ G', Go ⟨pn, ts⟩ G1 H2 G' H', ⟨xs.length, rfl, Nat.zero_le _, j0, G1, .refl g2.vw⟩, ?_⟩
  rintro i m H' ⟨rfl, hi, hJ, G', g'⟩
  have q' : ∀ v d G' H', Go ⟨pn, ts⟩ G1 H2 G' H' → Dp K G' v d → Pd d → Q v H' := fun v d G' H' g hd p => q v d G' H' ((gg.trans g2).trans g) hd p
  obtain ⟨w1, w2⟩ := w G' H' g'.gg g'.vw
  by_cases hlt : i < xs.length
  · obtain ⟨k1, k2⟩ := w1 i _ (List.getElem?_eq_getElem hlt)
    refine .inr ⟨k1, fun H3 => J (i + 1) ∧ ∃ G', Go ⟨pn, ts⟩ G1 H2 G' H3, fun H3 ⟨k1, k2⟩ => ⟨xs.length - (i + 1), by omega, rfl, hlt, k1, k2⟩, fun y H3 hy => ?_⟩
    obtain ⟨G3, g3, d3⟩ := k2 y H3 hy
    refine js i _ (List.getElem?_eq_getElem hlt) hJ (wipe σ vs) G3 H3 y (ev_wipe ((((e.go gg).go g2).go g').go g3) vs) d3 _ fun σ4 L4 ag e4 h4 => ⟨wipe_agree ag, ?_⟩
    exact gn_turn (g'.trans g3) e4 h4 (fun G3 H3 g3 k => ⟨k, G3, g3⟩) q'
  · have e1 : i = xs.length := by omega
    subst e1
    exact .inl ⟨w2, q' _ _ G' H' g' (.bl _) (je hJ)⟩
/-- all(f(x) ..) -/
theorem e_allI {pn : Option Pn} {ts : List Addr} {Tb : Addr} {vs : List Nat} (f : PyData → Bool) (hT : Tb ∈ ts) (h : IT K ⟨pn, ts⟩ H0 ti L fun xs => (∀ x ∈ xs, GTw K ⟨pn, ts⟩ H0 vs g x (wipeL L vs) fun L2 => E K ⟨pn, ts⟩ H0 te L2 fun d => d = .bool (f x)) ∧ Pd (.bool (xs.all f))) :
    E K ⟨pn, ts⟩ H0 (_root_.Gx.tGen Tb true ti g tYes te vs) L Pd := by
  refine e_genI hT (h.mono fun xs ⟨hx, hp⟩ => ⟨fun i => xs.all f = (xs.drop i).all f, rfl, fun i x hi hJ => ?_, fun hJ => ?_⟩)
  · intro σ G H v e hd R r
    obtain ⟨hlt, hg⟩ := List.getElem?_eq_some_iff.mp hi
    refine hx x (List.mem_of_getElem? hi) σ G H v e hd R fun σ' L' ag e' p => r σ' L' ag e' (et_yes ⟨fun _ => p.mono fun d e2 => ⟨f x, e2, fun hk => ?_, fun hk => ?_⟩, fun z => by cases z⟩)
    · rw [hJ, List.drop_eq_getElem_cons hlt, List.all_cons, hg, hk, Bool.true_and]
    · rw [hJ, List.drop_eq_getElem_cons hlt, List.all_cons, hg, hk] at hp
      exact hp
  · rw [hJ, List.drop_eq_nil_of_le (Nat.le_refl _)] at hp
    exact hp
/-! ### own lists kept from now on -/
theorem s_frz {j : Nat} {ds : List PyData} (hj : L[j]? = some (some (.own (.lst ds)))) (h : S K pen H0 t (L.set j (some (.d (.list ds)))) D) (nf : noFr L = true := by rfl) : S K pen H0 t L D := fun σ G H N e n1 n2 n3 n4 n5 n6 => by
  obtain ⟨x, k1, l, ho, rfl, k3, k4, k5, k6⟩ := e.sl j _ hj
  obtain ⟨vs, rfl, k6⟩ := k6.lst
  have s : Same G (upd G l (.lst vs)) := fun a o q => by rw [upd_ne (ne_of_none q k5)]; exact q
  have x0 : Gx pen H0 G H (upd G l (.lst vs)) H := ⟨s, fun a h => upd_ne (fun z => h (by rw [z]; exact k4)), fun _ _ _ _ q => q⟩
  have vw : Vw pen (upd G l (.lst vs)) H := ⟨fun a o q => by
    by_cases z : a = l
    · subst z; rw [upd_same] at q; rw [k3]; exact q
    · rw [upd_ne z] at q; exact e.vw.vw a o q, fun a p => by rw [upd_ne (fun z => e.h0.there p (by rw [z]; exact k4))]; exact e.vw.no a p, e.vw.ok⟩
  have jl : j < L.length := (List.getElem?_eq_some_iff.mp hj).1
  have e1 : Ev K pen H0 (upd G l (.lst vs)) H σ (L.set j (some (.d (.list ds)))) := by
    refine ⟨vw, e.h0, e.dom, by rw [List.length_set]; exact e.len, fun i av hi => ?_, fun i k o1 o2 l' h1 h2 h3 h4 => ?_⟩
    · by_cases q : j = i
      · subst q
        rw [List.getElem?_set_self jl] at hi
        have := Option.some.inj (Option.some.inj hi)
        subst this
        exact ⟨_, k1, .lst (.inl (.inl upd_same)) (dpa_mono s _ _ k6)⟩
      · rw [List.getElem?_set_ne q] at hi
        obtain ⟨w, m1, m2⟩ := e.sl i av hi
        refine ⟨w, m1, ?_⟩
        cases av with
        | d x => exact dp_mono s _ _ m2
        | pen => exact m2
        | own o =>
          obtain ⟨l3, vs3, rfl, m3, m4, m5, m6⟩ := m2
          refine ⟨l3, vs3, rfl, m3, m4, ?_, m6.mono s⟩
          rw [upd_ne (fun z => q (e.ow j i _ o l hj hi k1 (by rw [← z]; exact m1)))]
          exact m5
        | bor o =>
          obtain ⟨l3, vs3, rfl, m3, m4, m5, m6⟩ := m2
          exact ⟨l3, vs3, rfl, m3, m4, m5, m6.mono s⟩
        | fr x => exact (noFr_get nf hi).elim
    · have was : ∀ (i : Nat) (o : OO), (L.set j (some (.d (.list ds))))[i]? = some (some (.own o)) → L[i]? = some (some (.own o)) := fun i o hi => by
        by_cases q : j = i
        · subst q
          rw [List.getElem?_set_self jl] at hi
          cases hi
        · rw [List.getElem?_set_ne q] at hi; exact hi
      exact e.ow i k o1 o2 l' (was _ _ h1) (was _ _ h2) h3 h4
  exact h σ _ H N e1 (fun σ' G' H' L' x e' q => n1 σ' G' H' L' (x0.trans x) e' q) (fun v d G' H' x vw hd q => n2 v d G' H' (x0.trans x) vw hd q) (fun σ' G' H' L' x e' q => n3 σ' G' H' L' (x0.trans x) e' q) (fun σ' G' H' L' x e' q => n4 σ' G' H' L' (x0.trans x) e' q) (fun v d G' H' x vw hd q => n5 v d G' H' (x0.trans x) vw hd q) (fun l ho o G' H' x vw h1 h2 h3 h4 q => n6 l ho o G' H' (x0.trans x) vw h1 h2 h3 h4 q)
end
end Dl
set_option Elab.async false
set_option linter.all false
set_option maxRecDepth 100000
set_option maxHeartbeats 4000000
namespace Dl
open PySem PySem.Spec PyProof.Rows L2
/-! ### the law's beginning, the script as data -/
def spPenS (K : PySem.W.Frag) : Sp := fun vs H Q _ => ∃ (a : Addr) (ns : List Int), vs = [.ref a] ∧ SqL K H a (ns.map V.int) ∧
  ∀ (p c : Addr) (cells : List Int) H', Same H H' → H p = none → H' p = some (.lst [.ref c, .int 0, .int 0]) → H' c = some (.lst (cells.map V.int)) → Q (.ref p) H'
section
variable {K : PySem.W.Frag} {pen : Pc} {H0 : Hp} {L : Lv} {P : PyData → Prop} {te ta ti ty tx tv : TE} {tl : TA} {tt : TT} {t : TS} {D : Dn} {Pb : Bool → Prop} {Pl : List PyData → Prop}
theorem script_view {H : Hp} {a : Addr} {ns : List Int} (hS : SqL K H a (ns.map V.int)) (ok : POk pen H) (np : Rd H a (.lst (ns.map V.int)) → ∀ p, pen.pen = some p → p.a ≠ a) : ∃ G, Vw pen G H ∧ Dp K G (.ref a) (.list (intsL ns)) := by
  rcases hS with r | k
  · refine ⟨fun b => if b = a then H a else none, ⟨fun b o h => ?_, fun b q => ?_, ok⟩, .lst (.inl ?_) (ints_dpa ns)⟩
    · by_cases z : b = a
      · rw [show (if b = a then H a else none) = H a from if_pos z] at h; rw [z]; exact h
      · rw [show (if b = a then H a else none) = none from if_neg z] at h; cases h
    · refine if_neg fun z => ?_
      rcases q with ⟨p, hp, e⟩ | hP
      · exact np r p hp (e.symm.trans z)
      · obtain ⟨ps, e, _⟩ := ok.2 b hP
        rw [z] at e
        rcases r with r | ⟨o, r⟩
        · rw [r] at e; cases e
        · rw [r] at e; cases e
    · rcases r with r | ⟨o, r⟩
      · exact .inl ((if_pos rfl).trans r)
      · exact .inr ⟨o, (if_pos rfl).trans r⟩
  · exact ⟨fun _ => none, ⟨fun _ _ h => (nomatch h), fun _ _ => rfl, ok⟩, .lst (.inr k) (ints_dpa ns)⟩
theorem pen_startS {ts : List Addr} {N : Ends} {σ : L2.St} {H1 : Hp} {p c a : Addr} {cells ns : List Int} (hp : H1 p = some (.lst [.ref c, .int 0, .int 0])) (hc : H1 c = some (.lst (cells.map V.int))) (hS : SqL K H1 a (ns.map V.int)) (hlen : σ.length = L.length)
    (hL : ∀ (i : Nat) av, L[i]? = some (some av) → (av = .pen ∧ σ[i]? = some (some (.ref p))) ∨ (av = .d (.list (intsL ns)) ∧ σ[i]? = some (some (.ref a)))) (hts : ∀ P ∈ ts, _root_.Gx.TabX H1 P)
    (h : S K ⟨some ⟨p, .pen c cells.length⟩, ts⟩ H1 t L { nx := fun _ => False, rt := fun d => d = .bool true }) (q : ∀ H', N.rt (.bl true) H') : t N σ H1 := by
  have ok : POk ⟨some ⟨p, .pen c cells.length⟩, ts⟩ H1 := ⟨fun p' e => by cases e; exact ⟨cells, 0, 0, hp, hc, Int.le_refl _, Int.le_refl _, rfl⟩, hts⟩
  obtain ⟨G, v, d⟩ := script_view hS ok (fun r p' e => by
    cases e
    intro z
    have z : p = a := z
    rcases r with r | ⟨o, r⟩
    · rw [← z, hp] at r
      cases ns with
      | nil => cases r
      | cons n ns => cases r
    · rw [← z, hp] at r; cases r)
  refine h σ G H1 N ⟨v, ok, fun _ h => h, hlen, fun i av hi => ?_, fun i j ds es l h1 => ?_⟩ (fun _ _ _ _ _ _ z => z.elim) (fun v d G' H' _ _ hd e => ?_) (fun _ _ _ _ _ _ z => z.elim) (fun _ _ _ _ _ _ z => z.elim) (fun _ _ _ _ _ _ _ z => z.elim) (fun _ _ _ _ _ _ _ _ _ _ _ z => z.elim)
  · rcases hL i av hi with ⟨rfl, e⟩ | ⟨rfl, e⟩
    · exact ⟨_, e, _, rfl, rfl⟩
    · exact ⟨_, e, d⟩
  · rcases hL i _ h1 with ⟨z, _⟩ | ⟨z, _⟩ <;> cases z
  · subst e
    cases hd
    exact q H'
theorem law_start {ts : List Addr} {N : Ends} {σ : L2.St} {H1 : Hp} {a : Addr} {ns : List Int} (hS : SqL K H1 a (ns.map V.int)) (hlen : σ.length = L.length)
    (hL : ∀ (i : Nat) av, L[i]? = some (some av) → av = .d (.list (intsL ns)) ∧ σ[i]? = some (some (.ref a))) (hts : ∀ P ∈ ts, _root_.Gx.TabX H1 P)
    (h : S K ⟨none, ts⟩ H1 t L { nx := fun _ => False, rt := fun d => d = .bool true }) (q : ∀ H', N.rt (.bl true) H') : t N σ H1 := by
  have ok : POk ⟨none, ts⟩ H1 := ⟨fun p' e => (by cases e), hts⟩
  obtain ⟨G, v, d⟩ := script_view hS ok (fun _ p' e => by cases e)
  refine h σ G H1 N ⟨v, ok, fun _ h => h, hlen, fun i av hi => ?_, fun i j ds es l h1 => ?_⟩ (fun _ _ _ _ _ _ z => z.elim) (fun v d G' H' _ _ hd e => ?_) (fun _ _ _ _ _ _ z => z.elim) (fun _ _ _ _ _ _ z => z.elim) (fun _ _ _ _ _ _ _ z => z.elim) (fun _ _ _ _ _ _ _ _ _ _ _ z => z.elim)
  · obtain ⟨rfl, e⟩ := hL i av hi
    exact ⟨_, e, d⟩
  · cases (hL i _ h1).1
  · subst e
    cases hd
    exact q H'
/-! ### a list of one int becomes the spring -/
def noPen : Lv → Bool
  | [] => true
  | some .pen :: _ => false
  | some (.bor _) :: _ => false
  | _ :: L => noPen L
theorem noPen_all : ∀ {L : Lv} {i : Nat} {a : AV}, noPen L = true → L[i]? = some (some a) → a ≠ .pen ∧ ∀ o, a ≠ .bor o
  | [], _, _, _, h => by simp at h
  | a :: L, 0, x, n, h => by
    have := Option.some.inj h
    subst this
    cases x <;> first | cases n | exact ⟨fun z => (by cases z), fun _ z => (by cases z)⟩
  | a :: L, i + 1, x, n, h => by
    have n' : noPen L = true := by
      cases a with
      | none => exact n
      | some av => cases av <;> first | exact n | cases n
    exact noPen_all (L := L) (i := i) n' h
theorem noPen_get {L : Lv} {i : Nat} (n : noPen L = true) : L[i]? ≠ some (some .pen) := fun h => (noPen_all n h).1 rfl
theorem s_spring {ts : List Addr} {i : Nat} {z : Int} (hi : L[i]? = some (some (.own (.lst [.int z]))))
    (h : ∀ pa H1, S K ⟨some ⟨pa, .spr⟩, ts⟩ H1 t (L.set i (some .pen)) { D with nx := fun L' => ∃ L3, Sub L3 L' ∧ noPen L3 = true ∧ D.nx L3, bk := fun L' => ∃ L3, Sub L3 L' ∧ noPen L3 = true ∧ D.bk L3, ct := fun L' => ∃ L3, Sub L3 L' ∧ noPen L3 = true ∧ D.ct L3 })
    (od : onlyD (L.set i none) = true := by rfl) (np : noPen (L.set i none) = true := by rfl) : S K ⟨none, ts⟩ H0 t L D := fun σ G H N e n1 n2 n3 n4 n5 n6 => by
  obtain ⟨x, k1, l, ho, rfl, k3, k4, k5, k6⟩ := e.sl i _ hi
  obtain ⟨vs, rfl, k6⟩ := k6.lst
  have il : i < L.length := (List.getElem?_eq_some_iff.mp hi).1
  cases k6 with
  | cons h1 h2 =>
    cases h2
    cases h1
    have nots : l ∉ ts := fun z => e.h0.there (.inr z) k4
    have ok : POk ⟨some ⟨l, .spr⟩, ts⟩ H := ⟨fun p hp => by cases hp; exact ⟨z, k3⟩, e.vw.ok.2⟩
    have vw : Vw ⟨some ⟨l, .spr⟩, ts⟩ G H := ⟨e.vw.vw, fun a q => by
      rcases q with ⟨p, hp, rfl⟩ | q
      · cases hp; exact k5
      · exact e.vw.no a (.inr q), ok⟩
    have get : ∀ (j : Nat) (av : AV), (L.set i (some .pen))[j]? = some (some av) → (i = j ∧ av = .pen) ∨ (i ≠ j ∧ L[j]? = some (some av) ∧ (L.set i none)[j]? = some (some av)) := fun j av hj => by
      by_cases q : i = j
      · subst q
        rw [List.getElem?_set_self il] at hj
        exact .inl ⟨rfl, (Option.some.inj (Option.some.inj hj)).symm⟩
      · rw [List.getElem?_set_ne q] at hj
        exact .inr ⟨q, hj, by rw [List.getElem?_set_ne q]; exact hj⟩
    have e1 : Ev K ⟨some ⟨l, .spr⟩, ts⟩ H G H σ (L.set i (some .pen)) := by
      refine ⟨vw, ok, fun _ h => h, by rw [List.length_set]; exact e.len, fun j av hj => ?_, fun j k o1 o2 l' h1 => ?_⟩
      · rcases get j av hj with ⟨rfl, rfl⟩ | ⟨_, hj, hj2⟩
        · exact ⟨_, k1, _, rfl, rfl⟩
        · obtain ⟨w, m1, m2⟩ := e.sl j av hj
          refine ⟨w, m1, ?_⟩
          cases av with
          | d x => exact m2
          | pen => exact absurd hj2 (noPen_get np)
          | own o => exact absurd rfl ((onlyD_get od hj2).1 o)
          | fr x => exact absurd rfl ((onlyD_get od hj2).2 x)
          | bor o =>
            obtain ⟨l3, vs3, rfl, m3, m4, m5, m6⟩ := m2
            refine ⟨l3, vs3, rfl, m3, m3, fun q => ?_, m6⟩
            rcases q with ⟨p, hp, q⟩ | q
            · cases hp
              have q : l3 = l := q
              rw [q, k4] at m4; cases m4
            · exact m5 (.inr q)
      · rcases get j _ h1 with ⟨_, z⟩ | ⟨_, _, hj2⟩
        · cases z
        · exact absurd rfl ((onlyD_get od hj2).1 o1)
    have bx : ∀ {G' H'}, Gx ⟨some ⟨l, .spr⟩, ts⟩ H G H G' H' → Gx ⟨none, ts⟩ H0 G H G' H' := fun x => ⟨x.gg, fun a ha => x.nw a (e.dom a ha), fun a o hp ha q => x.od a o (fun z => by
      rcases z with ⟨p, hp', z⟩ | z
      · cases hp'
        exact ha (by rw [z]; exact k4)
      · exact hp (.inr z)) (e.dom a ha) q⟩
    have bv : ∀ {G' H'}, Vw ⟨some ⟨l, .spr⟩, ts⟩ G' H' → Vw ⟨none, ts⟩ G' H' := fun v => v.plain
    have be : ∀ {σ' G' H' L' L3}, Gx ⟨some ⟨l, .spr⟩, ts⟩ H G H G' H' → Ev K ⟨some ⟨l, .spr⟩, ts⟩ H G' H' σ' L' → Sub L3 L' → noPen L3 = true → Ev K ⟨none, ts⟩ H0 G' H' σ' L3 := fun {σ' G' H' L' L3} x e' s n => by
      have e3 := e'.sub s
      refine ⟨bv e3.vw, e.h0, fun a ha => e3.dom a (e.dom a ha), e3.len, fun j av hj => ?_, e3.ow⟩
      obtain ⟨w, m1, m2⟩ := e3.sl j av hj
      refine ⟨w, m1, ?_⟩
      cases av with
      | d x => exact m2
      | pen => exact absurd hj (noPen_get n)
      | own o =>
        obtain ⟨l3, vs3, rfl, m3, m4, m5⟩ := m2
        exact ⟨l3, vs3, rfl, m3, e.h0none m4, m5⟩
      | fr x => exact nd_mono (vnew_call (G1 := G) e.dom) _ _ m2
      | bor o => exact absurd rfl ((noPen_all n hj).2 o)
    refine h l H σ G H N e1 (fun σ' G' H' L' x e' ⟨L3, s, n, q⟩ => n1 σ' G' H' L3 (bx x) (be x e' s n) q) (fun v d G' H' x vw hd q => n2 v d G' H' (bx x) (bv vw) hd q) (fun σ' G' H' L' x e' ⟨L3, s, n, q⟩ => n3 σ' G' H' L3 (bx x) (be x e' s n) q) (fun σ' G' H' L' x e' ⟨L3, s, n, q⟩ => n4 σ' G' H' L3 (bx x) (be x e' s n) q) (fun v d G' H' x vw hd q => n5 v d G' H' (bx x) (bv vw) (nd_mono (vnew_call (G1 := G) e.dom) _ _ hd) q) (fun l' ho o G' H' x vw h1 h2 h3 h4 q => n6 l' ho o G' H' (bx x) (bv vw) h1 (e.h0none h2) h3 h4 q)
/-! ### a list as a test -/
def tTru (K : PySem.W.Frag) (ta : TE) : TT := fun σ H Q => ta σ H fun x H' => ∃ k, TruV K x H' k ∧ Q k H'
theorem kx_truth {X : Cx} {a : Expr} (h : X.K = K) (ha : PE X a ta) (he : ∀ whole, isTrue a X.env whole = (do let v ← whole; standAt a.pos; holding [v] (truthy v))) : PT X a (tTru K ta) := by subst h; exact pt_truth ha he
theorem kx_enum {X : Cx} {e : Expr} {p pos tpos : Pos} {elts : List Expr} {kk : Nat} (h : X.K = K) (hg : Gl X "enumerate") (hm : X.mg "enumerate" = none) (ha : PA X [e] tl) (hs : starEach [e] X.env = [(false, eval e X.env)] := by rfl) :
    PI X (.Tuple elts kk tpos) (.Call (.Name "enumerate" p) [e] [] pos) (iEnum K tl) := by subst h; exact pi_enum hg hm ha hs
theorem dpa_empty {G : Hp} {vs : List V} {ds : List PyData} (h : DpAll K G vs ds) : vs.isEmpty = ds.isEmpty := by cases h <;> rfl
theorem et_truL (h : E K pen H0 ta L fun d => ∃ ds, (d = .list ds ∨ d = .tuple ds) ∧ Pb (!ds.isEmpty)) : ET K pen H0 (tTru K ta) L Pb := fun σ G H e Q q => h σ G H e _ fun v d G1 H1 go hd ⟨ds, hds, p⟩ => by
  rcases hds with rfl | rfl
  · cases hd with
    | lst hs ha => exact ⟨!ds.isEmpty, .inl ⟨_, sqL_mono go.vw.vw hs, by rw [dpa_empty ha]⟩, q _ G1 H1 go p⟩
  · cases hd with
    | tup hs ha => exact ⟨!ds.isEmpty, .inr (.inl ⟨_, sqT_mono go.vw.vw hs, by rw [dpa_empty ha]⟩), q _ G1 H1 go p⟩
theorem et_truI (h : E K pen H0 ta L fun d => ∃ i, d = .int i ∧ Pb (i != 0)) : ET K pen H0 (tTru K ta) L Pb := fun σ G H e Q q => h σ G H e _ fun v d G1 H1 go hd ⟨i, hi, p⟩ => by
  subst hi
  cases hd
  exact ⟨_, rfl, q _ G1 H1 go p⟩
/-! ### sorted(list of ints) -/
theorem el_sortI (h : E K pen H0 te L fun d => ∃ ns : List Int, d = .list (intsL ns) ∧ ∀ ms : List Int, ms.Perm ns → ms.Pairwise (· ≤ ·) → Pl (intsL ms)) : EL K pen H0 (tCB (rSortedI K) (tCons te tNil)) L Pl := fun σ G H e Q q => h σ G H e _ fun v d G1 H1 go hd ⟨ns, hds, p⟩ => by
  subst hds
  cases hd with
  | lst hs ha =>
    rename_i a xs
    have ex := dpa_ints ha
    subst ex
    refine ⟨a, ns, rfl, sqL_mono go.vw.vw hs, fun ms r hp hw hr => ?_⟩
    have e1 := e.go go
    have g2 := Go.hid e1.vw (o := .lst (ms.map V.int)) hr
    refine q r _ _ G1 _ (go.trans g2) upd_same (e1.gnone hr) ?_ (ints_dpa ms) (p ms hp hw)
    cases z : H r with
    | none => rfl
    | some o => exact absurd hr (go.dom (by rw [z]; exact fun z => by cases z))
theorem kx_sortI {X : Cx} (h : X.K = K) : CallR X (.builtin "sorted") (rSortedI K) := by subst h; exact cr_sortedI
/-! ### dicts of one's own -/
section
variable {κ : Type} [DecidableEq κ]
def valD (m : List (κ × PyData)) (k : κ) : Option PyData := (m.find? fun kv => decide (kv.1 = k)).map (·.2)
def putD (m : List (κ × PyData)) (k : κ) (d : PyData) : List (κ × PyData) := if (m.any fun kv => decide (kv.1 = k)) = true then m.map (fun kv => if kv.1 = k then (kv.1, d) else kv) else m ++ [(k, d)]
def dropD (m : List (κ × PyData)) (k : κ) : List (κ × PyData) := m.filter fun kv => decide (kv.1 ≠ k)
theorem kv_val {G : Hp} (k : κ) : ∀ {kvs : List (κ × V)} {m : List (κ × PyData)}, KvOk K G kvs m → (∃ v d, valV kvs k = some v ∧ valD m k = some d ∧ Dp K G v d) ∨ (valV kvs k = none ∧ valD m k = none)
  | _, _, .nil => .inr ⟨rfl, rfl⟩
  | kv :: kvs, xd :: m, .cons h t => by
    obtain ⟨h1, h2⟩ := h
    by_cases z : xd.1 = k
    · refine .inl ⟨kv.2, xd.2, valV_pos (h1.trans z), ?_, h2⟩
      unfold valD
      rw [List.find?_cons, decide_eq_true z]
      rfl
    · rw [valV_neg (fun q => z (h1.symm.trans q))]
      have : valD (xd :: m) k = valD m k := by
        unfold valD
        rw [List.find?_cons, decide_eq_false z]
      rw [this]
      exact kv_val k t
theorem kv_any {G : Hp} (k : κ) : ∀ {kvs : List (κ × V)} {m : List (κ × PyData)}, KvOk K G kvs m → (kvs.any fun kv => decide (kv.1 = k)) = (m.any fun kv => decide (kv.1 = k))
  | _, _, .nil => rfl
  | kv :: kvs, xd :: m, .cons h t => by
    rw [List.any_cons, List.any_cons, kv_any k t, h.1]
theorem kv_put {G : Hp} {v : V} {d : PyData} (k : κ) (hd : Dp K G v d) {kvs : List (κ × V)} {m : List (κ × PyData)} (h : KvOk K G kvs m) : KvOk K G (putK kvs k v) (putD m k d) := by
  unfold putK putD
  rw [kv_any k h]
  by_cases a : (m.any fun kv => decide (kv.1 = k)) = true
  · rw [if_pos a, if_pos a]
    clear a
    induction h with
    | nil => exact .nil
    | cons h t ih =>
      refine .cons ?_ ih
      rename_i kv xd kvs m
      show ((if kv.1 = k then (kv.1, v) else kv).1 = (if xd.1 = k then (xd.1, d) else xd).1) ∧ Dp K G (if kv.1 = k then (kv.1, v) else kv).2 (if xd.1 = k then (xd.1, d) else xd).2
      rw [h.1]
      by_cases z : xd.1 = k
      · rw [if_pos z, if_pos z]; exact ⟨rfl, hd⟩
      · rw [if_neg z, if_neg z]; exact h
  · rw [if_neg a, if_neg a]
    clear a
    induction h with
    | nil => exact .cons ⟨rfl, hd⟩ .nil
    | cons h t ih => exact .cons h ih
theorem kv_drop {G : Hp} (k : κ) {kvs : List (κ × V)} {m : List (κ × PyData)} (h : KvOk K G kvs m) : KvOk K G (dropK kvs k) (dropD m k) := by
  unfold dropK dropD
  induction h with
  | nil => exact .nil
  | cons h t ih =>
    rename_i kv xd kvs m
    rw [List.filter_cons, List.filter_cons, h.1]
    by_cases z : xd.1 = k
    · rw [if_neg (by simp [z]), if_neg (by simp [z])]; exact ih
    · rw [if_pos (by simp [z]), if_pos (by simp [z])]; exact .cons h ih
theorem kv_len {G : Hp} {kvs : List (κ × V)} {m : List (κ × PyData)} (h : KvOk K G kvs m) : kvs.length = m.length := Paired.length h
theorem kv_keys {G : Hp} : ∀ {kvs : List (κ × V)} {m : List (κ × PyData)}, KvOk K G kvs m → kvs.map (·.1) = m.map (·.1)
  | _, _, .nil => rfl
  | _, _, .cons h t => by rw [List.map_cons, List.map_cons, h.1, kv_keys t]
theorem valD_put (m : List (κ × PyData)) (k j : κ) (d : PyData) : valD (putD m k d) j = if j = k then some d else valD m j := by
  unfold putD
  by_cases a : (m.any fun kv => decide (kv.1 = k)) = true
  · rw [if_pos a]
    have gen : ∀ m : List (κ × PyData), valD (m.map fun kv => if kv.1 = k then (kv.1, d) else kv) j = if j = k then (if (m.any fun kv => decide (kv.1 = k)) = true then some d else none) else valD m j := fun m => by
      induction m with
      | nil => unfold valD; simp
      | cons x m ih =>
        unfold valD at ih ⊢
        rw [List.map_cons, List.find?_cons, List.find?_cons, List.any_cons]
        by_cases z : x.1 = k
        · rw [if_pos z, decide_eq_true z]
          by_cases w : j = k
          · subst w; simp [z]
          · have w2 : ¬ x.1 = j := fun q => w (q.symm.trans z)
            simp only [decide_eq_false w2]
            rw [ih, if_neg w, if_neg w]
        · rw [if_neg z, decide_eq_false z, Bool.false_or]
          by_cases w : x.1 = j
          · have w2 : ¬ j = k := fun q => z (w.trans q)
            simp [w, w2]
          · simp only [decide_eq_false w]
            exact ih
    rw [gen m, if_pos a]
  · rw [if_neg a]
    have none : ∀ m : List (κ × PyData), ¬ (m.any fun kv => decide (kv.1 = k)) = true → valD (m ++ [(k, d)]) j = if j = k then some d else valD m j := fun m => by
      induction m with
      | nil =>
        intro _
        unfold valD
        by_cases w : k = j
        · subst w; simp
        · have w2 : ¬ j = k := fun q => w q.symm
          simp [w, w2]
      | cons x m ih =>
        intro a
        rw [List.any_cons, Bool.or_eq_true, not_or] at a
        have ih := ih a.2
        unfold valD at ih ⊢
        rw [List.cons_append, List.find?_cons, List.find?_cons]
        by_cases w : x.1 = j
        · have w2 : ¬ j = k := fun q => a.1 (decide_eq_true (w.trans q))
          simp [w, w2]
        · simp only [decide_eq_false w]
          exact ih
    exact none m a
theorem valD_drop (m : List (κ × PyData)) (k j : κ) : valD (dropD m k) j = if j = k then none else valD m j := by
  unfold dropD valD
  induction m with
  | nil => simp
  | cons x m ih =>
    rw [List.filter_cons]
    by_cases z : x.1 = k
    · rw [if_neg (by simp [z]), ih, List.find?_cons]
      by_cases w : j = k
      · rw [if_pos w, if_pos w]
      · rw [if_neg w, if_neg w, decide_eq_false (fun q => w (q.symm.trans z))]
    · rw [if_pos (by simp [z]), List.find?_cons, List.find?_cons]
      by_cases w : x.1 = j
      · have w2 : ¬ j = k := fun q => z (w.trans q)
        rw [if_neg w2, decide_eq_true w]
      · rw [decide_eq_false w]
        exact ih
theorem dropD_none {m : List (κ × PyData)} {k : κ} (h : valD m k = none) : dropD m k = m := by
  unfold dropD
  unfold valD at h
  rw [Option.map_eq_none_iff, List.find?_eq_none] at h
  exact List.filter_eq_self.mpr fun x hx => by
    have := h x hx
    simpa using this
theorem putD_len (m : List (κ × PyData)) (k : κ) (d : PyData) : (putD m k d).length ≤ m.length + 1 := by
  unfold putD
  split
  · rw [List.length_map]; omega
  · rw [List.length_append]; exact Nat.le_refl _
end
/-- a key -/
def KeyD : PyData → Key → Prop
  | .int i, k => k = .inl i
  | .str x, k => k = .inr x
  | _, _ => False
theorem key_v {G : Hp} {v : V} {d : PyData} {k : Key} (h : Dp K G v d) (hk : KeyD d k) : v = kV k := by
  cases h <;> first | exact hk.elim | (cases hk; rfl)
theorem s_dnew {i : Nat} (h : D.nx (L.set i (some (.own (.dK []))))) : S K pen H0 (tAsg tDNewK (gName i)) L D := fun σ G H N e n1 _ _ _ _ _ => fun p hp =>
  n1 _ G _ _ (e.gx (Go.hid e.vw hp)) (e.newOwn (o := .dK []) (ho := .dK []) hp .nil) h
theorem s_dput {j : Nat} {m : List (Key × PyData)} (hj : L[j]? = some (some (.own (.dK m)))) (hz : m.length < 100000) (h : E K pen H0 tv L fun d => E K pen H0 ty L fun k => ∃ key, KeyD k key ∧ D.nx (L.set j (some (.own (.dK (putD m key d)))))) (nf : noFr L = true := by rfl) :
    S K pen H0 (sDPut (tVar j) ty tv) L D := fun σ G H N e n1 _ _ _ _ _ => h σ G H e _ fun v d G1 H1 g1 d1 h1 => by
  have e1 := e.go g1
  obtain ⟨l, ho, k1, k3, k6⟩ := e1.own hj
  refine ⟨_, k1, h1 σ G1 H1 e1 _ fun w k G2 H2 g2 d2 ⟨key, hk, p⟩ => ?_⟩
  have e2 := e1.go g2
  obtain ⟨ho2, q3, q6⟩ := e2.ownAt hj k1
  obtain ⟨kvs, rfl, q6⟩ := q6.dK
  obtain ⟨r1, r2⟩ := e2.putOwn nf hj k1 (o' := .dK (putD m key d)) (ho := .dK (putK kvs key v)) (kv_put key (dp_mono g2.gg _ _ d1) q6)
  have hv := key_v d2 hk
  subst hv
  exact ⟨l, _, rfl, DPut.k q3 (Nat.lt_of_lt_of_le (by rw [kv_len q6]; exact hz) (by decide : 100000 ≤ sizeLine)), n1 σ G2 _ _ (((e.gx g1).trans (e1.gx g2)).trans r2) r1 p⟩
theorem e_dget2O {j : Nat} {m : List (Key × PyData)} (hj : RdO L j (.dK m)) (h : E K pen H0 ty L fun k => ∃ key, KeyD k key ∧ E K pen H0 tx L fun x => P ((valD m key).getD x)) : E K pen H0 (tDGet2 (tVar j) ty tx) L P := fun σ G H e Q q => by
  obtain ⟨l, ho, k1, k3, k6⟩ := e.rd hj
  obtain ⟨kvs, rfl, k6⟩ := k6.dK
  refine ⟨_, k1, l, rfl, .inl ⟨kvs, .inl k3⟩, h σ G H e _ fun w k G1 H1 g1 d1 ⟨key, hk, h1⟩ => ?_⟩
  refine h1 σ G1 H1 (e.go g1) _ fun x dx G2 H2 g2 d2 p => ?_
  have e2 := (e.go g1).go g2
  obtain ⟨ho2, q3, q6⟩ := e2.rdAt hj k1
  obtain ⟨kvs2, rfl, q6⟩ := q6.dK
  have hv := key_v d1 hk
  subst hv
  refine ⟨_, DGet.k q3, ?_⟩
  rcases kv_val key q6 with ⟨v, d, z1, z2, z3⟩ | ⟨z1, z2⟩
  · rw [z1]
    rw [z2] at p
    exact q v d G2 H2 (g1.trans g2) z3 p
  · rw [z1]
    rw [z2] at p
    exact q x dx G2 H2 (g1.trans g2) d2 p
theorem e_dgetO {j : Nat} {m : List (Key × PyData)} (hj : RdO L j (.dK m)) (h : E K pen H0 ty L fun k => ∃ key, KeyD k key ∧ ∃ d, valD m key = some d ∧ P d) : E K pen H0 (tDGet (tVar j) ty) L P := fun σ G H e Q q => by
  obtain ⟨l, ho, k1, k3, k6⟩ := e.rd hj
  refine ⟨_, k1, h σ G H e _ fun w k G1 H1 g1 d1 ⟨key, hk, d, hd, p⟩ => ?_⟩
  obtain ⟨ho2, q3, q6⟩ := (e.go g1).rdAt hj k1
  obtain ⟨kvs2, rfl, q6⟩ := q6.dK
  have hv := key_v d1 hk
  subst hv
  rcases kv_val key q6 with ⟨v, d', z1, z2, z3⟩ | ⟨z1, z2⟩
  · rw [z2] at hd
    cases hd
    exact ⟨l, v, rfl, by rw [← z1]; exact DGet.k q3, q v _ G1 H1 g1 z3 p⟩
  · rw [z2] at hd; cases hd
theorem e_dinO {j : Nat} {m : List (Key × PyData)} (hj : RdO L j (.dK m)) (h : E K pen H0 ty L fun k => ∃ key, KeyD k key ∧ P (.bool (valD m key).isSome)) : E K pen H0 (tDIn ty (tVar j)) L P := fun σ G H e Q q =>
  h σ G H e _ fun w k G1 H1 g1 d1 ⟨key, hk, p⟩ => by
    obtain ⟨l, ho2, k1, q3, q6⟩ := (e.go g1).rd hj
    obtain ⟨kvs2, rfl, q6⟩ := q6.dK
    have hv := key_v d1 hk
    subst hv
    refine ⟨_, k1, l, _, rfl, DGet.k q3, ?_⟩
    have e3 : (valV kvs2 key).isSome = (valD m key).isSome := by
      rcases kv_val key q6 with ⟨v, d', z1, z2, z3⟩ | ⟨z1, z2⟩ <;> rw [z1, z2] <;> rfl
    rw [e3]
    exact q _ _ G1 H1 g1 (.bl _) p
theorem e_dnotinO {j : Nat} {m : List (Key × PyData)} (hj : RdO L j (.dK m)) (h : E K pen H0 ty L fun k => ∃ key, KeyD k key ∧ P (.bool (!(valD m key).isSome))) : E K pen H0 (tDNotIn ty (tVar j)) L P := fun σ G H e Q q =>
  h σ G H e _ fun w k G1 H1 g1 d1 ⟨key, hk, p⟩ => by
    obtain ⟨l, ho2, k1, q3, q6⟩ := (e.go g1).rd hj
    obtain ⟨kvs2, rfl, q6⟩ := q6.dK
    have hv := key_v d1 hk
    subst hv
    refine ⟨_, k1, l, _, rfl, DGet.k q3, ?_⟩
    have e3 : (valV kvs2 key).isSome = (valD m key).isSome := by
      rcases kv_val key q6 with ⟨v, d', z1, z2, z3⟩ | ⟨z1, z2⟩ <;> rw [z1, z2] <;> rfl
    rw [e3]
    exact q _ _ G1 H1 g1 (.bl _) p
/-- d.pop(k, x), the value dropped -/
theorem s_dpop2 {j : Nat} {m : List (Key × PyData)} (hj : L[j]? = some (some (.own (.dK m)))) (h : E K pen H0 ty L fun k => ∃ key, KeyD k key ∧ E K pen H0 tx L fun _ => D.nx (L.set j (some (.own (.dK (dropD m key)))))) (nf : noFr L = true := by rfl) :
    S K pen H0 (tDrop (tDPop2 (tVar j) ty tx)) L D := fun σ G H N e n1 _ _ _ _ _ => by
  obtain ⟨l, ho, k1, k3, k6⟩ := e.own hj
  obtain ⟨kvs, rfl, k6⟩ := k6.dK
  refine ⟨_, k1, l, rfl, .inl ⟨kvs, .inl k3⟩, h σ G H e _ fun w k G1 H1 g1 d1 ⟨key, hk, h1⟩ => ?_⟩
  have e1 := e.go g1
  refine h1 σ G1 H1 e1 _ fun x dx G2 H2 g2 d2 p => ?_
  have e2 := e1.go g2
  obtain ⟨ho2, q3, q6⟩ := e2.ownAt hj k1
  obtain ⟨kvs2, rfl, q6⟩ := q6.dK
  have hv := key_v d1 hk
  subst hv
  refine ⟨kvs2, key, q3, rfl, fun v hv => ?_, fun hn => ?_⟩
  · obtain ⟨r1, r2⟩ := e2.putOwn nf hj k1 (o' := .dK (dropD m key)) (ho := .dK (dropK kvs2 key)) (kv_drop key q6)
    exact n1 σ G2 _ _ (((e.gx g1).trans (e1.gx g2)).trans r2) r1 p
  · rcases kv_val key q6 with ⟨v, d', z1, z2, z3⟩ | ⟨z1, z2⟩
    · rw [hn] at z1; cases z1
    · rw [dropD_none z2] at p
      have jl : j < L.length := (List.getElem?_eq_some_iff.mp hj).1
      have es : L.set j (some (.own (.dK m))) = L := by
        apply List.ext_getElem?
        intro i
        by_cases q : j = i
        · subst q; rw [List.getElem?_set_self jl, hj]
        · rw [List.getElem?_set_ne q]
      rw [es] at p
      exact n1 σ G2 _ _ ((e.gx g1).trans (e1.gx g2)) e2 p
/-- sorted(d), int keys -/
def rSortDI : List V → Hp → VK → Prop := fun xs H Q => ∃ (a : Addr) (kvs : List (Key × V)) (ks : List Int), xs = [.ref a] ∧ Rd H a (.dK kvs) ∧ kvs.map (·.1) = ks.map Sum.inl ∧ ks.length < 64 ∧
    ∀ (ys : List Int) (p : Addr), ys.Perm ks → ys.Pairwise (· ≤ ·) → H p = none → Q (.ref p) (upd H p (.lst (ys.map V.int)))
theorem kx_sortDI {X : Cx} (hc : X.calm = true) : CallR X (.builtin "sorted") rSortDI := call_sortedDI hc
theorem el_sortD {j : Nat} {m : List (Key × PyData)} {ks : List Int} (hj : RdO L j (.dK m)) (hk : m.map (·.1) = ks.map Sum.inl) (hz : ks.length < 64) (h : ∀ ys : List Int, ys.Perm ks → ys.Pairwise (· ≤ ·) → Pl (intsL ys)) : EL K pen H0 (tCB rSortDI (tCons (tVar j) tNil)) L Pl := fun σ G H e Q q => by
  obtain ⟨l, ho, k1, k3, k6⟩ := e.rd hj
  obtain ⟨kvs, rfl, k6⟩ := k6.dK
  refine ⟨_, k1, l, kvs, ks, rfl, .inl k3, by rw [kv_keys k6, hk], hz, fun ys p hp hw hn => ?_⟩
  have g := Go.hid e.vw (o := .lst (ys.map V.int)) hn
  exact q p _ _ G _ g upd_same (e.gnone hn) hn (ints_dpa ys) (h ys hp hw)
theorem r_ipI {f : Int → Int → Int} {i j : Int} (p : P (.int (f i j))) : R2d K pen (ipI f) (.int i) (.int j) P := fun x y G H v hx hy Q q => by
  cases hx
  cases hy
  exact ⟨i, j, rfl, rfl, q _ _ G H (.refl v) (.int _) p⟩
theorem s_cut {u : TS} (M : Lv → Prop) (h : S K pen H0 t L { D with nx := M }) (h2 : ∀ L', M L' → S K pen H0 u L' D) : S K pen H0 (tSeq t u) L D :=
  s_seq (h.mono (fun L h => h2 L h) (fun _ h => h) (fun _ h => h) (fun _ h => h))
end
end Dl
set_option Elab.async false
set_option linter.all false
set_option maxRecDepth 100000
set_option maxHeartbeats 4000000
namespace Dl
open PySem PySem.Spec PyProof.Rows L2
/-! ### objects handed in and told -/
abbrev Ag := Sum PyData OO
def ArgOk (K : PySem.W.Frag) (c : Pc) (G H : Hp) (v : V) : Ag → Prop
  | .inl d => Dp K G v d
  | .inr o => ∃ l ho, v = .ref l ∧ H l = some ho ∧ ¬ IsPn c l ∧ OwnOk K G l ho o
def ArgsOk (K : PySem.W.Frag) (c : Pc) (G H : Hp) : List V → List Ag → Prop := Paired (ArgOk K c G H)
section
variable {K : PySem.W.Frag} {pen : Pc} {H0 : Hp} {L : Lv} {P : PyData → Prop} {te ta ti ty tx tv : TE} {tl tr : TA} {tt : TT} {t : TS} {D : Dn} {Pb : Bool → Prop} {Pl : List PyData → Prop} {Po : OO → Prop} {Pa : List Ag → Prop}
theorem ArgOk.go {G H G' H' : Hp} (g : Go pen G H G' H') {v : V} {a : Ag} (h : ArgOk K pen G H v a) : ArgOk K pen G' H' v a := by
  cases a with
  | inl d => exact dp_mono g.gg _ _ h
  | inr o =>
    obtain ⟨l, ho, e, h1, h2, h3⟩ := h
    exact ⟨l, ho, e, g.od _ _ h2 h1, h2, h3.mono g.gg⟩
/-- a new object, not yet data -/
def EK (K : PySem.W.Frag) (pen : Pc) (H0 : Hp) (te : TE) (L : Lv) (Po : OO → Prop) : Prop := ∀ (σ : L2.St) (G H : Hp), Ev K pen H0 G H σ L → ∀ Q : VK, (∀ l ho o G' H', Go pen G H G' H' → H' l = some ho → G' l = none → H l = none → OwnOk K G' l ho o → Po o → Q (.ref l) H') → te σ H Q
def EAO (K : PySem.W.Frag) (pen : Pc) (H0 : Hp) (tl : TA) (L : Lv) (Pa : List Ag → Prop) : Prop := ∀ (σ : L2.St) (G H : Hp), Ev K pen H0 G H σ L → ∀ Q : List V → Hp → Prop, (∀ vs es G' H', Go pen G H G' H' → ArgsOk K pen G' H' vs es → Pa es → Q vs H') → tl σ H Q
theorem eao_nil (p : Pa []) : EAO K pen H0 tNil L Pa := fun σ G H e Q q => q [] [] G H (.refl e.vw) .nil p
theorem eao_d (h : E K pen H0 ta L fun a => EAO K pen H0 tr L fun es => Pa (.inl a :: es)) : EAO K pen H0 (tCons ta tr) L Pa := fun σ G H e Q q =>
  h σ G H e _ fun v a G1 H1 g1 d1 h1 => h1 σ G1 H1 (e.go g1) _ fun vs es G2 H2 g2 d2 p => q _ _ G2 H2 (g1.trans g2) (.cons (show ArgOk K pen G2 H2 v (.inl a) from dp_mono g2.gg _ _ d1) d2) p
theorem eao_rd {j : Nat} {o : OO} (hj : RdO L j o) (h : EAO K pen H0 tr L fun es => Pa (.inr o :: es)) : EAO K pen H0 (tCons (tVar j) tr) L Pa := fun σ G H e Q q => by
  have key : ∃ l ho, σ[j]? = some (some (.ref l)) ∧ H l = some ho ∧ ¬ IsPn pen l ∧ OwnOk K G l ho o := by
    rcases hj with hj | hj
    · obtain ⟨x, k1, l, vs, rfl, k3, k4, k5, k6⟩ := e.sl j _ hj
      exact ⟨l, vs, k1, k3, fun z => e.h0.there z k4, k6⟩
    · obtain ⟨x, k1, l, vs, rfl, k3, k4, k5, k6⟩ := e.sl j _ hj
      exact ⟨l, vs, k1, k3, k5, k6⟩
  obtain ⟨l, ho, k1, k2, k3, k4⟩ := key
  refine ⟨_, k1, h σ G H e _ fun vs es G2 H2 g2 d2 p => ?_⟩
  exact q _ _ G2 H2 g2 (.cons (ArgOk.go g2 (a := .inr o) ⟨l, ho, rfl, k2, k3, k4⟩) d2) p
theorem eao_k (h : EK K pen H0 ta L fun o => EAO K pen H0 tr L fun es => Pa (.inr o :: es)) : EAO K pen H0 (tCons ta tr) L Pa := fun σ G H e Q q =>
  h σ G H e _ fun l ho o G1 H1 g1 k1 k2 k3 k4 h1 => h1 σ G1 H1 (e.go g1) _ fun vs es G2 H2 g2 d2 p => by
    have np : ¬ IsPn pen l := fun z => e.vw.ok.there z k3
    exact q _ _ G2 H2 (g1.trans g2) (.cons (ArgOk.go g2 (a := .inr o) ⟨l, ho, rfl, k1, np, k4⟩) d2) p
/-! defs that tell a new object -/
def SpXN {α : Type} (K : PySem.W.Frag) (ts : List Addr) (Wf : α → Prop) (enc : α → List PyData) (res : α → OO → Prop) : Sp := fun vs H Q _ => ∃ (x : α) (G : Hp), Vw ⟨none, ts⟩ G H ∧ DpAll K G vs (enc x) ∧ Wf x ∧ ∀ l ho o G' H', Go ⟨none, ts⟩ G H G' H' → H' l = some ho → G' l = none → H l = none → OwnOk K G' l ho o → res x o → Q (.ref l) H'
theorem ek_call {α : Type} {pn : Option Pn} {ts : List Addr} {Wf : α → Prop} {enc : α → List PyData} {res : α → OO → Prop} {X : XK} (h : EA K ⟨pn, ts⟩ H0 tl L fun ds => ∃ x, ds = enc x ∧ Wf x ∧ ∀ o, res x o → Po o) : EK K ⟨pn, ts⟩ H0 (tCall (SpXN K ts Wf enc res) [] X tl) L Po := fun σ G H e Q q =>
  h σ G H e _ fun vs ds G1 H1 go hd ⟨x, hx, h1, h2⟩ => ⟨x, G1, go.vw.plain, by rw [List.append_nil, ← hx]; exact hd, h1, fun l ho o G' H' go2 k1 k2 k3 k4 p => by
    refine q l ho o G' H' (go.trans (go2.lift go.vw)) k1 k2 ?_ k4 (h2 o p)
    cases z : H l with
    | none => rfl
    | some u => exact absurd k3 (go.dom (by rw [z]; exact fun z => by cases z))⟩
theorem s_asgK {i : Nat} (h : EK K pen H0 te L fun o => D.nx (L.set i (some (.own o)))) : S K pen H0 (tAsg te (gName i)) L D := fun σ G H N e n1 _ _ _ _ _ =>
  h σ G H e _ fun l ho o G' H' g h1 h2 h3 h4 p => by
    have e1 := e.go g
    exact n1 _ G' H' _ (e.gx g) (e1.setOwn h1 (e.h0none h3) h2 (fun j es _ hj => e.oldOwn h3 j es hj) h4) p
theorem s_retO {j : Nat} {o : OO} (hj : L[j]? = some (some (.own o))) (h : D.ro o) : S K pen H0 (tRet (tVar j)) L D := fun σ G H N e _ _ _ _ _ n6 => by
  obtain ⟨x, k1, l, vs, rfl, k3, k4, k5, k6⟩ := e.sl j _ hj
  exact ⟨_, k1, n6 l vs o G H .refl e.vw k3 k4 k5 k6 h⟩
/-! defs to which objects are handed -/
def SpXO {α : Type} (K : PySem.W.Frag) (ts : List Addr) (Wf : α → Prop) (enc : α → List Ag) (res : α → PyData → Prop) : Sp := fun vs H Q _ => ∃ (x : α) (G : Hp), Vw ⟨none, ts⟩ G H ∧ ArgsOk K ⟨none, ts⟩ G H vs (enc x) ∧ Wf x ∧ ∀ v d G' H', Go ⟨none, ts⟩ G H G' H' → Nd K (vnew H G' H') v d → res x d → Q v H'
theorem args_plain {pn : Option Pn} {ts : List Addr} {G H : Hp} {vs : List V} {es : List Ag} (h : ArgsOk K ⟨pn, ts⟩ G H vs es) : ArgsOk K ⟨none, ts⟩ G H vs es := Paired.mapP h fun v a z => by
  cases a with
  | inl d => exact z
  | inr o =>
    obtain ⟨l, ho, e, h1, h2, h3⟩ := z
    exact ⟨l, ho, e, h1, fun q => h2 (by rcases q with ⟨p, q, _⟩ | q; cases q; exact .inr q), h3⟩
theorem en_callO {α : Type} {pn : Option Pn} {ts : List Addr} {Wf : α → Prop} {enc : α → List Ag} {res : α → PyData → Prop} {X : XK} (h : EAO K ⟨pn, ts⟩ H0 tl L fun es => ∃ x, es = enc x ∧ Wf x ∧ ∀ d, res x d → P d) : EN K ⟨pn, ts⟩ H0 (tCall (SpXO K ts Wf enc res) [] X tl) L P := fun σ G H e Q q =>
  h σ G H e _ fun vs es G1 H1 go hd ⟨x, hx, h1, h2⟩ => ⟨x, G1, go.vw.plain, by rw [List.append_nil, ← hx]; exact args_plain hd, h1, fun v d G' H' go2 hd2 p =>
    q v d G' H' (go.trans (go2.lift go.vw)) (nd_mono (vnew_call (G1 := G1) (e.go go).dom) _ _ hd2) (h2 d p)⟩
theorem e_callO {α : Type} {pn : Option Pn} {ts : List Addr} {Wf : α → Prop} {enc : α → List Ag} {res : α → PyData → Prop} {X : XK} (h : EAO K ⟨pn, ts⟩ H0 tl L fun es => ∃ x, es = enc x ∧ Wf x ∧ ∀ d, res x d → P d) : E K ⟨pn, ts⟩ H0 (tCall (SpXO K ts Wf enc res) [] X tl) L P := fun σ G H e Q q =>
  h σ G H e _ fun vs es G1 H1 go hd ⟨x, hx, h1, h2⟩ => ⟨x, G1, go.vw.plain, by rw [List.append_nil, ← hx]; exact args_plain hd, h1, fun v d G' H' go2 hd2 p => by
    have g3 := Go.see go.vw (go2.lift go.vw)
    exact q v d _ H' (go.trans g3) (dp_mono vnew_max _ _ (nd_dp _ _ hd2)) (h2 d p)⟩
def agA : Ag → AV
  | .inl d => .d d
  | .inr o => .bor o
def st0O (N : List Str) (es : List Ag) : Lv := es.map (fun a => some (agA a)) ++ List.replicate (N.length - es.length) none
theorem args_get {G H : Hp} : ∀ {vs : List V} {es : List Ag} {i : Nat} {a : Ag}, ArgsOk K pen G H vs es → es[i]? = some a → ∃ v, vs[i]? = some v ∧ ArgOk K pen G H v a
  | _, _, _, _, .nil, e => by simp at e
  | _, _, 0, _, .cons (a := v) h _, e => by
    have e' := Option.some.inj e
    subst e'
    exact ⟨v, rfl, h⟩
  | _, _, i + 1, a, .cons _ t, e => args_get (i := i) (a := a) t e
theorem args_len {G H : Hp} {vs : List V} {es : List Ag} (h : ArgsOk K pen G H vs es) : vs.length = es.length := Paired.length h
theorem ev_startO {ts : List Addr} {N : List Str} {vs : List V} {es : List Ag} {G H : Hp} (h : ArgsOk K ⟨none, ts⟩ G H vs es) (v : Vw ⟨none, ts⟩ G H) : Ev K ⟨none, ts⟩ H G H (start N vs) (st0O N es) := by
  have get : ∀ (i : Nat) av, (st0O N es)[i]? = some (some av) → ∃ u a, av = agA a ∧ (start N vs)[i]? = some (some u) ∧ ArgOk K ⟨none, ts⟩ G H u a := fun i av hi => by
    unfold st0O at hi
    unfold L2.start
    by_cases q : i < es.length
    · rw [List.getElem?_append_left (by rw [List.length_map]; exact q), List.getElem?_map] at hi
      cases hd : es[i]? with
      | none => rw [hd] at hi; cases hi
      | some a =>
        rw [hd] at hi
        obtain ⟨u, h1, h2⟩ := args_get h hd
        refine ⟨u, a, (Option.some.inj (Option.some.inj hi)).symm, ?_, h2⟩
        rw [List.getElem?_append_left (by rw [List.length_map, args_len h]; exact q), List.getElem?_map, h1]
        rfl
    · rw [List.getElem?_append_right (by rw [List.length_map]; omega)] at hi
      have z := List.mem_of_getElem? hi
      have z2 := (List.mem_replicate.mp z).2
      cases z2
  refine ⟨v, v.ok, fun _ h => h, ?_, fun i av hi => ?_, fun i j ds' es' l h1 _ _ _ => ?_⟩
  · unfold L2.start st0O
    rw [List.length_append, List.length_append, List.length_map, List.length_map, List.length_replicate, List.length_replicate, args_len h]
  · obtain ⟨u, a, rfl, h1, h2⟩ := get i av hi
    refine ⟨u, h1, ?_⟩
    cases a with
    | inl d => exact h2
    | inr o =>
      obtain ⟨l, ho, e, k1, k2, k3⟩ := h2
      exact ⟨l, ho, e, k1, k1, k2, k3⟩
  · obtain ⟨u, a, e, _⟩ := get i _ h1
    cases a <;> cases e
end
section
variable {P : Program} {w : World} {K : PySem.W.Frag} {mg : Str → Option Value} {base : Heap}
theorem fnXN {α : Type} {x qual : Str} {st : Stmt} {f : Addr} {fd : FuncData} {N ps : List Str} {k : Nat} {ts : List Addr} {Wf : α → Prop} {enc : α → List PyData} {res : α → OO → Prop} (F : Fun K x qual st f fd) (S0 : FnScope N ps (defScope st)) (hl : ∀ x, Wf x → (enc x).length = ps.length)
    (hbody : ∀ (cdv : Value) (A : Around) (outer : List Env) (s : Shared) (H : Hp) (E : XK), Room k (A.deeper (envOfC qual (defScope st) s.heap.objs.size f cdv)) →
      ∃ t, PSs (cxOf CX0 P w K mg base N qual (defScope st) f cdv A outer s H E).nox (defBody st) t ∧ ∀ x, Wf x → S K ⟨none, ts⟩ H t (st0 N (enc x)) { nx := fun _ => False, rt := fun _ => False, ro := res x }) : FnOk P w K mg base CX0 (k + 1) f fd ps (SpXN K ts Wf enc res) := by
  refine F.ok S0 (fun vs H Q E h => ?_) (fun cdv A outer s H vs Q E hr h => ?_)
  · obtain ⟨x, G, _, h1, h2, _⟩ := h
    rw [dpa_len h1]
    exact hl x h2
  · obtain ⟨x, G, v, h1, h2, q⟩ := h
    obtain ⟨t, ht, hS⟩ := hbody cdv A outer s H E hr
    refine ⟨t, ht, hS x h2 (L2.start N vs) G H _ (ev_start h1 v) (fun _ _ _ _ _ _ z => z.elim) (fun _ _ _ _ _ _ _ z => z.elim) (fun _ _ _ _ _ _ z => z.elim) (fun _ _ _ _ _ _ z => z.elim) (fun _ _ _ _ _ _ _ z => z.elim) (fun l ho o G' H' x vw k1 k2 k3 k4 p => ?_)⟩
    exact q l ho o G' H' ⟨x.gg, x.nw, fun a o hp e => x.od a o hp (by rw [e]; exact fun z => by cases z) e, vw⟩ k1 k3 k2 k4 p
theorem fnXO {α : Type} {x qual : Str} {st : Stmt} {f : Addr} {fd : FuncData} {N ps : List Str} {k : Nat} {ts : List Addr} {Wf : α → Prop} {enc : α → List Ag} {res : α → PyData → Prop} (F : Fun K x qual st f fd) (S0 : FnScope N ps (defScope st)) (hl : ∀ x, Wf x → (enc x).length = ps.length)
    (hbody : ∀ (cdv : Value) (A : Around) (outer : List Env) (s : Shared) (H : Hp) (E : XK), Room k (A.deeper (envOfC qual (defScope st) s.heap.objs.size f cdv)) →
      ∃ t, PSs (cxOf CX0 P w K mg base N qual (defScope st) f cdv A outer s H E).nox (defBody st) t ∧ ∀ x, Wf x → S K ⟨none, ts⟩ H t (st0O N (enc x)) { nx := fun _ => False, rt := fun _ => False, rn := res x }) : FnOk P w K mg base CX0 (k + 1) f fd ps (SpXO K ts Wf enc res) := by
  refine F.ok S0 (fun vs H Q E h => ?_) (fun cdv A outer s H vs Q E hr h => ?_)
  · obtain ⟨x, G, _, h1, h2, _⟩ := h
    rw [args_len h1]
    exact hl x h2
  · obtain ⟨x, G, v, h1, h2, q⟩ := h
    obtain ⟨t, ht, hS⟩ := hbody cdv A outer s H E hr
    refine ⟨t, ht, hS x h2 (L2.start N vs) G H _ (ev_startO h1 v) (fun _ _ _ _ _ _ z => z.elim) (fun _ _ _ _ _ _ _ z => z.elim) (fun _ _ _ _ _ _ z => z.elim) (fun _ _ _ _ _ _ z => z.elim) (fun v d G' H' x vw hd p => ?_) (fun _ _ _ _ _ _ _ _ _ _ _ z => z.elim)⟩
    exact q v d G' H' ⟨x.gg, x.nw, fun a o hp e => x.od a o hp (by rw [e]; exact fun z => by cases z) e, vw⟩ hd p
end
end Dl
set_option Elab.async false
set_option linter.all false
set_option maxRecDepth 100000
set_option maxHeartbeats 4000000
namespace Dl
open PySem PySem.Spec PyProof.Rows L2
/-! ### sorted(list of pairs of ints): the same pairs in some order -/
def rSortPS (K : PySem.W.Frag) : List V → Hp → VK → Prop := fun us H Q => ∃ b zs, us = [V.ref b] ∧ SqL K H b zs ∧ (∀ z ∈ zs, ∃ t i j, z = V.ref t ∧ SqT K H t [.int i, .int j]) ∧ ∀ ws r, ws.Perm zs → H r = none → Q (.ref r) (upd H r (.lst ws))
section
variable {X : Cx}
theorem cr_sortPS : CallR X (.builtin "sorted") (rSortPS X.K) := by
  intro pins s σ H us cs Q I r h
  obtain ⟨b, zs, rfl, hb, hz, q⟩ := h
  obtain ⟨items, rv, hl, hsz⟩ := I.list hb
  rw [Vals.ref1 r]
  obtain ⟨m1, m2⟩ := refs_back rv fun z hm => (hz z hm).imp fun t ⟨_, _, e, _⟩ => e
  refine Srt.sorted_pairs hl.isList (rv.length ▸ hsz) (fun c hc => ?_) fun h2 p out perm kept hp new => ?_
  · obtain ⟨t, rfl⟩ := m2 c hc
    obtain ⟨t2, i, j, e, ht⟩ := hz (V.ref t) (m1 ▸ List.mem_map.mpr ⟨_, hc, rfl⟩)
    cases e
    obtain ⟨two, r2, ⟨ob, hob, hcl, n, hdat⟩, _⟩ := I.tuple ht
    obtain ⟨c1, c2, rfl, ⟨k1, rfl⟩, ⟨k2, rfl⟩⟩ := vals2 r2
    exact ⟨i, j, t, ob, k1, k2, n, rfl, hob, hcl, hdat⟩
  · have all : ∀ c ∈ out, ∃ a, c = Value.ref a := fun c hc => m2 c (perm.mem_iff.mp hc)
    obtain ⟨n, hn⟩ := new
    have hlen : (out.map backV).length ≤ sizeLine := by
      rw [List.length_map, perm.length_eq, ← rv.length]
      exact hsz
    exact ⟨.ref p, upd H p (.lst (out.map backV)), I.laid (t' := s.toks) kept hp ⟨hlen, out, n, vals_back all, hn⟩, rfl, q _ p (m1 ▸ perm.map backV) (I.hok.fresh hp)⟩
theorem kx_sortPS {K : PySem.W.Frag} (h : X.K = K) : CallR X (.builtin "sorted") (rSortPS K) := by subst h; exact cr_sortPS
theorem kx_max {K : PySem.W.Frag} (h : X.K = K) (hc : X.calm = true) : CallR X (.builtin "max") (rMax K) := by subst h; exact cr_max hc
theorem kx_all {K : PySem.W.Frag} (h : X.K = K) (hc : X.calm = true) : CallR X (.builtin "all") (rAll K) := by subst h; exact cr_all hc
end
abbrev pairD (p : Int × Int) : PyData := .tuple [.int p.1, .int p.2]
def pairsL (ps : List (Int × Int)) : List PyData := ps.map pairD
section
variable {K : PySem.W.Frag} {pen : Pc} {H0 : Hp} {L : Lv} {P : PyData → Prop} {te ta tb ti ty tx tv : TE} {tl tr : TA} {tt : TT} {t : TS} {D : Dn} {Pb : Bool → Prop} {Pl : List PyData → Prop}
theorem dpa_perm {α : Type} {G : Hp} {f : α → PyData} {vs ws : List V} (h : ws.Perm vs) : ∀ {ps : List α}, DpAll K G vs (ps.map f) → ∃ qs : List α, qs.Perm ps ∧ DpAll K G ws (qs.map f) := by
  induction h with
  | nil => intro ps h; exact ⟨ps, .refl _, h⟩
  | cons x _ ih =>
    intro ps h
    cases ps with
    | nil => cases h
    | cons p ps =>
      cases h with
      | cons h1 h2 =>
        obtain ⟨qs, a, b⟩ := ih h2
        exact ⟨p :: qs, a.cons p, .cons h1 b⟩
  | swap x y l =>
    intro ps h
    rcases ps with _ | ⟨p, _ | ⟨q, ps⟩⟩
    · cases h
    · cases h with
      | cons h1 h2 => cases h2
    · cases h with
      | cons h1 h2 =>
        cases h2 with
        | cons h3 h4 => exact ⟨q :: p :: ps, .swap p q ps, .cons h3 (.cons h1 h4)⟩
  | trans _ _ ih1 ih2 =>
    intro ps h
    obtain ⟨qs, a, b⟩ := ih2 h
    obtain ⟨rs, c, d⟩ := ih1 b
    exact ⟨rs, c.trans a, d⟩
theorem EL.out {G H G1 H1 : Hp} {σ : L2.St} {l : Addr} (e : Ev K pen H0 G H σ L) (go : Go pen G H G1 H1) (hl : H1 l = none) : H l = none := by
  cases z : H l with
  | none => rfl
  | some o => exact absurd hl (go.dom (by rw [z]; exact fun z => by cases z))
theorem el_sortP (h : E K pen H0 te L fun d => ∃ ps : List (Int × Int), d = .list (pairsL ps) ∧ ∀ qs : List (Int × Int), qs.Perm ps → Pl (pairsL qs)) : EL K pen H0 (tCB (rSortPS K) (tCons te tNil)) L Pl := fun σ G H e Q q => h σ G H e _ fun v d G1 H1 go hd ⟨ps, hds, p⟩ => by
  subst hds
  cases hd with
  | lst hs ha =>
    rename_i a xs
    refine ⟨a, xs, rfl, sqL_mono go.vw.vw hs, fun x hx => ?_, fun ys r hp hr => ?_⟩
    · obtain ⟨i, hi, hg⟩ := List.mem_iff_getElem.mp hx
      obtain ⟨d, hd, dd⟩ := dpa_getV ha (show xs[i]? = some x by rw [List.getElem?_eq_getElem hi, hg])
      unfold pairsL at hd
      rw [List.getElem?_map] at hd
      cases hq : ps[i]? with
      | none => rw [hq] at hd; cases hd
      | some pr =>
        rw [hq] at hd
        cases hd
        cases dd with
        | tup k1 k2 =>
          cases k2 with
          | cons k3 k4 =>
            cases k4 with
            | cons k5 k6 =>
              cases k6
              cases k3
              cases k5
              exact ⟨_, _, _, rfl, sqT_mono go.vw.vw k1⟩
    · obtain ⟨qs, h1, h2⟩ := dpa_perm hp ha
      have e1 := e.go go
      have g2 := Go.hid e1.vw (o := .lst ys) hr
      exact q r ys _ G1 _ (go.trans g2) upd_same (e1.gnone hr) (EL.out e go hr) h2 (p qs h1)
/-! ### max(list of ints), all(list of truths) -/
theorem c_maxL {ns : List Int} (h : 0 < ns.length) (p : ∀ m, m ∈ ns → (∀ y, y ∈ ns → y ≤ m) → P (.int m)) : RCd K pen (rMax K) [.list (intsL ns)] P := fun vs G H v hv Q q => by
  cases hv with
  | cons h1 h2 =>
    cases h2
    cases h1 with
    | lst hs ha =>
      have ex := dpa_ints ha
      subst ex
      exact ⟨_, ns, rfl, sqL_mono v.vw hs, h, fun m h1 h2 => q _ _ G H (.refl v) (.int _) (p m h1 h2)⟩
theorem c_allL {bs : List Bool} (p : P (.bool (bs.all id))) : RCd K pen (rAll K) [.list (bs.map PyData.bool)] P := fun vs G H v hv Q q => by
  cases hv with
  | cons h1 h2 =>
    cases h2
    cases h1 with
    | lst hs ha =>
      have ex := dpa_bls ha
      subst ex
      exact ⟨_, bs, rfl, sqL_mono v.vw hs, q _ _ G H (.refl v) (.bl _) p⟩
/-! ### list * int, tuple(range(n)), list(range(n)) -/
theorem el_rep (h : EL K pen H0 ta L fun ds => E K pen H0 tb L fun b => ∃ k : Nat, b = .int k ∧ k ≤ 100000 ∧ ds.length * k ≤ 100000 ∧ Pl (List.replicate k ds).flatten) : EL K pen H0 (tOp rRep ta tb) L Pl := fun σ G H e Q q => h σ G H e _ fun l vs ds G1 H1 go k1 k2 k3 k4 h1 => by
  refine h1 σ G1 H1 (e.go go) _ fun w b G2 H2 g2 d2 ⟨k, hk, hkk, hz, p⟩ => ?_
  subst hk
  cases d2
  have np : ¬ IsPn pen l := fun z => e.vw.ok.there z k3
  have hlv := dpa_len k4
  refine ⟨l, k, vs, rfl, rfl, g2.od _ _ np k1, by omega, by omega, Nat.le_trans (by rw [hlv]; exact hz) (by decide : 100000 ≤ sizeLine), fun r hr => ?_⟩
  have e2 := (e.go go).go g2
  have g3 := Go.hid e2.vw (o := .lst (List.replicate ((k : Int)).toNat vs).flatten) hr
  exact q r _ _ G2 _ ((go.trans g2).trans g3) upd_same (e2.gnone hr) (EL.out e (go.trans g2) hr) (dpa_rep (dpa_mono g2.gg _ _ k4) k) p
theorem dpa_rng {G : Hp} (n : Nat) : DpAll K G (rgV 0 n) (rngL 0 n) := by
  unfold rgV rngL
  rw [show ((n : Int) - 0).toNat = n by omega]
  induction List.range n with
  | nil => exact .nil
  | cons a r ih => exact .cons (.int _) ih
theorem e_tupRg (h : E K pen H0 te L fun d => ∃ n : Nat, d = .int n ∧ n ≤ 100000 ∧ P (.tuple (rngL 0 n))) : E K pen H0 (tTupRg (tRg1 te)) L P := fun σ G H e Q q => h σ G H e _ fun v d G1 H1 go hd ⟨n, hn, hz, p⟩ => by
  subst hn
  cases hd
  refine ⟨n, rfl, RgOk.of_le (by omega) (by omega) (by omega) (by omega), fun r hr => ?_⟩
  have g2 := Go.new go.vw (o := .tup (rgV 0 n)) hr
  exact q _ _ _ _ (go.trans g2) (.tup (.inl (.inl upd_same)) (dpa_rng n)) p
theorem el_lstRg (h : E K pen H0 te L fun d => ∃ n : Nat, d = .int n ∧ n ≤ 100000 ∧ Pl (rngL 0 n)) : EL K pen H0 (tLstRg (tRg1 te)) L Pl := fun σ G H e Q q => h σ G H e _ fun v d G1 H1 go hd ⟨n, hn, hz, p⟩ => by
  subst hn
  cases hd
  refine ⟨n, rfl, RgOk.of_le (by omega) (by omega) (by omega) (by omega), fun r hr => ?_⟩
  have e1 := e.go go
  have g2 := Go.hid e1.vw (o := .lst (rgV 0 n)) hr
  exact q r _ _ G1 _ (go.trans g2) upd_same (e1.gnone hr) (EL.out e go hr) (dpa_rng n) p
/-- list + list, new -/
theorem el_catL (h : E K pen H0 ta L fun a => E K pen H0 tb L fun b => ∃ as bs, a = .list as ∧ b = .list bs ∧ as.length + bs.length ≤ 100000 ∧ Pl (as ++ bs)) : EL K pen H0 (tOp (rCatL K) ta tb) L Pl := fun σ G H e Q q =>
  h σ G H e _ fun v a G1 H1 g1 d1 h1 => h1 σ G1 H1 (e.go g1) _ fun w b G2 H2 g2 d2 ⟨as, bs, ea, eb, hz, p⟩ => by
    subst ea eb
    have d1 := dp_mono g2.gg _ _ d1
    cases d1 with
    | lst hs ha =>
      cases d2 with
      | lst hs' ha' =>
        rename_i a1 xs a2 ys
        refine ⟨a1, a2, xs, ys, rfl, rfl, sqL_mono g2.vw.vw hs, sqL_mono g2.vw.vw hs', Nat.le_trans (by rw [dpa_len ha, dpa_len ha']; exact hz) (by decide : 100000 ≤ sizeLine), fun r hr => ?_⟩
        have e2 := (e.go g1).go g2
        have g3 := Go.hid e2.vw (o := .lst (xs ++ ys)) hr
        exact q r _ _ G2 _ ((g1.trans g2).trans g3) upd_same (e2.gnone hr) (EL.out e (g1.trans g2) hr) (dpa_app ha ha') p
/-- a call that tells a new list -/
theorem el_callF {α : Type} {pn : Option Pn} {ts : List Addr} {Wf : α → Prop} {enc : α → List PyData} {res : α → PyData → Prop} {X : XK} (h : EA K ⟨pn, ts⟩ H0 tl L fun ds => ∃ x, ds = enc x ∧ Wf x ∧ ∀ d, res x d → ∃ es, d = .list es ∧ noLs es = true ∧ Pl es) : EL K ⟨pn, ts⟩ H0 (tCall (SpXF K ts Wf enc res) [] X tl) L Pl := fun σ G H e Q q =>
  h σ G H e _ fun vs ds G1 H1 go hd ⟨x, hx, h1, h2⟩ => ⟨x, G1, go.vw.plain, by rw [List.append_nil, ← hx]; exact hd, h1, fun v d G' H' go2 hd2 p => by
    obtain ⟨es, rfl, hn, pp⟩ := h2 d p
    cases hd2 with
    | lst hs ha =>
      rename_i l us
      rcases vnew_cases hs with ⟨_, z⟩ | ⟨k, k0, k1, _⟩
      · cases z
      · refine q l us es G' H' (go.trans (go2.lift go.vw)) k1 k (EL.out e go k0) (dpa_nol (fun a xs r => ?_) es us hn (nda_dpa _ _ ha)) pp
        rcases r with r | ⟨o, r⟩
        · rcases vnew_cases r with ⟨g, _⟩ | ⟨_, _, _, ys, z⟩
          · exact .inl g
          · cases z
        · rcases vnew_cases r with ⟨g, _⟩ | ⟨_, _, _, ys, z⟩
          · exact .inr ⟨o, g⟩
          · cases z⟩
end
end Dl
set_option Elab.async false
set_option linter.all false
set_option maxRecDepth 100000
set_option maxHeartbeats 4000000
/-! ### enumerate(tuple) -/
namespace Dl
open PySem PySem.Spec PyProof.Rows L2
abbrev enO (a : Addr) : Obj := { cls := .type "enumerate", data := .fields #[.none, .bool false, .ref a, rawInt 0, .none, .none] }
abbrev tiO (t : Addr) : Obj := { cls := .type "tuple_iterator", data := .fields #[.ref t, .int 0 0] }
theorem enumNewOne {v : Value} {o : Obj} {Hh : Heap → Prop} (B : Begins v o Hh) : Meets (Builtin.«enumerate.__new__» ⟨[.type "enumerate", v], []⟩) (fun _ R s => Hh s.heap ∧ R (.ok (.ret (.ref (s.heap.push o).objs.size))) { s with heap := (s.heap.push o).push (enO s.heap.objs.size) }) :=
  .of_wp fun prog w A R s hyp => by
    obtain ⟨hp, gl, dd, tok, out⟩ := s
    obtain ⟨hB, hR⟩ := hyp
    have sb := sub_enumerate
    have first : ∀ {A' : Around} {E : Value → Shared → Prop} {Q : Value → Shared → Prop}, Q (.ref hp.objs.size) ⟨hp.push o, gl, dd, tok, out⟩ → wpAny (model prog w) A' (pyIter v) Q E ⟨hp, gl, dd, tok, out⟩ := fun q => B.iter prog w _ _ ⟨hp, gl, dd, tok, out⟩ _ hB q
    wp_walk using first
    refine wpAny_stack_any fun frames => wpAny_pure ?_
    split
    · rename_i cl _ _ _ _ _
      cases (cl == Value.type "enumerate") <;> (wp_walk using first; exact ⟨_, rfl, hR⟩)
    · wp_walk using first
      exact ⟨_, rfl, hR⟩
theorem callEnumT {prog : Program} {w : World} {A : Around} {E : Value → Shared → Prop} {s : Shared} {t : Addr} {items : Array Value} {Q : Value → Shared → Prop} (hT : s.heap.IsTuple t items)
    (hq : ∀ h', IsEnum h' (s.heap.objs.size + 1) s.heap.objs.size 0 .none → h'.IsTupleIter s.heap.objs.size t 0 → (∀ b u, s.heap.get? b = some u → h'.get? b = some u) → Q (.ref (s.heap.objs.size + 1)) { s with heap := h' }) :
    wpAny (model prog w) A (call (.type "enumerate") [.ref t]) Q E s := by
  refine callType_new F.called_enumerate (by decide) (F.typeCall_enumerate_1 _) (F.newCall_enumerate_1 _) (fun obj => F.args_object_init_2 obj _) F.entry_enumerate_new (enumNewOne (begins_tuple t items)) ⟨hT, ?_⟩
  have size1 : (s.heap.push (tiO t)).objs.size = s.heap.objs.size + 1 := Heap.size_push ..
  have isE : IsEnum ((s.heap.push (tiO t)).push (enO s.heap.objs.size)) (s.heap.objs.size + 1) s.heap.objs.size 0 .none := by
    have := Heap.get?_push_size (s.heap.push (tiO t)) (o := enO s.heap.objs.size) rfl
    rw [size1] at this
    exact this
  show _ ∧ _
  rw [size1]
  exact ⟨⟨_, isE, rfl⟩, hq _ isE ⟨_, Heap.get?_push_of_some _ (Heap.get?_push_size _ rfl), rfl, rfl⟩ fun b u e => Heap.get?_push_of_some _ (Heap.get?_push_of_some _ e)⟩
/-- the tuple at a, each item in a new pair -/
def ItEt (K : PySem.W.Frag) (a : Addr) : It :=
  ⟨fun i H => ∃ (xs : List V) (x : V), SqT K H a xs ∧ xs[i]? = some x, fun i H v H' => ∃ T x, v = .ref T ∧ H T = none ∧ H' = upd H T (.tup [.int (i : Nat), x]) ∧ ∀ xs, SqT K H a xs → xs[i]? = some x, fun i H => ∃ xs : List V, SqT K H a xs ∧ xs.length ≤ i⟩
theorem turn_enumT {P : Program} {w : World} {K : PySem.W.Frag} {elts : List Expr} {kk : Nat} {tpos : Pos} (a e it : Addr) (hne : e ≠ it) (hea : e ≠ a) (hia : a ≠ it) :
    Turn P w K (.Tuple elts kk tpos) (ItEt K a) [e, it] e (fun i h => (∃ old, IsEnum h e it ((i : Nat) : Int) old) ∧ h.IsTupleIter it a i) where
  mem := List.mem_cons_self ..
  obj := fun i h st b hb => by
    obtain ⟨⟨old, hE⟩, ⟨o, ho, hc, hd⟩⟩ := st
    rcases List.mem_cons.mp hb with rfl | hb
    · exact ⟨_, hE, fun v q => nomatch q⟩
    · rw [List.mem_singleton.mp hb]
      exact ⟨o, ho, fun v q => by rw [hd] at q; cases q⟩
  keep := fun i h h' st k => ⟨st.1.imp fun old hE => k e (List.mem_cons_self ..) _ hE, st.2.at fun o q => k it (List.mem_cons_of_mem _ (List.mem_cons_self ..)) o q⟩
  item := by
    intro X hP hw hK hc i pins s σ H E I hf st hg
    subst hP hw hK
    obtain ⟨⟨old, hE⟩, hI⟩ := st
    obtain ⟨xs, x, hq, hx⟩ := hg
    obtain ⟨its, rv, pt, hz⟩ := I.tuple hq
    obtain ⟨u, hu, ru⟩ := rv.get hx
    have le : e < s.heap.objs.size := Heap.lt_size hE
    have li : it < s.heap.objs.size := by obtain ⟨_, q, _⟩ := hI; exact Heap.lt_size q
    have hil : i < its.toArray.size := by
      have := (List.getElem?_eq_some_iff.mp hu).1
      simpa using this
    refine wpAny_pyNext_enum_itemD (Draws.tuple (A := X.A.in1) (I.ok.hd hc) it a hia its.toArray) hE ⟨hI, pt⟩ hil hne (by simp [hne, hea]) fun y h' tk hy out hst hT hsz hk => ?_
    have ey : y = u := by
      have h1 : its.toArray[i]? = some u := by simpa using hu
      exact Option.some.inj (hy.symm.trans h1)
    subst ey
    refine ⟨_, rfl, wpAny_letOwnedTupleGo_enum (s := { s with heap := h', toks := tk + 1 }) out fun h2 hE2 sb => ?_⟩
    have hT2 : h2.get? s.heap.objs.size = some { cls := .type "tuple", data := .seq #[.int i tk, y] } := (sb.2 _ (Nat.ne_of_gt le)).trans hT
    have okT : ObjOk X.prog X.w (upd H s.heap.objs.size (.tup [.int (i : Nat), x])) h2 s.heap.objs.size (.tup [.int (i : Nat), x]) :=
      ⟨by show 2 ≤ sizeLine; decide, [.int i tk, y], .cons ⟨_, rfl⟩ (.cons ru .nil), ⟨_, hT2, rfl, _, rfl⟩⟩
    have I1 : Inv X pins σ (upd H s.heap.objs.size (.tup [.int (i : Nat), x])) { s with heap := h2, toks := tk + 1 } :=
      I.turnedNew (ch := [e, it]) (fun b ob hb q => (sb.2 b (fun z => hb (z ▸ List.mem_cons_self ..))).trans (hk b ob (fun z => hb (z ▸ List.mem_cons_self ..)) (fun z => hb (z ▸ List.mem_cons_of_mem _ (List.mem_cons_self ..))) q)) hf (Nat.le_refl _) okT
    refine ⟨.ref s.heap.objs.size, _, I1, rfl, ⟨_, x, rfl, I.hok.fresh (Nat.le_refl _), rfl, fun ys hy2 => by rw [I.tuple_inj hy2 hq]; exact hx⟩, ⟨⟨y, ?_⟩, hst.1.at fun o q => (sb.2 it (Ne.symm hne)).trans q⟩, fun b hb => ?_⟩
    · rw [show ((i + 1 : Nat) : Int) = (i : Int) + 1 by omega]
      exact hE2
    · have lb : b < s.heap.objs.size := by
        rcases List.mem_cons.mp hb with rfl | hb
        · exact le
        · rw [List.mem_singleton.mp hb]; exact li
      rw [upd_ne (Nat.ne_of_lt lb)]
      exact (hf b hb).1
  done := by
    intro X hP hw hK hc i pins s σ H E I hf st hg
    subst hP hw hK
    obtain ⟨⟨old, hE⟩, hI⟩ := st
    obtain ⟨xs, hq, hx⟩ := hg
    obtain ⟨its, rv, pt, hz⟩ := I.tuple hq
    obtain ⟨f0, f1, f2, f3, f4, f5⟩ := hf it (List.mem_cons_of_mem _ (List.mem_cons_self ..))
    have hl := rv.length
    have none_ : its.toArray[i]? = none := by simp; omega
    have D0 : Draws X.prog X.w X.A.in1 it [it, a] i (fun _ _ => True) (fun j h => j = i ∧ h.IsTupleIter it a i ∧ h.IsTuple a its.toArray) :=
      { live := fun _ _ st => let ⟨o, ho, _⟩ := st.2.1; ⟨o, ho⟩
        frame := fun _ _ _ st hk => ⟨st.1, st.2.1.at fun o q => hk it (List.mem_cons_self ..) o q, st.2.2.at fun o q => hk a (List.mem_cons_of_mem _ (List.mem_cons_self ..)) o q⟩
        item := fun j s Q E hj st _ => absurd hj (by rw [st.1]; exact Nat.lt_irrefl _)
        done := fun s Q E st hE => wpAny_nextOf_tuple_end (A := X.A.in1) (I.ok.hd hc) st.2.1 st.2.2 none_ hE }
    exact wpAny_pyNext_enum_endD D0 hE ⟨rfl, hI, pt⟩ fun h' eb => ⟨rfl, I.turned (t' := s.toks) (fun b o hb q => eb b o hb q) f0 f1 f3 f4 f5⟩
  self := fun A i s Q E st hQ => let ⟨⟨_, hE⟩, _⟩ := st; wpAny_pyIter_enum hE hQ
def iEnumT (K : PySem.W.Frag) (ta : TA) : TI := fun σ H R => ta σ H fun vs H1 => ∃ a xs, vs = [.ref a] ∧ SqT K H1 a xs ∧ R (ItEt K a) H1
theorem pi_enumT {X : Cx} {e : Expr} {ta : TA} {p pos tpos : Pos} {elts : List Expr} {kk : Nat} (hg : Gl X "enumerate") (hm : X.mg "enumerate" = none) (ha : PA X [e] ta) (hs : starEach [e] X.env = [(false, eval e X.env)] := by rfl) :
    PI X (.Tuple elts kk tpos) (.Call (.Name "enumerate" p) [e] [] pos) (iEnumT X.K ta) := by
  refine ⟨fun pins s σ H R I hyp => ?_⟩
  refine Call_ (ld_blt I hg hm boot_enumerate (PyProof.Rows.callWith_type1 (thn (ha.run pos pins s σ H _ I hyp) fun us s1 ⟨vs, H1, I1, r1, q1⟩ => ?_) hs rfl))
  obtain ⟨a, xs, rfl, hq, q⟩ := q1
  rw [Vals.ref1 r1]
  obtain ⟨its, rv, pt, hz⟩ := I1.tuple hq
  have la : a < s1.heap.objs.size := by obtain ⟨_, q, _⟩ := pt; exact Heap.lt_size q
  refine callEnumT (items := its.toArray) pt fun h' hE hI hk => wpAny_pyIter_enum hE ?_
  have I2 : Inv X pins σ H1 { s1 with heap := h' } := I1.kept (t' := s1.toks) hk
  refine ⟨s1.heap.objs.size + 1, [s1.heap.objs.size + 1, s1.heap.objs.size], _, _, H1, rfl, I2, turn_enumT a (s1.heap.objs.size + 1) s1.heap.objs.size (Nat.succ_ne_self _) (Nat.ne_of_gt (Nat.lt_succ_of_lt la)) (Nat.ne_of_lt la), ⟨⟨.none, hE⟩, hI⟩, fun b hb => ?_, q⟩
  have ge : s1.heap.objs.size ≤ b := by
    rcases List.mem_cons.mp hb with rfl | hb
    · exact Nat.le_succ _
    · rw [List.mem_singleton.mp hb]; exact Nat.le_refl _
  exact I1.fpOk ge (I1.hok.fresh ge)
theorem kx_enumT {K : PySem.W.Frag} {tl : TA} {X : Cx} {e : Expr} {p pos tpos : Pos} {elts : List Expr} {kk : Nat} (h : X.K = K) (hg : Gl X "enumerate") (hm : X.mg "enumerate" = none) (ha : PA X [e] tl) (hs : starEach [e] X.env = [(false, eval e X.env)] := by rfl) :
    PI X (.Tuple elts kk tpos) (.Call (.Name "enumerate" p) [e] [] pos) (iEnumT K tl) := by subst h; exact pi_enumT hg hm ha hs
theorem it_enumT {K : PySem.W.Frag} {pen : Pc} {H0 : Hp} {L : Lv} {P : List PyData → Prop} {tl : TA} (h : EA K pen H0 tl L fun es => ∃ ds, es = [.tuple ds] ∧ P (enumL ds)) : IT K pen H0 (iEnumT K tl) L P := fun σ G H e R r => h σ G H e _ fun vs es G1 H1 go hd ⟨ds, hds, p⟩ => by
  subst hds
  cases hd with
  | cons hd hd2 =>
    cases hd2
    cases hd with
    | tup hs ha =>
      rename_i a xs
      refine ⟨a, xs, rfl, sqT_mono go.vw.vw hs, r _ G1 H1 _ go (fun G' H' s v => ⟨fun i x hx => ?_, ?_⟩) p⟩
      · have z := sqT_mono (s.trans v.vw) hs
        obtain ⟨y', hy', rfl⟩ := enumL_get hx
        obtain ⟨y, hy, dy⟩ := dpa_get ha hy'
        refine ⟨⟨xs, y, z, hy⟩, fun w H2 hw => ?_⟩
        obtain ⟨T, u, rfl, hT, rfl, f⟩ := hw
        have e1 : u = y := Option.some.inj ((f _ z).symm.trans hy)
        subst e1
        have g2 := Go.new v (o := .tup [.int (i : Nat), u]) hT
        exact ⟨_, g2, .tup (.inl (.inl upd_same)) (.cons (.int _) (.cons (dp_mono (s.trans g2.gg) _ _ dy) .nil))⟩
      · exact ⟨xs, sqT_mono (s.trans v.vw) hs, by rw [dpa_len ha, enumL_len]; exact Nat.le_refl _⟩
end Dl
set_option Elab.async false
set_option linter.all false
set_option maxRecDepth 100000
set_option maxHeartbeats 4000000
namespace Dl
open PySem PySem.Spec PyProof.Rows L2
section
variable {K : PySem.W.Frag} {pen : Pc} {H0 : Hp} {L : Lv} {D : Dn}
/-- d[xs.pop(0)] = True -/
theorem s_dputPop {i j : Nat} {m : List (Key × PyData)} {d0 : PyData} {ds : List PyData} {key : Key} {b : Bool} (hj : L[j]? = some (some (.own (.dK m)))) (hi : L[i]? = some (some (.own (.lst (d0 :: ds))))) (hz : m.length < 100000) (hk : KeyD d0 key) (hij : i ≠ j)
    (h : D.nx ((L.set i (some (.own (.lst ds)))).set j (some (.own (.dK (putD m key (.bool b))))))) (nf : noFr L = true := by rfl) (nf2 : noFr (L.set i (some (.own (.lst ds)))) = true := by rfl) :
    S K pen H0 (sDPut (tVar j) (tBM K "list" rPopAt (tVar i) (tCons (tC (.int 0)) tNil)) (tC (.bl b))) L D := fun σ G H N e n1 _ _ _ _ _ => by
  obtain ⟨l, ho, k1, k3, k6⟩ := e.own hi
  obtain ⟨vs, rfl, k6⟩ := k6.lst
  obtain ⟨a, ha, q1, q3, q6⟩ := e.own hj
  cases k6 with
  | cons h1 h2 =>
    rename_i v vs
    obtain ⟨r1, r2⟩ := e.putOwn nf hi k1 (o' := .lst ds) (ho := .lst vs) h2
    have hj2 : (L.set i (some (.own (.lst ds))))[j]? = some (some (.own (.dK m))) := by rw [List.getElem?_set_ne hij]; exact hj
    obtain ⟨ha2, w3, w6⟩ := r1.ownAt hj2 q1
    obtain ⟨kvs, rfl, w6⟩ := w6.dK
    have hv := key_v h1 hk
    subst hv
    obtain ⟨z1, z2⟩ := r1.putOwn nf2 hj2 q1 (o' := .dK (putD m key (.bool b))) (ho := .dK (putK kvs key (.bl b))) (kv_put key (.bl b) w6)
    exact ⟨_, q1, _, k1, .inl ⟨rfl, _, .inl (.inl k3)⟩, l, _ :: vs, 0, 0, _, rfl, rfl, k3, by decide, by decide, by unfold seqIndex?; simp, rfl, a, _, rfl, DPut.k w3 (Nat.lt_of_lt_of_le (by rw [kv_len w6]; exact hz) (by decide : 100000 ≤ sizeLine)), n1 σ G _ _ (r2.trans z2) z1 h⟩
end
end Dl
set_option Elab.async false
set_option linter.all false
set_option maxRecDepth 100000
set_option maxHeartbeats 4000000
namespace Dl
open PySem PySem.Spec PyProof.Rows L2
/-! ### a tuple no time, once, more often -/
theorem tupleMul0 (l : Addr) (items : Array Value) (n : Nat) (dd : Option Addr) (sl : Array (Option Value)) (u : Tok) (he : items.isEmpty = false) :
    Meets (Builtin.«tuple.__mul__» ⟨[.ref l, .int 0 u], []⟩) (fun _ R s => s.heap.get? l = some { cls := .type "tuple", dict := dd, data := .seq items n, slots := sl } ∧ R (.ok (.ret (Value.ref s.heap.objs.size))) { s with heap := s.heap.push { cls := Value.type "tuple", data := Data.seq #[] }, toks := s.toks }) :=
  .of_wp fun prog w A R s hyp => by
    obtain ⟨hp, gl, dd2, tok, out⟩ := s
    obtain ⟨hl, hR⟩ := hyp
    have f1 := AutoSeq1.idx_int
    have a0 : (decide ((0 : Int) < -(2 ^ 63)) || decide ((0 : Int) ≥ 2 ^ 63)) = false := by decide
    have a1 : (items.isEmpty || (0 : Int) == 1) = false := by rw [he]; rfl
    have a2 : (decide ((0 : Int) ≤ 0) || items.isEmpty) = true := by simp
    wp_walk using wpAny_loadPart' hl
    repeat (first
      | (refine wpAny_ite_false (decide_eq_false (by rw [a0]; exact Bool.false_ne_true)) ?_; wp_walk using wpAny_loadPart' hl)
      | (refine wpAny_ite_false (decide_eq_false (by rw [a1]; exact Bool.false_ne_true)) ?_; wp_walk using wpAny_loadPart' hl)
      | (refine wpAny_ite_true (decide_eq_true a2) ?_; wp_walk using wpAny_loadPart' hl))
    exact ⟨_, rfl, hR⟩
def rRepB (K : PySem.W.Frag) : R2 := fun x y H Q => ∃ l xs, x = .ref l ∧ SqT K H l xs ∧ xs ≠ [] ∧ ((y = .int 1 ∧ Q (.ref l) H) ∨ (y = .int 0 ∧ ∀ p, H p = none → Q (.ref p) (upd H p (.tup []))))
section
variable {X : Cx}
theorem op_repB : OpR X (binaryOp .Mult) (rRepB X.K) := by
  intro pins s σ H x y v u Q I rx ry hyp
  obtain ⟨l, xs, rfl, hT, hne, hyp⟩ := hyp
  cases rx
  obtain ⟨its, r, ⟨⟨cls, dd, data, sl⟩, ho, hc, n, hd⟩, hs⟩ := I.tuple hT
  simp only at hc hd
  subst hc hd
  have hie : its.toArray.isEmpty = false := by
    cases its with
    | nil => cases r; exact absurd rfl hne
    | cons a b => rfl
  rcases hyp with ⟨rfl, q⟩ | ⟨rfl, q⟩
  · obtain ⟨t, rfl⟩ := ry
    refine wpAny_binaryOp_repeat_ref (T := "tuple") (U := "int") (by decide) ⟨_, ho, rfl⟩ (fun s2 => typeIs_int s2 1 t) noFill_tuple_mul F.fills_int_mul F.slot_int_rmul repeat_tuple F.slot_int_index.lookup ?_
    refine call_meets F.slot_int_rmul (typeIs_int s 1 t) F.entry_int_rmul (F.args_int_rmul_2 _ _) (int_rmul_tuple 1 t l its.toArray n dd sl) ⟨ho, rfl, ⟨_, ho, rfl⟩, ?_⟩
    exact call_meets F.slot_tuple_mul ⟨_, ho, rfl⟩ F.entry_tuple_mul (F.args_tuple_mul_2 _ _) (tuple_mul1 l its.toArray n dd sl t) ⟨ho, .ref l, H, I, rfl, q⟩
  · obtain ⟨t, rfl⟩ := ry
    refine wpAny_binaryOp_repeat_ref (T := "tuple") (U := "int") (by decide) ⟨_, ho, rfl⟩ (fun s2 => typeIs_int s2 0 t) noFill_tuple_mul F.fills_int_mul F.slot_int_rmul repeat_tuple F.slot_int_index.lookup ?_
    refine call_meets F.slot_int_rmul (typeIs_int s 0 t) F.entry_int_rmul (F.args_int_rmul_2 _ _) (int_rmul_tuple 0 t l its.toArray n dd sl) ⟨ho, rfl, ⟨_, ho, rfl⟩, ?_⟩
    refine call_meets F.slot_tuple_mul ⟨_, ho, rfl⟩ F.entry_tuple_mul (F.args_tuple_mul_2 _ _) (tupleMul0 l its.toArray n dd sl t hie) ⟨ho, ?_⟩
    exact ⟨.ref s.heap.objs.size, upd H s.heap.objs.size (.tup []), I.laid (t' := s.toks) (fun c o e => Heap.get?_push_of_some _ e) (Nat.le_refl _) (show ObjOk X.prog X.w _ _ _ (.tup []) from ⟨Nat.zero_le _, [], .nil, IsTup.new _ _⟩), rfl, q _ I.fresh⟩
theorem kx_repB {K : PySem.W.Frag} (h : X.K = K) : OpR X (binaryOp .Mult) (rRepB K) := by subst h; exact op_repB
end
theorem r_repB {K : PySem.W.Frag} {pen : Pc} {P : PyData → Prop} {ds : List PyData} {b : Bool} (h0 : ds ≠ []) (p : P (.tuple (if b = true then ds else []))) : R2d K pen (rRepB K) (.tuple ds) (.int (if b = true then 1 else 0)) P := fun x y G H v hx hy Q q => by
  cases hx with
  | tup hs ha =>
    cases hy
    rename_i a xs
    have hn : xs ≠ [] := fun z => by subst z; cases ha; exact h0 rfl
    refine ⟨a, xs, rfl, sqT_mono v.vw hs, hn, ?_⟩
    cases b with
    | true => exact .inl ⟨rfl, q _ _ G H (.refl v) (.tup hs ha) p⟩
    | false =>
      refine .inr ⟨rfl, fun r hr => ?_⟩
      have g := Go.new v (o := .tup []) hr
      exact q _ _ _ _ g (.tup (.inl (.inl upd_same)) .nil) p
end Dl
set_option Elab.async false
set_option linter.all false
set_option maxRecDepth 100000
/-! a comprehension that pops from one's own list -/
namespace Dl
open PySem PySem.Spec PyProof.Rows L2
variable {K : PySem.W.Frag} {pen : Pc} {H0 : Hp} {L : Lv} {D : Dn}
theorem set_same {α : Type} {l : List α} {j : Nat} {x : α} (h : l[j]? = some x) : l.set j x = l := by
  apply List.ext_getElem?
  intro i
  rw [List.getElem?_set]
  by_cases e : j = i
  · subst e
    rw [if_pos rfl, h, if_pos (List.getElem?_eq_some_iff.mp h).1]
  · rw [if_neg e]
/-- an object beside the slots is written -/
theorem Ev.aside {G H H1 : Hp} {σ : L2.St} {j : Nat} {o : OO} {l Da : Addr} {ho : HO} (e : Ev K pen H0 G H σ L) (hj : L[j]? = some (some (.own o))) (hs : σ[j]? = some (some (.ref l))) (hl : l ≠ Da)
    (only : ∀ (i : Nat) av, L[i]? = some (some av) → i ≠ j → (∃ x, av = .d x) ∨ av = .pen) (h0 : H0 Da = none) (g0 : G Da = none) (p1 : POk pen H1) (hD : H1 Da = none) (hk : ∀ q, H Da ≠ some (LamX.CodeO Da q)) : Ev K pen H0 G (upd H Da ho) σ L := by
  refine ⟨⟨fun a u q => by rw [upd_ne (fun z => by rw [z, g0] at q; cases q)]; exact e.vw.vw a u q, e.vw.no, e.vw.ok.upd p1 hD hk⟩, e.h0, fun a h => ?_, e.len, fun i av hi => ?_, e.ow⟩
  · by_cases z : a = Da
    · rw [z, upd_same]; exact fun q => by cases q
    · rw [upd_ne z]; exact e.dom a h
  · obtain ⟨v, k1, k2⟩ := e.sl i av hi
    refine ⟨v, k1, ?_⟩
    by_cases z : i = j
    · subst z
      have : av = .own o := Option.some.inj (Option.some.inj (hi.symm.trans hj))
      subst this
      obtain ⟨l2, vs, rfl, q1, q2, q3, q4⟩ := k2
      have : l2 = l := by
        have := hs.symm.trans k1
        injection this with this
        injection this with this
        injection this with this
        exact this.symm
      subst this
      exact ⟨l2, vs, rfl, by rw [upd_ne hl]; exact q1, q2, q3, q4⟩
    · rcases only i av hi z with ⟨x, rfl⟩ | rfl
      · exact k2
      · exact k2
theorem s_retLcPop {ti : TI} {tk : TE} {v j : Nat} {ds0 : List PyData} (hj : L[j]? = some (some (.own (.lst ds0)))) (hvj : v ≠ j)
    (only : ∀ (i : Nat) av, L[i]? = some (some av) → i ≠ j → (∃ x, av = .d x) ∨ av = .pen) (nf : noFr L = true)
    (h : IT K pen H0 ti L fun xs => xs.length ≤ 100000 ∧ ∃ J : Nat → List PyData → List PyData → Prop, J 0 ds0 [] ∧
      (∀ (i : Nat) x ds acc, xs[i]? = some x → J i ds acc → E K pen H0 tk (((L.set j (some (.own (.lst ds)))).set v none).set v (some (.d x))) fun d => ∃ m : Nat, d = .int m ∧ m < 100000 ∧ ∃ y, ds[m]? = some y ∧ J (i + 1) (ds.eraseIdx m) (acc ++ [y])) ∧ (∀ ds acc, J xs.length ds acc → D.rt (.list acc)))
    (nfs : ∀ ds, noFr (L.set j (some (.own (.lst ds)))) = true := by intros; rfl) :
    S K pen H0 (tRet (tLc ti (gName v) tYes (tBM K "list" rPopAt (tVar j) (tCons tk tNil)) [v])) L D := fun σ G H N e _ n2 _ _ _ _ => h σ G H e _ fun It G1 H1 xs go w ⟨hn, J, j0, js, je⟩ => fun Dl hD => by
  have e1 := e.go go
  obtain ⟨l, ho, k1, k3, k6⟩ := e1.own hj
  have hl : l ≠ Dl := fun z => by rw [z, hD] at k3; cases k3
  have h0D : H0 Dl = none := by
    cases z : H0 Dl with
    | none => rfl
    | some o => exact absurd hD (e1.dom Dl (by rw [z]; exact fun z => by cases z))
  have g1D : G1 Dl = none := by
    cases q : G1 Dl with
    | none => rfl
    | some o => rw [e1.vw.vw _ _ q] at hD; cases hD
  have np : ¬ IsPn pen Dl := fun p => go.vw.ok.there p hD
  have hjl : j < L.length := (List.getElem?_eq_some_iff.mp hj).1
  have hjs : ∀ ds, (L.set j (some (.own (.lst ds))))[j]? = some (some (.own (.lst ds))) := fun ds => List.getElem?_set_self hjl
  have only' : ∀ (ds : List PyData) (i : Nat) av, (L.set j (some (.own (.lst ds))))[i]? = some (some av) → i ≠ j → (∃ x, av = .d x) ∨ av = .pen := fun ds i av hi hne => only i av (by rw [List.getElem?_set_ne (fun z => hne z.symm)] at hi; exact hi) hne
  refine ⟨fun i m H' => m = xs.length - i ∧ i ≤ xs.length ∧ ∃ G' us ds acc, Gx pen H0 G1 H1 G' H' ∧ Ev K pen H0 G' H' σ (L.set j (some (.own (.lst ds)))) ∧ H' Dl = some (.lst us) ∧ G' Dl = none ∧ DpAll K G' us acc ∧ J i ds acc ∧ acc.length ≤ i,
    ⟨xs.length, rfl, Nat.zero_le _, G1, [], ds0, [], ?_, ?_, upd_same, g1D, .nil, j0, Nat.le_refl _⟩, ?_⟩
  · exact ⟨Same.refl _, fun _ _ => rfl, fun a o p h q => by rw [upd_ne (fun z => h (by rw [z]; exact h0D))]; exact q⟩
  · rw [set_same hj]
    exact e1.aside hj k1 hl only h0D g1D e1.vw.ok hD (code_ne0 hD)
  rintro i m H' ⟨rfl, hi, G', us, ds, acc, gx, ev, d1, d2, d3, jj, al⟩
  obtain ⟨w1, w2⟩ := w G' H' gx.gg ev.vw
  by_cases hlt : i < xs.length
  · obtain ⟨q1, q2⟩ := w1 i _ (List.getElem?_eq_getElem hlt)
    refine .inr ⟨q1, fun H' => i + 1 ≤ xs.length ∧ ∃ G' us ds acc, Gx pen H0 G1 H1 G' H' ∧ Ev K pen H0 G' H' σ (L.set j (some (.own (.lst ds)))) ∧ H' Dl = some (.lst us) ∧ G' Dl = none ∧ DpAll K G' us acc ∧ J (i + 1) ds acc ∧ acc.length ≤ i + 1, fun H2 I2 => ⟨xs.length - (i + 1), by omega, rfl, I2⟩, fun u H2 hu => ?_⟩
    obtain ⟨G2, g2, du⟩ := q2 u H2 hu
    have e2 := ev.go g2
    refine ⟨wipe1 _ _ _, ?_⟩
    have e3 := (ev_wipe1 e2 v).set (i := v) du
    have sj : ((wipe σ [v]).set v (some u))[j]? = some (some (.ref l)) := by
      rw [List.getElem?_set_ne hvj]
      show (σ.set v none)[j]? = _
      rw [List.getElem?_set_ne hvj]
      exact k1
    obtain ⟨ho2, r1, r2⟩ := e2.ownAt (hjs ds) k1
    obtain ⟨vs2, rfl, r2⟩ := r2.lst
    show tBM K "list" rPopAt (tVar j) (tCons tk tNil) _ H2 _
    refine ⟨_, sj, .inl ⟨rfl, vs2, .inl (.inl r1)⟩, js i _ ds acc (List.getElem?_eq_getElem hlt) jj _ G2 H2 e3 _ fun uu d G3 H3 g3 d3' hm => ?_⟩
    obtain ⟨m, rfl, hm1, y, hy, jn⟩ := hm
    cases d3'
    have e4 := e2.go g3
    obtain ⟨ho3, t1, t2⟩ := e4.ownAt (hjs ds) k1
    obtain ⟨vs3, rfl, t2⟩ := t2.lst
    obtain ⟨yv, hyv, dy⟩ := dpa_get t2 hy
    have hml : m < vs3.length := (List.getElem?_eq_some_iff.mp hyv).1
    obtain ⟨p1, p2⟩ := e4.putOwn (nfs ds) (hjs ds) k1 (o' := .lst (ds.eraseIdx m)) (ho := .lst (vs3.eraseIdx m)) (dpa_erase m t2)
    rw [List.set_set] at p1
    have b1 : H3 Dl = some (.lst us) := g3.od Dl _ np (g2.od Dl _ np d1)
    have b2 : G3 Dl = none := ((g3.nw Dl (by rw [g2.od Dl _ np d1]; exact fun z => by cases z)).trans (g2.nw Dl (by rw [d1]; exact fun z => by cases z))).trans d2
    refine ⟨l, vs3, m, m, yv, rfl, rfl, t1, by omega, by omega, ?_, hyv, us, ?_, ?_, hlt, G3, us ++ [yv], ds.eraseIdx m, acc ++ [y], ?_, ?_, upd_same, b2, dpa_app (dpa_mono (g2.gg.trans g3.gg) _ _ d3) (.cons dy .nil), jn, ?_⟩
    · unfold seqIndex?
      simp
      omega
    · rw [upd_ne (fun z => hl z.symm)]; exact b1
    · exact Nat.lt_of_lt_of_le (by rw [dpa_len d3]; omega) (by decide : 100000 ≤ sizeLine)
    · refine ((gx.trans (ev.gx g2)).trans (e2.gx g3)).trans (p2.trans ⟨Same.refl _, fun _ _ => rfl, fun a o p h q => ?_⟩)
      rw [upd_ne (fun z => h (by rw [z]; exact h0D))]
      exact q
    · exact p1.aside (hjs _) k1 hl (only' _) h0D b2 go.vw.ok hD (code_ne (by rw [upd_ne (fun z => hl z.symm)]; exact b1) rfl)
    · rw [List.length_append]
      show acc.length + 1 ≤ i + 1
      omega
  · have e1' : i = xs.length := by omega
    subst e1'
    refine .inl ⟨w2, ?_⟩
    have s : Same G' (upd G' Dl (.lst us)) := fun a o q => by rw [upd_ne (ne_of_none q d2)]; exact q
    refine n2 (.ref Dl) (.list acc) (upd G' Dl (.lst us)) H' ((e.gx go).trans (gx.trans ⟨s, fun a h => upd_ne (fun z => h (by rw [z]; exact h0D)), fun _ _ _ _ q => q⟩)) ⟨fun a o q => ?_, fun a p => ?_, ev.vw.ok⟩ (.lst (.inl (.inl upd_same)) (dpa_mono s _ _ d3)) (je ds acc jj)
    · by_cases z : a = Dl
      · subst z
        rw [upd_same] at q
        rw [← q]
        exact d1
      · rw [upd_ne z] at q
        exact ev.vw.vw a o q
    · rw [upd_ne (fun z => np (by rw [← z]; exact p))]
      exact ev.vw.no a p
theorem kx_bm {X : Cx} {K : PySem.W.Frag} {o e : Expr} {es : List Expr} {to : TE} {t : TA} {name : Str} {apos cpos : Pos} {T id : String} {r : V → List V → Hp → VK → Prop} (h : X.K = K)
    (pa : PlainAttrs T) (slot : Slot T name id) (hty : typeOf (.builtin id) = pure (.type "method_descriptor")) (hm : MtR X id r) (ho : PE X o to) (ha : PA X (e :: es) t)
    (h1 : attributeBase o name X.env (eval o X.env) = eval o X.env := by rfl)
    (h2 : ((backTo cpos (starEach (e :: es) X.env)).all (fun x => !x.1) && (backToKw cpos (keywordEach [] X.env)).all (fun x => x.1.isSome) && decide ((e :: es).length + ([] : List Keyword).length + (if ([] : List Keyword).isEmpty then 0 else 1) < 30)) = true := by rfl)
    (h3 : (apos.endLine == cpos.line) = true := by rfl) (h4 : starEach (e :: es) X.env = (false, eval e X.env) :: starEach es X.env := by rfl) (h5 : (backTo cpos (starEach es X.env)).any (·.1) = false := by rfl) :
    PE X (.Call (.Attribute o name apos) (e :: es) [] cpos) (tBM K T r to t) := by
  subst h
  exact pe_bm pa slot hty hm ho ha h1 h2 h3 h4 h5
/-! defs to which the pen is handed and that tell a new object -/
def SpXPN {α : Type} (b : Bool) (K : PySem.W.Frag) (ts : List Addr) (Wf : α → Prop) (enc : α → List PyData) (res : α → OO → Prop) : Sp := fun vs H Q _ => ∃ (x : α) (p : Pn) (G : Hp) (us : List V), PK.Is b p.k ∧ vs = .ref p.a :: us ∧ Vw ⟨some p, ts⟩ G H ∧ DpAll K G us (enc x) ∧ Wf x ∧ ∀ l ho o G' H', Go ⟨some p, ts⟩ G H G' H' → H' l = some ho → G' l = none → H l = none → OwnOk K G' l ho o → res x o → Q (.ref l) H'
theorem ek_callP {tl : TA} {Po : OO → Prop} {α : Type} {b : Bool} {p : Pn} {ts : List Addr} {Wf : α → Prop} {enc : α → List PyData} {res : α → OO → Prop} {X : XK} {i : Nat} (hi : L[i]? = some (some .pen)) (h : EA K ⟨some p, ts⟩ H0 tl L fun ds => ∃ x, ds = enc x ∧ Wf x ∧ ∀ o, res x o → Po o) (hk : PK.Is b p.k := by exact trivial) : EK K ⟨some p, ts⟩ H0 (tCall (SpXPN b K ts Wf enc res) [] X (tCons (tVar i) tl)) L Po := fun σ G H e Q q => by
  obtain ⟨v, hv, p', hp, rfl⟩ := e.sl i _ hi
  refine ⟨_, hv, h σ G H e _ fun vs ds G1 H1 go hd ⟨x, hx, h1, h2⟩ => ?_⟩
  cases hp
  refine ⟨x, p, G1, vs, hk, by rw [List.append_nil], go.vw, by rw [← hx]; exact hd, h1, fun l ho o G' H' go2 k1 k2 k3 k4 pp => ?_⟩
  refine q l ho o G' H' (go.trans go2) k1 k2 ?_ k4 (h2 o pp)
  cases z : H l with
  | none => rfl
  | some u => exact absurd k3 (go.dom (by rw [z]; exact fun z => by cases z))
theorem fnXPN {P : Program} {w : World} {mg : Str → Option Value} {base : Heap} {α : Type} {b : Bool} {x qual : Str} {st : Stmt} {f : Addr} {fd : FuncData} {N ps : List Str} {k : Nat} {ts : List Addr} {Wf : α → Prop} {enc : α → List PyData} {res : α → OO → Prop} (F : Fun K x qual st f fd) (S0 : FnScope N ps (defScope st)) (hN : ∃ x r, N = x :: r) (hl : ∀ x, Wf x → (enc x).length + 1 = ps.length)
    (hbody : ∀ (cdv : Value) (A : Around) (outer : List Env) (s : Shared) (H : Hp) (E : XK), Room k (A.deeper (envOfC qual (defScope st) s.heap.objs.size f cdv)) →
      ∃ t, PSs (cxOf CX0 P w K mg base N qual (defScope st) f cdv A outer s H E).nox (defBody st) t ∧ ∀ (p : Pn) x, PK.Is b p.k → Wf x → S K ⟨some p, ts⟩ H t (stP N (enc x)) { nx := fun _ => False, rt := fun _ => False, ro := res x }) : FnOk P w K mg base CX0 (k + 1) f fd ps (SpXPN b K ts Wf enc res) := by
  refine F.ok S0 (fun vs H Q E h => ?_) (fun cdv A outer s H vs Q E hr h => ?_)
  · obtain ⟨x, p, G, us, hk, rfl, _, h1, h2, _⟩ := h
    rw [List.length_cons, dpa_len h1]
    exact hl x h2
  · obtain ⟨x, p, G, us, hk, rfl, v, h1, h2, q⟩ := h
    obtain ⟨t, ht, hS⟩ := hbody cdv A outer s H E hr
    refine ⟨t, ht, hS p x hk h2 _ G H _ (ev_startP h1 v hN) (fun _ _ _ _ _ _ z => z.elim) (fun _ _ _ _ _ _ _ z => z.elim) (fun _ _ _ _ _ _ z => z.elim) (fun _ _ _ _ _ _ z => z.elim) (fun _ _ _ _ _ _ _ z => z.elim) (fun l ho o G' H' x vw k1 k2 k3 k4 p => ?_)⟩
    exact q l ho o G' H' ⟨x.gg, x.nw, fun a o hp e => x.od a o hp (by rw [e]; exact fun z => by cases z) e, vw⟩ k1 k3 k2 k4 p
/-- one's own list, so many times -/
theorem el_repOwn {tb : TE} {Pl : List PyData → Prop} {j : Nat} {ds : List PyData} (hj : L[j]? = some (some (.own (.lst ds)))) (h : E K pen H0 tb L fun b => ∃ k : Nat, b = .int k ∧ k ≤ 100000 ∧ ds.length * k ≤ 100000 ∧ Pl (List.replicate k ds).flatten) : EL K pen H0 (tOp rRep (tVar j) tb) L Pl := fun σ G H e Q q => by
  obtain ⟨l, ho, q1, q3, q6⟩ := e.own hj
  refine ⟨_, q1, h σ G H e _ fun w b G2 H2 g2 d2 ⟨k, hk, hkk, hz, p⟩ => ?_⟩
  subst hk
  cases d2
  have e2 := e.go g2
  obtain ⟨ho2, r3, r6⟩ := e2.ownAt hj q1
  obtain ⟨vs, rfl, r6⟩ := r6.lst
  have hlv := dpa_len r6
  refine ⟨l, k, vs, rfl, rfl, r3, by omega, by omega, Nat.le_trans (by rw [hlv]; exact hz) (by decide : 100000 ≤ sizeLine), fun r hr => ?_⟩
  have g3 := Go.hid e2.vw (o := .lst (List.replicate ((k : Int)).toNat vs).flatten) hr
  exact q r _ _ G2 _ (g2.trans g3) upd_same (e2.gnone hr) (EL.out e g2 hr) (dpa_rep r6 k) p
end Dl
set_option Elab.async false
set_option linter.all false
set_option maxRecDepth 100000
/-! sum(1 for x in .. if f(x)) -/
namespace Dl
open PySem PySem.Spec PyProof.Rows L2
variable {K : PySem.W.Frag} {pen : Pc} {H0 : Hp} {L : Lv} {D : Dn} {Pd : PyData → Prop} {ti : TI} {g : TG} {tt : TT} {te : TE}
theorem e_sumI {pn : Option Pn} {ts : List Addr} {Tb : Addr} {vs : List Nat} (f : PyData → Bool) (hT : Tb ∈ ts) (h : IT K ⟨pn, ts⟩ H0 ti L fun xs => xs.length ≤ 100000 ∧ (∀ (i : Nat) x, xs[i]? = some x → GTw K ⟨pn, ts⟩ H0 vs g x (wipeL L vs) fun L2 => ET K ⟨pn, ts⟩ H0 tt L2 fun b => b = f x ∧ (b = true → E K ⟨pn, ts⟩ H0 te L2 fun d => d = .int 1)) ∧ Pd (.int ((xs.filter f).length : Int))) :
    E K ⟨pn, ts⟩ H0 (_root_.Gx.tSum Tb ti g tt te vs) L Pd := fun σ G H e Q q => h σ G H e _ fun It G1 H1 xs gg w ⟨hn, js, je⟩ => by
  refine ⟨gg.vw.ok.2 Tb hT, fun H2 htab => ?_⟩
  have g2 := Go.tab gg.vw hT htab
  have hfl : (xs.filter f).length ≤ xs.length := List.length_filter_le ..
  refine ⟨fun i m n H' => m = xs.length - i ∧ i ≤ xs.length ∧ n = ((xs.drop i).filter f).length ∧ ∃ G', Go ⟨pn, ts⟩ G1 H2 G' H', (xs.filter f).length, by omega, ⟨xs.length, rfl, Nat.zero_le _, rfl, G1, .refl g2.vw⟩, ?_⟩
  rintro i m n H' ⟨rfl, hi, rfl, G', g'⟩
  have q' : ∀ v d G' H', Go ⟨pn, ts⟩ G1 H2 G' H' → Dp K G' v d → Pd d → Q v H' := fun v d G' H' g hd p => q v d G' H' ((gg.trans g2).trans g) hd p
  obtain ⟨w1, w2⟩ := w G' H' g'.gg g'.vw
  by_cases hlt : i < xs.length
  · obtain ⟨k1, k2⟩ := w1 i _ (List.getElem?_eq_getElem hlt)
    refine .inr ⟨k1, fun n' H3 => n' = ((xs.drop (i + 1)).filter f).length ∧ ∃ G', Go ⟨pn, ts⟩ G1 H2 G' H3, fun n' H3 ⟨k1, k2⟩ => ⟨xs.length - (i + 1), by omega, rfl, hlt, k1, k2⟩, fun y H3 hy => ?_⟩
    obtain ⟨G3, g3, d3⟩ := k2 y H3 hy
    have hdrop : ((xs.drop i).filter f).length = (if f xs[i] = true then 1 else 0) + ((xs.drop (i + 1)).filter f).length := by
      rw [List.drop_eq_getElem_cons hlt, List.filter_cons]
      split
      · rw [List.length_cons]; omega
      · omega
    refine js i _ (List.getElem?_eq_getElem hlt) (wipe σ vs) G3 H3 y (ev_wipe ((((e.go gg).go g2).go g').go g3) vs) d3 _ fun σ4 L4 ag e4 h4 => ⟨wipe_agree ag, ?_⟩
    refine h4 σ4 G3 H3 e4 _ fun b G4 H4 g4 ⟨hb, h5⟩ => ?_
    cases b with
    | false =>
      show _ ∧ _
      refine ⟨?_, G4, (g'.trans g3).trans g4⟩
      rw [hdrop, if_neg (by rw [← hb]; exact Bool.false_ne_true)]
      omega
    | true =>
      show te σ4 H4 _
      refine h5 rfl σ4 G4 H4 (e4.go g4) _ fun v d G5 H5 g5 d5 p5 => ?_
      subst p5
      cases d5
      refine ⟨rfl, _, ?_, rfl, G5, ((g'.trans g3).trans g4).trans g5⟩
      rw [hdrop, if_pos hb.symm]
      omega
  · have e1 : i = xs.length := by omega
    subst e1
    refine .inl ⟨w2, q' _ _ G' H' g' (.int _) ?_⟩
    rw [List.drop_length]
    show Pd (.int (((xs.filter f).length : Int) - ((0 : Nat) : Int)))
    rw [Int.natCast_zero, Int.sub_zero]
    exact je
theorem dpa_rng2 {G : Hp} (i j : Int) : DpAll K G (rgV i j) (rngL i (j - i).toNat) := by
  unfold rgV rngL
  induction List.range (j - i).toNat with
  | nil => exact .nil
  | cons a r ih => exact .cons (.int _) ih
theorem el_lstRg2 {ta tb : TE} {Pl : List PyData → Prop} (h : E K pen H0 ta L fun a => E K pen H0 tb L fun b => ∃ i j : Int, a = .int i ∧ b = .int j ∧ -100000 ≤ i ∧ i ≤ 100000 ∧ -100000 ≤ j ∧ j ≤ 100000 ∧ Pl (rngL i (j - i).toNat)) : EL K pen H0 (tLstRg (tRg2 ta tb)) L Pl := fun σ G H e Q q =>
  h σ G H e _ fun v a G1 H1 go hd h1 => h1 σ G1 H1 (e.go go) _ fun w b G2 H2 go2 hd2 ⟨i, j, ea, eb, z1, z2, z3, z4, p⟩ => by
    subst ea eb
    cases hd
    cases hd2
    refine ⟨i, j, rfl, rfl, ⟨by omega, by omega, by omega, by omega, by omega⟩, fun r hr => ?_⟩
    have e1 := (e.go go).go go2
    have g2 := Go.hid e1.vw (o := .lst (rgV i j)) hr
    exact q r _ _ G2 _ ((go.trans go2).trans g2) upd_same (e1.gnone hr) (EL.out e (go.trans go2) hr) (dpa_rng2 i j) p
end Dl
set_option Elab.async false
set_option linter.all false
set_option maxRecDepth 100000
/-! max of a list of pairs, a list with another one spread in it -/
namespace Dl
open PySem PySem.Spec PyProof.Rows L2
def rMaxP (K : PySem.W.Frag) : List V → Hp → VK → Prop := fun vs H Q => ∃ (a : Addr) (xs : List V) (d0 : PyData) (ds : List PyData), vs = [V.ref a] ∧ SqL K H a xs ∧ DpAll K H xs (d0 :: ds) ∧ PySem.W.AlikeAll (d0 :: ds) ∧ PyData.depthAll (d0 :: ds) ≤ 60 ∧ ∀ (i : Nat) v, xs[i]? = some v → (d0 :: ds)[i]? = some (PySem.W.maxD d0 ds) → Q v H
theorem maxD_mem (d0 : PyData) : ∀ ds : List PyData, PySem.W.maxD d0 ds ∈ d0 :: ds := fun ds => by
  unfold PySem.W.maxD
  induction ds generalizing d0 with
  | nil => exact List.mem_cons_self ..
  | cons d ds ih =>
    rw [List.foldl_cons]
    split
    · exact List.mem_cons_of_mem _ (ih d)
    · rcases List.mem_cons.mp (ih d0) with z | z
      · rw [z]; exact List.mem_cons_self ..
      · exact List.mem_cons_of_mem _ (List.mem_cons_of_mem _ z)
theorem cr_maxP {X : Cx} (hc : X.calm = true) (hu : X.A.units + 64 < cLine) : CallR X (.builtin "max") (rMaxP X.K) := by
  intro pins s σ H vs us Q I r h
  obtain ⟨a, xs, d0, ds, rfl, hs, hd, hal, hdp, q⟩ := h
  obtain ⟨its, rv, hl, _⟩ := I.list hs
  rw [Vals.ref1 r]
  obtain ⟨as, hr⟩ := Dp.readsAll I (d0 :: ds) xs its hd rv
  refine PySem.W.max_list_data (I.ok.hd hc) hl.isList (as := as) (by simpa using hr) hal (by omega) fun i v h' tk bs hv hrd hk => ?_
  have hv' : its[i]? = some v := by simpa using hv
  obtain ⟨y, hy, hyv⟩ : ∃ y, xs[i]? = some y ∧ RelV y v := by
    have hlen := rv.length
    have hi : i < its.length := (List.getElem?_eq_some_iff.mp hv').1
    obtain ⟨y, hy⟩ : ∃ y, xs[i]? = some y := ⟨_, List.getElem?_eq_getElem (by omega)⟩
    obtain ⟨u, hu2, ru⟩ := rv.get hy
    rw [hv'] at hu2
    cases hu2
    exact ⟨y, hy, ru⟩
  obtain ⟨d, hdi, hdy⟩ := dpa_getV hd hy
  have I' := I.kept (t' := tk) hk
  obtain ⟨cs, hr2⟩ := Dp.reads I' d y v hdy hyv
  have e : d = PySem.W.maxD d0 ds := PySem.W.alike_unique d _ v cs bs (hal.1 d (List.mem_of_getElem? hdi) _ (maxD_mem d0 ds)) hr2 hrd
  exact ⟨y, H, I', hyv, q i y hy (e ▸ hdi)⟩
theorem kx_maxP {X : Cx} {K : PySem.W.Frag} (h : X.K = K) (hc : X.calm = true) (hu : X.A.units + 64 < cLine) : CallR X (.builtin "max") (rMaxP K) := by subst h; exact cr_maxP hc hu
section
variable {K : PySem.W.Frag} {pen : Pc} {H0 : Hp} {L : Lv} {P : PyData → Prop} {te : TE} {tr : TA} {Pl : List PyData → Prop}
theorem pair_lt (a y : Int × Int) : (PySem.W.dataLt (pairD a) (pairD y) = true → a.1 ≤ y.1) ∧ (PySem.W.dataLt (pairD a) (pairD y) = false → y.1 ≤ a.1) := by
  obtain ⟨a1, a2⟩ := a
  obtain ⟨y1, y2⟩ := y
  show (PySem.W.dataLt (.tuple [.int a1, .int a2]) (.tuple [.int y1, .int y2]) = true → a1 ≤ y1) ∧ (PySem.W.dataLt (.tuple [.int a1, .int a2]) (.tuple [.int y1, .int y2]) = false → y1 ≤ a1)
  rw [PySem.W.dataLt_tuple]
  by_cases e : a1 = y1
  · subst e
    exact ⟨fun _ => Int.le_refl _, fun _ => Int.le_refl _⟩
  · have ne : PyData.eqv (.int a1) (.int y1) = false := by
      show decide (a1 = y1) = false
      exact decide_eq_false e
    rw [PySem.W.dataLt_all_no (by rfl) ne, PySem.W.dataLt_int]
    exact ⟨fun h => Int.le_of_lt (of_decide_eq_true h), fun h => by have := of_decide_eq_false h; omega⟩
theorem maxD_pairs (c0 : Int × Int) : ∀ cs : List (Int × Int), ∃ m ∈ c0 :: cs, PySem.W.maxD (pairD c0) (pairsL cs) = pairD m ∧ ∀ y ∈ c0 :: cs, y.1 ≤ m.1 := fun cs => by
  unfold PySem.W.maxD pairsL
  induction cs generalizing c0 with
  | nil => exact ⟨c0, List.mem_cons_self .., rfl, fun y hy => by rw [List.mem_singleton.mp hy]; exact Int.le_refl _⟩
  | cons c cs ih =>
    rw [List.map_cons, List.foldl_cons]
    obtain ⟨q1, q2⟩ := pair_lt c0 c
    cases hb : PySem.W.dataLt (pairD c0) (pairD c) with
    | true =>
      rw [if_pos rfl]
      obtain ⟨m, h1, h2, h3⟩ := ih c
      refine ⟨m, List.mem_cons_of_mem _ h1, h2, fun y hy => ?_⟩
      rcases List.mem_cons.mp hy with rfl | hy
      · have := q1 hb
        have := h3 c (List.mem_cons_self ..)
        omega
      · exact h3 y hy
    | false =>
      rw [if_neg Bool.false_ne_true]
      obtain ⟨m, h1, h2, h3⟩ := ih c0
      refine ⟨m, ?_, h2, fun y hy => ?_⟩
      · rcases List.mem_cons.mp h1 with z | z
        · rw [z]; exact List.mem_cons_self ..
        · exact List.mem_cons_of_mem _ (List.mem_cons_of_mem _ z)
      · rcases List.mem_cons.mp hy with z | hy
        · rw [z]; exact h3 c0 (List.mem_cons_self ..)
        · rcases List.mem_cons.mp hy with z | hy
          · have := q2 hb
            have := h3 c0 (List.mem_cons_self ..)
            rw [z]
            omega
          · exact h3 y (List.mem_cons_of_mem _ hy)
theorem alike_pairs (cs : List (Int × Int)) : PySem.W.AlikeAll (pairsL cs) := ⟨fun x hx y hy => by
  obtain ⟨a, _, rfl⟩ := List.mem_map.mp hx
  obtain ⟨b, _, rfl⟩ := List.mem_map.mp hy
  rfl, fun x hx => by
  obtain ⟨a, _, rfl⟩ := List.mem_map.mp hx
  exact fun z => by cases z⟩
theorem depth_pairs : ∀ cs : List (Int × Int), PyData.depthAll (pairsL cs) ≤ 1
  | [] => Nat.zero_le _
  | c :: cs => by
    show PyData.depthAll (pairD c :: pairsL cs) ≤ 1
    rw [PyData.depthAll]
    exact Nat.max_le.mpr ⟨Nat.le_of_ble_eq_true rfl, depth_pairs cs⟩
theorem c_maxP {c0 : Int × Int} {cs : List (Int × Int)} (p : ∀ m, m ∈ c0 :: cs → (∀ y, y ∈ c0 :: cs → y.1 ≤ m.1) → P (pairD m)) : RCd K pen (rMaxP K) [.list (pairsL (c0 :: cs))] P := fun vs G H v hv Q q => by
  cases hv with
  | cons h1 h2 =>
    cases h2
    cases h1 with
    | lst hs ha =>
      obtain ⟨m, m1, m2, m3⟩ := maxD_pairs c0 cs
      refine ⟨_, _, pairD c0, pairsL cs, rfl, sqL_mono v.vw hs, dpa_mono v.vw _ _ ha, alike_pairs (c0 :: cs), Nat.le_trans (depth_pairs (c0 :: cs)) (by decide), fun i y hy hd => ?_⟩
      obtain ⟨d, e1, e2⟩ := dpa_getV ha hy
      have e3 : d = pairD m := by
        rw [← m2]
        exact Option.some.inj (e1.symm.trans hd)
      subst e3
      exact q y _ G H (.refl v) e2 (p m m1 m3)
theorem ea_star (h : E K pen H0 te L fun d => ∃ ds, (d = .tuple ds ∨ d = .list ds) ∧ EA K pen H0 tr L fun es => Pl (ds ++ es)) : EA K pen H0 (StX.tStar K te tr) L Pl := fun σ G H e Q q =>
  h σ G H e _ fun v d G1 H1 g1 d1 ⟨ds, hds, h1⟩ => by
    rcases hds with rfl | rfl
    · cases d1 with
      | tup hs ha => exact ⟨_, _, rfl, .inl (sqT_mono g1.vw.vw hs), h1 σ G1 H1 (e.go g1) _ fun vs es G2 H2 g2 d2 p => q _ _ G2 H2 (g1.trans g2) (dpa_app (dpa_mono g2.gg _ _ ha) d2) p⟩
    · cases d1 with
      | lst hs ha => exact ⟨_, _, rfl, .inr (sqL_mono g1.vw.vw hs), h1 σ G1 H1 (e.go g1) _ fun vs es G2 H2 g2 d2 p => q _ _ G2 H2 (g1.trans g2) (dpa_app (dpa_mono g2.gg _ _ ha) d2) p⟩
end
end Dl
set_option Elab.async false
set_option linter.all false
set_option maxRecDepth 100000
/-! one's own list: pop at a place, insert; abs -/
namespace Dl
open PySem PySem.Spec PyProof.Rows L2
variable {K : PySem.W.Frag} {pen : Pc} {H0 : Hp} {L : Lv} {D : Dn} {te ta : TE} {P : PyData → Prop}
theorem s_popAtD {j : Nat} {ds : List PyData} (hj : L[j]? = some (some (.own (.lst ds)))) (h : E K pen H0 te L fun d => ∃ m : Nat, d = .int m ∧ m < ds.length ∧ m < 100000 ∧ D.nx (L.set j (some (.own (.lst (ds.eraseIdx m)))))) (nf : noFr L = true := by rfl) :
    S K pen H0 (tDrop (tBM K "list" rPopAt (tVar j) (tCons te tNil))) L D := fun σ G H N e n1 _ _ _ _ _ => by
  obtain ⟨l, ho, k1, k3, k6⟩ := e.own hj
  obtain ⟨vs, rfl, k6⟩ := k6.lst
  refine ⟨_, k1, .inl ⟨rfl, vs, .inl (.inl k3)⟩, h σ G H e _ fun v d G1 H1 g1 d1 ⟨m, hm, hml, hmz, p⟩ => ?_⟩
  subst hm
  cases d1
  have e1 := e.go g1
  obtain ⟨ho2, q3, q6⟩ := e1.ownAt hj k1
  obtain ⟨vs2, rfl, q6⟩ := q6.lst
  have hl := dpa_len q6
  obtain ⟨r1, r2⟩ := e1.putOwn nf hj k1 (o' := .lst (ds.eraseIdx m)) (ho := .lst (vs2.eraseIdx m)) (dpa_erase m q6)
  refine ⟨l, vs2, m, m, _, rfl, rfl, q3, by omega, by omega, ?_, List.getElem?_eq_getElem (by omega), n1 σ G1 _ _ ((e.gx g1).trans r2) r1 p⟩
  unfold seqIndex?
  simp
  omega
theorem s_insOwn {j : Nat} {ds : List PyData} (hj : L[j]? = some (some (.own (.lst ds)))) (hz : ds.length < 100000) (h : E K pen H0 ta L fun a => E K pen H0 te L fun d => ∃ m : Nat, a = .int m ∧ m < 100000 ∧ D.nx (L.set j (some (.own (.lst (ds.take m ++ [d] ++ ds.drop m)))))) (nf : noFr L = true := by rfl) :
    S K pen H0 (tDrop (tBM K "list" (fun x vs H Q => ∃ (l : Addr) (xs : List V) (i : Int) (y : V), x = .ref l ∧ vs = [.int i, y] ∧ H l = some (.lst xs) ∧ xs.length < sizeLine ∧ 0 ≤ i ∧ i < 2 ^ 63 ∧ Q .non (upd H l (.lst (xs.take i.toNat ++ [y] ++ xs.drop i.toNat)))) (tVar j) (tCons ta (tCons te tNil)))) L D := fun σ G H N e n1 _ _ _ _ _ => by
  obtain ⟨l, ho, k1, k3, k6⟩ := e.own hj
  obtain ⟨vs, rfl, k6⟩ := k6.lst
  refine ⟨_, k1, .inl ⟨rfl, vs, .inl (.inl k3)⟩, h σ G H e _ fun v a G1 H1 g1 d1 h1 => ?_⟩
  refine h1 σ G1 H1 (e.go g1) _ fun u d G2 H2 g2 d2 ⟨m, hm, hmz, p⟩ => ?_
  subst hm
  cases d1
  have e2 := (e.go g1).go g2
  obtain ⟨ho2, q3, q6⟩ := e2.ownAt hj k1
  obtain ⟨vs2, rfl, q6⟩ := q6.lst
  have hl := dpa_len q6
  obtain ⟨r1, r2⟩ := e2.putOwn nf hj k1 (o' := .lst (ds.take m ++ [d] ++ ds.drop m)) (ho := .lst (vs2.take m ++ [u] ++ vs2.drop m)) (dpa_app (dpa_app (dpa_take m q6) (.cons d2 .nil)) (dpa_drop m q6))
  exact ⟨l, vs2, m, u, rfl, rfl, q3, Nat.lt_of_lt_of_le (by omega) (by decide : 100000 ≤ sizeLine), by omega, by omega, n1 σ G2 _ _ (((e.gx g1).trans ((e.go g1).gx g2)).trans r2) r1 p⟩
theorem c_abs {i : Int} (p : P (.int (if i < 0 then -i else i))) : RCd K pen (fun xs H Q => ∃ i, xs = [.int i] ∧ Q (.int (if i < 0 then -i else i)) H) [.int i] P := fun vs G H v hv Q q => by
  cases hv with
  | cons h1 h2 =>
    cases h2
    cases h1
    exact ⟨i, rfl, q _ _ G H (.refl v) (.int _) p⟩
end Dl
set_option Elab.async false
set_option linter.all false
set_option maxRecDepth 100000
/-! order of pairs, lists turned about, the greatest of a dict's values, sorted sets of pairs -/
namespace Dl
open PySem PySem.Spec PyProof.Rows L2
def rLtD (K : PySem.W.Frag) : R2 := fun x y H Q => ∃ da db, Dp K H x da ∧ Dp K H y db ∧ PySem.W.alike da db = true ∧ da ≠ .none ∧ da.depth ≤ 30 ∧ Q (.bl (PySem.W.dataLt da db)) H
def rGeD (K : PySem.W.Frag) : R2 := fun x y H Q => ∃ da db, Dp K H x da ∧ Dp K H y db ∧ PySem.W.alike da db = true ∧ da ≠ .none ∧ da.depth ≤ 30 ∧ Q (.bl (!PySem.W.dataLt da db)) H
section
variable {X : Cx}
theorem op_ltD (hu : X.A.units + 64 < cLine) : OpR X (compareOp .Lt) (rLtD X.K) := by
  intro pins s σ H x y v u Q I rx ry h
  obtain ⟨da, db, h1, h2, h3, h4, h5, q⟩ := h
  obtain ⟨as, r1⟩ := Dp.reads I da x v h1 rx
  obtain ⟨bs, r2⟩ := Dp.reads I db y u h2 ry
  have := Nat.min_le_left da.depth db.depth
  exact PySem.W.rcLt_alike da db X.A s v u as bs r1 r2 h3 h4 (by omega) X.prog X.w X.xe _ ⟨.bl _, H, I, rfl, q⟩
theorem op_geD (hu : X.A.units + 64 < cLine) : OpR X (compareOp .GtE) (rGeD X.K) := by
  intro pins s σ H x y v u Q I rx ry h
  obtain ⟨da, db, h1, h2, h3, h4, h5, q⟩ := h
  obtain ⟨as, r1⟩ := Dp.reads I da x v h1 rx
  obtain ⟨bs, r2⟩ := Dp.reads I db y u h2 ry
  have := Nat.min_le_left da.depth db.depth
  exact PySem.W.rcGe_alike da db X.A s v u as bs r1 r2 h3 h4 (by omega) X.prog X.w X.xe _ ⟨.bl _, H, I, rfl, q⟩
theorem kx_ltD {K : PySem.W.Frag} (h : X.K = K) (hu : X.A.units + 64 < cLine) : OpR X (compareOp .Lt) (rLtD K) := by subst h; exact op_ltD hu
theorem kx_geD {K : PySem.W.Frag} (h : X.K = K) (hu : X.A.units + 64 < cLine) : OpR X (compareOp .GtE) (rGeD K) := by subst h; exact op_geD hu
theorem kx_revL {K : PySem.W.Frag} {e : Expr} {te : TE} {k : Nat} {p1 p2 p3 pos : Pos} (h : X.K = K) (he : PE X e te) : PE X (.Subscript e (.Slice none none (some (.UnaryOp .USub (.Constant (.int 1) k p1) p2)) p3) pos) (tRevL K te) := by subst h; exact pe_revL he
theorem kx_setOfT {K : PySem.W.Frag} {P : Program} {w : World} (h : X.K = K) (hP : X.prog = P) (hw : X.w = w) (hc : X.calm = true) (hu : X.A.units + 64 < cLine) : CallR X (.type "set") (rSetOfT K P w) := by subst h hP hw; exact cr_setOfT hc hu
theorem kx_sortedT {K : PySem.W.Frag} {P : Program} {w : World} (h : X.K = K) (hP : X.prog = P) (hw : X.w = w) (hc : X.calm = true) : CallR X (.builtin "sorted") (rSortedT K P w) := by subst h hP hw; exact cr_sortedT hc
end
section
variable {K : PySem.W.Frag} {pen : Pc} {H0 : Hp} {L : Lv} {P : PyData → Prop} {te : TE} {Pl : List PyData → Prop}
theorem r_ltP {a b : Int × Int} (p : P (.bool (PySem.W.dataLt (pairD a) (pairD b)))) : R2d K pen (rLtD K) (pairD a) (pairD b) P := fun x y G H v hx hy Q q =>
  ⟨_, _, dp_mono v.vw _ _ hx, dp_mono v.vw _ _ hy, rfl, (fun z => by cases z), (show (1 : Nat) ≤ 30 by decide), q _ _ G H (.refl v) (.bl _) p⟩
theorem r_geP {a b : Int × Int} (p : P (.bool (!PySem.W.dataLt (pairD a) (pairD b)))) : R2d K pen (rGeD K) (pairD a) (pairD b) P := fun x y G H v hx hy Q q =>
  ⟨_, _, dp_mono v.vw _ _ hx, dp_mono v.vw _ _ hy, rfl, (fun z => by cases z), (show (1 : Nat) ≤ 30 by decide), q _ _ G H (.refl v) (.bl _) p⟩
theorem dpa_rev {G : Hp} : ∀ {vs : List V} {ds : List PyData}, DpAll K G vs ds → DpAll K G vs.reverse ds.reverse
  | _, _, .nil => .nil
  | _, _, .cons h t => by rw [List.reverse_cons, List.reverse_cons]; exact dpa_app (dpa_rev t) (.cons h .nil)
theorem el_revL (h : E K pen H0 te L fun d => ∃ ds, d = .list ds ∧ Pl ds.reverse) : EL K pen H0 (tRevL K te) L Pl := fun σ G H e Q q =>
  h σ G H e _ fun v d G1 H1 go hd ⟨ds, hds, p⟩ => by
    subst hds
    cases hd with
    | lst hs ha =>
      rename_i a xs
      refine ⟨a, xs, rfl, sqL_mono go.vw.vw hs, fun r hr => ?_⟩
      have e1 := e.go go
      have g2 := Go.hid e1.vw (o := .lst xs.reverse) hr
      exact q r _ _ G1 _ (go.trans g2) upd_same (e1.gnone hr) (EL.out e go hr) (dpa_rev ha) p
theorem dp_intV {G : Hp} {v : V} {n : Int} (h : Dp K G v (.int n)) : v = .int n := by cases h; rfl
theorem e_maxVals {c : Int} {j : Nat} {m : List (Key × PyData)} {ns : List Int} (hj : RdO L j (.dK m)) (hm : m.map (·.2) = intsL ns) (h0 : ns = [] → P (.int c)) (h1 : ∀ x, x ∈ ns → (∀ y ∈ ns, y ≤ x) → P (.int x)) : E K pen H0 (_root_.Gx.tMaxVals (tVar j) c) L P := fun σ G H e Q q => by
  obtain ⟨l, ho, k1, k3, k6⟩ := e.rd hj
  obtain ⟨kvs, rfl, k6⟩ := k6.dK
  have key : ∀ {kvs : List (Key × V)} {m : List (Key × PyData)} {ns : List Int}, KvOk K G kvs m → m.map (·.2) = intsL ns → kvs.map (·.2) = ns.map V.int := fun {kvs m ns} h => by
    induction h generalizing ns with
    | nil => intro hm; cases ns with
      | nil => rfl
      | cons a b => cases hm
    | cons hd tl ih =>
      intro hm
      cases ns with
      | nil => cases hm
      | cons a b =>
        have e1 := (List.cons.inj hm).1
        have e2 := (List.cons.inj hm).2
        rw [List.map_cons, List.map_cons, ih e2]
        have h3 := hd.2
        have e1 : _ = PyData.int a := e1
        simp only at e1
        rw [e1] at h3
        exact congrArg (· :: b.map V.int) (dp_intV h3)
  exact ⟨_, k1, l, kvs, ns, rfl, k3, key k6 hm, fun hn => q _ _ G H (.refl e.vw) (.int _) (h0 hn), fun x hx hy => q _ _ G H (.refl e.vw) (.int _) (h1 x hx hy)⟩
end
end Dl
set_option Elab.async false
set_option linter.all false
set_option maxRecDepth 100000
namespace Dl
open PySem PySem.Spec PyProof.Rows L2
section
variable {K : PySem.W.Frag} {pen : Pc} {H0 : Hp} {L : Lv} {te : TE} {Pl : List PyData → Prop} {P : Program} {w : World}
theorem dpa_two {G : Hp} {xs : List V} {a b : Int} (h : DpAll K G xs [.int a, .int b]) : xs = [.int a, .int b] := by
  cases h with
  | cons h1 t =>
    cases t with
    | cons h2 t2 =>
      cases t2
      rw [dp_intV h1, dp_intV h2]
theorem dpa_pairs {G : Hp} : ∀ {cs : List (Int × Int)} {vs : List V}, DpAll K G vs (pairsL cs) → ∃ ks : List (Addr × List Int), vs = ks.map (fun p => V.ref p.1) ∧ (∀ p ∈ ks, SqT K G p.1 (p.2.map V.int) ∧ p.2.length = 2) ∧ ks.length = cs.length
  | [], _, h => by cases h; exact ⟨[], rfl, fun p hp => (nomatch hp), rfl⟩
  | c :: cs, vs, h => by
    have h : DpAll K G vs (.tuple [.int c.1, .int c.2] :: pairsL cs) := h
    cases h with
    | cons h1 t =>
      obtain ⟨ks, e1, e2, e3⟩ := dpa_pairs t
      cases h1 with
      | tup hs ha =>
        rename_i a xs
        have := dpa_two ha
        subst this
        subst e1
        refine ⟨(a, [c.1, c.2]) :: ks, rfl, fun p hp => ?_, by rw [List.length_cons, List.length_cons, e3]⟩
        rcases List.mem_cons.mp hp with rfl | hp
        · exact ⟨hs, rfl⟩
        · exact e2 p hp
theorem dpa_back {G : Hp} : ∀ {ks : List (Addr × List Int)}, (∀ p ∈ ks, SqT K G p.1 (p.2.map V.int) ∧ p.2.length = 2) → ∃ cs : List (Int × Int), DpAll K G (ks.map fun p => V.ref p.1) (pairsL cs) ∧ cs.length = ks.length
  | [], _ => ⟨[], .nil, rfl⟩
  | k :: ks, h => by
    obtain ⟨cs, e1, e2⟩ := dpa_back fun p hp => h p (List.mem_cons_of_mem _ hp)
    obtain ⟨h1, h2⟩ := h k (List.mem_cons_self ..)
    obtain ⟨a, l⟩ := k
    dsimp only at h1 h2
    match l, h2, h1 with
    | [x, y], _, h1 => exact ⟨(x, y) :: cs, .cons (.tup h1 (.cons (.int _) (.cons (.int _) .nil))) e1, by rw [List.length_cons, List.length_cons, e2]⟩
end
def rSortSetP (K : PySem.W.Frag) (P : Program) (w : World) : List V → Hp → VK → Prop := fun us H Q => ∃ (b : Addr) (M : List (Addr × List Int)), us = [V.ref b] ∧ H b = some (SetTO P w b M) ∧ (∀ p ∈ M, SqT K H p.1 (p.2.map V.int) ∧ p.2.length = 2) ∧
  ∀ (N : List (Addr × List Int)) (r : Addr), (∀ p ∈ N, p ∈ M) → N.length < 64 → H r = none → Q (.ref r) (upd H r (.lst (N.map fun p => V.ref p.1)))
theorem refs_in {M : List (Addr × List Int)} : ∀ (us : List Value), (∀ u ∈ us, ∃ p ∈ M, u = Value.ref p.1) → ∃ N : List (Addr × List Int), us = N.map (fun p => Value.ref p.1) ∧ ∀ p ∈ N, p ∈ M
  | [], _ => ⟨[], rfl, fun _ z => nomatch z⟩
  | u :: us, h => by
    obtain ⟨p, hp, e⟩ := h u (List.mem_cons_self ..)
    obtain ⟨N, e1, e2⟩ := refs_in us fun v hv => h v (List.mem_cons_of_mem _ hv)
    exact ⟨p :: N, by rw [e, e1]; rfl, fun r hr => (List.mem_cons.mp hr).elim (fun z => z ▸ hp) (e2 r)⟩
section
variable {X : Cx}
theorem cr_sortSetP (calm : X.calm = true) : CallR X (.builtin "sorted") (rSortSetP X.K X.prog X.w) := by
  intro pins s σ H us cs Q I rr h
  obtain ⟨b, M, rfl, hb, hM, q⟩ := h
  have zero : SetT0 X.prog X.w s.heap b M := (I.hok b _ hb).1
  obtain ⟨es, ep, t, S⟩ := zero.full fun p hp => I.isT (hM p hp).1
  rw [Vals.ref1 rr]
  obtain ⟨ob, gob, exo, dob⟩ := S.ob
  have size64 := S.size
  have few64 := S.few
  refine Calls.call_function_entry kind_sorted plain_sorted entry_sorted (args_sorted1 _) ?_
  unfold Builtin.«sorted»
  refine wpAny_bind (m := checkCount "sorted" 1 1 _) (wpAny_pure ?_)
  refine wpAny_bind (collect_set (A := X.A.in1) (I.ok.hd calm) ⟨ob, gob, exo.1, dob⟩ S.fits (by unfold scanBound; omega) S.tab.ris S.led fun s1 vs keep1 grown gens1 os1 perm1 => ?_)
  have esM : es.toList.map (·.2) = M.map fun p => Value.ref p.1 := by
    rw [S.rows]
    unfold rowsOf
    rw [List.map_map] <;> rfl
  rw [esM] at perm1
  have short : vs.length < 64 := by rw [perm1.length_eq, List.length_map]; exact few64
  have vline : vs.length ≤ sizeLine := by rw [sizeLine_eq]; omega
  refine wpAny_bind (wpAny_newList ?_ vline)
  have laid : (s1.heap.push (seqObj "list" vs.toArray 0)).get? s1.heap.objs.size = some (seqObj "list" vs.toArray 0) := Heap.get?_push_size _ rfl
  have pairs : ∀ v ∈ vs, ∃ x y, Srt.IsPair (s1.heap.push (seqObj "list" vs.toArray 0)) v x y := fun v hv => by
    obtain ⟨p, hp, rfl⟩ := List.mem_map.mp (perm1.mem_iff.mp hv)
    obtain ⟨a, l⟩ := p
    obtain ⟨k1, k2⟩ := hM _ hp
    dsimp only at k1 k2
    match l, k2, k1 with
    | [x, y], _, k1 =>
      obtain ⟨two, r2, ⟨o2, h1, h2, n2, h3⟩, _⟩ := I.tuple k1
      obtain ⟨c1, c2, rfl, ⟨j1, rfl⟩, ⟨j2, rfl⟩⟩ := vals2 r2
      exact ⟨x, y, a, o2, j1, j2, n2, rfl, Heap.get?_push_of_some _ (keep1 _ _ h1), h2, h3⟩
  have noTup : ∀ o, (s1.heap.push (seqObj "list" vs.toArray 0)).get? s1.heap.objs.size = some o → o.cls ≠ .type "tuple" := fun o e c => by
    have e2 := e.symm.trans laid
    cases e2
    exact absurd (Value.type.inj c) (by decide)
  refine wpAny_bind (wpAny_holding (wpAny_call_entry slot_list_sort ⟨_, laid, rfl⟩ entry_list_sort (Srt.list_sort_any (s := { s1 with heap := s1.heap.push (seqObj "list" vs.toArray 0) }) laid vline (fun h2 => Srt.pairs_sortable (by omega) pairs noTup) fun out perm2 => ⟨_, rfl, ?_⟩) (args_list_sort _)))
  obtain ⟨c, gc⟩ := sortedHeap_at (vs := vs) (out := out.toArray) laid
  obtain ⟨N, eN, inN⟩ := refs_in (M := M) out fun u hu => by
    obtain ⟨p, hp, e⟩ := List.mem_map.mp (perm1.mem_iff.mp (perm2.mem_iff.mp hu))
    exact ⟨p, hp, e.symm⟩
  have lenN : N.length < 64 := by
    have z := perm2.length_eq
    rw [eN, List.length_map] at z
    omega
  have fresh : H s1.heap.objs.size = none := I.hok.fresh grown
  have whole : ∀ a o, s.heap.get? a = some o → (sortedHeap (s1.heap.push (seqObj "list" vs.toArray 0)) s1.heap.objs.size vs out.toArray).get? a = some o := fun a o e => by
    have e1 := keep1 a o e
    have lt1 := Heap.lt_size e1
    rw [sortedHeap_old (Nat.ne_of_lt lt1) (by rw [size_push']; exact Nat.lt_succ_of_lt lt1)]
    exact Heap.get?_push_of_some _ e1
  refine wpAny_pure ⟨_, rfl, ?_⟩
  have J : Inv X pins σ (upd H s1.heap.objs.size (.lst (N.map fun p => V.ref p.1))) { s with heap := sortedHeap (s1.heap.push (seqObj "list" vs.toArray 0)) s1.heap.objs.size vs out.toArray, gens := s1.gens, drawn := s1.drawn, toks := s1.toks } :=
    I.call (ch := []) (Un.laid whole grown fresh) (I.hok.laid whole grown ⟨by rw [List.length_map, sizeLine_eq]; omega, out, c, by rw [eN]; exact vals_of_refs N, gc⟩) (by rw [gens1]; exact I.bare) (fun _ z => nomatch z)
  refine ⟨.ref s1.heap.objs.size, _, ?_, rfl, q N _ inN lenN fresh⟩
  cases s1
  cases s
  cases os1
  exact J
theorem kx_sortSetP {K : PySem.W.Frag} {P : Program} {w : World} (h : X.K = K) (hP : X.prog = P) (hw : X.w = w) (hc : X.calm = true) : CallR X (.builtin "sorted") (rSortSetP K P w) := by subst h hP hw; exact cr_sortSetP hc
end
section
variable {K : PySem.W.Frag} {pen : Pc} {H0 : Hp} {L : Lv} {te : TE} {Pl : List PyData → Prop} {P : Program} {w : World}
theorem el_sortSetP (h : E K pen H0 te L fun d => ∃ cs : List (Int × Int), d = .list (pairsL cs) ∧ cs.length < 64 ∧ ∀ cs' : List (Int × Int), cs'.length < 64 → Pl (pairsL cs')) :
    EL K pen H0 (tCB (rSortSetP K P w) (tCons (tCB (rSetOfT K P w) (tCons te tNil)) tNil)) L Pl := fun σ G H e Q q =>
  h σ G H e _ fun v d G1 H1 go hd ⟨cs, hcs, hl, p⟩ => by
    subst hcs
    cases hd with
    | lst hs ha =>
      rename_i a vs
      obtain ⟨ks, rfl, k2, k3⟩ := dpa_pairs ha
      have e1 := e.go go
      refine ⟨a, ks, rfl, sqL_mono go.vw.vw hs, fun p hp => sqT_mono go.vw.vw (k2 p hp).1, by omega, fun b M hb m1 m2 => ?_⟩
      have g2 := Go.hid e1.vw (o := SetTO P w b M) hb
      have e2 := e1.go g2
      refine ⟨b, M, rfl, upd_same, fun p hp => ⟨sqT_mono g2.vw.vw (k2 p (m1 p hp)).1, (k2 p (m1 p hp)).2⟩, fun N r inN lenN hr => ?_⟩
      have g3 := Go.hid e2.vw (o := .lst (N.map fun q => V.ref q.1)) hr
      obtain ⟨cs', c1, c2⟩ := dpa_back (K := K) (G := G1) (ks := N) fun p hp => k2 p (m1 p (inN p hp))
      exact q r _ _ G1 _ ((go.trans g2).trans g3) upd_same (e2.gnone hr) (EL.out e (go.trans g2) hr) c1 (p cs' (by omega))
end
section
variable {K : PySem.W.Frag} {pen : Pc} {P : PyData → Prop}
theorem r_isBl {i j : Bool} (p : P (.bool (decide (i = j)))) : R2d K pen rIsB (.bool i) (.bool j) P := fun x y G H v hx hy Q q => by
  cases hx
  cases hy
  exact ⟨i, j, rfl, rfl, q _ _ G H (.refl v) (.bl _) p⟩
end
end Dl
set_option Elab.async false
set_option linter.all false
set_option maxRecDepth 100000
/-! sorted pairs in their order, extend, any of a list of truths -/
namespace Dl
open PySem PySem.Spec PyProof.Rows L2
abbrev LexLe (a b : Int × Int) : Prop := SrtO.lexB b a = false
def rSortPO (K : PySem.W.Frag) : List V → Hp → VK → Prop := fun us H Q => ∃ (b : Addr) (zs : List V) (ps : List (Int × Int)), us = [V.ref b] ∧ SqL K H b zs ∧ ps.length = zs.length ∧
  (∀ (i : Nat) z c, zs[i]? = some z → ps[i]? = some c → ∃ t, z = V.ref t ∧ SqT K H t [.int c.1, .int c.2]) ∧
  ∀ (ws : List V) (qs : List (Int × Int)) r, ws.length = qs.length → (ws.zip qs).Perm (zs.zip ps) → qs.Pairwise LexLe → H r = none → Q (.ref r) (upd H r (.lst ws))
theorem zip_maps {α β γ : Type} (f : α → β) (g : α → γ) : ∀ l : List α, (l.map f).zip (l.map g) = l.map fun x => (f x, g x)
  | [] => rfl
  | x :: l => congrArg (List.cons (f x, g x)) (zip_maps f g l)
theorem map_of_at {α β : Type} {l : List α} {m : List β} {f : α → β} (hl : m.length = l.length) (h : ∀ (i : Nat) x y, l[i]? = some x → m[i]? = some y → f x = y) : l.map f = m := by
  apply List.ext_getElem?
  intro i
  rw [List.getElem?_map]
  by_cases hi : i < l.length
  · rw [List.getElem?_eq_getElem hi, List.getElem?_eq_getElem (show i < m.length by omega)]
    exact congrArg some (h i _ _ (List.getElem?_eq_getElem hi) (List.getElem?_eq_getElem (by omega)))
  · rw [List.getElem?_eq_none (by omega), List.getElem?_eq_none (by omega)]
    rfl
section
variable {X : Cx}
open Classical in
noncomputable def pairAt (h : Heap) (v : Value) : Int × Int := if q : ∃ c : Int × Int, Srt.IsPair h v c.1 c.2 then q.choose else (0, 0)
theorem pairAt_eq {h : Heap} {v : Value} {c : Int × Int} (p : Srt.IsPair h v c.1 c.2) : pairAt h v = c := by
  unfold pairAt
  have q : ∃ c : Int × Int, Srt.IsPair h v c.1 c.2 := ⟨c, p⟩
  rw [dif_pos q]
  obtain ⟨a, o, t, u, n, e1, e2, e3, e4⟩ := p
  obtain ⟨a', o', t', u', n', f1, f2, f3, f4⟩ := q.choose_spec
  rw [e1] at f1
  cases f1
  rw [e2] at f2
  cases f2
  rw [e4] at f4
  have f5 := (Data.seq.inj f4).1
  have f6 := congrArg Array.toList f5
  have f7 := (List.cons.inj f6).1
  have f8 := (List.cons.inj (List.cons.inj f6).2).1
  have g1 := (Value.int.inj f7).1
  have g2 := (Value.int.inj f8).1
  exact Prod.ext g1.symm g2.symm
theorem cr_sortPO : CallR X (.builtin "sorted") (rSortPO X.K) := by
  intro pins s σ H us cs Q I r h
  obtain ⟨b, zs, ps, rfl, hb, hlen, hz, q⟩ := h
  obtain ⟨items, rv, hl, hsz⟩ := I.list hb
  rw [Vals.ref1 r]
  have hil : items.length = zs.length := rv.length.symm
  have refs : ∀ z ∈ zs, ∃ t, z = V.ref t := fun z hm => by
    obtain ⟨i, hi⟩ := List.mem_iff_getElem?.mp hm
    have hlt := (List.getElem?_eq_some_iff.mp hi).1
    obtain ⟨t, e, _⟩ := hz i z _ hi (List.getElem?_eq_getElem (show i < ps.length by omega))
    exact ⟨t, e⟩
  obtain ⟨m1, m2⟩ := refs_back rv refs
  have pairI : ∀ (i : Nat) v c, items[i]? = some v → ps[i]? = some c → Srt.IsPair s.heap v c.1 c.2 := fun i v c hv hc => by
    obtain ⟨t, rfl⟩ := m2 v (List.mem_of_getElem? hv)
    have hzv : zs[i]? = some (V.ref t) := by rw [m1, List.getElem?_map, hv]; rfl
    obtain ⟨t2, e, ht⟩ := hz i _ c hzv hc
    cases e
    obtain ⟨two, r2, ⟨ob, hob, hcl, n, hdat⟩, _⟩ := I.tuple ht
    obtain ⟨c1, c2, rfl, ⟨k1, rfl⟩, ⟨k2, rfl⟩⟩ := vals2 r2
    exact ⟨t, ob, k1, k2, n, rfl, hob, hcl, hdat⟩
  have keyI : items.map (pairAt s.heap) = ps := map_of_at (by omega) fun i v c hv hc => pairAt_eq (pairI i v c hv hc)
  refine SrtO.sorted_pairsO (k := pairAt s.heap) hl.isList (rv.length ▸ hsz) (fun v hv => ?_) fun h2 p out srt stb kept hp new => ?_
  · obtain ⟨i, hi⟩ := List.mem_iff_getElem?.mp hv
    have hlt := (List.getElem?_eq_some_iff.mp hi).1
    have hc : ps[i]? = some ps[i] := List.getElem?_eq_getElem (show i < ps.length by omega)
    have := pairI i v _ hi hc
    rw [pairAt_eq this]
    exact this
  · have perm := stb.perm
    have all : ∀ c ∈ out, ∃ a, c = Value.ref a := fun c hc => m2 c (perm.mem_iff.mp hc)
    obtain ⟨n, hn⟩ := new
    have hlen2 : (out.map backV).length ≤ sizeLine := by
      rw [List.length_map, perm.length_eq, ← rv.length]
      exact hsz
    refine ⟨.ref p, upd H p (.lst (out.map backV)), I.laid (t' := s.toks) kept hp ⟨hlen2, out, n, vals_back all, hn⟩, rfl, q _ (out.map (pairAt s.heap)) p (by rw [List.length_map, List.length_map]) ?_ ?_ (I.hok.fresh hp)⟩
    · rw [zip_maps, m1, ← keyI, zip_maps]
      exact perm.map _
    · rw [List.pairwise_map]
      exact srt
theorem kx_sortPO {K : PySem.W.Frag} (h : X.K = K) : CallR X (.builtin "sorted") (rSortPO K) := by subst h; exact cr_sortPO
theorem kx_any {K : PySem.W.Frag} (h : X.K = K) (hc : X.calm = true) : CallR X (.builtin "any") (rAny K) := by subst h; exact cr_any hc
end
section
variable {K : PySem.W.Frag} {pen : Pc} {H0 : Hp} {L : Lv} {P : PyData → Prop} {te : TE} {D : Dn} {Pl : List PyData → Prop}
theorem dpa_at {G : Hp} : ∀ {vs : List V} {ds : List PyData}, vs.length = ds.length → (∀ p ∈ vs.zip ds, Dp K G p.1 p.2) → DpAll K G vs ds
  | [], [], _, _ => .nil
  | v :: vs, d :: ds, hl, h => .cons (h (v, d) (List.mem_cons_self ..)) (dpa_at (by simpa using hl) fun p hp => h p (List.mem_cons_of_mem _ hp))
  | [], _ :: _, hl, _ => (by cases hl)
  | _ :: _, [], hl, _ => (by cases hl)
theorem dpa_zip {G : Hp} : ∀ {vs : List V} {ds : List PyData}, DpAll K G vs ds → ∀ p ∈ vs.zip ds, Dp K G p.1 p.2
  | _, _, .nil, p, hp => (nomatch hp)
  | _, _, .cons h t, p, hp => by
    rcases List.mem_cons.mp hp with rfl | hp
    · exact h
    · exact dpa_zip t p hp
theorem zip_mapR {α β γ : Type} (f : β → γ) : ∀ (l : List α) (m : List β), l.zip (m.map f) = (l.zip m).map fun p => (p.1, f p.2)
  | [], _ => rfl
  | _ :: _, [] => rfl
  | x :: l, y :: m => congrArg (List.cons (x, f y)) (zip_mapR f l m)
theorem zip_snd {α β : Type} : ∀ {l : List α} {m : List β}, l.length = m.length → (l.zip m).map (·.2) = m
  | [], [], _ => rfl
  | x :: l, y :: m, h => congrArg (List.cons y) (zip_snd (by simpa using h))
  | [], _ :: _, h => (by cases h)
  | _ :: _, [], h => (by cases h)
theorem el_sortPO (h : E K pen H0 te L fun d => ∃ ps : List (Int × Int), d = .list (pairsL ps) ∧ ∀ qs : List (Int × Int), qs.Perm ps → qs.Pairwise LexLe → Pl (pairsL qs)) : EL K pen H0 (tCB (rSortPO K) (tCons te tNil)) L Pl := fun σ G H e Q q => h σ G H e _ fun v d G1 H1 go hd ⟨ps, hds, p⟩ => by
  subst hds
  cases hd with
  | lst hs ha =>
    rename_i a xs
    have hlen : ps.length = xs.length := by
      have := dpa_len ha
      unfold pairsL at this
      rw [List.length_map] at this
      exact this.symm
    refine ⟨a, xs, ps, rfl, sqL_mono go.vw.vw hs, hlen, fun i z c hz hc => ?_, fun ws qs r hl hp ho hr => ?_⟩
    · obtain ⟨d, hd, dd⟩ := dpa_getV ha hz
      unfold pairsL at hd
      rw [List.getElem?_map, hc] at hd
      cases hd
      cases dd with
      | tup k1 k2 =>
        have := dpa_two k2
        subst this
        exact ⟨_, rfl, sqT_mono go.vw.vw k1⟩
    · have hq : qs.Perm ps := by
        have := hp.map (·.2)
        rw [zip_snd hl, zip_snd hlen.symm] at this
        exact this
      have h2 : DpAll K G1 ws (pairsL qs) := by
        refine dpa_at (by unfold pairsL; rw [List.length_map]; exact hl) fun x hx => ?_
        unfold pairsL at hx
        rw [zip_mapR] at hx
        obtain ⟨y, hy, rfl⟩ := List.mem_map.mp hx
        have hm : y ∈ xs.zip ps := hp.mem_iff.mp hy
        have := dpa_zip ha (y.1, pairD y.2) (by unfold pairsL; rw [zip_mapR]; exact List.mem_map.mpr ⟨y, hm, rfl⟩)
        exact this
      have e1 := e.go go
      have g2 := Go.hid e1.vw (o := .lst ws) hr
      exact q r ws _ G1 _ (go.trans g2) upd_same (e1.gnone hr) (EL.out e go hr) h2 (p qs hq ho)
theorem s_extOwn {j : Nat} {ds : List PyData} (hj : L[j]? = some (some (.own (.lst ds)))) (h : EL K pen H0 te L fun es => ds.length + es.length ≤ 100000 ∧ D.nx (L.set j (some (.own (.lst (ds ++ es)))))) (nf : noFr L = true := by rfl) :
    S K pen H0 (tDrop (tBM K "list" rExtend (tVar j) (tCons te tNil))) L D := fun σ G H N e n1 _ _ _ _ _ => by
  obtain ⟨l, ho, k1, k3, k6⟩ := e.own hj
  obtain ⟨vs, rfl, k6⟩ := k6.lst
  refine ⟨_, k1, .inl ⟨rfl, vs, .inl (.inl k3)⟩, h σ G H e _ fun b zs es G1 H1 g1 b1 b2 b3 b4 ⟨hz, p⟩ => ?_⟩
  have e1 := e.go g1
  obtain ⟨ho2, q3, q6⟩ := e1.ownAt hj k1
  obtain ⟨vs2, rfl, q6⟩ := q6.lst
  obtain ⟨r1, r2⟩ := e1.putOwn nf hj k1 (o' := .lst (ds ++ es)) (ho := .lst (vs2 ++ zs)) (dpa_app q6 b4)
  exact ⟨l, b, vs2, zs, rfl, rfl, q3, b1, Nat.le_trans (by rw [dpa_len q6, dpa_len b4]; exact hz) (by decide : 100000 ≤ sizeLine), n1 σ G1 _ _ ((e.gx g1).trans r2) r1 p⟩
theorem c_anyL {bs : List Bool} (p : P (.bool (bs.any id))) : RCd K pen (rAny K) [.list (bs.map PyData.bool)] P := fun vs G H v hv Q q => by
  cases hv with
  | cons h1 h2 =>
    cases h2
    cases h1 with
    | lst hs ha =>
      have ex := dpa_bls ha
      subst ex
      exact ⟨_, bs, rfl, sqL_mono v.vw hs, q _ _ G H (.refl v) (.bl _) p⟩
end
end Dl
set_option Elab.async false
set_option linter.all false
set_option maxRecDepth 100000
set_option maxHeartbeats 4000000
/-! ### enumerate(zip(list, list)): the pair that zip gave out last may still be there, or not -/
namespace Dl
open PySem PySem.Spec PyProof.Rows L2
abbrev zoO (v : Value) (f : Bool) (TI TO : Addr) : Obj := { cls := .type "zip", data := .fields #[v, .bool f, .bool false, .ref TI, .ref TO] }
/-- a zip: nothing given out, or some pair -/
def ZSt (h : Heap) (z TI TO : Addr) : Prop := h.get? z = some (zoO .none false TI TO) ∨ ∃ (T : Addr) (f : Bool), h.get? z = some (zoO (rawInt T) f TI TO)
section
variable {prog : Program} {w : World} {A : Around} {E : Value → Shared → Prop} {s : Shared} {z TI TO i1 i2 l1 l2 : Addr} {k1 k2 : Nat} {xs ys : Array Value} {x y : Value}
theorem zAlive {a : Addr} {Q : Option Obj → Shared → Prop} (h : Q (s.heap.get? a) s) : wpAny (model prog w) A (loadIfAlive a) Q E s := fun _ _ _ => h
theorem zFreed {T : Addr} {f : Bool} {Q : Bool → Shared → Prop} (hz : s.heap.get? z = some (zoO (rawInt T) f TI TO)) (hT : s.heap.get? T = none) (q : Q true s) : wpAny (model prog w) A (Builtin.SmallTypes.ownedTupleIsFree (.ref z)) Q E s := by
  unfold Builtin.SmallTypes.ownedTupleIsFree
  refine wpAny_bind (wpAny_field hz rfl (x := rawInt T) rfl ?_)
  show wpAny _ _ (loadIfAlive (Int.toNat (T : Int)) >>= _) _ _ _
  rw [Int.toNat_natCast]
  refine wpAny_bind (zAlive ?_)
  rw [hT]
  exact wpAny_pure q
theorem zGo {T : Addr} {f : Bool} {a b : Value} {Q : Value → Shared → Prop} (D : ZipApart z TI TO i1 i2 l1 l2) (hz : s.heap.get? z = some (zoO (rawInt T) f TI TO)) (hT : s.heap.get? T = none)
    (tI : IsPair s.heap TI (.ref i1) (.ref i2)) (tO : IsPair s.heap TO a b) (j1 : s.heap.IsListIter i1 l1 k1) (j2 : s.heap.IsListIter i2 l2 k2) (m1 : s.heap.IsList l1 xs) (m2 : s.heap.IsList l2 ys) (hx : xs[k1]? = some x) (hy : ys[k2]? = some y)
    (hQ : ∀ h', ZSt h' z TI TO → IsPair h' TO x y → h'.IsListIter i1 l1 (k1 + 1) → h'.IsListIter i2 l2 (k2 + 1) → IsPair h' s.heap.objs.size x y → h'.objs.size = s.heap.objs.size + 1 →
      (∀ c o, c ≠ z → c ≠ TO → c ≠ i1 → c ≠ i2 → s.heap.get? c = some o → h'.get? c = some o) → Q (.ref s.heap.objs.size) { s with heap := h' }) :
    wpAny (model prog w) A (Builtin.«zip.__next__» ⟨[.ref z], []⟩) (fun r s' => ∃ v, r = .done (.ret v) ∧ Q v s') E s := by
  refine (show wpAny _ _ (field (.ref z) 2 >>= _) _ _ _ from wpAny_bind (wpAny_field hz rfl (x := .bool false) rfl ?_))
  refine (show wpAny _ _ (field (.ref z) 3 >>= _) _ _ _ from wpAny_bind (wpAny_field hz rfl (x := .ref TI) rfl (wpAny_bind (wpAny_seqItems tI rfl ?_))))
  refine (show wpAny _ _ (Builtin.SmallTypes.ownedTupleIsFree (.ref z) >>= _) _ _ _ from wpAny_bind (zFreed hz hT ?_))
  simp only [if_true]
  refine wpAny_bind (wpAny_rule (wpAny_bind (wpAny_field hz rfl (x := .ref TO) rfl (wpAny_bind (wpAny_setField_rec hz (by simp) fun g1 z1 e1 => ?_)))))
  replace z1 : g1.get? z = some (zoO .ellipsis f TI TO) := z1
  refine wpAny_bind ?_
  simp only [List.zipIdx_cons, List.zipIdx_nil, List.forIn_cons, List.forIn_nil]
  refine wpAny_bind (wpAny_bind (wpAny_onRaise (show wpAny _ _ (Builtin.SmallTypes.nextOf (.ref i1) >>= _) _ _ _ from wpAny_bind (wpAny_nextOf_list_item (j1.extBut e1.extBut D.i1z) (m1.extBut e1.extBut D.l1z) hx fun g2 n2 e2 => wpAny_pure ?_))))
  have o2 : IsPair g2 TO a b := e2.extBut _ _ D.TOi1 (e1.extBut _ _ D.TOz tO)
  refine wpAny_bind (wpAny_seqItems o2 rfl (wpAny_bind (wpAny_updateSeq_pair o2 fun g3 o3 e3 => ?_)))
  replace o3 : IsPair g3 TO x b := o3
  refine wpAny_bind (wpAny_letGo (wpAny_pure ?_))
  refine wpAny_bind (wpAny_bind (wpAny_onRaise (show wpAny _ _ (Builtin.SmallTypes.nextOf (.ref i2) >>= _) _ _ _ from wpAny_bind (wpAny_nextOf_list_item (((j2.extBut e1.extBut D.i2z).extBut e2.extBut D.i12.symm).extBut e3.extBut D.TOi2.symm) (((m2.extBut e1.extBut D.l2z).extBut e2.extBut D.l2i1).extBut e3.extBut D.l2TO) hy fun g4 n4 e4 => wpAny_pure ?_))))
  have o4 : IsPair g4 TO x b := e4.extBut _ _ D.TOi2 o3
  refine wpAny_bind (wpAny_seqItems o4 rfl (wpAny_bind (wpAny_updateSeq_pair o4 fun g5 o5 e5 => ?_)))
  replace o5 : IsPair g5 TO x y := o5
  refine wpAny_bind (wpAny_letGo (wpAny_pure (wpAny_pure ?_)))
  refine wpAny_bind (wpAny_seqItems o5 rfl (wpAny_bind (wpAny_newTuple ?_)))
  have sz : g5.objs.size = s.heap.objs.size := by rw [e5.1, e4.1, e3.1, e2.1, e1.1]
  have z5 : g5.get? z = some (zoO .ellipsis f TI TO) := e5.extBut _ _ D.TOz.symm (e4.extBut _ _ D.i2z.symm (e3.extBut _ _ D.TOz.symm (e2.extBut _ _ D.i1z.symm z1)))
  have kp : ∀ c o, c ≠ z → c ≠ TO → c ≠ i1 → c ≠ i2 → s.heap.get? c = some o → g5.get? c = some o := fun c o c1 c2 c3 c4 q => e5.extBut _ _ c2 (e4.extBut _ _ c4 (e3.extBut _ _ c2 (e2.extBut _ _ c3 (e1.extBut _ _ c1 q))))
  have n15 : g5.IsListIter i1 l1 (k1 + 1) := ((n2.extBut e3.extBut D.TOi1.symm).extBut e4.extBut D.i12).extBut e5.extBut D.TOi1.symm
  have n25 : g5.IsListIter i2 l2 (k2 + 1) := n4.extBut e5.extBut D.TOi2.symm
  have lz : z < g5.objs.size := Heap.lt_size z5
  refine (show wpAny _ _ (Builtin.SmallTypes.ownedTupleHandOut (.ref z) (.ref g5.objs.size) >>= _) _ _ _ from wpAny_bind ?_)
  unfold Builtin.SmallTypes.ownedTupleHandOut
  have z6 : (g5.push { cls := .type "tuple", data := .seq #[x, y] }).get? z = some (zoO .ellipsis f TI TO) := Heap.get?_push_of_some _ z5
  refine wpAny_bind (wpAny_setField_rec z6 (by simp) fun g7 z7 e7 => ?_)
  replace z7 : g7.get? z = some (zoO (rawInt g5.objs.size) f TI TO) := z7
  refine wpAny_setField_rec z7 (by simp) fun g8 z8 e8 => ?_
  replace z8 : g8.get? z = some (zoO (rawInt g5.objs.size) false TI TO) := z8
  have up : ∀ c o, c ≠ z → g5.get? c = some o → g8.get? c = some o := fun c o c1 q => e8.extBut _ _ c1 (e7.extBut _ _ c1 (Heap.get?_push_of_some _ q))
  have t8 : IsPair g8 g5.objs.size x y := e8.extBut _ _ (Nat.ne_of_gt lz) (e7.extBut _ _ (Nat.ne_of_gt lz) (Heap.get?_push_size _ rfl))
  have s8 : g8.objs.size = g5.objs.size + 1 := by rw [e8.1, e7.1, Heap.size_push]
  rw [sz] at t8 s8
  refine wpAny_pure ⟨_, rfl, ?_⟩
  show Q (.ref g5.objs.size) _
  rw [sz]
  exact hQ g8 (.inr ⟨_, _, z8⟩) (up _ _ D.TOz o5) (n15.at fun o q => up _ o D.i1z q) (n25.at fun o q => up _ o D.i2z q) t8 s8 fun c o c1 c2 c3 c4 q => up c o c1 (kp c o c1 c2 c3 c4 q)
theorem zEnd {T : Addr} {f : Bool} {a b : Value} {Q : Fin → Shared → Prop} (hh : A.handled = none) (D : ZipApart z TI TO i1 i2 l1 l2) (hz : s.heap.get? z = some (zoO (rawInt T) f TI TO)) (hT : s.heap.get? T = none)
    (tI : IsPair s.heap TI (.ref i1) (.ref i2)) (tO : IsPair s.heap TO a b) (j1 : s.heap.IsListIter i1 l1 k1) (j2 : s.heap.IsListIter i2 l2 k2) (m1 : s.heap.IsList l1 xs) (m2 : s.heap.IsList l2 ys) (hend : xs[k1]? = none ∨ ys[k2]? = none)
    (hE : ∀ h' e, (∀ c o, c ≠ z → c ≠ TO → c ≠ i1 → c ≠ i2 → s.heap.get? c = some o → h'.get? c = some o) → (∃ o, h'.get? e = some o ∧ o.cls = .type "StopIteration") → E (.ref e) { s with heap := h' }) :
    wpAny (model prog w) A (Builtin.«zip.__next__» ⟨[.ref z], []⟩) Q E s := by
  refine (show wpAny _ _ (field (.ref z) 2 >>= _) _ _ _ from wpAny_bind (wpAny_field hz rfl (x := .bool false) rfl ?_))
  refine (show wpAny _ _ (field (.ref z) 3 >>= _) _ _ _ from wpAny_bind (wpAny_field hz rfl (x := .ref TI) rfl (wpAny_bind (wpAny_seqItems tI rfl ?_))))
  refine (show wpAny _ _ (Builtin.SmallTypes.ownedTupleIsFree (.ref z) >>= _) _ _ _ from wpAny_bind (zFreed hz hT ?_))
  simp only [if_true]
  refine wpAny_bind (wpAny_rule (wpAny_bind (wpAny_field hz rfl (x := .ref TO) rfl (wpAny_bind (wpAny_setField_rec hz (by simp) fun g1 z1 e1 => ?_)))))
  replace z1 : g1.get? z = some (zoO .ellipsis f TI TO) := z1
  refine wpAny_bind ?_
  simp only [List.zipIdx_cons, List.zipIdx_nil, List.forIn_cons, List.forIn_nil]
  have out : ∀ {g : Heap} {e : Addr} {P : Prop}, g.get? z = some (zoO .ellipsis f TI TO) → (∃ o, g.get? e = some o ∧ o.cls = .type "StopIteration") → e ≠ z := fun {g e P} q1 ⟨oe, h1, h2⟩ q => by
    subst q; rw [q1] at h1; cases h1; simp at h2
  refine wpAny_bind (wpAny_bind (wpAny_onRaise ?_))
  refine (show wpAny _ _ (Builtin.SmallTypes.nextOf (.ref i1) >>= _) _ _ _ from ?_)
  cases hx : xs[k1]? with
  | none =>
    refine wpAny_bind (wpAny_nextOf_list_end hh (j1.extBut e1.extBut D.i1z) (m1.extBut e1.extBut D.l1z) hx fun g2 e q2 he => ?_)
    have z2 : g2.get? z = some (zoO .ellipsis f TI TO) := q2 _ _ D.i1z.symm z1
    have ne := out (P := True) z2 he
    obtain ⟨oe, h1, h2⟩ := he
    refine wpAny_setField_rec z2 (by simp) fun g3 _ q3 => hE g3 e (fun c o c1 _ c3 _ q => q3.extBut _ _ c1 (q2 _ _ c3 (e1.extBut _ _ c1 q))) ⟨oe, q3.extBut _ _ ne h1, h2⟩
  | some u =>
    have hy : ys[k2]? = none := hend.resolve_left (by rw [hx]; exact fun q => by cases q)
    refine wpAny_bind (wpAny_nextOf_list_item (j1.extBut e1.extBut D.i1z) (m1.extBut e1.extBut D.l1z) hx fun g2 n2 e2 => wpAny_pure ?_)
    have o2 : IsPair g2 TO a b := e2.extBut _ _ D.TOi1 (e1.extBut _ _ D.TOz tO)
    refine wpAny_bind (wpAny_seqItems o2 rfl (wpAny_bind (wpAny_updateSeq_pair o2 fun g3 o3 e3 => ?_)))
    refine wpAny_bind (wpAny_letGo (wpAny_pure (wpAny_bind (wpAny_bind (wpAny_onRaise ?_)))))
    refine (show wpAny _ _ (Builtin.SmallTypes.nextOf (.ref i2) >>= _) _ _ _ from ?_)
    refine wpAny_bind (wpAny_nextOf_list_end hh (((j2.extBut e1.extBut D.i2z).extBut e2.extBut D.i12.symm).extBut e3.extBut D.TOi2.symm) (((m2.extBut e1.extBut D.l2z).extBut e2.extBut D.l2i1).extBut e3.extBut D.l2TO) hy fun g4 e e4 he => ?_)
    have z4 : g4.get? z = some (zoO .ellipsis f TI TO) := e4 _ _ D.i2z.symm (e3.extBut _ _ D.TOz.symm (e2.extBut _ _ D.i1z.symm z1))
    have ne := out (P := True) z4 he
    obtain ⟨oe, h1, h2⟩ := he
    refine wpAny_setField_rec z4 (by simp) fun g5 _ e5 => hE g5 e (fun c o c1 c2 c3 c4 q => e5.extBut _ _ c1 (e4 _ _ c4 (e3.extBut _ _ c2 (e2.extBut _ _ c3 (e1.extBut _ _ c1 q))))) ⟨oe, e5.extBut _ _ ne h1, h2⟩
/-- the zip's next pair, as an inner iterator -/
theorem zNext {Q : Value → Shared → Prop} (D : ZipApart z TI TO i1 i2 l1 l2) (hz : ZSt s.heap z TI TO)
    (tI : IsPair s.heap TI (.ref i1) (.ref i2)) (tO : ∃ a b, IsPair s.heap TO a b) (j1 : s.heap.IsListIter i1 l1 k1) (j2 : s.heap.IsListIter i2 l2 k2) (m1 : s.heap.IsList l1 xs) (m2 : s.heap.IsList l2 ys) (hx : xs[k1]? = some x) (hy : ys[k2]? = some y)
    (hQ : ∀ h', ZSt h' z TI TO → (∃ a b, IsPair h' TO a b) → h'.IsListIter i1 l1 (k1 + 1) → h'.IsListIter i2 l2 (k2 + 1) → IsPair h' s.heap.objs.size x y → h'.objs.size = s.heap.objs.size + 1 →
      (∀ c o, c ≠ z → c ≠ TO → c ≠ i1 → c ≠ i2 → s.heap.get? c = some o → h'.get? c = some o) → Q (.ref s.heap.objs.size) { s with heap := h' }) :
    wpAny (model prog w) A (Builtin.SmallTypes.nextOf (.ref z)) Q E s := by
  obtain ⟨a, b, tO⟩ := tO
  have hTy : s.TypeIs (.ref z) "zip" := by
    rcases hz with q | ⟨T, f, q⟩
    · exact ⟨_, q, rfl⟩
    · exact ⟨_, q, rfl⟩
  unfold Builtin.SmallTypes.nextOf
  refine wpAny_bind (wpAny_callSpecial?_slot (name := Str.ofString "__next__") hTy F.slot_zip_next (wpAny_call_entry F.slot_zip_next hTy F.entry_zip_next ?_ (F.args_zip_next_1 _)))
  rcases hz with q | ⟨T, f, q⟩
  · exact zip_next_item D q tI tO j1 j2 m1 m2 hx hy fun h' a1 a2 a3 a4 a5 a6 a7 => wpAny_pure (hQ h' (.inr ⟨_, _, a1⟩) ⟨_, _, a2⟩ a3 a4 a5 a6 a7)
  · cases r : s.heap.get? T with
    | none => exact zGo D q r tI tO j1 j2 m1 m2 hx hy fun h' a1 a2 a3 a4 a5 a6 a7 => wpAny_pure (hQ h' a1 ⟨_, _, a2⟩ a3 a4 a5 a6 a7)
    | some oT => exact zip_next_item_held D q r tI j1 j2 m1 m2 hx hy fun h' a1 a3 a4 a5 a6 a7 => wpAny_pure (hQ h' (.inr ⟨_, _, a1⟩) ⟨_, _, a7 TO _ D.TOz D.TOi1 D.TOi2 tO⟩ a3 a4 a5 a6 fun c o c1 _ c3 c4 e => a7 c o c1 c3 c4 e)
theorem zDone {Q : Value → Shared → Prop} (hh : A.handled = none) (D : ZipApart z TI TO i1 i2 l1 l2) (hz : ZSt s.heap z TI TO)
    (tI : IsPair s.heap TI (.ref i1) (.ref i2)) (tO : ∃ a b, IsPair s.heap TO a b) (j1 : s.heap.IsListIter i1 l1 k1) (j2 : s.heap.IsListIter i2 l2 k2) (m1 : s.heap.IsList l1 xs) (m2 : s.heap.IsList l2 ys) (hend : xs[k1]? = none ∨ ys[k2]? = none)
    (hE : ∀ h' e, (∀ c o, c ≠ z → c ≠ TO → c ≠ i1 → c ≠ i2 → s.heap.get? c = some o → h'.get? c = some o) → (∃ o, h'.get? e = some o ∧ o.cls = .type "StopIteration") → E (.ref e) { s with heap := h' }) :
    wpAny (model prog w) A (Builtin.SmallTypes.nextOf (.ref z)) Q E s := by
  obtain ⟨a, b, tO⟩ := tO
  have hTy : s.TypeIs (.ref z) "zip" := by
    rcases hz with q | ⟨T, f, q⟩
    · exact ⟨_, q, rfl⟩
    · exact ⟨_, q, rfl⟩
  unfold Builtin.SmallTypes.nextOf
  refine wpAny_bind (wpAny_callSpecial?_slot (name := Str.ofString "__next__") hTy F.slot_zip_next (wpAny_call_entry F.slot_zip_next hTy F.entry_zip_next ?_ (F.args_zip_next_1 _)))
  rcases hz with q | ⟨T, f, q⟩
  · exact zip_next_end hh D q tI tO j1 j2 m1 m2 hend hE
  · cases r : s.heap.get? T with
    | none => exact zEnd hh D q r tI tO j1 j2 m1 m2 hend hE
    | some oT => exact zip_next_end_held hh D q r tI j1 j2 m1 m2 hend fun h' e k he => hE h' e (fun c o c1 _ c3 c4 e => k c o c1 c3 c4 e) he
end
section
variable {prog : Program} {w : World} {A : Around} {E : Value → Shared → Prop} {s : Shared}
/-- enumerate's next, whatever goes on within the inner iterator -/
theorem enGo {e it : Addr} {i : Nat} {old x : Value} {R : Heap → Prop} {Q : Option Value → Shared → Prop} (he : IsEnum s.heap e it i old)
    (hin : ∀ (E' : Value → Shared → Prop) (Q' : Value → Shared → Prop), (∀ g, R g → Q' x { s with heap := g }) → wpAny (model prog w) A.in1 (Builtin.SmallTypes.nextOf (.ref it)) Q' E' s)
    (hR : ∀ g, R g → IsEnum g e it i old)
    (hQ : ∀ g h', R g → IsEnumOut h' e it ((i : Int) + 1) x g.objs.size → h'.get? g.objs.size = some { cls := .type "tuple", data := .seq #[.int i s.toks, x] } → h'.objs.size = g.objs.size + 1 → (∀ b o, b ≠ e → g.get? b = some o → h'.get? b = some o) →
      Q (some (.ref g.objs.size)) { s with heap := h', toks := s.toks + 1 }) : wpAny (model prog w) A (pyNext (.ref e)) Q E s := by
  have hT : s.TypeIs (.ref e) "enumerate" := ⟨_, he, rfl⟩
  unfold pyNext
  refine wpAny_bind (wpAny_attempt (wpAny_callSpecial?_slot (name := Str.ofString "__next__") hT F.slot_enumerate_next (wpAny_call_entry F.slot_enumerate_next hT F.entry_enumerate_next ?_ (F.args_enumerate_next_1 _))))
  obtain ⟨hp, gg, d, tk, os⟩ := s
  refine (show wpAny _ _ (field (.ref e) 2 >>= _) _ _ _ from wpAny_bind (wpAny_field he rfl (x := .ref it) rfl (wpAny_bind (hin _ _ fun g r => ?_))))
  have e1 := hR g r
  refine (show wpAny _ _ (field (.ref e) 3 >>= _) _ _ ⟨g, gg, d, tk, os⟩ from wpAny_bind (wpAny_field e1 rfl (x := rawInt i) rfl ?_))
  refine (show wpAny _ _ (field (.ref e) 4 >>= _) _ _ ⟨g, gg, d, tk, os⟩ from wpAny_bind (wpAny_field e1 rfl (x := .none) rfl ?_))
  refine (show wpAny _ _ (mkInt i >>= _) _ _ ⟨g, gg, d, tk, os⟩ from wpAny_bind (wpAny_mkInt ?_))
  refine (show wpAny _ _ (setField (.ref e) 3 (rawInt ((i : Int) + 1)) >>= _) _ _ ⟨g, gg, d, tk + 1, os⟩ from wpAny_bind (wpAny_setField_rec e1 (by simp) fun g2 e2 s2 => ?_))
  replace s2 : Heap.SameBut e g g2 := s2
  replace e2 : IsEnum g2 e it ((i : Int) + 1) old := e2
  refine (show wpAny _ _ (setField (.ref e) 4 .none >>= _) _ _ ⟨g2, gg, d, tk + 1, os⟩ from wpAny_bind (wpAny_setField_rec e2 (by simp) fun g3 e3 s3 => ?_))
  replace s3 : Heap.SameBut e g2 g3 := s3
  replace e3 : IsEnum g3 e it ((i : Int) + 1) old := e3
  refine (show wpAny _ _ (newTuple [.int i tk, x] >>= _) _ _ ⟨g3, gg, d, tk + 1, os⟩ from wpAny_bind (wpAny_newTuple ?_))
  have sz : g3.objs.size = g.objs.size := by rw [s3.1, s2.1]
  have le : e < g.objs.size := Heap.lt_size e1
  obtain ⟨g4, q4⟩ : ∃ g4, g3.push { cls := .type "tuple", data := .seq #[.int i tk, x] } = g4 := ⟨_, rfl⟩
  have e4 : IsEnum g4 e it ((i : Int) + 1) old := by rw [← q4]; exact Heap.get?_push_of_some _ e3
  have t4 : g4.get? g.objs.size = some { cls := .type "tuple", data := .seq #[.int i tk, x] } := by rw [← q4, ← sz]; exact Heap.get?_push_size _ rfl
  have n4 : g4.objs.size = g.objs.size + 1 := by rw [← q4, Heap.size_push, sz]
  have k4 : ∀ b o, b ≠ e → g.get? b = some o → g4.get? b = some o := fun b o hb q => by rw [← q4]; exact Heap.get?_push_of_some _ (s3.extBut b o hb (s2.extBut b o hb q))
  refine (show wpAny _ _ (Builtin.SmallTypes.ownedTupleIsFree (.ref e) >>= _) _ _ ⟨_, gg, d, tk + 1, os⟩ from ?_)
  rw [sz, q4]
  refine wpAny_bind ?_
  unfold Builtin.SmallTypes.ownedTupleIsFree
  refine wpAny_bind (wpAny_field e4 rfl (x := .none) rfl (wpAny_pure ?_))
  simp only [if_true]
  refine wpAny_bind (wpAny_rule (wpAny_bind (wpAny_field e4 rfl (x := old) rfl (wpAny_bind (wpAny_setField_rec e4 (by simp) fun g5 e5 s5 => ?_)))))
  replace s5 : Heap.SameBut e g4 g5 := s5
  replace e5 : IsEnum g5 e it ((i : Int) + 1) x := e5
  refine (show wpAny _ _ (Builtin.SmallTypes.ownedTupleHandOut (.ref e) (.ref g.objs.size) >>= _) _ _ ⟨g5, gg, d, tk + 1, os⟩ from wpAny_bind ?_)
  unfold Builtin.SmallTypes.ownedTupleHandOut
  refine wpAny_bind (wpAny_setField_rec e5 (by simp) fun g6 e6 s6 => ?_)
  replace s6 : Heap.SameBut e g5 g6 := s6
  replace e6 : IsEnumOut g6 e it ((i : Int) + 1) x g.objs.size := e6
  refine wpAny_setField_rec e6 (by simp) fun g7 e7 s7 => ?_
  replace s7 : Heap.SameBut e g6 g7 := s7
  replace e7 : IsEnumOut g7 e it ((i : Int) + 1) x g.objs.size := e7
  have up : ∀ b o, b ≠ e → g4.get? b = some o → g7.get? b = some o := fun b o hb q => s7.extBut b o hb (s6.extBut b o hb (s5.extBut b o hb q))
  exact wpAny_bind (wpAny_letGo (wpAny_pure ⟨_, rfl, wpAny_pure (hQ g g7 r e7 (up _ _ (Nat.ne_of_gt le) t4) (by rw [s7.1, s6.1, s5.1, n4]) fun b o hb q => up b o hb (k4 b o hb q))⟩))
theorem enDone {e it : Addr} {i : Int} {old : Value} {R : Heap → Prop} {Q : Option Value → Shared → Prop} (he : IsEnum s.heap e it i old)
    (hin : ∀ (E' : Value → Shared → Prop) (Q' : Value → Shared → Prop), (∀ g a, R g → (∃ o, g.get? a = some o ∧ o.cls = .type "StopIteration") → E' (.ref a) { s with heap := g }) → wpAny (model prog w) A.in1 (Builtin.SmallTypes.nextOf (.ref it)) Q' E' s)
    (hQ : ∀ g, R g → Q none { s with heap := g }) : wpAny (model prog w) A (pyNext (.ref e)) Q E s := by
  have hT : s.TypeIs (.ref e) "enumerate" := ⟨_, he, rfl⟩
  unfold pyNext
  refine wpAny_bind (wpAny_attempt (wpAny_callSpecial?_slot (name := Str.ofString "__next__") hT F.slot_enumerate_next (wpAny_call_entry F.slot_enumerate_next hT F.entry_enumerate_next ?_ (F.args_enumerate_next_1 _))))
  refine (show wpAny _ _ (field (.ref e) 2 >>= _) _ _ _ from wpAny_bind (wpAny_field he rfl (x := .ref it) rfl (wpAny_bind (hin _ _ fun g a r ⟨o, ho, hc⟩ => ?_))))
  exact wpAny_bind (wpAny_isInstance (T := "StopIteration") (b := true) ⟨o, ho, hc⟩ isSubtype_stop (wpAny_pure (hQ _ r)))
theorem enumNewZ (z TI TO : Addr) : Meets (Builtin.«enumerate.__new__» ⟨[.type "enumerate", .ref z], []⟩) (fun _ R s => IsZip s.heap z TI TO .none ∧ R (.ok (.ret (.ref s.heap.objs.size))) { s with heap := s.heap.push (enO z) }) :=
  .of_wp fun prog w A R s hyp => by
    obtain ⟨hp, gl, dd, tok, out⟩ := s
    obtain ⟨hB, hR⟩ := hyp
    have sb := sub_enumerate
    have first : ∀ {A' : Around} {E : Value → Shared → Prop} {Q : Value → Shared → Prop}, Q (.ref z) ⟨hp, gl, dd, tok, out⟩ → wpAny (model prog w) A' (pyIter (.ref z)) Q E ⟨hp, gl, dd, tok, out⟩ := fun q => wpAny_pyIter_zip hB q
    wp_walk using first
    refine wpAny_stack_any fun frames => wpAny_pure ?_
    split
    · rename_i cl _ _ _ _ _
      cases (cl == Value.type "enumerate") <;> (wp_walk using first; exact ⟨_, rfl, hR⟩)
    · wp_walk using first
      exact ⟨_, rfl, hR⟩
theorem callEnumZ {z TI TO : Addr} {Q : Value → Shared → Prop} (hZ : IsZip s.heap z TI TO .none)
    (hq : ∀ h', IsEnum h' s.heap.objs.size z 0 .none → (∀ b u, s.heap.get? b = some u → h'.get? b = some u) → Q (.ref s.heap.objs.size) { s with heap := h' }) :
    wpAny (model prog w) A (call (.type "enumerate") [.ref z]) Q E s := by
  refine callType_new F.called_enumerate (by decide) (F.typeCall_enumerate_1 _) (F.newCall_enumerate_1 _) (fun obj => F.args_object_init_2 obj _) F.entry_enumerate_new (enumNewZ z TI TO) ⟨hZ, ?_⟩
  have isE : IsEnum (s.heap.push (enO z)) s.heap.objs.size z 0 .none := Heap.get?_push_size s.heap (o := enO z) rfl
  exact ⟨⟨_, isE, rfl⟩, hq _ isE fun b u e => Heap.get?_push_of_some _ e⟩
end
/-- the lists at a and b, each two items in a new pair, with their number in another -/
def ItEz (K : PySem.W.Frag) (a b : Addr) : It :=
  ⟨fun i H => ∃ (xs ys : List V) (x y : V), SqL K H a xs ∧ SqL K H b ys ∧ xs[i]? = some x ∧ ys[i]? = some y,
    fun i H v H' => ∃ T U x y, v = .ref U ∧ H T = none ∧ upd H T (.tup [x, y]) U = none ∧ H' = upd (upd H T (.tup [x, y])) U (.tup [.int (i : Nat), .ref T]) ∧ (∀ xs, SqL K H a xs → xs[i]? = some x) ∧ ∀ ys, SqL K H b ys → ys[i]? = some y,
    fun i H => ∃ xs ys : List V, SqL K H a xs ∧ SqL K H b ys ∧ (xs.length ≤ i ∨ ys.length ≤ i)⟩
theorem turn_enumZ {P : Program} {w : World} {K : PySem.W.Frag} {elts : List Expr} {kk : Nat} {tpos : Pos} {a b e z TI TO i1 i2 : Addr} (D : ZipApart z TI TO i1 i2 a b) (ne : e ∉ [z, TI, TO, i1, i2]) (nab : e ≠ a ∧ e ≠ b) :
    Turn P w K (.Tuple elts kk tpos) (ItEz K a b) [e, z, TI, TO, i1, i2] e (fun i h => (∃ old, IsEnum h e z ((i : Nat) : Int) old) ∧ ZSt h z TI TO ∧ IsPair h TI (.ref i1) (.ref i2) ∧ (∃ x y, IsPair h TO x y) ∧ h.IsListIter i1 a i ∧ h.IsListIter i2 b i) where
  mem := by simp
  obj := fun i h st c hc => by
    obtain ⟨⟨old, hE⟩, hz, hTI, ⟨x, y, hTO⟩, ⟨o1, e1, _, d1⟩, ⟨o2, e2, _, d2⟩⟩ := st
    have e' : c = e ∨ c = z ∨ c = TI ∨ c = TO ∨ c = i1 ∨ c = i2 := by simpa using hc
    rcases e' with q | q | q | q | q | q
    · rw [q]; exact ⟨_, hE, fun v q => nomatch q⟩
    · rw [q]
      rcases hz with r | ⟨T, f, r⟩
      · exact ⟨_, r, fun v q => nomatch q⟩
      · exact ⟨_, r, fun v q => nomatch q⟩
    · rw [q]; exact ⟨_, hTI, fun v q => nomatch q⟩
    · rw [q]; exact ⟨_, hTO, fun v q => nomatch q⟩
    · rw [q]; exact ⟨o1, e1, fun v q => by rw [d1] at q; cases q⟩
    · rw [q]; exact ⟨o2, e2, fun v q => by rw [d2] at q; cases q⟩
  keep := fun i h h' st k => by
    obtain ⟨⟨old, hE⟩, hz, hTI, ⟨x, y, hTO⟩, h1, h2⟩ := st
    refine ⟨⟨old, k e (by simp) _ hE⟩, ?_, k TI (by simp) _ hTI, ⟨x, y, k TO (by simp) _ hTO⟩, h1.at fun o q => k i1 (by simp) o q, h2.at fun o q => k i2 (by simp) o q⟩
    rcases hz with r | ⟨T, f, r⟩
    · exact .inl (k z (by simp) _ r)
    · exact .inr ⟨T, f, k z (by simp) _ r⟩
  item := by
    intro X hP hw hK hc i pins s σ H E I hf st hg
    subst hP hw hK
    obtain ⟨⟨old, hE⟩, hz, hTI, hTO, h1, h2⟩ := st
    obtain ⟨xs, ys, x, y, hqx, hqy, hx, hy⟩ := hg
    obtain ⟨its, rv, p, _⟩ := I.list hqx
    obtain ⟨its2, rv2, p2, _⟩ := I.list hqy
    obtain ⟨u, hu, ru⟩ := rv.get hx
    obtain ⟨u2, hu2, ru2⟩ := rv2.get hy
    have nz : e ≠ z := fun q => ne (by simp [q])
    have nTI : e ≠ TI := fun q => ne (by simp [q])
    have nTO : e ≠ TO := fun q => ne (by simp [q])
    have n1 : e ≠ i1 := fun q => ne (by simp [q])
    have n2 : e ≠ i2 := fun q => ne (by simp [q])
    have le : e < s.heap.objs.size := Heap.lt_size hE
    refine enGo (x := .ref s.heap.objs.size) (R := fun g => ZSt g z TI TO ∧ (∃ a b, IsPair g TO a b) ∧ g.IsListIter i1 a (i + 1) ∧ g.IsListIter i2 b (i + 1) ∧ IsPair g s.heap.objs.size u u2 ∧ g.objs.size = s.heap.objs.size + 1 ∧ (∀ c o, c ≠ z → c ≠ TO → c ≠ i1 → c ≠ i2 → s.heap.get? c = some o → g.get? c = some o)) hE
      (fun E' Q' q => zNext D hz hTI hTO h1 h2 p.isList p2.isList (x := u) (y := u2) (by simpa using hu) (by simpa using hu2) fun g a1 a2 a3 a4 a5 a6 a7 => q g ⟨a1, a2, a3, a4, a5, a6, a7⟩)
      (fun g r => r.2.2.2.2.2.2 e _ nz nTO n1 n2 hE) fun g h' ⟨a1, a2, a3, a4, a5, a6, a7⟩ hO hT hsz hk => ?_
    refine ⟨_, rfl, wpAny_letOwnedTupleGo_enum (s := { s with heap := h', toks := s.toks + 1 }) hO fun h2' hE2 sb => ?_⟩
    have nT : s.heap.objs.size ≠ e := Nat.ne_of_gt le
    have up : ∀ c o, c ≠ e → g.get? c = some o → h2'.get? c = some o := fun c o hc q => (sb.2 c hc).trans (hk c o hc q)
    have hU : h2'.get? g.objs.size = some { cls := .type "tuple", data := .seq #[.int i s.toks, .ref s.heap.objs.size] } := (sb.2 _ (by rw [a6]; exact Nat.ne_of_gt (Nat.lt_succ_of_lt le))).trans hT
    have kp : ∀ c o, c ∉ [e, z, TI, TO, i1, i2] → s.heap.get? c = some o → h2'.get? c = some o := fun c o hc q => up c o (fun q' => hc (by simp [q'])) (a7 c o (fun q' => hc (by simp [q'])) (fun q' => hc (by simp [q'])) (fun q' => hc (by simp [q'])) (fun q' => hc (by simp [q'])) q)
    have okT : ObjOk X.prog X.w (upd H s.heap.objs.size (.tup [x, y])) g s.heap.objs.size (.tup [x, y]) :=
      ⟨by show 2 ≤ sizeLine; decide, [u, u2], .cons ru (.cons ru2 .nil), ⟨_, a5, rfl, _, rfl⟩⟩
    have I1 : Inv X pins σ (upd H s.heap.objs.size (.tup [x, y])) { s with heap := g } :=
      I.turnedNew (t' := s.toks) (ch := [e, z, TI, TO, i1, i2]) (fun c o hc q => a7 c o (fun q' => hc (by simp [q'])) (fun q' => hc (by simp [q'])) (fun q' => hc (by simp [q'])) (fun q' => hc (by simp [q'])) q) hf (Nat.le_refl _) okT
    have lt : ∀ c ∈ [e, z, TI, TO, i1, i2], c < s.heap.objs.size := fun c hcm => by
      have e' : c = e ∨ c = z ∨ c = TI ∨ c = TO ∨ c = i1 ∨ c = i2 := by simpa using hcm
      rcases e' with q | q | q | q | q | q
      · rw [q]; exact le
      · rw [q]
        rcases hz with r | ⟨T, f, r⟩
        · exact Heap.lt_size r
        · exact Heap.lt_size r
      · rw [q]; exact Heap.lt_size hTI
      · rw [q]; obtain ⟨_, _, r⟩ := hTO; exact Heap.lt_size r
      · rw [q]; obtain ⟨_, r, _⟩ := h1; exact Heap.lt_size r
      · rw [q]; obtain ⟨_, r, _⟩ := h2; exact Heap.lt_size r
    have hf1 : ∀ c ∈ [e], FpOk X pins (upd H s.heap.objs.size (.tup [x, y])) c := fun c hcm => by
      have := hf c (by rw [List.mem_singleton.mp hcm]; simp)
      refine ⟨by rw [upd_ne (by rw [List.mem_singleton.mp hcm]; exact Nat.ne_of_lt le)]; exact this.1, this.2⟩
    have okU : ObjOk X.prog X.w (upd (upd H s.heap.objs.size (.tup [x, y])) g.objs.size (.tup [.int (i : Nat), .ref s.heap.objs.size])) h2' g.objs.size (.tup [.int (i : Nat), .ref s.heap.objs.size]) :=
      ⟨by show 2 ≤ sizeLine; decide, [.int i s.toks, .ref s.heap.objs.size], .cons ⟨_, rfl⟩ (.cons rfl .nil), ⟨_, hU, rfl, _, rfl⟩⟩
    have I2 : Inv X pins σ (upd (upd H s.heap.objs.size (.tup [x, y])) g.objs.size (.tup [.int (i : Nat), .ref s.heap.objs.size])) { s with heap := h2', toks := s.toks + 1 } :=
      I1.turnedNew (t' := s.toks + 1) (ch := [e]) (fun c o hc q => up c o (fun q' => hc (by simp [q'])) q) hf1 (Nat.le_refl _) okU
    refine ⟨.ref g.objs.size, _, I2, rfl, ⟨s.heap.objs.size, g.objs.size, x, y, rfl, I.hok.fresh (Nat.le_refl _), I1.hok.fresh (Nat.le_refl _), rfl, fun l hl => by rw [I.list_inj hl hqx]; exact hx, fun l hl => by rw [I.list_inj hl hqy]; exact hy⟩, ⟨⟨.ref s.heap.objs.size, ?_⟩, ?_, ?_, ?_, ?_, ?_⟩, fun c hcm => ?_⟩
    · rw [show ((i + 1 : Nat) : Int) = (i : Int) + 1 by omega]
      exact hE2
    · rcases a1 with r | ⟨T, f, r⟩
      · exact .inl (up z _ nz.symm r)
      · exact .inr ⟨T, f, up z _ nz.symm r⟩
    · exact up TI _ nTI.symm (a7 TI _ D.TIz D.TITO D.TIi1 D.TIi2 hTI)
    · obtain ⟨x', y', r⟩ := a2
      exact ⟨x', y', up TO _ nTO.symm r⟩
    · exact a3.at fun o q => up i1 o n1.symm q
    · exact a4.at fun o q => up i2 o n2.symm q
    · have := lt c hcm
      rw [upd_ne (by rw [a6]; exact Nat.ne_of_lt (Nat.lt_succ_of_lt this)), upd_ne (Nat.ne_of_lt this)]
      exact (hf c hcm).1
  done := by
    intro X hP hw hK hc i pins s σ H E I hf st hg
    subst hP hw hK
    obtain ⟨⟨old, hE⟩, hz, hTI, hTO, h1, h2⟩ := st
    obtain ⟨xs, ys, hqx, hqy, hend⟩ := hg
    obtain ⟨its, rv, p, _⟩ := I.list hqx
    obtain ⟨its2, rv2, p2, _⟩ := I.list hqy
    have l1 := rv.length
    have l2 := rv2.length
    have he : its.toArray[i]? = none ∨ its2.toArray[i]? = none := by
      rcases hend with q | q
      · exact .inl (by simp; omega)
      · exact .inr (by simp; omega)
    refine enDone (R := fun g => ∀ c o, c ≠ z → c ≠ TO → c ≠ i1 → c ≠ i2 → s.heap.get? c = some o → g.get? c = some o) hE (fun E' Q' q => zDone (I.ok.hd hc) D hz hTI hTO h1 h2 p.isList p2.isList he fun g a k so => q g a k so) fun g k => ?_
    exact ⟨rfl, I.turnedL (t' := s.toks) (ch := [e, z, TI, TO, i1, i2]) (fun c o hb q => k c o (fun q' => hb (by simp [q'])) (fun q' => hb (by simp [q'])) (fun q' => hb (by simp [q'])) (fun q' => hb (by simp [q'])) q) hf⟩
  self := fun A i s Q E st hQ => let ⟨⟨_, hE⟩, _⟩ := st; wpAny_pyIter_enum hE hQ
def iEnumZ (K : PySem.W.Frag) (ta : TA) : TI := fun σ H R => ta σ H fun vs H1 => ∃ a b xs ys, vs = [.ref a, .ref b] ∧ SqL K H1 a xs ∧ SqL K H1 b ys ∧ R (ItEz K a b) H1
theorem pi_enumZ {X : Cx} {e e2 : Expr} {ta : TA} {p p2 pos pos2 tpos : Pos} {elts : List Expr} {kk : Nat} (hg : Gl X "enumerate") (hm : X.mg "enumerate" = none) (hg2 : Gl X "zip") (hm2 : X.mg "zip" = none) (ha : PA X [e, e2] ta)
    (hs : starEach [e, e2] X.env = (false, eval e X.env) :: starEach [e2] X.env := by rfl) (hpl : (backTo pos2 (starEach [e2] X.env)).any (·.1) = false := by rfl) :
    PI X (.Tuple elts kk tpos) (.Call (.Name "enumerate" p) [.Call (.Name "zip" p2) [e, e2] [] pos2] [] pos) (iEnumZ X.K ta) := by
  refine ⟨fun pins s σ H R I hyp => ?_⟩
  refine Call_ (ld_blt I hg hm boot_enumerate (PyProof.Rows.callWith_type1 (PyProof.Rows.spliced_more ?_ rfl) rfl rfl))
  refine Call_ (ld_blt I hg2 hm2 PyProof.Rows.boot_zip (PyProof.Rows.callWith_type1 (thn (ha.run pos2 pins s σ H _ I hyp) fun us s1 ⟨vs, H1, I1, r1, q1⟩ => ?_) hs hpl))
  obtain ⟨a, b, xs, ys, ex, hqx, hqy, q⟩ := q1
  subst ex
  cases r1 with
  | cons r rr =>
    cases rr with
    | cons r' rr =>
      cases rr
      cases r
      cases r'
      obtain ⟨its, rv, p1, _⟩ := I1.list hqx
      obtain ⟨its2, rv2, p2, _⟩ := I1.list hqy
      have la : a < s1.heap.objs.size := p1.lt
      have lb : b < s1.heap.objs.size := p2.lt
      refine call_zip_2 p1.isList p2.isList fun h' hz hTI hTO h1 h2 hsz hk => PyProof.Rows.spliced_none ?_
      refine callEnumZ (s := { s1 with heap := h' }) hz fun h2' hE hk2 => wpAny_pyIter_enum hE ?_
      have I2 : Inv X pins σ H1 { s1 with heap := h2' } := I1.kept (t' := s1.toks) fun c o q => hk2 c o (hk c o q)
      have hsz' : h'.objs.size = s1.heap.objs.size + 5 := hsz
      have hE' : IsEnum h2' h'.objs.size (s1.heap.objs.size + 4) 0 .none := hE
      refine ⟨h'.objs.size, [h'.objs.size, s1.heap.objs.size + 4, s1.heap.objs.size + 2, s1.heap.objs.size + 3, s1.heap.objs.size, s1.heap.objs.size + 1], _, _, H1, rfl, I2, turn_enumZ (PySem.W.ktu_apart s1.heap.objs.size a b la lb) (by rw [hsz']; simp) ⟨by rw [hsz']; exact Nat.ne_of_gt (Nat.lt_of_lt_of_le la (Nat.le_add_right _ _)), by rw [hsz']; exact Nat.ne_of_gt (Nat.lt_of_lt_of_le lb (Nat.le_add_right _ _))⟩, ⟨⟨.none, hE'⟩, .inl (hk2 _ _ hz), hk2 _ _ hTI, ⟨_, _, hk2 _ _ hTO⟩, h1.at fun o q => hk2 _ o q, h2.at fun o q => hk2 _ o q⟩, fun c hcm => ?_, q⟩
      have e' : c = h'.objs.size ∨ c = s1.heap.objs.size + 4 ∨ c = s1.heap.objs.size + 2 ∨ c = s1.heap.objs.size + 3 ∨ c = s1.heap.objs.size ∨ c = s1.heap.objs.size + 1 := by simpa using hcm
      have hle : s1.heap.objs.size ≤ c := by
        rcases e' with q | q | q | q | q | q
        · rw [q, hsz']; exact Nat.le_add_right _ _
        · rw [q]; exact Nat.le_add_right _ _
        · rw [q]; exact Nat.le_add_right _ _
        · rw [q]; exact Nat.le_add_right _ _
        · rw [q]; exact Nat.le_refl _
        · rw [q]; exact Nat.le_add_right _ _
      exact I1.fpOk hle (I1.hok.fresh hle)
theorem kx_enumZ {K : PySem.W.Frag} {tl : TA} {X : Cx} {e e2 : Expr} {p p2 pos pos2 tpos : Pos} {elts : List Expr} {kk : Nat} (h : X.K = K) (hg : Gl X "enumerate") (hm : X.mg "enumerate" = none) (hg2 : Gl X "zip") (hm2 : X.mg "zip" = none) (ha : PA X [e, e2] tl)
    (hs : starEach [e, e2] X.env = (false, eval e X.env) :: starEach [e2] X.env := by rfl) (hpl : (backTo pos2 (starEach [e2] X.env)).any (·.1) = false := by rfl) :
    PI X (.Tuple elts kk tpos) (.Call (.Name "enumerate" p) [.Call (.Name "zip" p2) [e, e2] [] pos2] [] pos) (iEnumZ K tl) := by subst h; exact pi_enumZ hg hm hg2 hm2 ha hs hpl
theorem it_enumZ {K : PySem.W.Frag} {pen : Pc} {H0 : Hp} {L : Lv} {P : List PyData → Prop} {tl : TA} (h : EA K pen H0 tl L fun es => ∃ as bs, es = [.list as, .list bs] ∧ P (enumL (zipL as bs))) : IT K pen H0 (iEnumZ K tl) L P := fun σ G H e R r => h σ G H e _ fun vs es G1 H1 go hd ⟨as, bs, hds, p⟩ => by
  subst hds
  cases hd with
  | cons hd hd2 =>
    cases hd2 with
    | cons hd3 hd4 =>
      cases hd4
      cases hd with
      | lst hs ha =>
        cases hd3 with
        | lst hs' ha' =>
          rename_i a xs a' ys
          refine ⟨a, a', xs, ys, rfl, sqL_mono go.vw.vw hs, sqL_mono go.vw.vw hs', r _ G1 H1 _ go (fun G' H' s v => ⟨fun i x hx => ?_, ?_⟩) p⟩
          · have z1 := sqL_mono (s.trans v.vw) hs
            have z2 := sqL_mono (s.trans v.vw) hs'
            obtain ⟨y', hy', rfl⟩ := enumL_get hx
            obtain ⟨u1, u2, k1, k2, rfl⟩ := zipL_get hy'
            obtain ⟨y1, hy1, dy1⟩ := dpa_get ha k1
            obtain ⟨y2, hy2, dy2⟩ := dpa_get ha' k2
            refine ⟨⟨xs, ys, y1, y2, z1, z2, hy1, hy2⟩, fun w H2 hw => ?_⟩
            obtain ⟨T, U, t1, t2, rfl, hT, hU, rfl, f1, f2⟩ := hw
            have e1 : t1 = y1 := Option.some.inj ((f1 _ z1).symm.trans hy1)
            have e2 : t2 = y2 := Option.some.inj ((f2 _ z2).symm.trans hy2)
            subst e1 e2
            have g2 := Go.new v (o := .tup [t1, t2]) hT
            have g3 := Go.new g2.vw (o := .tup [.int (i : Nat), .ref T]) hU
            refine ⟨_, g2.trans g3, .tup (.inl (.inl upd_same)) (.cons (.int _) (.cons (dp_mono g3.gg _ _ (.tup (.inl (.inl upd_same)) (.cons (dp_mono (s.trans g2.gg) _ _ dy1) (.cons (dp_mono (s.trans g2.gg) _ _ dy2) .nil)))) .nil))⟩
          · refine ⟨xs, ys, sqL_mono (s.trans v.vw) hs, sqL_mono (s.trans v.vw) hs', ?_⟩
            rw [enumL_len, zipL_len, dpa_len ha, dpa_len ha']
            omega
end Dl
set_option Elab.async false
set_option linter.all false
set_option maxRecDepth 100000
set_option maxHeartbeats 4000000
/-! ### a list that is read taken so often; a list lengthened by one that is read -/
namespace Dl
open PySem PySem.Spec PyProof.Rows L2
theorem intRmulL (a : Int) (t : Tok) (l : Addr) (items : Array Value) (n : Nat) (dd : Option Addr) (sl : Array (Option Value)) :
    Meets (Builtin.«int.__rmul__» ⟨[.int a t, .ref l], []⟩) (fun _ R s => s.heap.get? l = some { cls := .type "list", dict := dd, data := .seq items n, slots := sl } ∧ R (.ok (.ret Value.notImplemented)) s) :=
  .of_wp fun prog w A R s hyp => by
    obtain ⟨hp, gl, dr, tok, out⟩ := s
    obtain ⟨h1, h2⟩ := hyp
    wp_walk using wpAny_loadPart' h1
    exact ⟨_, rfl, h2⟩
theorem listMulL (l : Addr) (items : Array Value) (n : Nat) (dd : Option Addr) (sl : Array (Option Value)) (x : Int) (u : Tok) (c0 : ¬ (!Builtin.List.listFitsIndex x) = true) (c1 : ¬ items.size * x.toNat > (2 ^ 63 - 1) / 8) (c2 : ¬ Builtin.List.listTooLong (items.size * x.toNat) = true) :
    Meets (Builtin.«list.__mul__» ⟨[.ref l, .int x u], []⟩) (fun _ R s => s.heap.get? l = some { cls := .type "list", dict := dd, data := .seq items n, slots := sl } ∧
      R (.ok (.ret (Value.ref s.heap.objs.size))) { s with heap := s.heap.push { cls := Value.type "list", data := Data.seq (List.foldl (fun x1 x2 => x1 ++ x2) #[] (List.replicate (if items.isEmpty = true then 0 else x.toNat) items)) }, toks := s.toks }) :=
  .of_wp fun prog w A R s hyp => by
    obtain ⟨hp, gl, dr, tok, out⟩ := s
    obtain ⟨h1, h2⟩ := hyp
    have fit := AutoListH.joined_fits c2
    have f1 := AutoSeq1.idx_int
    wp_walk using wpAny_loadPart' h1
    refine wpAny_ite_false (decide_eq_false (Nat.not_lt.mpr fit)) ?_
    wp_walk using wpAny_loadPart' h1
    exact ⟨_, rfl, h2⟩
theorem listExtL (l : Addr) (items : Array Value) (n : Nat) (b : Addr) (items2 : Array Value) (n2 : Nat) (dd : Option Addr) (sl : Array (Option Value)) (c0 : ¬ (!items.isEmpty && Builtin.List.listTooLong (items.size + items2.size)) = true) (c1 : items.size ≤ sizeLine) (c2 : items.size + items2.size ≤ sizeLine + 1) :
    Meets (Builtin.«list.extend» ⟨[.ref l, .ref b], []⟩) (fun _ R s => s.heap.get? l = some { cls := .type "list", dict := none, data := .seq items n, slots := #[] } ∧ s.heap.get? b = some { cls := .type "list", dict := dd, data := .seq items2 n2, slots := sl } ∧
      R (.ok (.ret Value.none)) { s with heap := s.heap.update l (Obj.mapSeq fun x => x ++ items2), toks := s.toks }) :=
  .of_wp fun prog w A R s hyp => by
    obtain ⟨hp, gl, dr, tok, out⟩ := s
    obtain ⟨h1, hb, h2⟩ := hyp
    have f1 := AutoSeq1.idx_int
    have f2 := AutoSeq1.sub_tuple_tuple
    have f3 := AutoSeq1.sub_list_list
    have f4 := AutoSeq1.sub_tuple_list
    have f5 := AutoSeq1.sub_list_tuple
    have fit : (items ++ items2).size ≤ sizeLine + 1 := by rw [Array.size_append]; exact c2
    wp_walk using (wpAny_updateSeq h1 rfl (hz := c1) (_hz' := fit)), wpAny_loadPart' h1, wpAny_loadPart' hb
    exact ⟨_, rfl, h2⟩
def rRepL (K : PySem.W.Frag) : R2 := fun x y H Q => ∃ l k xs, x = .ref l ∧ y = .int k ∧ SqL K H l xs ∧ -(2 ^ 63) ≤ k ∧ k < 2 ^ 63 ∧ xs.length * k.toNat ≤ sizeLine ∧ ∀ p, H p = none → Q (.ref p) (upd H p (.lst (List.replicate k.toNat xs).flatten))
def rExtL (K : PySem.W.Frag) : V → List V → Hp → VK → Prop := fun x vs H Q => ∃ l b xs zs, x = .ref l ∧ vs = [.ref b] ∧ H l = some (.lst xs) ∧ SqL K H b zs ∧ xs.length + zs.length ≤ sizeLine ∧ Q .non (upd H l (.lst (xs ++ zs)))
section
variable {X : Cx}
theorem op_repL : OpR X (binaryOp .Mult) (rRepL X.K) := by
  intro pins s σ H x y v u Q I rx ry h
  obtain ⟨l, k, xs, rfl, rfl, hH, h1, h2, hz, q⟩ := h
  cases rx
  obtain ⟨t, rfl⟩ := ry
  obtain ⟨its, r, ⟨⟨cls, dd, data, sl⟩, n, ho, hc, hdd, hd⟩, z⟩ := I.list hH
  simp only at hc hd
  subst hc hd
  have hl := r.length
  have len : its.toArray.size * k.toNat ≤ sizeLine := by rw [List.size_toArray, ← hl]; exact hz
  have cap : ¬ its.toArray.size * k.toNat > (2 ^ 63 - 1) / 8 := by
    have : (sizeLine : Nat) ≤ (2 ^ 63 - 1) / 8 := by decide
    omega
  have fit : ¬ (!Builtin.List.listFitsIndex k) = true := by rw [fitsIndex_both h1 h2]; exact Bool.false_ne_true
  have long : ¬ Builtin.List.listTooLong (its.toArray.size * k.toNat) = true := by rw [notLongL len]; exact Bool.false_ne_true
  have made : List.foldl (fun x1 x2 => x1 ++ x2) #[] (List.replicate (if its.toArray.isEmpty = true then 0 else k.toNat) its.toArray) = (List.replicate k.toNat its).flatten.toArray := by
    rw [size_rep]
    cases its with
    | nil => simp
    | cons a r' => rw [if_neg (by simp)]
  refine wpAny_binaryOp_repeat_ref (T := "list") (U := "int") (by decide) ⟨_, ho, rfl⟩ (fun s' => typeIs_int s' k t) noFill_list_mul F.fills_int_mul F.slot_int_rmul repeat_list F.slot_int_index.lookup
    (call_meets F.slot_int_rmul (typeIs_int s k t) F.entry_int_rmul (F.args_int_rmul_2 _ _) (intRmulL k t l its.toArray n dd sl) ⟨ho, rfl, ⟨_, ho, rfl⟩, call_meets F.slot_list_mul ⟨_, ho, rfl⟩ F.entry_list_mul (F.args_list_mul_2 _ _) (listMulL l its.toArray n dd sl k t fit cap long) ⟨ho, ?_⟩⟩)
  rw [made]
  exact ⟨.ref _, _, I.lnew (t' := s.toks) (r.rep k.toNat) (by rw [PyProof.Rows.lm_len_rep_flat, Nat.mul_comm]; exact hz), rfl, q _ I.fresh⟩
theorem mt_extL : MtM X "list.extend" (rExtL X.K) := by
  intro pins s σ H x vs v us Q I rx rv h
  obtain ⟨l, b, xs, zs, rfl, rfl, hH, hB, hz, q⟩ := h
  cases rx
  obtain ⟨u, rfl, ru⟩ := rv.one
  cases ru
  obtain ⟨z, its, n, r, hl, e⟩ := I.lstM hH
  obtain ⟨its2, r2, ⟨⟨cls, dd, data, sl⟩, n2, ho, hc, hdd, hd⟩, z2⟩ := I.list hB
  simp only at hc hd
  subst hc hd
  have hl2 := r2.length
  have sum : its.toArray.size + its2.toArray.size ≤ sizeLine := by rw [List.size_toArray, List.size_toArray]; omega
  have long : ¬ (!its.toArray.isEmpty && Builtin.List.listTooLong (its.toArray.size + its2.toArray.size)) = true := by rw [notLongL sum, Bool.and_false]; exact Bool.false_ne_true
  refine call_meets F.slot_list_extend ⟨_, e, rfl⟩ F.entry_list_extend (F.args_list_extend_2 _ _) (listExtL l its.toArray n b its2.toArray n2 dd sl long (by rw [List.size_toArray]; omega) (by omega)) ⟨e, ho, ?_⟩
  exact ⟨.non, _, I.lset (its' := its ++ its2) hH e (by simp) (r.append r2) (by rw [List.length_append]; omega), rfl, q⟩
theorem kx_repL {K : PySem.W.Frag} (h : X.K = K) : OpR X (binaryOp .Mult) (rRepL K) := by subst h; exact op_repL
theorem kx_extL {K : PySem.W.Frag} (h : X.K = K) : MtM X "list.extend" (rExtL K) := by subst h; exact mt_extL
end
section
variable {K : PySem.W.Frag} {pen : Pc} {H0 : Hp} {L : Lv} {P : PyData → Prop} {ta tb te : TE} {Pl : List PyData → Prop} {D : Dn}
theorem el_repL (h : E K pen H0 ta L fun a => ∃ ds, a = .list ds ∧ E K pen H0 tb L fun b => ∃ k : Nat, b = .int k ∧ k ≤ 100000 ∧ ds.length * k ≤ 100000 ∧ Pl (List.replicate k ds).flatten) : EL K pen H0 (tOp (rRepL K) ta tb) L Pl := fun σ G H e Q q => h σ G H e _ fun v a G1 H1 go d1 ⟨ds, hds, h1⟩ => by
  subst hds
  refine h1 σ G1 H1 (e.go go) _ fun w b G2 H2 g2 d2 ⟨k, hk, hkk, hz, p⟩ => ?_
  subst hk
  cases d2
  cases d1 with
  | lst hs ha =>
    rename_i l vs
    have hlv := dpa_len ha
    refine ⟨l, k, vs, rfl, rfl, sqL_mono (g2.gg.trans g2.vw.vw) hs, by omega, by omega, Nat.le_trans (by rw [hlv]; exact hz) (by decide : 100000 ≤ sizeLine), fun r hr => ?_⟩
    have e2 := (e.go go).go g2
    have g3 := Go.hid e2.vw (o := .lst (List.replicate ((k : Int)).toNat vs).flatten) hr
    exact q r _ _ G2 _ ((go.trans g2).trans g3) upd_same (e2.gnone hr) (EL.out e (go.trans g2) hr) (dpa_rep (dpa_mono g2.gg _ _ ha) k) p
theorem s_extD {j : Nat} {ds : List PyData} (hj : L[j]? = some (some (.own (.lst ds)))) (h : E K pen H0 te L fun d => ∃ es, d = .list es ∧ ds.length + es.length ≤ 100000 ∧ D.nx (L.set j (some (.own (.lst (ds ++ es)))))) (nf : noFr L = true := by rfl) :
    S K pen H0 (tDrop (tBM K "list" (rExtL K) (tVar j) (tCons te tNil))) L D := fun σ G H N e n1 _ _ _ _ _ => by
  obtain ⟨l, ho, k1, k3, k6⟩ := e.own hj
  obtain ⟨vs, rfl, k6⟩ := k6.lst
  refine ⟨_, k1, .inl ⟨rfl, vs, .inl (.inl k3)⟩, h σ G H e _ fun w d G1 H1 g1 d1 ⟨es, hes, hz, p⟩ => ?_⟩
  subst hes
  cases d1 with
  | lst hs b4 =>
    rename_i b zs
    have e1 := e.go g1
    obtain ⟨ho2, q3, q6⟩ := e1.ownAt hj k1
    obtain ⟨vs2, rfl, q6⟩ := q6.lst
    obtain ⟨r1, r2⟩ := e1.putOwn nf hj k1 (o' := .lst (ds ++ es)) (ho := .lst (vs2 ++ zs)) (dpa_app q6 b4)
    exact ⟨l, b, vs2, zs, rfl, rfl, q3, sqL_mono g1.vw.vw hs, Nat.le_trans (by rw [dpa_len q6, dpa_len b4]; exact hz) (by decide : 100000 ≤ sizeLine), n1 σ G1 _ _ ((e.gx g1).trans r2) r1 p⟩
end
end Dl
set_option Elab.async false
set_option linter.all false
set_option maxRecDepth 100000
set_option maxHeartbeats 4000000
/-! ### sorted(set(l)), len(set(l)), l a list of ints -/
namespace Dl
open PySem PySem.Spec PyProof.Rows L2
abbrev nS (w : World) : Obj := { cls := .type "set", dict := none, data := .set #[] 0 (.fresh 0 0 (!w.params.followText "set-order")) }
section
variable {P : Program} {w : World} {A : Around} {E : Value → Shared → Prop} {s : Shared}
theorem setLI {l : Addr} {items : Array Value} (ns : List Int) {Q : Value → Shared → Prop} (hh : A.handled = none) (hl : s.heap.IsList l items) (hit : IntsAre items.toList ns) (hb : ns.length + 1 < scanBound)
    (h : ∀ (h' : Heap) (tk c : Nat), SetR w h' s.heap.objs.size (fun j => decide (j ∈ ns)) c → c ≤ ns.length → (∀ b o, s.heap.get? b = some o → h'.get? b = some o) → Q (.ref s.heap.objs.size) { s with heap := h', toks := tk }) :
    wpAny (model P w) A (call (.type "set") [.ref l]) Q E s := by
  have sz : items.size = ns.length := by simpa using IntsAre.length hit
  obtain ⟨c, tl, hmro⟩ := F.called_set.mro
  have m1 := F.called_set.made
  have m2 := F.called_set.sub
  refine wpAny_call (codeAny_of_tree (show wpAny _ _ (callAny (.type "set") _) _ _ _ from wpAny_pure ⟨Code.quiet_builtin _ (by decide +kernel), codeAny_builtin F.entry_type_call ?_⟩))
  rw [Around.under_plain (weight_type_call_type "set" [.ref l] []) rfl]
  have m3 := F.called_set.notType
  have m4 := F.called_set.canCreate
  have m5 := F.typeCall_set_1 (.ref l)
  repeat (any_goals (first | assumption | wp_step))
  refine codeAny_mono (code_set_led1 (.ref l) (E := E) (Q₁ := fun obj s₁ => obj = .ref s.heap.objs.size ∧ s₁ = { s with heap := s.heap.push (nS w) }) ⟨rfl, rfl⟩) fun r s₁ hr => ?_
  cases r with
  | error e => exact hr
  | ok fl =>
    cases fl with
    | ret obj =>
      obtain ⟨rfl, rfl⟩ := hr
      have gS : (s.heap.push (nS w)).get? s.heap.objs.size = some (nS w) := Heap.get?_push_size _ rfl
      have tS : Shared.TypeIs { s with heap := s.heap.push (nS w) } (.ref s.heap.objs.size) "set" := ⟨_, gS, rfl⟩
      have i1 := F.called_set.init.lookup
      have i2 := F.called_set.init.bind (.ref s.heap.objs.size)
      repeat (any_goals (first | assumption | wp_step))
      refine codeAny_mono (codeAny_call_builtin (R := wants (fun r s₂ => r = .none ∧ ∃ h' tk c, s₂ = { s with heap := h', toks := tk } ∧ SetR w h' s.heap.objs.size (fun j => decide (j ∈ ns)) c ∧ c ≤ ns.length ∧ (∀ b o, s.heap.get? b = some o → h'.get? b = some o)) E) F.called_set.init.plain F.entry_set_init (check_set_init_1 tS ?_)) fun r₂ s₂ hr₂ => ?_
      · obtain ⟨⟨ocls, odict, odata, oslots⟩, g0, hc0, nl, hd0⟩ := hl
        simp only at hc0 hd0
        subst hc0 hd0
        have g1 : (s.heap.push (nS w)).get? l = some { cls := .type "list", dict := odict, data := .seq items nl, slots := oslots } := Heap.get?_push_of_some _ g0
        have u1 := F.sub_list_set
        have u2 := F.sub_list_frozenset
        have u3 : (Value.type "list" == Value.type "dict") = false := by decide
        have l1 : (s.heap.push (nS w)).IsList l items := ⟨_, g1, rfl, nl, rfl⟩
        unfold Builtin.«set.__init__» noKeywords Builtin.Frozenset.updateFrom
        generalize ePI : pyIter = PI
        wp_walk
        subst ePI
        refine wpAny_pyIter_list l1 (wpAny_bind (wpAny_runValue ?_))
        have lt : l < s.heap.objs.size := Heap.lt_size g0
        have hh3 : A.in1.in1.in1.handled = none := by simp [hh]
        have ne1 : l ≠ (s.heap.push (nS w)).objs.size := by rw [Heap.size_push]; exact Nat.ne_of_lt (Nat.lt_succ_of_lt lt)
        have ne2 : s.heap.objs.size ∉ [(s.heap.push (nS w)).objs.size, l] := by
          rw [Heap.size_push]
          intro z
          rcases List.mem_cons.mp z with z | z
          · exact Nat.ne_of_lt (Nat.lt_succ_self _) z
          · exact Nat.ne_of_gt lt (List.mem_singleton.mp z)
        have val : ∀ (i : Nat) (v : Value), items[i]? = some v → ∃ k t, ns[i]? = some k ∧ v = .int k t := fun i v hv => by
          have hi : i < ns.length := by rw [← sz]; exact (Array.getElem?_eq_some_iff.mp hv).1
          obtain ⟨t, e⟩ := PyProof.Rows.IntsAre.int_at hit i v (by rw [Array.getElem?_toList]; exact hv)
          exact ⟨ns[i], t, List.getElem?_eq_getElem hi, by rw [e, List.getD_eq_getElem?_getD, List.getElem?_eq_getElem hi] <;> rfl⟩
        refine set_update_ints ((Walks.list hh3 _ l ne1 items).toS) s.heap.objs.size ne2 ns sz hb val (items.size - 0) 0 _ (by omega) (Nat.zero_le _) ⟨⟨_, Heap.get?_push_size _ rfl, rfl, rfl⟩, (l1.push _)⟩ ⟨0, Nat.le_refl 0, setR_new_at (Heap.get?_push_of_some _ gS)⟩ ?_
        intro s' c' hm hc' hS'
        obtain ⟨h', g2, d', tk', os'⟩ := s'
        have eg : g2 = s.gens := hm.gens
        have ed : d' = s.drawn := hm.drawn
        have eo : os' = s.os := hm.os
        subst eg ed eo
        refine (show wpAny _ _ _ _ _ _ from wpAny_pure (show wpAny _ _ (ret Value.none) _ _ _ from ?_))
        rw [sz] at hc'
        refine wpAny_pure ⟨rfl, h', tk', c', rfl, hS', hc', fun b o e => ?_⟩
        have b0 : b < s.heap.objs.size := Heap.lt_size e
        refine hm.heap b o (fun z => ?_) (Heap.get?_push_of_some _ (Heap.get?_push_of_some _ e))
        rcases List.mem_cons.mp z with z | z
        · exact Nat.ne_of_lt b0 z
        · have z := List.mem_singleton.mp z
          rw [Heap.size_push] at z
          exact Nat.ne_of_lt (Nat.lt_succ_of_lt b0) z
      · cases r₂ with
        | error e => exact hr₂
        | ok fl₂ =>
          cases fl₂ with
          | ret r =>
            obtain ⟨rfl, h', tk, c', rfl, hS', hc', hk'⟩ := hr₂
            repeat (any_goals (first | assumption | wp_step))
            exact h _ _ _ hS' hc' hk'
          | _ => exact hr₂.elim
    | _ => exact hr.elim
end
def rSetLI (K : PySem.W.Frag) (w : World) : List V → Hp → VK → Prop := fun xs H Q => ∃ (l : Addr) (ns : List Int), xs = [V.ref l] ∧ SqL K H l (ns.map V.int) ∧ ns.length ≤ 1000 ∧ ∀ p c, H p = none → c ≤ ns.length → Q (.ref p) (upd H p (SetO w p (fun j => decide (j ∈ ns)) c))
section
variable {X : Cx}
theorem cr_setLI (hc : X.calm = true) : CallR X (.type "set") (rSetLI X.K X.w) := by
  intro pins s σ H xs us Q I r h
  obtain ⟨l, ns, rfl, hl, hz, q⟩ := h
  rw [Vals.ref1 r]
  obtain ⟨its, rv, pt, _⟩ := I.list hl
  have hb : (2000 : Nat) < scanBound := by decide +kernel
  refine setLI (P := X.prog) (w := X.w) ns (I.ok.hd hc) (show s.heap.IsList l its.toArray from pt.isList) (by simpa using rv.ints) (by omega) fun h' tk c R hcl kp => ?_
  exact ⟨.ref s.heap.objs.size, _, I.laid (t' := tk) kp (Nat.le_refl _) (setO_new R), rfl, q _ c I.fresh hcl⟩
theorem kx_setLI {K : PySem.W.Frag} {w : World} (h : X.K = K) (hw : X.w = w) (hc : X.calm = true) : CallR X (.type "set") (rSetLI K w) := by subst h; subst hw; exact cr_setLI hc
end
section
variable {K : PySem.W.Frag} {pen : Pc} {H0 : Hp} {L : Lv} {P : PyData → Prop} {ta te : TE} {tl : TA} {w : World}
theorem e_sortSetL (h : E K pen H0 ta L fun d => ∃ ns : List Int, d = .list (intsL ns) ∧ ns.length < 64 ∧ ∀ ms : List Int, ms.Pairwise (· < ·) → (∀ k, k ∈ ms ↔ k ∈ ns) → P (.list (intsL ms))) :
    E K pen H0 (tCB (rSortedSet w) (tCons (tCB (rSetLI K w) (tCons ta tNil)) tNil)) L P := fun σ G H e Q q => h σ G H e _ fun v d G1 H1 go hd ⟨ns, hds, hz, hp⟩ => by
  subst hds
  cases hd with
  | lst hs ha =>
    rename_i a xs
    have ex := dpa_ints ha
    subst ex
    refine ⟨a, ns, rfl, sqL_mono go.vw.vw hs, by omega, fun p c hpn hc => ?_⟩
    refine ⟨p, _, c, rfl, upd_same, by omega, fun ms r hm1 hm2 hm3 hr => ?_⟩
    have g2 := Go.hid go.vw (o := SetO w p (fun j => decide (j ∈ ns)) c) hpn
    have g3 := Go.new g2.vw (o := .lst (ms.map V.int)) hr
    exact q _ _ _ _ ((go.trans g2).trans g3) (.lst (.inl (.inl upd_same)) (ints_dpa ms)) (hp ms hm1 fun k => by rw [hm2 k, decide_eq_true_eq])
end
end Dl
set_option Elab.async false
set_option linter.all false
set_option maxRecDepth 100000
set_option maxHeartbeats 4000000
/-! ### list(dict), enumerate(dict), max of a list of pairs with a default -/
namespace Dl
open PySem PySem.Spec PyProof.Rows L2
section
variable {prog : Program} {w : World} {A : Around} {E : Value → Shared → Prop} {s : Shared} {it d : Addr} {i n ep : Nat} {od : Obj} {es : Array DictEntry}
theorem kNext {en : DictEntry} {Q : Value → Shared → Prop} (hit : s.heap.IsKeyIter it d i n ep) (hod : s.heap.get? d = some od) (hdd : od.data = .dict es ep) (hsz : es.size = n) (hx : es[i]? = some en)
    (hQ : ∀ h', h'.IsKeyIter it d (i + 1) n ep → Heap.SameBut it s.heap h' → Q en.key { s with heap := h' }) : wpAny (model prog w) A (Builtin.SmallTypes.nextOf (.ref it)) Q E s := by
  obtain ⟨o, ho, hc, hd⟩ := id hit
  unfold Builtin.SmallTypes.nextOf
  refine wpAny_bind (wpAny_callSpecial?_slot (name := Str.ofString "__next__") hit.typeIs F.slot_dict_keyiterator_next (wpAny_call_entry F.slot_dict_keyiterator_next hit.typeIs F.entry_dict_keyiterator_next ?_ (F.args_dict_keyiterator_next_1 _)))
  refine wpAny_bind (wpAny_pure (wpAny_bind (wpAny_bind ?_)))
  first | refine wpAny_bind (wpAny_typeNameOfWhole_keyiter hit.typeIs (wpAny_pure (wpAny_bind (wpAny_fieldsOf ho hd ?_)))) | refine wpAny_bind (wpAny_typeNameOf_keyiter hit.typeIs (wpAny_pure (wpAny_bind (wpAny_fieldsOf ho hd ?_))))
  have own0 : Builtin.Dict_items.ownsTuple "dict_keyiterator" = false := by decide
  simp only [own0, Bool.false_eq_true, if_false]
  refine (show wpAny _ _ (if (Value.ref d == Value.none) = true then _ else _) _ _ s from ?_)
  rw [if_neg (show ¬ ((Value.ref d == Value.none) = true) from Bool.false_ne_true)]
  refine wpAny_bind (wpAny_pure (wpAny_bind (wpAny_dictEntries hod hdd ?_)))
  rw [if_neg (by rw [hsz]; simp)]
  refine wpAny_bind (wpAny_pure (wpAny_bind (wpAny_dictEpoch hod hdd ?_)))
  rw [if_neg (by simp)]
  refine wpAny_pure ?_
  obtain ⟨lt, hen⟩ := Array.getElem?_eq_some_iff.mp hx
  simp only [show ¬ ((i : Int) < 0) from by omega, if_false, Int.toNat_natCast, Array.getElem?_eq_getElem lt]
  refine wpAny_bind ?_
  first | refine wpAny_bind (wpAny_typeNameOfWhole_keyiter hit.typeIs (wpAny_pure (wpAny_bind (wpAny_isOneOf_keyiter hit.typeIs ?_)))) | refine wpAny_bind (wpAny_typeNameOf_keyiter hit.typeIs (wpAny_pure (wpAny_bind (wpAny_isOneOf_keyiter hit.typeIs ?_))))
  refine (show wpAny _ _ (setField (.ref it) 1 (rawInt ((i : Int) + 1)) >>= _) _ _ s from wpAny_bind (wpAny_setField ho hd (by simp) ?_))
  have hit' : (s.heap.update it (Obj.mapFields (·.setIfInBounds 1 (rawInt ((i : Int) + 1))))).IsKeyIter it d (i + 1) n ep :=
    ⟨_, Heap.get?_update_self _ ho (Obj.isFreed_of_fields (Obj.data_mapFields hd _)), (Obj.cls_mapFields ..).trans hc, by rw [Obj.data_mapFields hd]; simp [rawInt]⟩
  refine wpAny_bind (wpAny_holding (wpAny_bind (wpAny_isOneOf_keyiter (s := { s with heap := s.heap.update it (Obj.mapFields (·.setIfInBounds 1 (rawInt ((i : Int) + 1)))) }) hit'.typeIs ?_)))
  refine (show wpAny _ _ (pure es[i].key) _ _ _ from ?_)
  rw [hen]
  exact wpAny_pure (wpAny_pure ⟨_, rfl, wpAny_pure (hQ _ hit' (Heap.SameBut.update ..))⟩)
theorem kDone {Q : Value → Shared → Prop} (hh : A.handled = none) (hit : s.heap.IsKeyIter it d i n ep) (hod : s.heap.get? d = some od) (hdd : od.data = .dict es ep) (hsz : es.size = n) (hge : n ≤ i)
    (hE : ∀ h' e, Heap.ExtBut it s.heap h' → (∃ o, h'.get? e = some o ∧ o.cls = .type "StopIteration") → E (.ref e) { s with heap := h' }) : wpAny (model prog w) A (Builtin.SmallTypes.nextOf (.ref it)) Q E s := by
  obtain ⟨o, ho, hc, hd⟩ := id hit
  unfold Builtin.SmallTypes.nextOf
  refine wpAny_bind (wpAny_callSpecial?_slot (name := Str.ofString "__next__") hit.typeIs F.slot_dict_keyiterator_next (wpAny_call_entry F.slot_dict_keyiterator_next hit.typeIs F.entry_dict_keyiterator_next ?_ (F.args_dict_keyiterator_next_1 _)))
  refine wpAny_bind (wpAny_pure (wpAny_bind (wpAny_bind ?_)))
  first | refine wpAny_bind (wpAny_typeNameOfWhole_keyiter hit.typeIs (wpAny_pure (wpAny_bind (wpAny_fieldsOf ho hd ?_)))) | refine wpAny_bind (wpAny_typeNameOf_keyiter hit.typeIs (wpAny_pure (wpAny_bind (wpAny_fieldsOf ho hd ?_))))
  have own0 : Builtin.Dict_items.ownsTuple "dict_keyiterator" = false := by decide
  simp only [own0, Bool.false_eq_true, if_false]
  refine (show wpAny _ _ (if (Value.ref d == Value.none) = true then _ else _) _ _ s from ?_)
  rw [if_neg (show ¬ ((Value.ref d == Value.none) = true) from Bool.false_ne_true)]
  refine wpAny_bind (wpAny_pure (wpAny_bind (wpAny_dictEntries hod hdd ?_)))
  rw [if_neg (by rw [hsz]; simp)]
  refine wpAny_bind (wpAny_pure (wpAny_bind (wpAny_dictEpoch hod hdd ?_)))
  rw [if_neg (by simp)]
  refine wpAny_pure ?_
  have ge' : es.size ≤ i := by rw [hsz]; exact hge
  simp only [show ¬ ((i : Int) < 0) from by omega, if_false, Int.toNat_natCast, Array.getElem?_eq_none ge']
  refine wpAny_bind ?_
  first | refine wpAny_bind (wpAny_typeNameOfWhole_keyiter hit.typeIs (wpAny_pure ?_)) | refine wpAny_bind (wpAny_typeNameOf_keyiter hit.typeIs (wpAny_pure ?_))
  refine (show wpAny _ _ (setField (.ref it) 0 .none >>= _) _ _ s from wpAny_bind (wpAny_setField ho hd (by simp) ?_))
  refine (show wpAny _ _ (newExc (.type "StopIteration") [] >>= _) _ _ _ from wpAny_bind ?_)
  simp only [newExc, newTuple]
  refine wpAny_bind (wpAny_newObj_type (wpAny_bind (m := firstArgMember _ _) (wpAny_of_eq (a := Value.none) (by first | rfl | (simp only [firstArgMember]; rfl)) (wpAny_newObj_type ?_ (by size_fits)))) (by size_fits))
  simp only [raiseNew]
  refine wpAny_bind (wpAny_handled ?_)
  first | rw [show A.in1.handled = none from hh] | rw [hh]
  exact wpAny_bind (wpAny_pure (wpAny_throw (hE _ _ (((Heap.SameBut.update ..).extBut.push _).push _) ⟨_, Heap.get?_push_size _ rfl, rfl⟩)))
end
/-- the keys of the locked dict at d, each in a new pair with its number -/
def ItEk (d : Addr) (o : Obj) (kvs : List (Key × V)) : It :=
  ⟨fun i H => H d = some (.frz o (.dK kvs)) ∧ i < kvs.length, fun i H x H' => ∃ T k v, kvs[i]? = some (k, v) ∧ x = .ref T ∧ H T = none ∧ H' = upd H T (.tup [.int (i : Nat), kV k]), fun i H => H d = some (.frz o (.dK kvs)) ∧ kvs.length ≤ i⟩
abbrev kiO (d : Addr) (n ep : Nat) : Obj := { cls := .type "dict_keyiterator", data := .fields #[.ref d, .int 0 0, .int n 0, .int ep 0] }
theorem enumNewK {d : Addr} {o : Obj} {es : Array DictEntry} {ep : Nat} (lo : (d == sysModules) = false) (hx : o.ExactDict) (hd : o.data = .dict es ep) :
    Meets (Builtin.«enumerate.__new__» ⟨[.type "enumerate", .ref d], []⟩) (fun _ R s => s.heap.get? d = some o ∧ R (.ok (.ret (.ref (s.heap.push (kiO d es.size ep)).objs.size))) { s with heap := (s.heap.push (kiO d es.size ep)).push (enO s.heap.objs.size) }) :=
  .of_wp fun prog w A R s hyp => by
    obtain ⟨hp, gl, dd, tok, out⟩ := s
    obtain ⟨hB, hR⟩ := hyp
    have sb := sub_enumerate
    have first : ∀ {A' : Around} {E : Value → Shared → Prop} {Q : Value → Shared → Prop}, Q (.ref hp.objs.size) ⟨hp.push (kiO d es.size ep), gl, dd, tok, out⟩ → wpAny (model prog w) A' (pyIter (.ref d)) Q E ⟨hp, gl, dd, tok, out⟩ := fun q => iter_keys (s := ⟨hp, gl, dd, tok, out⟩) lo hB hx hd q
    wp_walk using first
    refine wpAny_stack_any fun frames => wpAny_pure ?_
    split
    · rename_i cl _ _ _ _ _
      cases (cl == Value.type "enumerate") <;> (wp_walk using first; exact ⟨_, rfl, hR⟩)
    · wp_walk using first
      exact ⟨_, rfl, hR⟩
theorem callEnumK {prog : Program} {w : World} {A : Around} {E : Value → Shared → Prop} {s : Shared} {d : Addr} {o : Obj} {es : Array DictEntry} {ep : Nat} {Q : Value → Shared → Prop} (lo : (d == sysModules) = false) (ho : s.heap.get? d = some o) (hx : o.ExactDict) (hd : o.data = .dict es ep)
    (hq : ∀ h', IsEnum h' (s.heap.objs.size + 1) s.heap.objs.size 0 .none → h'.IsKeyIter s.heap.objs.size d 0 es.size ep → (∀ b u, s.heap.get? b = some u → h'.get? b = some u) → Q (.ref (s.heap.objs.size + 1)) { s with heap := h' }) :
    wpAny (model prog w) A (call (.type "enumerate") [.ref d]) Q E s := by
  refine callType_new F.called_enumerate (by decide) (F.typeCall_enumerate_1 _) (F.newCall_enumerate_1 _) (fun obj => F.args_object_init_2 obj _) F.entry_enumerate_new (enumNewK lo hx hd) ⟨ho, ?_⟩
  have size1 : (s.heap.push (kiO d es.size ep)).objs.size = s.heap.objs.size + 1 := Heap.size_push ..
  have isE : IsEnum ((s.heap.push (kiO d es.size ep)).push (enO s.heap.objs.size)) (s.heap.objs.size + 1) s.heap.objs.size 0 .none := by
    have := Heap.get?_push_size (s.heap.push (kiO d es.size ep)) (o := enO s.heap.objs.size) rfl
    rw [size1] at this
    exact this
  show _ ∧ _
  rw [size1]
  exact ⟨⟨_, isE, rfl⟩, hq _ isE ⟨_, Heap.get?_push_of_some _ (Heap.get?_push_size _ rfl), rfl, rfl⟩ fun b u e => Heap.get?_push_of_some _ (Heap.get?_push_of_some _ e)⟩
theorem turn_enumK {P : Program} {w : World} {K : PySem.W.Frag} {elts : List Expr} {kk : Nat} {tpos : Pos} {d e it : Addr} {o : Obj} {es : Array DictEntry} {ep : Nat} {kvs : List (Key × V)} (hod : o.data = .dict es ep) (hne : e ≠ it) :
    Turn P w K (.Tuple elts kk tpos) (ItEk d o kvs) [e, it] e (fun i h => (∃ old, IsEnum h e it ((i : Nat) : Int) old) ∧ h.IsKeyIter it d i kvs.length ep) where
  mem := List.mem_cons_self ..
  obj := fun i h st b hb => by
    obtain ⟨⟨old, hE⟩, ⟨o, ho, hc, hd⟩⟩ := st
    rcases List.mem_cons.mp hb with rfl | hb
    · exact ⟨_, hE, fun v q => nomatch q⟩
    · rw [List.mem_singleton.mp hb]
      exact ⟨o, ho, fun v q => by rw [hd] at q; cases q⟩
  keep := fun i h h' st k => ⟨st.1.imp fun old hE => k e (List.mem_cons_self ..) _ hE, st.2.at fun o q => k it (List.mem_cons_of_mem _ (List.mem_cons_self ..)) o q⟩
  item := by
    intro X hP hw hK hc i pins s σ H E I hf st hg
    subst hP hw hK
    obtain ⟨⟨old, hE⟩, hI⟩ := st
    obtain ⟨hd, hi⟩ := hg
    obtain ⟨hs, hgd, hx, es', ep', vs, hdt, hsz, kv, hm⟩ := I.frzK hd
    obtain ⟨rfl, rfl⟩ := dict_ep hod hdt
    obtain ⟨⟨k, v⟩, hkv⟩ : ∃ p, kvs[i]? = some p := ⟨kvs[i], List.getElem?_eq_getElem hi⟩
    obtain ⟨u, hu, ru⟩ := kv_get kv hkv
    obtain ⟨en, hes⟩ : ∃ en, es'[i]? = some en := ⟨es'[i], Array.getElem?_eq_getElem (by omega)⟩
    have hkey : keyIs k en.key = true := by
      obtain ⟨o2, es2, hgd2, hx2, hdt2, _, hpr, _⟩ := id hm
      rw [hgd] at hgd2
      cases hgd2
      obtain ⟨rfl, _⟩ := dict_ep hdt hdt2
      exact (hpr.get? (e := en) (by rw [Array.getElem?_toList]; exact hes) hu).1
    have le : e < s.heap.objs.size := Heap.lt_size hE
    have li : it < s.heap.objs.size := by obtain ⟨_, q, _⟩ := hI; exact Heap.lt_size q
    refine enGo (x := en.key) (R := fun g => g.IsKeyIter it d (i + 1) kvs.length ep' ∧ Heap.SameBut it s.heap g) hE (fun E' Q' q => kNext hI hgd hdt hsz hes fun h' a b => q h' ⟨a, b⟩) (fun g r => (r.2.2 e hne).trans hE) fun g h' ⟨a1, a2⟩ hO hT hsz' hk => ?_
    refine ⟨_, rfl, wpAny_letOwnedTupleGo_enum (s := { s with heap := h', toks := s.toks + 1 }) hO fun h2 hE2 sb => ?_⟩
    have gs : g.objs.size = s.heap.objs.size := a2.1
    rw [gs] at hT hsz'
    have up : ∀ c o, c ≠ e → c ≠ it → s.heap.get? c = some o → h2.get? c = some o := fun c o h1 h3 q => (sb.2 c h1).trans (hk c o h1 ((a2.2 c h3).trans q))
    have hT2 : h2.get? s.heap.objs.size = some { cls := .type "tuple", data := .seq #[.int i s.toks, en.key] } := (sb.2 _ (Nat.ne_of_gt le)).trans hT
    have okT : ObjOk X.prog X.w (upd H s.heap.objs.size (.tup [.int (i : Nat), kV k])) h2 s.heap.objs.size (.tup [.int (i : Nat), kV k]) :=
      ⟨by show 2 ≤ sizeLine; decide, [.int i s.toks, en.key], .cons ⟨_, rfl⟩ (.cons (relV_key hkey) .nil), ⟨_, hT2, rfl, _, rfl⟩⟩
    have I1 : Inv X pins σ (upd H s.heap.objs.size (.tup [.int (i : Nat), kV k])) { s with heap := h2, toks := s.toks + 1 } :=
      I.turnedNew (ch := [e, it]) (fun b ob hb q => up b ob (fun z => hb (z ▸ List.mem_cons_self ..)) (fun z => hb (z ▸ List.mem_cons_of_mem _ (List.mem_cons_self ..))) q) hf (Nat.le_refl _) okT
    rw [gs]
    refine ⟨.ref s.heap.objs.size, _, I1, rfl, ⟨_, k, v, hkv, rfl, I.hok.fresh (Nat.le_refl _), rfl⟩, ⟨⟨en.key, ?_⟩, ?_⟩, fun b hb => ?_⟩
    · rw [show ((i + 1 : Nat) : Int) = (i : Int) + 1 by omega]
      exact hE2
    · exact a1.at fun o q => (sb.2 it (Ne.symm hne)).trans (hk it o (Ne.symm hne) q)
    · have lb : b < s.heap.objs.size := by
        rcases List.mem_cons.mp hb with rfl | hb
        · exact le
        · rw [List.mem_singleton.mp hb]; exact li
      rw [upd_ne (Nat.ne_of_lt lb)]
      exact (hf b hb).1
  done := by
    intro X hP hw hK hc i pins s σ H E I hf st hg
    subst hP hw hK
    obtain ⟨⟨old, hE⟩, hI⟩ := st
    obtain ⟨hd, hi⟩ := hg
    obtain ⟨hs, hgd, hx, es', ep', vs, hdt, hsz, kv, hm⟩ := I.frzK hd
    obtain ⟨rfl, rfl⟩ := dict_ep hod hdt
    obtain ⟨f0, f1, f2, f3, f4, f5⟩ := hf it (List.mem_cons_of_mem _ (List.mem_cons_self ..))
    refine enDone (R := fun g => Heap.ExtBut it s.heap g) hE (fun E' Q' q => kDone (I.ok.hd hc) hI hgd hdt hsz hi fun g a k so => q g a k so) fun g k => ?_
    exact ⟨rfl, I.turned (t' := s.toks) (fun b o hb q => k b o hb q) f0 f1 f3 f4 f5⟩
  self := fun A i s Q E st hQ => let ⟨⟨_, hE⟩, _⟩ := st; wpAny_pyIter_enum hE hQ
def iEnumK (ta : TA) : TI := fun σ H R => ta σ H fun vs H1 => ∃ d o kvs, vs = [.ref d] ∧ H1 d = some (.frz o (.dK kvs)) ∧ R (ItEk d o kvs) H1
theorem pi_enumK {X : Cx} {e : Expr} {ta : TA} {p pos tpos : Pos} {elts : List Expr} {kk : Nat} (hg : Gl X "enumerate") (hm : X.mg "enumerate" = none) (ha : PA X [e] ta) (hs : starEach [e] X.env = [(false, eval e X.env)] := by rfl) :
    PI X (.Tuple elts kk tpos) (.Call (.Name "enumerate" p) [e] [] pos) (iEnumK ta) := by
  refine ⟨fun pins s σ H R I hyp => ?_⟩
  refine Call_ (ld_blt I hg hm boot_enumerate (PyProof.Rows.callWith_type1 (thn (ha.run pos pins s σ H _ I hyp) fun us s1 ⟨vs, H1, I1, r1, q1⟩ => ?_) hs rfl))
  obtain ⟨d, o, kvs, rfl, hd, q⟩ := q1
  rw [Vals.ref1 r1]
  obtain ⟨lo, hgd, hx, es, ep, vs, hdt, hsz, kv, hm⟩ := I1.frzK hd
  refine callEnumK lo hgd hx hdt fun h' hE hI hk => wpAny_pyIter_enum hE ?_
  rw [hsz] at hI
  have I2 : Inv X pins σ H1 { s1 with heap := h' } := I1.kept (t' := s1.toks) hk
  refine ⟨s1.heap.objs.size + 1, [s1.heap.objs.size + 1, s1.heap.objs.size], _, _, H1, rfl, I2, turn_enumK hdt (Nat.succ_ne_self _), ⟨⟨.none, hE⟩, hI⟩, fun b hb => ?_, q⟩
  have ge : s1.heap.objs.size ≤ b := by
    rcases List.mem_cons.mp hb with rfl | hb
    · exact Nat.le_succ _
    · rw [List.mem_singleton.mp hb]; exact Nat.le_refl _
  exact I1.fpOk ge (I1.hok.fresh ge)
/-! max(l, default=d) -/
def tMaxPD (K : PySem.W.Frag) (tl td : TE) : TE := fun σ H Q => tl σ H fun x H1 => td σ H1 fun y H2 => ∃ (a : Addr) (xs : List V) (ds : List PyData), x = V.ref a ∧ SqL K H2 a xs ∧ DpAll K H2 xs ds ∧ PySem.W.AlikeAll ds ∧ PyData.depthAll ds ≤ 60 ∧ (ds = [] → Q y H2) ∧
  ∀ d0 ds', ds = d0 :: ds' → ∀ (i : Nat) v, xs[i]? = some v → ds[i]? = some (PySem.W.maxD d0 ds') → Q v H2
section
variable {X : Cx} {e ed : Expr} {tl td : TE} {p pos kpos : Pos}
theorem pe_maxPD (hc : X.calm = true) (hu : X.A.units + 64 < cLine) (hgl : Gl X "max") (hm : X.mg "max" = none) (hb : bootBuiltins "max" = some (.builtin "max")) (he : PE X e tl) (hd : PE X ed td)
    (hst : backTo pos (starEach [e] X.env) = (false, eval e X.env) :: backTo pos (starEach [] X.env) := by rfl) :
    PE X (.Call (.Name "max" p) [e] [⟨some "default", ed, kpos⟩] pos) (tMaxPD X.K tl td) := by
  refine ⟨fun pins s σ H Q I h => ?_⟩
  refine wpAny_Call_Name_kw (ld_blt I hgl hm hb ?_)
  refine callWith_kw ?_ hst (by rw [hst]; rfl)
  rw [hst]
  refine Calls.spliced_cons (thn (he.run pins s σ H _ I h) fun u s1 ⟨x, H1, I1, rx, q1⟩ => Calls.spliced_nil (kws_cons (thn (hd.run pins s1 σ H1 _ I1 q1) fun u2 s2 ⟨y, H2, I2, ry, a, xs, ds, ex, hs, hdd, hal, hdp, q0, q⟩ => kws_nil ?_)))
  subst ex
  obtain rfl : u = Value.ref a := rx
  obtain ⟨its, rv, hl, _⟩ := I2.list hs
  obtain ⟨as, hr⟩ := Dp.readsAll I2 ds xs its hdd rv
  refine PySem.W.max_list_default (I.ok.hd hc) hl.isList (as := as) (by simpa using hr) hal (by omega) (fun hn h' tk hk => ⟨y, H2, I2.kept (t' := tk) hk, ry, q0 hn⟩) fun d0 ds' i v h' tk bs hds hv hrd hk => ?_
  have hv' : its[i]? = some v := by simpa using hv
  obtain ⟨z, hz, hzv⟩ : ∃ z, xs[i]? = some z ∧ RelV z v := by
    have hlen := rv.length
    have hi : i < its.length := (List.getElem?_eq_some_iff.mp hv').1
    obtain ⟨z, hz⟩ : ∃ z, xs[i]? = some z := ⟨_, List.getElem?_eq_getElem (by omega)⟩
    obtain ⟨w, hw, rw⟩ := rv.get hz
    rw [hv'] at hw
    cases hw
    exact ⟨z, hz, rw⟩
  obtain ⟨d, hdi, hdy⟩ := dpa_getV hdd hz
  have I' := I2.kept (t' := tk) hk
  obtain ⟨cs, hr2⟩ := Dp.reads I' d z v hdy hzv
  subst hds
  have e : d = PySem.W.maxD d0 ds' := PySem.W.alike_unique d _ v cs bs (hal.1 d (List.mem_of_getElem? hdi) _ (maxD_mem d0 ds')) hr2 hrd
  exact ⟨z, H2, I', hzv, q d0 ds' rfl i z hz (e ▸ hdi)⟩
theorem kx_maxPD {K : PySem.W.Frag} (h : X.K = K) (hc : X.calm = true) (hu : X.A.units + 64 < cLine) (hgl : Gl X "max") (hm : X.mg "max" = none) (hb : bootBuiltins "max" = some (.builtin "max")) (he : PE X e tl) (hd : PE X ed td)
    (hst : backTo pos (starEach [e] X.env) = (false, eval e X.env) :: backTo pos (starEach [] X.env) := by rfl) :
    PE X (.Call (.Name "max" p) [e] [⟨some "default", ed, kpos⟩] pos) (tMaxPD K tl td) := by subst h; exact pe_maxPD hc hu hgl hm hb he hd hst
end
section
variable {K : PySem.W.Frag} {pen : Pc} {H0 : Hp} {L : Lv} {P : PyData → Prop} {tl td te : TE} {Pl : List PyData → Prop}
/-- list(d), d one's own dict with ints as keys -/
theorem el_listD {j : Nat} {m : List (Key × PyData)} {ks : List Int} (hj : RdO L j (.dK m)) (hk : m.map (·.1) = ks.map Sum.inl) (h : Pl (intsL ks)) : EL K pen H0 (tCB rListD (tCons (tVar j) tNil)) L Pl := fun σ G H e Q q => by
  obtain ⟨l, ho, k1, k3, k6⟩ := e.rd hj
  obtain ⟨kvs, rfl, k6⟩ := k6.dK
  refine ⟨_, k1, l, kvs, rfl, k3, fun r hn => ?_⟩
  have ek : (kvs.map fun kv => kV kv.1) = ks.map V.int := by
    have := kv_keys k6
    rw [hk] at this
    rw [show (kvs.map fun kv => kV kv.1) = (kvs.map (·.1)).map kV from by rw [List.map_map]; rfl, this, List.map_map]
    rfl
  rw [ek]
  have g := Go.hid e.vw (o := .lst (ks.map V.int)) hn
  exact q r _ _ G _ g upd_same (e.gnone hn) hn (ints_dpa ks) h
theorem e_maxPD (h : E K pen H0 tl L fun a => ∃ cs : List (Int × Int), a = .list (pairsL cs) ∧ E K pen H0 td L fun y => (cs = [] → P y) ∧ ∀ m ∈ cs, (∀ y ∈ cs, y.1 ≤ m.1) → P (pairD m)) : E K pen H0 (tMaxPD K tl td) L P := fun σ G H e Q q =>
  h σ G H e _ fun v a G1 H1 g1 d1 ⟨cs, hcs, h1⟩ => by
    subst hcs
    refine h1 σ G1 H1 (e.go g1) _ fun w y G2 H2 g2 d2 ⟨p0, p⟩ => ?_
    cases d1 with
    | lst hs ha =>
      rename_i l vs
      refine ⟨l, vs, pairsL cs, rfl, sqL_mono (g2.gg.trans g2.vw.vw) hs, dpa_mono (g2.gg.trans g2.vw.vw) _ _ ha, alike_pairs cs, Nat.le_trans (depth_pairs cs) (by decide), fun hn => ?_, fun d0 ds' hds i z hz hd => ?_⟩
      · have : cs = [] := by
          cases cs with
          | nil => rfl
          | cons _ _ => cases hn
        exact q _ _ G2 H2 (g1.trans g2) d2 (p0 this)
      · cases cs with
        | nil => cases hds
        | cons c0 cs =>
          have e1 : d0 = pairD c0 := (List.cons.inj hds).1.symm
          have e2 : ds' = pairsL cs := (List.cons.inj hds).2.symm
          subst e1 e2
          obtain ⟨m, m1, m2, m3⟩ := maxD_pairs c0 cs
          obtain ⟨d, k1, k2⟩ := dpa_getV ha hz
          have e3 : d = pairD m := by
            rw [← m2]
            exact Option.some.inj (k1.symm.trans hd)
          subst e3
          exact q z _ G2 H2 (g1.trans g2) (dp_mono g2.gg _ _ k2) (p m m1 m3)
/-- a dict of ints -/
def dctI (ms : List (Int × Int)) : List (Key × PyData) := ms.map fun q => (Sum.inl q.1, PyData.int q.2)
def kvsI (ms : List (Int × Int)) : List (Key × V) := ms.map fun q => (Sum.inl q.1, V.int q.2)
theorem kv_dctI {G : Hp} : ∀ {ms : List (Int × Int)} {kvs : List (Key × V)}, KvOk K G kvs (dctI ms) → kvs = kvsI ms
  | [], _, h => by cases h; rfl
  | q :: ms, _, h => by
    cases h with
    | cons h1 h2 =>
      rename_i kv kvs
      obtain ⟨k, v⟩ := kv
      obtain ⟨e1, e2⟩ := h1
      cases e2
      dsimp only at e1
      subst e1
      rw [kv_dctI h2]
      rfl
theorem upd_comm {H : Hp} {a b : Addr} {x y : HO} (h : a ≠ b) : upd (upd H a x) b y = upd (upd H b y) a x := by
  funext c
  by_cases h1 : c = a
  · subst h1
    rw [upd_ne h, upd_same, upd_same]
  · by_cases h2 : c = b
    · subst h2
      rw [upd_same, upd_ne h1, upd_same]
    · rw [upd_ne h2, upd_ne h1, upd_ne h1, upd_ne h2]
/-- [a pair for i, k in enumerate(d)], d one's own dict, only read -/
theorem el_enumD {j a b : Nat} {ms : List (Int × Int)} {f : Nat → Int × Int → Int × Int} (hj : L[j]? = some (some (.own (.dK (dctI ms))))) (hz : ms.length ≤ 100000) (hja : j ≠ a) (hjb : j ≠ b) (hab : a ≠ b) (hla : a < L.length) (hlb : b < L.length)
    (ht : ∀ (i : Nat) q (σ2 : L2.St) (H4 : Hp) (l : Addr) (Q : VK), ms[i]? = some q → σ2[a]? = some (some (.int (i : Nat))) → σ2[b]? = some (some (.int q.1)) → σ2[j]? = some (some (.ref l)) → Rd H4 l (.dK (kvsI ms)) → (∀ p, H4 p = none → Q (.ref p) (upd H4 p (.tup [.int (f i q).1, .int (f i q).2]))) → te σ2 H4 Q)
    (h : Pl (pairsL (ms.mapIdx f))) :
    EL K pen H0 (tLockE (tLc (iEnumK (tCons (tVar j) tNil)) (gTup K 2 (gCons (gName a) (gCons (gName b) gNil))) tYes te [a, b])) L Pl := fun σ G H e Q q => by
  obtain ⟨l, ho, k1, k3, k6⟩ := e.own hj
  obtain ⟨kvs, rfl, k6⟩ := k6.dK
  have ek := kv_dctI k6
  subst ek
  refine ⟨l, _, k3, trivial, fun od => ⟨_, k1, l, od, kvsI ms, rfl, upd_same, fun D hD => ?_⟩⟩
  have nDl : D ≠ l := fun z => by rw [z, upd_same] at hD; cases hD
  have hD0 : H D = none := by rw [upd_ne nDl] at hD; exact hD
  have gl : G l = none := by
    obtain ⟨v, j1, l2, ho2, j2, j3, j4, j5, j6⟩ := e.sl j _ hj
    rw [k1] at j1
    cases j1
    cases j2
    exact j5
  have back : ∀ {H' : Hp}, H' l = some (.frz od (.dK (kvsI ms))) → upd (upd H' l (.dK (kvsI ms))) l (.frz od (.dK (kvsI ms))) = H' := fun {H'} h' => by
    funext c
    by_cases z : c = l
    · subst z; rw [upd_same, h']
    · rw [upd_ne z, upd_ne z]
  have len : (kvsI ms).length = ms.length := List.length_map _
  refine ⟨fun i n H' => n = ms.length - i ∧ i ≤ ms.length ∧ H' l = some (.frz od (.dK (kvsI ms))) ∧ ∃ G' vs, Go pen G H G' (upd H' l (.dK (kvsI ms))) ∧ G' D = none ∧ H' D = some (.lst vs) ∧ DpAll K G' vs (pairsL ((ms.mapIdx f).take i)), ⟨ms.length, rfl, Nat.zero_le _, ?_, G, [], ?_, e.gnone hD0, upd_same, .nil⟩, ?_⟩
  · rw [upd_ne (Ne.symm nDl), upd_same]
  · have : upd (upd (upd H l (.frz od (.dK (kvsI ms)))) D (.lst [])) l (.dK (kvsI ms)) = upd H D (.lst []) := by
      funext c
      by_cases z : c = l
      · subst z; rw [upd_same, upd_ne (Ne.symm nDl), k3]
      · rw [upd_ne z]
        by_cases z2 : c = D
        · subst z2; rw [upd_same, upd_same]
        · rw [upd_ne z2, upd_ne z2, upd_ne z]
    rw [this]
    exact Go.hid e.vw hD0
  · rintro i n H' ⟨rfl, hi, hl, G', vs, g, gD, hDv, hda⟩
    by_cases hlt : i < ms.length
    · refine .inr ⟨⟨hl, by rw [len]; exact hlt⟩, fun H2 => H2 l = some (.frz od (.dK (kvsI ms))) ∧ ∃ G' vs, Go pen G H G' (upd H2 l (.dK (kvsI ms))) ∧ G' D = none ∧ H2 D = some (.lst vs) ∧ DpAll K G' vs (pairsL ((ms.mapIdx f).take (i + 1))), fun H2 ⟨a1, a2⟩ => ⟨ms.length - (i + 1), by omega, rfl, hlt, a1, a2⟩, fun x H2 hx => ?_⟩
      obtain ⟨T, k, v, hkv, rfl, hT, rfl⟩ := hx
      have hq : ms[i]? = some ms[i] := List.getElem?_eq_getElem hlt
      unfold kvsI at hkv
      rw [List.getElem?_map, hq] at hkv
      cases hkv
      have nTl : T ≠ l := fun z => by rw [z, hl] at hT; cases hT
      have nTD : T ≠ D := fun z => by rw [z, hDv] at hT; cases hT
      have g2 := Go.new g.vw (p := T) (o := .tup [.int (i : Nat), .int ms[i].1]) (by rw [upd_ne nTl]; exact hT)
      rw [upd_comm (Ne.symm nTl)] at g2
      have aw : (wipe σ [a, b]).length = L.length := by rw [wipe_length]; exact e.len
      refine ⟨T, [.int (i : Nat), .int ms[i].1], rfl, .inl (.inl upd_same), rfl, _, _, rfl, _, _, rfl, rfl, wipe2 _ _ _ _ _, ?_⟩
      unfold tYes
      dsimp only
      rw [if_pos rfl]
      have jw : (wipe σ [a, b])[j]? = some (some (.ref l)) := by
        rw [wipe_out (by intro z; rcases List.mem_cons.mp z with z | z; exact hja z; exact hjb (List.mem_singleton.mp z))]
        exact k1
      refine ht i ms[i] _ _ l _ hq ?_ ?_ ?_ (.inr ⟨od, by rw [upd_ne (Ne.symm nTl)]; exact hl⟩) fun p hp => ?_
      · rw [List.getElem?_set_ne (Ne.symm hab), List.getElem?_set_self (by omega)]
      · rw [List.getElem?_set_self (by rw [List.length_set]; omega)]
      · rw [List.getElem?_set_ne (Ne.symm hjb), List.getElem?_set_ne (Ne.symm hja)]
        exact jw
      · have npl : p ≠ l := fun z => by rw [z, upd_ne (Ne.symm nTl), hl] at hp; cases hp
        have npD : p ≠ D := fun z => by rw [z, upd_ne (Ne.symm nTD), hDv] at hp; cases hp
        have g3 := Go.new g2.vw (p := p) (o := .tup [.int (f i ms[i]).1, .int (f i ms[i]).2]) (by rw [upd_ne npl]; exact hp)
        rw [upd_comm (Ne.symm npl)] at g3
        have hlen := dpa_len hda
        refine ⟨vs, by rw [upd_ne (Ne.symm npD), upd_ne (Ne.symm nTD)]; exact hDv, ?_, ?_, upd (upd G' T (.tup [.int (i : Nat), .int ms[i].1])) p (.tup [.int (f i ms[i]).1, .int (f i ms[i]).2]), vs ++ [.ref p], ?_, ?_, upd_same, ?_⟩
        · rw [hlen]
          unfold pairsL
          rw [List.length_map, List.length_take]
          exact Nat.lt_of_le_of_lt (Nat.min_le_left _ _) (Nat.lt_of_lt_of_le hlt (Nat.le_trans hz (by decide : 100000 ≤ sizeLine)))
        · rw [upd_ne (Ne.symm nDl), upd_ne (Ne.symm npl), upd_ne (Ne.symm nTl)]
          exact hl
        · rw [upd_comm nDl]
          exact Go.mut e.vw hD0 (by rw [upd_ne (Ne.symm npD), upd_ne (Ne.symm nTD)]; exact gD) (code_ne (o := .lst vs) (by rw [upd_ne nDl]; rw [upd_ne (Ne.symm npD), upd_ne (Ne.symm nTD)]; exact hDv) rfl) ((g.trans g2).trans g3)
        · rw [upd_ne (Ne.symm npD), upd_ne (Ne.symm nTD)]
          exact gD
        · have hm : (ms.mapIdx f).length = ms.length := List.length_mapIdx
          rw [List.take_succ_eq_append_getElem (by rw [hm]; exact hlt)]
          unfold pairsL
          rw [List.map_append]
          refine dpa_app (dpa_mono (g2.gg.trans g3.gg) _ _ hda) (.cons ?_ .nil)
          rw [List.getElem_mapIdx]
          exact .tup (.inl (.inl upd_same)) (.cons (.int _) (.cons (.int _) .nil))
    · have ei : i = ms.length := by omega
      subst ei
      refine .inl ⟨⟨hl, by rw [len]; exact Nat.le_refl _⟩, hl, ?_⟩
      have hm : (ms.mapIdx f).length = ms.length := List.length_mapIdx
      rw [List.take_of_length_le (by rw [hm]; exact Nat.le_refl _)] at hda
      exact q D vs _ G' _ g (by rw [upd_ne nDl]; exact hDv) gD hD0 hda h
end
end Dl
set_option Elab.async false
set_option linter.all false
set_option maxRecDepth 100000
set_option maxHeartbeats 4000000
/-! ### what a call tells as new is looked at, then spoilt, while lists of one's own stand by -/
namespace Dl
open PySem PySem.Spec PyProof.Rows L2
section
variable {K : PySem.W.Frag} {H0 : Hp} {L : Lv} {tl : TA} {tt : TT} {t1 tr : TS} {D : Dn}
theorem s_spoil {α : Type} {pn : Option Pn} {ts : List Addr} {Wf : α → Prop} {enc : α → List PyData} {res : α → PyData → Prop} {X : XK} {i k : Nat}
    (h : EA K ⟨pn, ts⟩ H0 tl (lookL L) fun ds => ∃ x, ds = enc x ∧ Wf x ∧ ∀ d, res x d → (∃ cs es, d = .tuple cs ∧ cs[k]? = some (.list es)) ∧ ET K ⟨pn, ts⟩ H0 tt ((lookL L).set i (some (.d d))) fun b => b = false)
    (hr : S K ⟨pn, ts⟩ H0 tr (L.set i none) D) (hi : i < L.length) (nf : noFr L = true := by rfl) :
    S K ⟨pn, ts⟩ H0 (tSeq (tAsg (tCall (SpXF K ts Wf enc res) [] X tl) (gName i)) (tSeq (tIfS tt t1 tNext) (tSeq (tDrop (tBM0 K "list" rClear (tOp (rIxT K) (tVar i) (tC (.int k))))) tr))) L D := fun σ G H N e n1 n2 n3 n4 n5 n6 => by
  have eL := e.look
  refine h σ _ H eL _ fun vs ds G1 H1 go hd ⟨x, hx, hw, hres⟩ => ⟨x, G1, go.vw.plain, by rw [List.append_nil, ← hx]; exact hd, hw, fun v d G2 H2 go2 hnd p => ?_⟩
  have g3 : Go ⟨pn, ts⟩ G1 H1 (vmax H1 G2 H2) H2 := (Go.see go.vw.plain go2).lift go.vw
  obtain ⟨⟨cs, es, rfl, hk⟩, ht⟩ := hres _ p
  have hdp : Dp K (vmax H1 G2 H2) v (.tuple cs) := dp_mono vnew_max _ _ (nd_dp _ _ hnd)
  have e3 := (eL.go (go.trans g3)).set (i := i) hdp
  cases hnd with
  | tup hs ha =>
    rename_i t xs
    obtain ⟨w, q1, q2⟩ := nda_get ha hk
    cases q2 with
    | lst hW hWa =>
      rename_i l2 vs2
      refine ht _ _ H2 e3 _ fun b G4 H4 g4 hb => ?_
      subst hb
      have ge : Same (vnew H1 G2 H2) G4 := vnew_max.trans g4.gg
      have hl4 : H4 l2 = some (.lst vs2) := g4.vw.vw _ _ (ge _ _ hW)
      have gt : Go ⟨pn, ts⟩ (vmax H0 G H) H G4 H4 := (go.trans g3).trans g4
      have hH1 : H1 l2 = none := by
        rcases vnew_cases hW with ⟨z1, z2⟩ | ⟨z1, z2, z3, _⟩
        · cases z2
        · exact z2
      have hH : H l2 = none := by
        cases z : H l2 with
        | none => rfl
        | some o => exact absurd hH1 (go.dom (by rw [z]; exact fun z => by cases z))
      have ne : ∀ a o, H a = some o → a ≠ l2 := fun a o q z => by rw [z, hH] at q; cases q
      have kp : ∀ a o, ¬ IsPn ⟨pn, ts⟩ a → H a = some o → upd H4 l2 (.lst []) a = some o := fun a o np q => by rw [upd_ne (ne a o q)]; exact gt.od a o np q
      have ev : Ev K ⟨pn, ts⟩ H0 G (upd H4 l2 (.lst [])) (σ.set i (some (.ref t))) (L.set i none) := by
        have nj : ∀ (j : Nat) (av : AV), (L.set i none)[j]? = some (some av) → i ≠ j := fun j av hj q => by
          subst q
          rw [List.getElem?_set_self hi] at hj
          cases hj
        refine ⟨⟨fun a o q => kp a o (fun z => by have := e.vw.no a z; rw [q] at this; cases this) (e.vw.vw a o q), e.vw.no, gt.vw.ok.upd e.vw.ok hH (code_ne hl4 rfl)⟩, e.h0, fun a ha' => ?_, by rw [List.length_set, List.length_set]; exact e.len, fun j av hj => ?_, fun j k' ds' es' l h1 h2 h3 h4 => ?_⟩
        · have z := e.dom a ha'
          cases q : H a with
          | none => exact absurd q z
          | some o =>
            rw [upd_ne (ne a o q)]
            exact gt.dom z
        · have q := nj j av hj
          rw [List.getElem?_set_ne q] at hj
          obtain ⟨u, k1, k2⟩ := e.sl j av hj
          refine ⟨u, by rw [List.getElem?_set_ne q]; exact k1, ?_⟩
          cases av with
          | d y => exact k2
          | pen => exact k2
          | own o =>
            obtain ⟨l, ho, rfl, m1, m2, m3, m4⟩ := k2
            exact ⟨l, ho, rfl, kp l ho (fun z => e.h0.there z m2) m1, m2, m3, m4⟩
          | bor o =>
            obtain ⟨l, ho, rfl, m1, m2, m3, m4⟩ := k2
            exact ⟨l, ho, rfl, kp l ho m3 m1, m2, m3, m4⟩
          | fr y => exact (noFr_get nf hj).elim
        · have z1 := nj j _ h1
          have z2 := nj k' _ h2
          rw [List.getElem?_set_ne z1] at h1 h3
          rw [List.getElem?_set_ne z2] at h2 h4
          exact e.ow j k' ds' es' l h1 h2 h3 h4
      have gx : Gx ⟨pn, ts⟩ H0 G H G (upd H4 l2 (.lst [])) := ⟨Same.refl _, fun _ _ => rfl, fun a o np _ q => kp a o np q⟩
      have k1 : (σ.set i (some (.ref t)))[i]? = some (some (.ref t)) := List.getElem?_set_self (by rw [e.len]; exact hi)
      refine (show tSeq (tDrop (tBM0 K "list" rClear (tOp (rIxT K) (tVar i) (tC (.int k))))) tr N (σ.set i (some (.ref t))) H4 from ?_)
      refine ⟨_, k1, t, xs, k, .ref l2, rfl, rfl, sqT_mono (ge.trans g4.vw.vw) hs, atI_nat q1, .inl ⟨rfl, vs2, .inl (.inl hl4)⟩, l2, vs2, rfl, rfl, hl4, ?_⟩
      exact hr _ G _ N ev (fun σ' G' H' L' x e' q => n1 σ' G' H' L' (gx.trans x) e' q) (fun v d G' H' x vw hd q => n2 v d G' H' (gx.trans x) vw hd q) (fun σ' G' H' L' x e' q => n3 σ' G' H' L' (gx.trans x) e' q) (fun σ' G' H' L' x e' q => n4 σ' G' H' L' (gx.trans x) e' q)
        (fun v d G' H' x vw hd q => n5 v d G' H' (gx.trans x) vw hd q) (fun l ho o G' H' x vw h1 h2 h3 h4 q => n6 l ho o G' H' (gx.trans x) vw h1 h2 h3 h4 q)
end
end Dl
set_option Elab.async false
set_option linter.all false
set_option maxRecDepth 100000
set_option maxHeartbeats 4000000
/-! ### defs that may raise one class of their own; try .. except -/
namespace Dl
open PySem PySem.Spec PyProof.Rows L2
/-- told as data, or the class at C raised -/
def SpXR {α : Type} (K : PySem.W.Frag) (ts : List Addr) (C : Addr) (Wf : α → Prop) (enc : α → List PyData) (res : α → PyData → Prop) (bad : α → Prop) : Sp := fun vs H Q E => ∃ (x : α) (G : Hp), Vw ⟨none, ts⟩ G H ∧ DpAll K G vs (enc x) ∧ Wf x ∧
  (∀ v d G' H', Go ⟨none, ts⟩ G H G' H' → Dp K G' v d → res x d → Q v H') ∧ (bad x → ∀ G' H', Go ⟨none, ts⟩ G H G' H' → E (.ref C) none H')
section
variable {K : PySem.W.Frag} {pen : Pc} {H0 : Hp} {L : Lv} {P P' : PyData → Prop} {ta tb te : TE} {tl : TA} {tt : TT} {ti : TI} {t u : TS} {D : Dn} {g : TG} {Eo : XK} {C : Addr} {bad : Prop}
/-- statements that may raise: the way out is good, where bad -/
def SX (K : PySem.W.Frag) (pen : Pc) (H0 : Hp) (Eo : XK) (C : Addr) (bad : Prop) (t : TS) (L : Lv) (D : Dn) : Prop := ∀ (σ : L2.St) (G H : Hp) (N : Ends), Ev K pen H0 G H σ L →
  (∀ σ' G' H' L', Gx pen H0 G H G' H' → Ev K pen H0 G' H' σ' L' → D.nx L' → N.nx σ' H') →
  (∀ v d G' H', Gx pen H0 G H G' H' → Vw pen G' H' → Dp K G' v d → D.rt d → N.rt v H') →
  (∀ σ' G' H' L', Gx pen H0 G H G' H' → Ev K pen H0 G' H' σ' L' → D.bk L' → N.bk σ' H') →
  (∀ σ' G' H' L', Gx pen H0 G H G' H' → Ev K pen H0 G' H' σ' L' → D.ct L' → N.ct σ' H') →
  (∀ v d G' H', Gx pen H0 G H G' H' → Vw pen G' H' → Nd K (vnew H0 G' H') v d → D.rn d → N.rt v H') →
  (∀ l ho o G' H', Gx pen H0 G H G' H' → Vw pen G' H' → H' l = some ho → H0 l = none → G' l = none → OwnOk K G' l ho o → D.ro o → N.rt (.ref l) H') →
  (bad → ∀ G' H', Gx pen H0 G H G' H' → Vw pen G' H' → Eo (.ref C) none H') → t N σ H
def EX (K : PySem.W.Frag) (pen : Pc) (H0 : Hp) (Eo : XK) (C : Addr) (bad : Prop) (te : TE) (L : Lv) (P : PyData → Prop) : Prop := ∀ (σ : L2.St) (G H : Hp), Ev K pen H0 G H σ L → ∀ Q : VK, (∀ v d G' H', Go pen G H G' H' → Dp K G' v d → P d → Q v H') →
  (bad → ∀ G' H', Go pen G H G' H' → Eo (.ref C) none H') → te σ H Q
theorem sx_of (h : S K pen H0 t L D) : SX K pen H0 Eo C bad t L D := fun σ G H N e n1 n2 n3 n4 n5 n6 _ => h σ G H N e n1 n2 n3 n4 n5 n6
theorem SX.at {σ : L2.St} {G H G1 H1 : Hp} {N : Ends} (h : SX K pen H0 Eo C bad t L D) (e : Ev K pen H0 G1 H1 σ L) (x : Gx pen H0 G H G1 H1) (n1 : ∀ σ' G' H' L', Gx pen H0 G H G' H' → Ev K pen H0 G' H' σ' L' → D.nx L' → N.nx σ' H')
    (n2 : ∀ v d G' H', Gx pen H0 G H G' H' → Vw pen G' H' → Dp K G' v d → D.rt d → N.rt v H') (n3 : ∀ σ' G' H' L', Gx pen H0 G H G' H' → Ev K pen H0 G' H' σ' L' → D.bk L' → N.bk σ' H') (n4 : ∀ σ' G' H' L', Gx pen H0 G H G' H' → Ev K pen H0 G' H' σ' L' → D.ct L' → N.ct σ' H')
    (n5 : ∀ v d G' H', Gx pen H0 G H G' H' → Vw pen G' H' → Nd K (vnew H0 G' H') v d → D.rn d → N.rt v H') (n6 : ∀ l ho o G' H', Gx pen H0 G H G' H' → Vw pen G' H' → H' l = some ho → H0 l = none → G' l = none → OwnOk K G' l ho o → D.ro o → N.rt (.ref l) H')
    (n7 : bad → ∀ G' H', Gx pen H0 G H G' H' → Vw pen G' H' → Eo (.ref C) none H') : t N σ H1 :=
  h σ G1 H1 N e (fun σ2 G2 H2 L2 x2 e2 q => n1 σ2 G2 H2 L2 (x.trans x2) e2 q) (fun v d G2 H2 x2 vw hd q => n2 v d G2 H2 (x.trans x2) vw hd q) (fun σ2 G2 H2 L2 x2 e2 q => n3 σ2 G2 H2 L2 (x.trans x2) e2 q) (fun σ2 G2 H2 L2 x2 e2 q => n4 σ2 G2 H2 L2 (x.trans x2) e2 q)
    (fun v d G2 H2 x2 vw hd q => n5 v d G2 H2 (x.trans x2) vw hd q) (fun l ho o G2 H2 x2 vw h1 h2 h3 h4 q => n6 l ho o G2 H2 (x.trans x2) vw h1 h2 h3 h4 q) fun hb G2 H2 x2 vw => n7 hb G2 H2 (x.trans x2) vw
theorem sx_seq (h : SX K pen H0 Eo C bad t L { D with nx := fun L' => SX K pen H0 Eo C bad u L' D }) : SX K pen H0 Eo C bad (tSeq t u) L D := fun σ G H N e n1 n2 n3 n4 n5 n6 n7 =>
  h σ G H _ e (fun σ' G' H' L' x e' h' => h'.at e' x n1 n2 n3 n4 n5 n6 n7) n2 n3 n4 n5 n6 n7
theorem sx_if (h : ET K pen H0 tt L fun b => (b = true → SX K pen H0 Eo C bad t L D) ∧ (b = false → SX K pen H0 Eo C bad u L D)) : SX K pen H0 Eo C bad (tIfS tt t u) L D := fun σ G H N e n1 n2 n3 n4 n5 n6 n7 =>
  h σ G H e _ fun b G' H' go p => by
    cases b with
    | true => exact (p.1 rfl).at (e.go go) (e.gx go) n1 n2 n3 n4 n5 n6 n7
    | false => exact (p.2 rfl).at (e.go go) (e.gx go) n1 n2 n3 n4 n5 n6 n7
theorem sx_ret (h : EX K pen H0 Eo C bad te L D.rt) : SX K pen H0 Eo C bad (tRet te) L D := fun σ G H N e _ n2 _ _ _ _ n7 => h σ G H e _ (fun v d G' H' g hd p => n2 v d G' H' (e.gx g) g.vw hd p) fun hb G' H' g => n7 hb G' H' (e.gx g) g.vw
theorem sx_asg {i : Nat} (h : EX K pen H0 Eo C bad te L fun d => D.nx (L.set i (some (.d d)))) : SX K pen H0 Eo C bad (tAsg te (gName i)) L D := fun σ G H N e n1 _ _ _ _ _ n7 =>
  h σ G H e _ (fun v d G' H' g hd p => n1 _ G' H' _ (e.gx g) ((e.go g).set hd) p) fun hb G' H' g => n7 hb G' H' (e.gx g) g.vw
/-- raise C(e) -/
theorem sx_raise (hb : bad) (h : E K pen H0 te L fun _ => True) : SX K pen H0 Eo C bad (fun _ σ H => te σ H fun _ H1 => Eo (.ref C) none H1) L D := fun σ G H N e _ _ _ _ _ _ n7 =>
  h σ G H e _ fun v d G' H' g _ _ => n7 hb G' H' (e.gx g) g.vw
theorem sx_raise0 (hb : bad) : SX K pen H0 Eo C bad (fun _ σ H => Eo (.ref C) none H) L D := fun σ G H N e _ _ _ _ _ _ n7 => n7 hb G H .refl e.vw
theorem sx_forI (h : IT K pen H0 ti L fun xs => ∃ I : Nat → Lv → Prop, Wk I 0 L ∧ (∀ (i : Nat) x L', xs[i]? = some x → I i L' → GT K pen H0 g x L' fun L2 => SX K pen H0 Eo C bad t L2 { D with nx := Wk I (i + 1), ct := Wk I (i + 1), bk := D.nx }) ∧ (∀ L', I xs.length L' → ∀ L4, Sub L' L4 → D.nx L4)) :
    SX K pen H0 Eo C bad (tFor ti g t) L D := fun σ G H N e n1 n2 n3 n4 n5 n6 n7 => h σ G H e _ fun J G1 H1 xs go w ⟨I, i0, is, id⟩ => by
  have x1 := e.gx go
  refine ⟨fun i m σ' H' => m = xs.length - i ∧ i ≤ xs.length ∧ ∃ G' L', Gx pen H0 G1 H1 G' H' ∧ Ev K pen H0 G' H' σ' L' ∧ I i L', ⟨xs.length, rfl, Nat.zero_le _, ?_⟩, ?_⟩
  · obtain ⟨L3, s, hI⟩ := i0
    exact ⟨G1, L3, .refl, (e.go go).sub s, hI⟩
  rintro i m σ1 H2 ⟨rfl, hi, G2, L2, x2, e2, q2⟩
  obtain ⟨w1, w2⟩ := w G2 H2 x2.gg e2.vw
  by_cases hlt : i < xs.length
  · obtain ⟨k1, k2⟩ := w1 i _ (List.getElem?_eq_getElem hlt)
    refine .inr ⟨k1, fun σ' H' => ∃ G' L', Gx pen H0 G1 H1 G' H' ∧ Ev K pen H0 G' H' σ' L' ∧ Wk I (i + 1) L', fun σ' H' ⟨G', L', a, b, L3, s, c⟩ => ⟨xs.length - (i + 1), by omega, rfl, hlt, G', L3, a, b.sub s, c⟩, fun v H3 hy => ?_⟩
    obtain ⟨G3, g3, d3⟩ := k2 v H3 hy
    have x3 := x2.trans (e2.gx g3)
    refine is i _ L2 (List.getElem?_eq_getElem hlt) q2 σ1 G3 H3 v (e2.go g3) d3 _ fun σ4 L4 e4 h4 => ?_
    exact h4 σ4 G3 H3 _ e4 (fun σ5 G5 H5 L5 x5 e5 q5 => ⟨G5, L5, x3.trans x5, e5, q5⟩) (fun v d G5 H5 x5 vw hd q5 => n2 v d G5 H5 (x1.trans (x3.trans x5)) vw hd q5)
      (fun σ5 G5 H5 L5 x5 e5 q5 => n1 σ5 G5 H5 L5 (x1.trans (x3.trans x5)) e5 q5) (fun σ5 G5 H5 L5 x5 e5 q5 => ⟨G5, L5, x3.trans x5, e5, q5⟩) (fun v d G5 H5 x5 vw hd q5 => n5 v d G5 H5 (x1.trans (x3.trans x5)) vw hd q5) (fun l ho o G5 H5 x5 vw h1 h2 h3 h4 q5 => n6 l ho o G5 H5 (x1.trans (x3.trans x5)) vw h1 h2 h3 h4 q5)
      fun hb G5 H5 x5 vw => n7 hb G5 H5 (x1.trans (x3.trans x5)) vw
  · have e1 : i = xs.length := by omega
    subst e1
    exact .inl ⟨w2, n1 σ1 G2 H2 L2 (x1.trans x2) e2 (id L2 q2 L2 (Sub.refl _))⟩
theorem ex_of (h : E K pen H0 te L P) : EX K pen H0 Eo C bad te L P := fun σ G H e Q q _ => h σ G H e Q q
theorem ex_op {r : R2} (h : EX K pen H0 Eo C bad ta L fun a => E K pen H0 tb L fun b => R2d K pen r a b P) : EX K pen H0 Eo C bad (tOp r ta tb) L P := fun σ G H e Q q qb =>
  h σ G H e _ (fun v a G1 H1 g1 d1 h1 => h1 σ G1 H1 (e.go g1) _ fun w b G2 H2 g2 d2 h2 => h2 v w G2 H2 g2.vw (dp_mono g2.gg _ _ d1) d2 _ fun z c G3 H3 g3 d3 p => q z c G3 H3 ((g1.trans g2).trans g3) d3 p) qb
/-- a call of a def that may raise, within one that may -/
theorem ex_call {α : Type} {pn : Option Pn} {ts : List Addr} {Wf : α → Prop} {enc : α → List PyData} {res : α → PyData → Prop} {bd : α → Prop} (h : EA K ⟨pn, ts⟩ H0 tl L fun ds => ∃ x, ds = enc x ∧ Wf x ∧ (bd x → bad) ∧ ∀ d, res x d → P d) :
    EX K ⟨pn, ts⟩ H0 Eo C bad (tCallS (SpXR K ts C Wf enc res bd) (fun _ => Eo) tl) L P := fun σ G H e Q q qb =>
  h σ G H e _ fun vs ds G1 H1 go hd ⟨x, hx, hw, hb, hr⟩ => ⟨x, G1, go.vw.plain, by rw [← hx]; exact hd, hw, fun v d G' H' g2 hd2 p => q v d G' H' (go.trans (g2.lift go.vw)) hd2 (hr d p), fun hbd G' H' g2 => qb (hb hbd) G' H' (go.trans (g2.lift go.vw))⟩
end
section
variable {P : Program} {w : World} {K : PySem.W.Frag} {mg : Str → Option Value} {base : Heap}
theorem fnXR {α : Type} {x qual : Str} {st : Stmt} {f : Addr} {fd : FuncData} {N ps : List Str} {k : Nat} {ts : List Addr} {C : Addr} {Wf : α → Prop} {enc : α → List PyData} {res : α → PyData → Prop} {bad : α → Prop} (F : Fun K x qual st f fd) (S0 : FnScope N ps (defScope st)) (hl : ∀ x, Wf x → (enc x).length = ps.length)
    (hbody : ∀ (cdv : Value) (A : Around) (outer : List Env) (s : Shared) (H : Hp) (E : XK), Room k (A.deeper (envOfC qual (defScope st) s.heap.objs.size f cdv)) →
      ∃ t, PSs (cxOf (L2.CX P w) P w K mg base N qual (defScope st) f cdv A outer s H E) (defBody st) t ∧ ∀ x, Wf x → SX K ⟨none, ts⟩ H E C (bad x) t (st0 N (enc x)) { nx := fun _ => res x .none, rt := res x }) : FnOk P w K mg base (L2.CX P w) (k + 1) f fd ps (SpXR K ts C Wf enc res bad) := by
  refine F.okX S0 (fun vs H Q E h => ?_) (fun cdv A outer s H vs Q E hr h => ?_)
  · obtain ⟨x, G, _, h1, h2, _⟩ := h
    rw [dpa_len h1]
    exact hl x h2
  · obtain ⟨x, G, v, h1, h2, q, qb⟩ := h
    obtain ⟨t, ht, hS⟩ := hbody cdv A outer s H E hr
    have go : ∀ {G' H' : Hp}, Gx ⟨none, ts⟩ H G H G' H' → Vw ⟨none, ts⟩ G' H' → Go ⟨none, ts⟩ G H G' H' := fun x vw => ⟨x.gg, x.nw, fun a o hp e => x.od a o hp (by rw [e]; exact fun z => by cases z) e, vw⟩
    refine ⟨t, ht, hS x h2 (L2.start N vs) G H _ (ev_start h1 v) (fun σ' G' H' L' x e' p => ?_) (fun v d G' H' x vw hd p => ?_) (fun _ _ _ _ _ _ z => z.elim) (fun _ _ _ _ _ _ z => z.elim) (fun _ _ _ _ _ _ _ z => z.elim) (fun _ _ _ _ _ _ _ _ _ _ _ z => z.elim) fun hb G' H' x vw => qb hb G' H' (go x vw)⟩
    · exact q .non .none G' H' (go x e'.vw) .non p
    · exact q v d G' H' (go x vw) hd p
end
section
variable {K : PySem.W.Frag} {H0 : Hp} {L : Lv} {tl : TA} {D : Dn} {C : Addr} {c : Value} {ts' : Addr → Value → Option Addr → TS} {Wout : WX} {α : Type} {pn : Option Pn} {ts : List Addr} {Wf : α → Prop} {enc : α → List PyData} {res : α → PyData → Prop} {bad : α → Prop}
theorem S.at {pen : Pc} {t : TS} {σ : L2.St} {G H G1 H1 : Hp} {N : Ends} (h : S K pen H0 t L D) (e : Ev K pen H0 G1 H1 σ L) (x : Gx pen H0 G H G1 H1) (n1 : ∀ σ' G' H' L', Gx pen H0 G H G' H' → Ev K pen H0 G' H' σ' L' → D.nx L' → N.nx σ' H')
    (n2 : ∀ v d G' H', Gx pen H0 G H G' H' → Vw pen G' H' → Dp K G' v d → D.rt d → N.rt v H') (n3 : ∀ σ' G' H' L', Gx pen H0 G H G' H' → Ev K pen H0 G' H' σ' L' → D.bk L' → N.bk σ' H') (n4 : ∀ σ' G' H' L', Gx pen H0 G H G' H' → Ev K pen H0 G' H' σ' L' → D.ct L' → N.ct σ' H')
    (n5 : ∀ v d G' H', Gx pen H0 G H G' H' → Vw pen G' H' → Nd K (vnew H0 G' H') v d → D.rn d → N.rt v H') (n6 : ∀ l ho o G' H', Gx pen H0 G H G' H' → Vw pen G' H' → H' l = some ho → H0 l = none → G' l = none → OwnOk K G' l ho o → D.ro o → N.rt (.ref l) H') : t N σ H1 :=
  h σ G1 H1 N e (fun σ2 G2 H2 L2 x2 e2 q => n1 σ2 G2 H2 L2 (x.trans x2) e2 q) (fun v d G2 H2 x2 vw hd q => n2 v d G2 H2 (x.trans x2) vw hd q) (fun σ2 G2 H2 L2 x2 e2 q => n3 σ2 G2 H2 L2 (x.trans x2) e2 q) (fun σ2 G2 H2 L2 x2 e2 q => n4 σ2 G2 H2 L2 (x.trans x2) e2 q)
    (fun v d G2 H2 x2 vw hd q => n5 v d G2 H2 (x.trans x2) vw hd q) (fun l ho o G2 H2 x2 vw h1 h2 h3 h4 q => n6 l ho o G2 H2 (x.trans x2) vw h1 h2 h3 h4 q)
/-- try: f(..) / except X: suite -/
theorem s_tryOnly (he : PySem.W.exmOne K (.ref C) c = some true)
    (h : EA K ⟨pn, ts⟩ H0 tl L fun ds => ∃ x, ds = enc x ∧ Wf x ∧ (∀ d, res x d → D.nx L) ∧ (bad x → ∀ a, S K ⟨pn, ts⟩ H0 (ts' a (.ref C) none) L D)) :
    S K ⟨pn, ts⟩ H0 (fun N σ H => tDrop (tCallS (SpXR K ts C Wf enc res bad) (fun σ => L2.WE (wOnly K c ts' Wout N) σ) tl) N σ H) L D := fun σ G H N e n1 n2 n3 n4 n5 n6 =>
  h σ G H e _ fun vs ds G1 H1 go hd ⟨x, hx, hw, hn, hb⟩ => ⟨x, G1, go.vw.plain, by rw [← hx]; exact hd, hw, fun v d G' H' g2 hd2 p => n1 σ G' H' L (e.gx (go.trans (g2.lift go.vw))) (e.go (go.trans (g2.lift go.vw))) (hn d p),
    fun hbad G' H' g2 => ⟨true, he, fun _ a ha => (hb hbad a).at (e.go (go.trans (g2.lift go.vw))) (e.gx (go.trans (g2.lift go.vw))) n1 n2 n3 n4 n5 n6, fun z => (by cases z)⟩⟩
theorem set_as {σ : L2.St} {i j : Nat} {x y : Option V} (h : i ≠ j) : ((σ.set i x).set j y).set i none = (σ.set j y).set i none := by
  apply List.ext_getElem?
  intro m
  by_cases h1 : i = m
  · subst h1
    rw [List.getElem?_set, if_pos rfl, List.getElem?_set, if_pos rfl, List.length_set, List.length_set, List.length_set]
  · rw [List.getElem?_set_ne h1, List.getElem?_set_ne h1]
    by_cases h2 : j = m
    · subst h2
      rw [List.getElem?_set, if_pos rfl, List.getElem?_set, if_pos rfl, List.length_set]
    · rw [List.getElem?_set_ne h2, List.getElem?_set_ne h2, List.getElem?_set_ne h1]
/-- try: f(..) / except X as e: y = True, said by what is asked of e -/
theorem s_tryAs {i j : Nat} (hij : i ≠ j) (he : PySem.W.exmOne K (.ref C) c = some true) (hs : ∀ (a : Addr) (σ' : L2.St) (H' : Hp) (N' : Ends), σ'[i]? = some (some (.ref a)) → N'.nx (σ'.set j (some (.bl true))) H' → ts' a (.ref C) none N' σ' H') (hi : i < L.length)
    (h : EA K ⟨pn, ts⟩ H0 tl L fun ds => ∃ x, ds = enc x ∧ Wf x ∧ (∀ d, res x d → D.nx L) ∧ (bad x → D.nx ((L.set j (some (.d (.bool true)))).set i none))) :
    S K ⟨pn, ts⟩ H0 (fun N σ H => tDrop (tCallS (SpXR K ts C Wf enc res bad) (fun σ => L2.WE (wAs K c i ts' Wout N) σ) tl) N σ H) L D := fun σ G H N e n1 n2 n3 n4 n5 n6 =>
  h σ G H e _ fun vs ds G1 H1 go hd ⟨x, hx, hw, hn, hb⟩ => ⟨x, G1, go.vw.plain, by rw [← hx]; exact hd, hw, fun v d G' H' g2 hd2 p => n1 σ G' H' L (e.gx (go.trans (g2.lift go.vw))) (e.go (go.trans (g2.lift go.vw))) (hn d p),
    fun hbad G' H' g2 => ⟨true, he, fun _ a ha => hs a _ H' _ (List.getElem?_set_self (by rw [e.len]; exact hi)) (by
      show N.nx (((σ.set i (some (.ref a))).set j (some (.bl true))).set i none) H'
      rw [set_as hij]
      exact n1 _ G' H' _ (e.gx (go.trans (g2.lift go.vw))) (((e.go (go.trans (g2.lift go.vw))).set (i := j) (.bl true)).unset i) (hb hbad)), fun z => (by cases z)⟩⟩
end
/-- isinstance(e, (X, Y, ..)), e the exception that the suite holds -/
def rIsET (K : PySem.W.Frag) (D a : Addr) : List V → Hp → VK → Prop := fun xs H Q => ∃ (tp : Addr) (cs : List V) (us : List Value) (b : Bool), xs = [.ref a, .ref tp] ∧ H tp = some (.tup cs) ∧ Paired ClsV cs us ∧ PySem.W.kitAny K (.ref D) us = some b ∧ Q (.bl b) H
theorem call_isET {X : Cx} {a D : Addr} {oe : Obj} {pn : List (Addr × Obj)} (C : ExcC X.K D) (hz : Zc (.ref D) none oe) (hf : ∃ vs, oe.data = .fields vs) : CallR (X.suite a ((a, oe) :: pn)) (.builtin "isinstance") (rIsET X.K D a) := by
  intro pins s σ H xs us Q I r h
  obtain ⟨tp, cs, ws, b, rfl, hT, k, e, q⟩ := h
  obtain ⟨u1, u2, rfl, r1, r2⟩ := vals2 r
  cases (show u2 = Value.ref tp from r2)
  cases (show u1 = Value.ref a from r1)
  obtain ⟨hget, _⟩ := I.pin (a, oe) (List.mem_append.mpr (.inl List.mem_cons_self))
  obtain ⟨vs, hv⟩ := hf
  have J : PySem.W.InstAt s.heap a oe D none := by
    obtain ⟨oc, od, oda, osl⟩ := oe
    obtain ⟨h1, h2⟩ := hz
    dsimp only at h1 h2 hv
    subst h1 h2 hv
    exact ⟨hget, rfl, rfl, trivial⟩
  obtain ⟨_, its, rv, o, h1, h2, n, h3⟩ := (show ObjOk X.prog X.w H s.heap tp (.tup cs) from I.hok tp _ hT)
  have e3 := ClsV.all k rv
  subst e3
  obtain ⟨oc, od, dt, sl⟩ := o
  simp only at h2 h3
  subst h2 h3
  exact PySem.W.kia_tup (PySem.W.handS_kitx_exc C.hg C.hk C.hs C.hd C.ha C.hn C.ht C.hm) I.kIn J h1 e (fun z => nomatch z) fun tk => ⟨.bl b, H, I.kept (t' := tk) fun _ _ z => z, rfl, q⟩
/-- the same, whatever the suite holds; its class is asked for in the reading -/
def rIsE1 (K : PySem.W.Frag) (D a : Addr) (cls : Value) (d : Option Addr) : List V → Hp → VK → Prop := fun xs H Q => cls = .ref D ∧ d = none ∧ rIsE K D a xs H Q
def rIsE2 (K : PySem.W.Frag) (D a : Addr) (cls : Value) (d : Option Addr) : List V → Hp → VK → Prop := fun xs H Q => cls = .ref D ∧ d = none ∧ rIsET K D a xs H Q
theorem kx_isE {X : Cx} {a D : Addr} {oe : Obj} {pn : List (Addr × Obj)} {cls : Value} {d : Option Addr} (C : ExcC X.K D) (hz : Zc cls d oe) (hf : ∃ vs, oe.data = .fields vs) : CallR (X.suite a ((a, oe) :: pn)) (.builtin "isinstance") (rIsE1 X.K D a cls d) := by
  intro pins s σ H xs us Q I r h
  obtain ⟨rfl, rfl, h⟩ := h
  exact call_isE C hz hf pins s σ H xs us Q I r h
theorem kx_isET {X : Cx} {a D : Addr} {oe : Obj} {pn : List (Addr × Obj)} {cls : Value} {d : Option Addr} (C : ExcC X.K D) (hz : Zc cls d oe) (hf : ∃ vs, oe.data = .fields vs) : CallR (X.suite a ((a, oe) :: pn)) (.builtin "isinstance") (rIsE2 X.K D a cls d) := by
  intro pins s σ H xs us Q I r h
  obtain ⟨rfl, rfl, h⟩ := h
  exact call_isET C hz hf pins s σ H xs us Q I r h
section
variable {K : PySem.W.Frag} {pen : Pc} {H0 : Hp} {L : Lv} {P : PyData → Prop} {te : TE} {tl : TA}
/-- a module's constant that is data -/
theorem e_cD {v : V} {d : PyData} (h : ∀ G : Hp, Dp K G v d) (p : P d) : E K pen H0 (tC v) L P := fun σ G H e Q q => q v d G H (.refl e.vw) (h G) p
/-- a call of a def that may raise and here does not -/
theorem e_callR {α : Type} {pn : Option Pn} {ts : List Addr} {C : Addr} {Wf : α → Prop} {enc : α → List PyData} {res : α → PyData → Prop} {bd : α → Prop} {X : XK} (h : EA K ⟨pn, ts⟩ H0 tl L fun ds => ∃ x, ds = enc x ∧ Wf x ∧ ¬ bd x ∧ ∀ d, res x d → P d) :
    E K ⟨pn, ts⟩ H0 (tCall (SpXR K ts C Wf enc res bd) [] X tl) L P := fun σ G H e Q q =>
  h σ G H e _ fun vs ds G1 H1 go hd ⟨x, hx, hw, hb, hr⟩ => ⟨x, G1, go.vw.plain, by rw [List.append_nil, ← hx]; exact hd, hw, fun v d G' H' g2 hd2 p => q v d G' H' (go.trans (g2.lift go.vw)) hd2 (hr d p), fun hbd => absurd hbd hb⟩
/-- f'..{i}..' -/
theorem e_js3 {a b : Str} (ha : (Str.empty ++ a).length ≤ sizeLine) (h : E K pen H0 te L fun d => ∃ i : Int, d = .int i ∧ i.natAbs.log2 < 1920 ∧ (Str.empty ++ a ++ toString i).length ≤ sizeLine ∧ (Str.empty ++ a ++ toString i ++ b).length ≤ sizeLine) :
    E K pen H0 (fun σ H Q => tJs [tC (.str a), tFmt te, tC (.str b)] Str.empty σ H fun out H1 => Q (.str out) H1) L fun _ => True := fun σ G H e Q q =>
  ⟨a, rfl, ha, h σ G H e _ fun v d G1 H1 g1 d1 ⟨i, hi, h1, h2, h3⟩ => by
    subst hi
    cases d1
    exact .inr ⟨i, rfl, h1, _, rfl, h2, b, rfl, h3, q _ _ G1 H1 g1 (.str _) trivial⟩⟩
end
end Dl
set_option Elab.async false
set_option linter.all false
set_option maxRecDepth 100000
set_option maxHeartbeats 4000000
/-! ### sorted(t), t a tuple of ints -/
namespace SrtO
open PySem PyProof.Rows Srt
section
variable {prog : Program} {w : World} {A : Around} {E : Value → Shared → Prop} {s : Shared}
/-- the heap with a new empty list, and that list filled -/
abbrev bare (s : Shared) : Heap := s.heap.push (seqObj "list" #[] 0)
abbrev full (s : Shared) (vs : List Value) : Heap := (bare s).update s.heap.objs.size (Obj.mapSeq (· ++ vs.toArray))
theorem bare_new : (bare s).get? s.heap.objs.size = some (seqObj "list" #[] 0) := Heap.get?_push_size _ rfl
theorem full_size {vs : List Value} : (full s vs).objs.size = s.heap.objs.size + 1 := (Heap.size_update ..).trans (size_push' ..)
theorem full_old {vs : List Value} {b : Addr} {o : Obj} (e : s.heap.get? b = some o) : (full s vs).get? b = some o :=
  (Heap.get?_update_ne _ _ _ _ (Nat.ne_of_lt (Heap.lt_size e))).trans (Heap.get?_push_of_some _ e)
/-- a tuple's items put behind the new list's none -/
theorem extT {l : Addr} {vs : List Value} {Q : Fin → Shared → Prop} (hl : s.heap.IsTuple l vs.toArray) (hz : vs.length ≤ sizeLine) (h : Q (.done (.ret (.ref s.heap.objs.size))) { s with heap := full s vs }) :
    wpAny (model prog w) A (Builtin.List.listExtendWith (.ref s.heap.objs.size) (.ref l) (.ref s.heap.objs.size)) Q E { s with heap := bare s } := by
  obtain ⟨tup, at0, isT, m, dat⟩ := hl
  have at1 := Heap.get?_push_of_some (seqObj "list" #[] 0) at0
  have two : (Value.type "tuple" == Value.type "tuple") = true := rfl
  have fits : ((#[] : Array Value) ++ vs.toArray).size ≤ sizeLine + 1 := by
    rw [Array.size_append]
    show 0 + vs.length ≤ sizeLine + 1
    omega
  unfold Builtin.List.listExtendWith
  apply wpAny_bind
  refine wpAny_typeOf (T := "tuple") ⟨tup, at1, isT⟩ ?_
  rw [two, Bool.or_true, if_pos rfl]
  exact wpAny_bind (listItems_at at1 dat (wpAny_bind (listItems_at bare_new rfl (by
    rw [show (!(#[] : Array Value).isEmpty) = false from rfl, Bool.false_and]
    exact wpAny_bind (listUpdate_at bare_new rfl (wpAny_pure h) (Nat.zero_le _) fits)))))
theorem collectT {l : Addr} {vs : List Value} {Q : List Value → Shared → Prop} (hl : s.heap.IsTuple l vs.toArray) (hz : vs.length ≤ sizeLine) (h : Q vs { s with heap := full s vs }) : wpAny (model prog w) A (collect (.ref l)) Q E s := by
  have got : (full s vs).get? s.heap.objs.size = some _ := get?_update_seq bare_new (· ++ vs.toArray)
  have same : ((#[] : Array Value) ++ vs.toArray).toList = vs := by simp
  unfold collect
  apply wpAny_bind
  apply wpAny_runValue
  apply codeAny_builtin entry_proto_collect'
  show wpAny _ _ (newList [] >>= fun n => again (.builtin "list.__iadd__" ⟨[n, .ref l], []⟩)) _ _ s
  apply wpAny_bind
  refine wpAny_newList (wpAny_pure ?_) (Nat.zero_le _)
  refine ⟨Code.quiet_builtin _ (by decide +kernel), codeAny_builtin entry_list_iadd' ?_⟩
  apply extT hl hz
  apply wpAny_bind
  apply wpAny_load got
  apply wpAny_pure
  rw [same]
  exact h
theorem sortedT {l : Addr} {vs : List Value} {ltv : Value → Value → Bool} {Q : Value → Shared → Prop} (O : Swo ltv) (hl : s.heap.IsTuple l vs.toArray) (hz : vs.length ≤ sizeLine)
    (can : ∀ (h₁ : Heap) (a : Addr), 2 ≤ vs.length → SortableO prog w A.in1.in1 { s with heap := h₁ } a vs ltv)
    (h : ∀ out : List Value, Srtd ltv out → Stb ltv out vs → Q (.ref (s.heap.objs.size + 1)) { s with heap := sortedAll s.heap vs out.toArray }) :
    wpAny (model prog w) A (call (.builtin "sorted") [.ref l]) Q E s := by
  have at2 : ((full s vs).push (seqObj "list" vs.toArray 0)).get? (s.heap.objs.size + 1) = some (seqObj "list" vs.toArray 0) := full_size (s := s) (vs := vs) ▸ Heap.get?_push_size (full s vs) rfl
  apply Calls.call_function_entry kind_sorted plain_sorted entry_sorted (args_sorted1 _)
  unfold Builtin.«sorted»
  apply wpAny_bind (m := checkCount "sorted" 1 1 _)
  apply wpAny_pure
  apply wpAny_bind
  apply collectT hl hz
  apply wpAny_bind
  refine wpAny_newList ?_ hz
  show wpAny _ _ _ _ _ { s with heap := (full s vs).push (seqObj "list" vs.toArray 0) }
  rw [show (full s vs).objs.size = s.heap.objs.size + 1 from full_size]
  apply wpAny_bind
  apply wpAny_holding
  refine wpAny_call_entry slot_list_sort ⟨_, at2, rfl⟩ entry_list_sort (list_sort_ord O at2 hz (can _ _) fun out o1 o2 => ⟨_, rfl, ?_⟩) (args_list_sort _)
  exact wpAny_pure ⟨_, rfl, h out o1 o2⟩
end
end SrtO
namespace Dl
open PySem PySem.Spec PyProof.Rows L2
def rSortT (K : PySem.W.Frag) : List V → Hp → VK → Prop := fun vs H Q => ∃ (a : Addr) (ns : List Int), vs = [V.ref a] ∧ SqT K H a (ns.map V.int) ∧ ns.length ≤ 100000 ∧
  ∀ (ns' : List Int) (p : Addr), ns'.Perm ns → ns'.Pairwise (· ≤ ·) → H p = none → Q (.ref p) (upd H p (.lst (ns'.map V.int)))
theorem cr_sortT {X : Cx} : CallR X (.builtin "sorted") (rSortT X.K) := by
  intro pins st σ H xs us Q I rel ask
  obtain ⟨a, ns, rfl, tup, few, q⟩ := ask
  obtain ⟨its, rv, at0, _⟩ := I.tuple tup
  have wh := rv.ints
  have fits : ns.length ≤ sizeLine := Nat.le_trans few (by rw [sizeLine_eq]; decide)
  rw [Vals.ref1 rel]
  apply SrtO.sortedT SrtO.swo_int at0 (by rw [← rv.length, List.length_map]; exact fits) fun _ _ two => SrtO.ints_sortable wh two
  intro out o1 o2
  have ⟨is, pm, le⟩ := SrtO.ints_out wh o1 o2
  have ⟨n, made⟩ := PyProof.Rows.sortedAll_at st.heap its out.toArray
  have sz : ((out.map SrtO.iv).map V.int).length ≤ sizeLine := by rw [List.length_map, pm.length_eq]; exact fits
  refine ⟨.ref _, upd H _ (.lst ((out.map SrtO.iv).map V.int)), I.laid (t' := st.toks) (a := st.heap.objs.size + 1) (fun _ _ => PyProof.Rows.sortedAll_old) (Nat.le_succ _) ⟨sz, out, n, vals_of_ints is, made⟩, rfl, ?_⟩
  exact q _ _ pm le (I.hok.fresh (Nat.le_succ _))
theorem kx_sortT {K : PySem.W.Frag} {X : Cx} (h : X.K = K) : CallR X (.builtin "sorted") (rSortT K) := by subst h; exact cr_sortT
theorem e_sortT {K : PySem.W.Frag} {pen : Pc} {H0 : Hp} {L : Lv} {P : PyData → Prop} {te : TE} (h : E K pen H0 te L fun d => ∃ ns : List Int, d = .tuple (intsL ns) ∧ ns.length ≤ 100000 ∧ ∀ ms : List Int, ms.Perm ns → ms.Pairwise (· ≤ ·) → P (.list (intsL ms))) :
    E K pen H0 (tCB (rSortT K) (tCons te tNil)) L P := fun σ G H e Q q => h σ G H e _ fun v d G1 H1 go hd ⟨ns, hds, hz, p⟩ => by
  subst hds
  cases hd with
  | tup hs ha =>
    rename_i a xs
    have ex := dpa_ints ha
    subst ex
    refine ⟨a, ns, rfl, sqT_mono go.vw.vw hs, hz, fun ms r hp hw hr => ?_⟩
    have g3 := Go.new go.vw (o := .lst (ms.map V.int)) hr
    exact q _ _ _ _ (go.trans g3) (.lst (.inl (.inl upd_same)) (ints_dpa ms)) (p ms hp hw)
end Dl
namespace Dl
open PySem PySem.Spec PyProof.Rows L2
theorem r_notNone {K : PySem.W.Frag} {pen : Pc} {P : PyData → Prop} {a : PyData} (p : P (.bool (!isNone a))) : R2d K pen (fun x y H Q => y = .non ∧ Q (.bl (!decide (x = .non))) H) a .none P := fun x y G H v hx hy Q q => by
  cases hy
  refine ⟨rfl, q _ _ G H (.refl v) ?_ p⟩
  cases hx <;> exact .bl _
end Dl
namespace Dl
open PySem PySem.Spec PyProof.Rows L2
section
variable {K : PySem.W.Frag} {H0 : Hp} {L : Lv} {tl : TA} {D : Dn} {C : Addr} {c : Value} {ts' : Addr → Value → Option Addr → TS} {Wout : WX} {α : Type} {pn : Option Pn} {ts : List Addr} {Wf : α → Prop} {enc : α → List PyData} {res : α → PyData → Prop} {bad : α → Prop}
/-- as s_tryAs, where what is asked of e lays a tuple -/
theorem s_tryAsT {i j : Nat} (hij : i ≠ j) (he : PySem.W.exmOne K (.ref C) c = some true) (hs : ∀ (a : Addr) (σ' : L2.St) (H' : Hp) (N' : Ends), σ'[i]? = some (some (.ref a)) → (∀ p cs, H' p = none → N'.nx (σ'.set j (some (.bl true))) (upd H' p (.tup cs))) → ts' a (.ref C) none N' σ' H') (hi : i < L.length)
    (h : EA K ⟨pn, ts⟩ H0 tl L fun ds => ∃ x, ds = enc x ∧ Wf x ∧ (∀ d, res x d → D.nx L) ∧ (bad x → D.nx ((L.set j (some (.d (.bool true)))).set i none))) :
    S K ⟨pn, ts⟩ H0 (fun N σ H => tDrop (tCallS (SpXR K ts C Wf enc res bad) (fun σ => L2.WE (wAs K c i ts' Wout N) σ) tl) N σ H) L D := fun σ G H N e n1 n2 n3 n4 n5 n6 =>
  h σ G H e _ fun vs ds G1 H1 go hd ⟨x, hx, hw, hn, hb⟩ => ⟨x, G1, go.vw.plain, by rw [← hx]; exact hd, hw, fun v d G' H' g2 hd2 p => n1 σ G' H' L (e.gx (go.trans (g2.lift go.vw))) (e.go (go.trans (g2.lift go.vw))) (hn d p),
    fun hbad G' H' g2 => ⟨true, he, fun _ a ha => hs a _ H' _ (List.getElem?_set_self (by rw [e.len]; exact hi)) (fun p cs hp => by
      show N.nx (((σ.set i (some (.ref a))).set j (some (.bl true))).set i none) _
      rw [set_as hij]
      have g3 := (go.trans (g2.lift go.vw))
      have g4 := g3.trans (Go.hid g3.vw (o := .tup cs) hp)
      exact n1 _ G' _ _ (e.gx g4) (((e.go g4).set (i := j) (.bl true)).unset i) (hb hbad)), fun z => (by cases z)⟩⟩
end
end Dl
set_option Elab.async false
set_option linter.all false
set_option maxRecDepth 100000
set_option maxHeartbeats 4000000
/-! ### defs that may raise, and tell what is new -/
namespace Dl
open PySem PySem.Spec PyProof.Rows L2
def SpXRF {α : Type} (K : PySem.W.Frag) (ts : List Addr) (C : Addr) (Wf : α → Prop) (enc : α → List PyData) (res : α → PyData → Prop) (bad : α → Prop) : Sp := fun vs H Q E => ∃ (x : α) (G : Hp), Vw ⟨none, ts⟩ G H ∧ DpAll K G vs (enc x) ∧ Wf x ∧
  (∀ v d G' H', Go ⟨none, ts⟩ G H G' H' → Nd K (vnew H G' H') v d → res x d → Q v H') ∧ (bad x → ∀ G' H', Go ⟨none, ts⟩ G H G' H' → E (.ref C) none H')
section
variable {P : Program} {w : World} {K : PySem.W.Frag} {mg : Str → Option Value} {base : Heap}
theorem fnXRF {α : Type} {x qual : Str} {st : Stmt} {f : Addr} {fd : FuncData} {N ps : List Str} {k : Nat} {ts : List Addr} {C : Addr} {Wf : α → Prop} {enc : α → List PyData} {res : α → PyData → Prop} {bad : α → Prop} (F : Fun K x qual st f fd) (S0 : FnScope N ps (defScope st)) (hl : ∀ x, Wf x → (enc x).length = ps.length)
    (hbody : ∀ (cdv : Value) (A : Around) (outer : List Env) (s : Shared) (H : Hp) (E : XK), Room k (A.deeper (envOfC qual (defScope st) s.heap.objs.size f cdv)) →
      ∃ t, PSs (cxOf (L2.CX P w) P w K mg base N qual (defScope st) f cdv A outer s H E) (defBody st) t ∧ ∀ x, Wf x → SX K ⟨none, ts⟩ H E C (bad x) t (st0 N (enc x)) { nx := fun _ => False, rt := fun _ => False, rn := res x }) : FnOk P w K mg base (L2.CX P w) (k + 1) f fd ps (SpXRF K ts C Wf enc res bad) := by
  refine F.okX S0 (fun vs H Q E h => ?_) (fun cdv A outer s H vs Q E hr h => ?_)
  · obtain ⟨x, G, _, h1, h2, _⟩ := h
    rw [dpa_len h1]
    exact hl x h2
  · obtain ⟨x, G, v, h1, h2, q, qb⟩ := h
    obtain ⟨t, ht, hS⟩ := hbody cdv A outer s H E hr
    have go : ∀ {G' H' : Hp}, Gx ⟨none, ts⟩ H G H G' H' → Vw ⟨none, ts⟩ G' H' → Go ⟨none, ts⟩ G H G' H' := fun x vw => ⟨x.gg, x.nw, fun a o hp e => x.od a o hp (by rw [e]; exact fun z => by cases z) e, vw⟩
    exact ⟨t, ht, hS x h2 (L2.start N vs) G H _ (ev_start h1 v) (fun _ _ _ _ _ _ z => z.elim) (fun _ _ _ _ _ _ _ z => z.elim) (fun _ _ _ _ _ _ z => z.elim) (fun _ _ _ _ _ _ z => z.elim) (fun v d G' H' x vw hd p => q v d G' H' (go x vw) hd p) (fun _ _ _ _ _ _ _ _ _ _ _ z => z.elim) fun hb G' H' x vw => qb hb G' H' (go x vw)⟩
end
section
variable {K : PySem.W.Frag} {H0 : Hp} {L : Lv} {tl : TA} {D : Dn} {C : Addr} {c : Value} {ts' : Addr → Value → Option Addr → TS} {Wout : WX} {α : Type} {pn : Option Pn} {ts : List Addr} {Wf : α → Prop} {enc : α → List PyData} {res : α → PyData → Prop} {bad : α → Prop} {P : PyData → Prop}
/-- a call of such a def that does not raise here -/
theorem en_callR {X : XK} (h : EA K ⟨pn, ts⟩ H0 tl L fun ds => ∃ x, ds = enc x ∧ Wf x ∧ ¬ bad x ∧ ∀ d, res x d → P d) : EN K ⟨pn, ts⟩ H0 (tCall (SpXRF K ts C Wf enc res bad) [] X tl) L P := fun σ G H e Q q =>
  h σ G H e _ fun vs ds G1 H1 go hd ⟨x, hx, h1, hb, h2⟩ => ⟨x, G1, go.vw.plain, by rw [List.append_nil, ← hx]; exact hd, h1, fun v d G' H' go2 hd2 p =>
    q v d G' H' (go.trans (go2.lift go.vw)) (nd_mono (vnew_call (G1 := G1) (e.go go).dom) _ _ hd2) (h2 d p), fun z => absurd z hb⟩
/-- try: f(..) / except X: suite, f of such a kind -/
theorem s_tryOnlyF (he : PySem.W.exmOne K (.ref C) c = some true)
    (h : EA K ⟨pn, ts⟩ H0 tl L fun ds => ∃ x, ds = enc x ∧ Wf x ∧ (∀ d, res x d → D.nx L) ∧ (bad x → ∀ a, S K ⟨pn, ts⟩ H0 (ts' a (.ref C) none) L D)) :
    S K ⟨pn, ts⟩ H0 (fun N σ H => tDrop (tCallS (SpXRF K ts C Wf enc res bad) (fun σ => L2.WE (wOnly K c ts' Wout N) σ) tl) N σ H) L D := fun σ G H N e n1 n2 n3 n4 n5 n6 =>
  h σ G H e _ fun vs ds G1 H1 go hd ⟨x, hx, hw, hn, hb⟩ => ⟨x, G1, go.vw.plain, by rw [← hx]; exact hd, hw, fun v d G' H' g2 hd2 p => n1 σ G' H' L (e.gx (go.trans (g2.lift go.vw))) (e.go (go.trans (g2.lift go.vw))) (hn d p),
    fun hbad G' H' g2 => ⟨true, he, fun _ a ha => (hb hbad a).at (e.go (go.trans (g2.lift go.vw))) (e.gx (go.trans (g2.lift go.vw))) n1 n2 n3 n4 n5 n6, fun z => (by cases z)⟩⟩
end
section
variable {K : PySem.W.Frag} {pen : Pc} {H0 : Hp} {L : Lv} {D : Dn} {te : TE} {Pl : List PyData → Prop}
/-- a slice of a list is new -/
theorem el_sl {to th : TO} (h : E K pen H0 te L fun a => EO K pen H0 to L fun lo => EO K pen H0 th L fun hi => ∃ ds, a = .list ds ∧ Pl (cutD ds lo hi)) : EL K pen H0 (tSl (rSlL K) te to th) L Pl := fun σ G H e Q q =>
  h σ G H e _ fun v a G1 H1 g1 d1 h1 => h1 σ G1 H1 (e.go g1) _ fun lo G2 H2 g2 h2 => h2 σ G2 H2 (e.go (g1.trans g2)) _ fun hi G3 H3 g3 ⟨ds, hds, p⟩ => by
    subst hds
    have d3 := dp_mono (g2.gg.trans g3.gg) _ _ d1
    cases d3 with
    | lst hs ha =>
      rename_i b xs
      refine ⟨b, xs, rfl, sqL_mono g3.vw.vw hs, fun r hr => ?_⟩
      have g := (g1.trans g2).trans g3
      have e1 := e.go g
      refine q r _ _ G3 _ (g.trans (Go.hid e1.vw (o := .lst (cutV xs lo hi)) hr)) upd_same (e1.gnone hr) ?_ (dpa_cut ha lo hi) p
      cases z : H r with
      | none => rfl
      | some o => exact absurd hr (g.dom (by rw [z]; exact fun z => by cases z))
/-- continue -/
theorem s_cont (h : D.ct L) : S K pen H0 tCont L D := fun σ G H N e _ _ _ n4 _ _ => n4 σ G H L .refl e h
end
end Dl
set_option Elab.async false
set_option linter.all false
set_option maxRecDepth 100000
set_option maxHeartbeats 4000000
/-! ### x[1].append(e); if t: ..; x = (x[0], y): the told list is spoilt, the told text is kept -/
namespace Dl
open PySem PySem.Spec PyProof.Rows L2
section
variable {K : PySem.W.Frag} {pen : Pc} {H0 : Hp} {L : Lv} {D : Dn} {tt : TT} {t1 tr : TS}
theorem s_spoilT {i m : Nat} {w : Str} {es : List PyData} {y : PyData} {c : Int} (hi : L[i]? = some (some (.fr (.tuple [.str w, .list es])))) (hm : (L.set i none)[m]? = some (some (.d y))) (hz : es.length < 100000)
    (ht : ET K pen H0 tt (L.set i none) fun b => b = false) (hr : S K pen H0 tr (L.set i (some (.d (.tuple [.str w, y])))) D) (od : onlyD (L.set i none) = true := by rfl) :
    S K pen H0 (tSeq (tDrop (tBM K "list" rAppend (tOp (rIxT K) (tVar i) (tC (.int (1 : Nat)))) (tCons (tC (.int c)) tNil))) (tSeq (tIfS tt t1 tNext) (tSeq (tAsg (tTup (tCons (tOp (rIxT K) (tVar i) (tC (.int (0 : Nat)))) (tCons (tVar m) tNil))) (gName i)) tr))) L D := fun σ G H N e n1 n2 n3 n4 n5 n6 => by
  obtain ⟨v, k1, k2⟩ := e.sl i _ hi
  cases k2 with
  | tup hs ha =>
    rename_i t xs
    obtain ⟨w0, q0, r0⟩ := nda_get (i := 0) (d := .str w) ha rfl
    obtain ⟨w1, q1, r1⟩ := nda_get (i := 1) (d := .list es) ha rfl
    obtain ⟨l, vs, rfl, m1, m2, m3, m4⟩ := nd_list r1
    have e0 : w0 = .str w := by cases r0; rfl
    subst e0
    have sq : SqT K H t xs := sqT_mono (same_new e) hs
    have e' := e.forget i od
    obtain ⟨ev1, gx1⟩ := e'.spoil od (ho := .lst (vs ++ [.int c])) m2 m3 (code_ne m1 rfl)
    refine ⟨_, k1, t, xs, (1 : Nat), .ref l, rfl, rfl, sq, atI_nat q1, .inl ⟨rfl, vs, .inl (.inl m1)⟩, ⟨l, vs, .int c, rfl, rfl, m1, Nat.lt_of_lt_of_le (by rw [m4]; exact hz) (by decide : 100000 ≤ sizeLine), ?_⟩⟩
    refine ht σ G _ ev1 _ fun b G2 H2 g2 hb => ?_
    subst hb
    have ev2 := ev1.go g2
    have sqG : SqT K G t xs := by
      rcases hs with (h | ⟨o, h⟩) | h
      · rcases vnew_cases h with ⟨z, _⟩ | ⟨_, _, _, _, z⟩
        · exact .inl (.inl z)
        · cases z
      · rcases vnew_cases h with ⟨z, _⟩ | ⟨_, _, _, _, z⟩
        · exact .inl (.inr ⟨o, z⟩)
        · cases z
      · exact .inr h
    have sq2 : SqT K H2 t xs := sqT_mono ev2.vw.vw (sqT_mono g2.gg sqG)
    obtain ⟨vm, km, dm⟩ := ev2.sl m _ hm
    refine ⟨_, k1, t, xs, (0 : Nat), .str w, rfl, rfl, sq2, atI_nat q0, vm, km, by rw [sizeLine_eq]; show 2 ≤ 16777216; decide, fun p hp => ?_⟩
    have g3 := Go.new ev2.vw (o := .tup [.str w, vm]) hp
    have ev3 := (ev2.go g3).set (i := i) (x := .tuple [.str w, y]) (v := .ref p) (.tup (.inl (.inl upd_same)) (.cons (.str w) (.cons (dp_mono g3.gg _ _ dm) .nil)))
    rw [List.set_set] at ev3
    exact hr.at ev3 (gx1.trans ((ev1.gx g2).trans (ev2.gx g3))) n1 n2 n3 n4 n5 n6
end
end Dl

/-! ### x in l, items of any depth; k in a list of ints -/
namespace Dl
open PySem PySem.Spec PyProof.Rows L2
theorem room65 {k : Nat} {A : Around} (r : Room k A) : A.units + 65 < cLine := by have := r.un; omega
theorem kx_inD {K : PySem.W.Frag} {X : Cx} (h : X.K = K) (hu : X.A.units + 65 < cLine) : OpR X (compareOp .In) (rInD K) := by subst h; exact op_inD hu
theorem kx_notInD {K : PySem.W.Frag} {X : Cx} (h : X.K = K) (hu : X.A.units + 65 < cLine) : OpR X (compareOp .NotIn) (rNotInD K) := by subst h; exact op_notInD hu
section
variable {K : PySem.W.Frag} {pen : Pc} {P : PyData → Prop}
theorem r_inD {d : PyData} {ds : List PyData} (ha : SeqAt.shaped d = true) (hb : SeqAt.shaped (.list ds) = true) (p : P (.bool (ds.any fun z => PyData.eqv z d))) : R2d K pen (rInD K) d (.list ds) P := fun x y G H v hx hy Q q =>
  ⟨d, ds, dp_mono v.vw _ _ hx, dp_mono v.vw _ _ hy, ha, hb, q _ _ G H (.refl v) (.bl _) p⟩
theorem r_notInD {d : PyData} {ds : List PyData} (ha : SeqAt.shaped d = true) (hb : SeqAt.shaped (.list ds) = true) (p : P (.bool (!ds.any fun z => PyData.eqv z d))) : R2d K pen (rNotInD K) d (.list ds) P := fun x y G H v hx hy Q q =>
  ⟨d, ds, dp_mono v.vw _ _ hx, dp_mono v.vw _ _ hy, ha, hb, q _ _ G H (.refl v) (.bl _) p⟩
end
end Dl
/-! ### list(x[k]), x told as new -/
namespace Dl
open PySem PySem.Spec PyProof.Rows L2
theorem e_listFrT {K : PySem.W.Frag} {pen : Pc} {H0 : Hp} {L : Lv} {P : PyData → Prop} {i k : Nat} {ds es : List PyData} (hi : L[i]? = some (some (.fr (.tuple ds)))) (hk : ds[k]? = some (.list es)) (hn : noLs es = true) (p : P (.list es)) :
    E K pen H0 (tCB (fun xs H Q => ∃ p ys, xs = [.ref p] ∧ (SqL K H p ys ∨ SqT K H p ys) ∧ ∀ l, H l = none → Q (.ref l) (upd H l (.lst ys))) (tCons (tOp (rIxT K) (tVar i) (tC (.int k))) tNil)) L P := fun σ G H e Q q => by
  obtain ⟨v, k1, k2⟩ := e.sl i _ hi
  cases k2 with
  | tup hs ha =>
    rename_i t xs
    obtain ⟨w1, q1, r1⟩ := nda_get ha hk
    cases r1 with
    | lst hW hWa =>
      rename_i l vs
      have sq : SqT K H t xs := sqT_mono (same_new e) hs
      have dv : DpAll K G vs es := dpa_nol (fun a ys h => by
        rcases h with h | ⟨o, h⟩
        · rcases vnew_cases h with ⟨z, _⟩ | ⟨_, _, _, _, z⟩
          · exact .inl z
          · cases z
        · rcases vnew_cases h with ⟨z, _⟩ | ⟨_, _, _, _, z⟩
          · exact .inr ⟨o, z⟩
          · cases z) _ _ hn (nda_dpa _ _ hWa)
      refine ⟨_, k1, t, xs, (k : Nat), .ref l, rfl, rfl, sq, atI_nat q1, l, vs, rfl, .inl (.inl (.inl (same_new e _ _ hW))), fun r hr => ?_⟩
      have g := Go.new e.vw (o := .lst vs) hr
      exact q _ _ _ _ g (.lst (.inl (.inl upd_same)) (dpa_mono g.gg _ _ dv)) p
end Dl
set_option Elab.async false
set_option linter.all false
set_option maxRecDepth 100000
set_option maxHeartbeats 4000000
namespace Gx
open PySem PySem.Spec PyProof.Rows L2 GenW GxR
/-- the items of a generator that has not begun are collected -/
theorem collect_gen {P : Program} {w : World} {outer : List Env} {H : Hp} {sc s : Shared} {ex : List Addr} {Q : List V → Hp → Prop} {EX : XK} {A : Around} {k : Nat} {u : Value} {Q' : List Value → Shared → Prop} {E : Value → Shared → Prop}
    (hr : Room (k + 3) A) (hfr : A.frames = some outer) (h : GMade P w k outer H sc ex Q EX u s)
    (hQ : ∀ Sa s' acc c H' ys, s.heap.objs.size ≤ Sa → s'.heap.get? Sa = some (lstObj acc c) → Vals ys acc.toList → ys.length ≤ sizeLine → s'.os = sc.os → AllBare s'.gens → Un (frs outer) ex H H' sc.heap s'.heap → HOk P w H' s'.heap → H' Sa = none → Q ys H' → Q' acc.toList s')
    (hexc : ∀ e s', ¬ CX P w outer H sc EX e s') : wpAny (model P w) A (collect u) Q' E s := by
  obtain ⟨a, g, c, rfl, ha1, ha2, hg, hgs, hos, hb, hl, hkp, wake⟩ := h
  have hSa : s.heap.objs.size ≠ a := Nat.ne_of_gt ha2
  have hcl : cStatics < s.heap.objs.size := let ⟨_, hn, _⟩ := hl; hn.lt
  have hSc : s.heap.objs.size ≠ cStatics := Nat.ne_of_gt hcl
  unfold collect
  refine wpAny_bind (wpAny_runValue (codeAny_builtin F.entry_proto_collect ?_))
  rw [Around.under_plainId F.plain_proto_collect _]
  show wpAny _ A.in1 (newList [] >>= fun l => again (.builtin "list.__iadd__" ⟨[l, .ref a], []⟩)) _ _ s
  refine wpAny_bind (wpAny_newObj_type ?_)
  refine wpAny_pure ⟨plainId_quiet F.plain_list_iadd _, codeAny_builtin F.entry_list_iadd ?_⟩
  rw [Around.under_plainId F.plain_list_iadd _]
  show wpAny _ A.in1 (Builtin.List.listExtendWith (.ref s.heap.objs.size) (.ref a) (.ref s.heap.objs.size)) _ _ _
  have hS : (s.heap.push { cls := .type "list", data := .seq ([] : List Value).toArray }).get? s.heap.objs.size = some { cls := .type "list", data := .seq #[] 0 } := Heap.get?_push_size _ rfl
  unfold Builtin.List.listExtendWith
  have up : ∀ (h : Heap) (f : Obj → Obj), (∀ b o, s.heap.get? b = some o → h.get? b = some o) → ∀ b o, s.heap.get? b = some o → (h.update s.heap.objs.size f).get? b = some o := fun h f q b o e =>
    (Heap.get?_update_other _ _ (Ne.symm (Nat.ne_of_lt (Heap.lt_size e)))).trans (q b o e)
  have k2 : ∀ b o, s.heap.get? b = some o → (s.heap.push { cls := .type "list", data := .seq ([] : List Value).toArray }).get? b = some o := fun b o e => Heap.get?_push_of_some _ e
  have gty : ∀ {h : Heap}, (∀ b o, s.heap.get? b = some o → h.get? b = some o) → h.IsGen a g := fun {h} q => hg.keeps q
  refine wpAny_bind (wpAny_typeOf (Heap.IsGen.typeIs (s := { s with heap := _ }) (gty k2)) ?_)
  have h1 : Builtin.List.listSameRef (.ref s.heap.objs.size) (.ref a) = false := by simp [Builtin.List.listSameRef, hSa]
  have h2 : (Value.type "generator" == Value.type "list") = false := by decide
  have h3 : (Value.type "generator" == Value.type "tuple") = false := by decide
  simp only [h1, h2, h3, Bool.or_false, Bool.false_eq_true, if_false]
  refine wpAny_bind (wpAny_pyIter_gen (s := { s with heap := _ }) (gty k2) ?_)
  refine wpAny_bind (wpAny_holding ?_)
  unfold Builtin.List.listLengthHint
  refine wpAny_bind (wpAny_specialOf (Heap.IsGen.typeIs (s := { s with heap := _ }) (gty k2)) F.gen_no_len ?_)
  show wpAny _ A.in1 (specialOf (Value.ref a) (Str.ofString "__length_hint__") >>= _) _ _ _
  refine wpAny_bind (wpAny_specialOf (Heap.IsGen.typeIs (s := { s with heap := _ }) (gty k2)) F.gen_no_hint ?_)
  refine wpAny_pure ?_
  show wpAny _ A.in1 (rule "list.extend.makes-room" >>= fun _ => Builtin.List.listTouch (.ref s.heap.objs.size) >>= fun _ =>
    again (.builtin "list.extend.loop" ⟨[.ref s.heap.objs.size, .ref a, .ref s.heap.objs.size], []⟩)) _ _ _
  refine wpAny_bind (wpAny_rule ?_)
  refine wpAny_bind ?_
  show wpAny _ A.in1 (updateSeq s.heap.objs.size (·.push .none) >>= fun _ => updateSeq s.heap.objs.size (·.pop)) _ _ _
  refine wpAny_bind (wpAny_updateSeq hS rfl ?_)
  have hS3 := Heap.get?_update_self (Obj.mapSeq (·.push Value.none)) hS rfl
  refine wpAny_updateSeq (hz := by seq_fits) hS3 rfl ?_
  have hS4 := Heap.get?_update_self (Obj.mapSeq (·.pop)) hS3 rfl
  have k4 := up _ (Obj.mapSeq (·.pop)) (up _ (Obj.mapSeq (·.push Value.none)) k2)
  refine wpAny_pure ⟨plainId_quiet F.plain_extend_loop _, ?_⟩
  refine drain (P := P) (w := w) (outer := outer) (H := H) (sc := sc) (ex := ex) (Q := Q) (EX := EX) (A := A) (g := g) hr.hd (by have := hr.dp; omega) hSa hSc
    (fun s' acc c H' ys q1 q2 q3 q4 q5 q6 q7 q8 q9 => ?_) (fun e s' hc => absurd hc (hexc e s'))
    sizeLine _ (gty k4) (hl.keeps k4) ⟨_, hgs, rfl, ?_⟩
  · show wpAny _ A (load s.heap.objs.size >>= _) _ _ _
    exact wpAny_bind (wpAny_load q1 (wpAny_pure (hQ _ s' acc c H' ys (Nat.le_refl _) q1 q2 q3 q4 q5 q6 q7 q8 q9)))
  · refine wake _ _ _ ⟨hr.hd, ?_, ?_⟩ hfr (Nat.le_refl _) k4 ⟨_, hS4⟩ hos (allBare_setGen (s := { s with heap := _ }) hb rfl)
    · have := hr.dp
      show A.depth + 3 * k + 5 < _
      omega
    · have := hr.un
      show A.units + 1 + 1 + 16 * k + 200 < _
      omega
/-- sorted(.. for ..), the items pairs of ints -/
def tSortG (K : PySem.W.Frag) (tg : TGen) : TE := fun σ H Q => tg σ H fun ys H' => ∃ ps : List (Int × Int), ps.length = ys.length ∧
  (∀ (i : Nat) z c, ys[i]? = some z → ps[i]? = some c → ∃ t, z = V.ref t ∧ SqT K H' t [.int c.1, .int c.2]) ∧
  ∀ (ws : List V) (qs : List (Int × Int)) r, ws.length = qs.length → (ws.zip qs).Perm (ys.zip ps) → qs.Pairwise Dl.LexLe → H' r = none → Q (.ref r) (upd H' r (.lst ws))
section
variable {X : Cx}
theorem pe_sortedG {e : Expr} {tg : TGen} {k : Nat} {p pos : Pos} (h : PGen X k e tg (fun _ _ _ => False)) (hr : Room (k + 4) X.A) (hg : Gl X "sorted") (hm : X.mg "sorted" = none) (hv : bootBuiltins "sorted" = some (.builtin "sorted"))
    (hst : starEach [e] X.env = (false, eval e X.env) :: starEach [] X.env := by rfl) : PE X (.Call (.Name "sorted" p) [e] [] pos) (tSortG X.K tg) := by
  refine ⟨fun pins s σ H Q I q => ?_⟩
  refine wpAny_Call_Name_kw (ld_blt I hg hm hv ?_)
  refine PyProof.Rows.callWith_builtin1 ?_ hst (by rfl)
  rw [hst]
  show wpAny _ _ (spliced ((false, eval e X.env) :: backTo pos (starEach [] X.env))) _ _ s
  refine Calls.spliced_cons (thn (h.run pins s σ H _ I q) fun u s1 ⟨H1, sc, ex, I1, hex, gm⟩ => ?_)
  refine Calls.spliced_nil ?_
  refine Calls.call_function_entry kind_sorted plain_sorted entry_sorted (args_sorted1 _) ?_
  unfold Builtin.«sorted»
  refine wpAny_bind (m := checkCount "sorted" 1 1 _) (wpAny_pure ?_)
  refine wpAny_bind (collect_gen (A := X.A.in1) hr.in1 I1.ok.frames gm (fun Sa s2 acc c H' ys hSa q1 q2 q3 q4 q5 q6 q7 q8 q9 => ?_) fun e s' z => ?_)
  · obtain ⟨ps, hlen, hz, q⟩ := q9
    obtain ⟨hh, g2, d2, t2, os2⟩ := s2
    have I2 : Inv X pins σ H' ⟨hh, g2, d2, t2, os2⟩ := by
      have q4 : os2 = sc.os := q4
      subst q4
      exact I1.call (h' := hh) (g' := g2) (d' := d2) (t' := t2) (ch := ex) q6 q7 q5 hex
    have hil : acc.toList.length = ys.length := q2.length.symm
    have refs : ∀ z ∈ ys, ∃ t, z = V.ref t := fun z hm => by
      obtain ⟨i, hi⟩ := List.mem_iff_getElem?.mp hm
      have hlt := (List.getElem?_eq_some_iff.mp hi).1
      obtain ⟨t, e, _⟩ := hz i z _ hi (List.getElem?_eq_getElem (show i < ps.length by omega))
      exact ⟨t, e⟩
    obtain ⟨m1, m2⟩ := refs_back q2 refs
    have pairI : ∀ (i : Nat) v c, acc.toList[i]? = some v → ps[i]? = some c → Srt.IsPair hh v c.1 c.2 := fun i v c hv hc => by
      obtain ⟨t, rfl⟩ := m2 v (List.mem_of_getElem? hv)
      have hzv : ys[i]? = some (V.ref t) := by rw [m1, List.getElem?_map, hv]; rfl
      obtain ⟨t2, e, ht⟩ := hz i _ c hzv hc
      cases e
      obtain ⟨two, r2, ⟨ob, hob, hcl, n, hdat⟩, _⟩ := I2.tuple ht
      obtain ⟨c1, c2, rfl, ⟨k1, rfl⟩, ⟨k2, rfl⟩⟩ := vals2 r2
      exact ⟨t, ob, k1, k2, n, rfl, hob, hcl, hdat⟩
    have keyI : acc.toList.map (Dl.pairAt hh) = ps := Dl.map_of_at (by omega) fun i v c hv hc => Dl.pairAt_eq (pairI i v c hv hc)
    have allP : ∀ v ∈ acc.toList, Srt.IsPair hh v (Dl.pairAt hh v).1 (Dl.pairAt hh v).2 := fun v hv => by
      obtain ⟨i, hi⟩ := List.mem_iff_getElem?.mp hv
      have hlt := (List.getElem?_eq_some_iff.mp hi).1
      have hc : ps[i]? = some ps[i] := List.getElem?_eq_getElem (show i < ps.length by omega)
      have := pairI i v _ hi hc
      rw [Dl.pairAt_eq this]
      exact this
    have hzl : acc.toList.length ≤ sizeLine := by rw [hil]; exact q3
    refine wpAny_bind (wpAny_newList ?_ hzl)
    refine wpAny_bind (wpAny_holding (wpAny_call_entry slot_list_sort ⟨_, Heap.get?_push_size _ rfl, rfl⟩ entry_list_sort (SrtO.list_sort_ord (n := 0) (vs := acc.toList) (SrtO.swo_lex (Dl.pairAt hh)) (Heap.get?_push_size _ rfl) hzl (fun two => ?_) fun out srt stb => ⟨_, rfl, ?_⟩) (args_list_sort _)))
    · refine SrtO.pairs_sortableO (by omega) (fun v hm => (allP v hm).keeps fun b o e _ => Heap.get?_push_of_some _ e) fun o e => ?_
      have e' : some o = some (seqObj "list" acc.toList.toArray 0) := e.symm.trans (Heap.get?_push_size _ rfl)
      cases e'
      intro z
      exact absurd (Value.type.inj z) (by decide)
    · have perm := stb.perm
      have all : ∀ c ∈ out, ∃ a, c = Value.ref a := fun c hc => m2 c (perm.mem_iff.mp hc)
      obtain ⟨n, hn⟩ := sortedHeap_at (h := hh.push { cls := .type "list", data := .seq acc.toList.toArray }) (a := hh.objs.size) (vs := acc.toList) (n := 0) (out := out.toArray) (Heap.get?_push_size _ rfl)
      have kept : ∀ b o, hh.get? b = some o → (sortedHeap (hh.push { cls := .type "list", data := .seq acc.toList.toArray }) hh.objs.size acc.toList out.toArray).get? b = some o := fun b o e => by
        rw [sortedHeap_old (Nat.ne_of_lt (Heap.lt_size e)) (by rw [Heap.size_push]; exact Nat.lt_succ_of_lt (Heap.lt_size e))]
        exact Heap.get?_push_of_some _ e
      have hlen2 : (out.map backV).length ≤ sizeLine := by
        rw [List.length_map, perm.length_eq]
        exact hzl
      refine wpAny_pure ⟨_, rfl, .ref hh.objs.size, upd H' hh.objs.size (.lst (out.map backV)), I2.laid (t' := t2) kept (Nat.le_refl _) ⟨hlen2, out, n, vals_back all, hn⟩, rfl, q _ (out.map (Dl.pairAt hh)) _ (by rw [List.length_map, List.length_map]) ?_ ?_ (I2.hok.fresh (Nat.le_refl _))⟩
      · rw [Dl.zip_maps, m1, ← keyI, Dl.zip_maps]
        exact perm.map _
      · rw [List.pairwise_map]
        exact srt
  · obtain ⟨_, _, _, _, _, _, _, _, _, _, _, _, z⟩ := z
    exact z
end
end Gx
set_option Elab.async false
set_option linter.all false
set_option maxRecDepth 100000
/-! sorted(range(..), key=lambda ..), sorted(pairs for ..) by data -/
namespace Dl
open PySem PySem.Spec PyProof.Rows L2
variable {K : PySem.W.Frag} {pen : Pc} {H0 : Hp} {L : Lv} {D : Dn} {Pd : PyData → Prop} {Pl : List PyData → Prop} {ti : TI} {g : TG} {tt : TT} {te ta : TE}
/-- sorted((e1, e2) for x in ..) -/
theorem el_sortG {pn : Option Pn} {ts : List Addr} {Tb : Addr} {vs : List Nat} (f : Nat → Int × Int) (hT : Tb ∈ ts) (h : IT K ⟨pn, ts⟩ H0 ti L fun xs => xs.length ≤ 50000 ∧ (∀ (i : Nat) x, xs[i]? = some x → GTw K ⟨pn, ts⟩ H0 vs g x (wipeL L vs) fun L2 => E K ⟨pn, ts⟩ H0 te L2 fun d => d = pairD (f i)) ∧
    ∀ qs : List (Int × Int), qs.Perm ((List.range xs.length).map f) → qs.Pairwise LexLe → Pl (pairsL qs)) : EL K ⟨pn, ts⟩ H0 (_root_.Gx.tSortG K (_root_.Gx.tgGx Tb ti g tYes te vs)) L Pl := fun σ G H e Q q => h σ G H e _ fun It G1 H1 xs gg w ⟨hn, js, je⟩ => by
  refine ⟨gg.vw.ok.2 Tb hT, fun H2 htab => ?_⟩
  have g2 := Go.tab gg.vw hT htab
  refine ⟨fun i m acc H' => m = xs.length - i ∧ i ≤ xs.length ∧ ∃ G', Go ⟨pn, ts⟩ G1 H2 G' H' ∧ DpAll K G' acc (pairsL ((List.range i).map f)), ⟨xs.length, rfl, Nat.zero_le _, G1, .refl g2.vw, .nil⟩, ?_⟩
  rintro i m acc H' ⟨rfl, hi, G', g', dacc⟩
  obtain ⟨w1, w2⟩ := w G' H' g'.gg g'.vw
  have hal : acc.length = i := by
    have := dpa_len dacc
    unfold pairsL at this
    rw [List.length_map, List.length_map, List.length_range] at this
    exact this
  by_cases hlt : i < xs.length
  · obtain ⟨k1, k2⟩ := w1 i _ (List.getElem?_eq_getElem hlt)
    refine .inr ⟨k1, fun acc' H3 => ∃ G', Go ⟨pn, ts⟩ G1 H2 G' H3 ∧ DpAll K G' acc' (pairsL ((List.range (i + 1)).map f)), fun acc' H3 k => ⟨xs.length - (i + 1), by omega, rfl, hlt, k⟩, fun y H3 hy => ?_⟩
    obtain ⟨G3, g3, d3⟩ := k2 y H3 hy
    refine js i _ (List.getElem?_eq_getElem hlt) (wipe σ vs) G3 H3 y (ev_wipe ((((e.go gg).go g2).go g').go g3) vs) d3 _ fun σ4 L4 ag e4 h4 => ⟨wipe_agree ag, ?_⟩
    show te σ4 H3 _
    refine h4 σ4 G3 H3 e4 _ fun v d G5 H5 g5 d5 p5 => ?_
    subst p5
    refine ⟨by omega, G5, (g'.trans g3).trans g5, ?_⟩
    rw [List.range_succ, List.map_append, show pairsL ((List.range i).map f ++ [i].map f) = pairsL ((List.range i).map f) ++ [pairD (f i)] from by unfold pairsL; rw [List.map_append]; rfl]
    exact dpa_app (dpa_mono (g3.gg.trans g5.gg) _ _ dacc) (.cons d5 .nil)
  · have e1 : i = xs.length := by omega
    subst e1
    refine .inl ⟨w2, (List.range xs.length).map f, by rw [List.length_map, List.length_range, hal], fun j z c hz hc => ?_, fun ws qs r hl hp ho hr => ?_⟩
    · obtain ⟨d, hd, dd⟩ := dpa_getV dacc hz
      unfold pairsL at hd
      rw [List.getElem?_map, hc] at hd
      cases hd
      cases dd with
      | tup k1 k2 =>
        have := dpa_two k2
        subst this
        exact ⟨_, rfl, sqT_mono g'.vw.vw k1⟩
    · have hlen : acc.length = ((List.range xs.length).map f).length := by rw [List.length_map, List.length_range, hal]
      have hq : qs.Perm ((List.range xs.length).map f) := by
        have := hp.map (·.2)
        rw [zip_snd hl, zip_snd hlen] at this
        exact this
      have h2 : DpAll K G' ws (pairsL qs) := by
        refine dpa_at (by unfold pairsL; rw [List.length_map]; exact hl) fun x hx => ?_
        unfold pairsL at hx
        rw [zip_mapR] at hx
        obtain ⟨y, hy, rfl⟩ := List.mem_map.mp hx
        have hm : y ∈ acc.zip ((List.range xs.length).map f) := hp.mem_iff.mp hy
        have := dpa_zip dacc (y.1, pairD y.2) (by unfold pairsL; rw [zip_mapR]; exact List.mem_map.mpr ⟨y, hm, rfl⟩)
        exact this
      have gt := (gg.trans g2).trans g'
      have e1 := e.go gt
      have g3 := Go.hid e1.vw (o := .lst ws) hr
      exact q r ws _ G' _ (gt.trans g3) upd_same (e1.gnone hr) (EL.out e gt hr) h2 (je qs hq ho)
/-- sorted(range(n), key=lambda p: -l[p]) -/
theorem el_sortK {pn : Option Pn} {ts : List Addr} {Tb : Addr} {j ip : Nat} {ls : List Int} (hT : Tb ∈ ts) (hj : L[j]? = some (some (.d (.list (intsL ls))))) (hij : ip ≠ j) (hip : ip < L.length)
    (h : E K ⟨pn, ts⟩ H0 ta L fun d => ∃ n : Nat, d = .int n ∧ n < 64 ∧ n ≤ ls.length ∧ ∀ out : List Nat, out.Perm (List.range n) → (out.map fun i => -(ls.getD i 0)).Pairwise (· ≤ ·) → Pl (intsL (out.map fun i => ((i : Nat) : Int)))) :
    EL K ⟨pn, ts⟩ H0 (_root_.Gx.tSortK Tb (tRg1 ta) (tUn (rU fun i => .int (-i)) (tOp (rIxL K) (tVar j) (tVar ip))) ip) L Pl := fun σ G H e Q q => h σ G H e _ fun v d G1 H1 gg d1 ⟨n, hd, hn, hnl, p⟩ => by
  subst hd
  cases d1
  refine ⟨(n : Int), rfl, gg.vw.ok.2 Tb hT, fun H2 htab => ?_⟩
  have g2 := Go.tab gg.vw hT htab
  have e2 := (e.go gg).go g2
  obtain ⟨lv, k1, k2⟩ := e2.sl j _ hj
  refine ⟨n, fun i => -(ls.getD i 0), rfl, rfl, hn, fun i hi => ?_, fun out r hp ho hr => ?_⟩
  · have k2 : Dp K G1 lv (.list (intsL ls)) := k2
    cases k2 with
    | lst hs ha =>
      have ex := dpa_ints ha
      subst ex
      have hil : i < ls.length := by omega
      refine ⟨_, by rw [List.getElem?_set_ne hij]; exact k1, _, List.getElem?_set_self (by rw [e2.len]; exact hip), _, _, (i : Nat), .int (ls.getD i 0), rfl, rfl, sqL_mono e2.vw.vw hs, atI_nat ?_, _, rfl, rfl, rfl⟩
      rw [List.getElem?_map, List.getElem?_eq_getElem hil, List.getD_eq_getElem?_getD, List.getElem?_eq_getElem hil]
      rfl
  · have g3 := Go.hid e2.vw (o := .lst (out.map fun i => V.int ((i : Nat) : Int))) hr
    have dd : DpAll K G1 (out.map fun i => V.int ((i : Nat) : Int)) (intsL (out.map fun i => ((i : Nat) : Int))) := by
      have := ints_dpa (K := K) (G := G1) (out.map fun i => ((i : Nat) : Int))
      rw [List.map_map] at this
      exact this
    exact q r _ _ G1 _ ((gg.trans g2).trans g3) upd_same (e2.gnone hr) (EL.out e (gg.trans g2) hr) dd (p out hp ho)
end Dl
set_option Elab.async false
set_option linter.all false
set_option maxRecDepth 100000
/-! sorted(set(pairs)) of pairs that stand in their order, len(set(ints)) of unlike ints -/
namespace Dl
open PySem PySem.Spec PyProof.Rows L2
section
variable {X : Cx}
theorem kx_lenSetI {K : PySem.W.Frag} {a : Expr} {ta : TE} {p p2 q pos : Pos} (h : X.K = K) (hg : Gl X "len") (hm : X.mg "len" = none) (hg2 : Gl X "set") (hm2 : X.mg "set" = none) (ha : PE X a ta) (hc : X.calm = true)
    (na : starEach [a] X.env = (false, eval a X.env) :: starEach [] X.env := by rfl) : PE X (.Call (.Name "len" p) [.Call (.Name "set" p2) [a] [] q] [] pos) (RZ.tLenSetI K ta) := by subst h; exact RZ.pe_lenSetI hg hm hg2 hm2 ha hc na
end
section
variable {K : PySem.W.Frag} {pen : Pc} {H0 : Hp} {L : Lv} {te : TE} {Pl : List PyData → Prop} {Pd : PyData → Prop} {P : Program} {w : World}
theorem e_lenSetI (h : E K pen H0 te L fun d => ∃ ns : List Int, d = .list (intsL ns) ∧ ns.Nodup ∧ ns.length ≤ 4000 ∧ Pd (.int (ns.length : Nat))) : E K pen H0 (RZ.tLenSetI K te) L Pd := fun σ G H e Q q => h σ G H e _ fun v d G1 H1 go hd ⟨ns, hds, hn, hl, p⟩ => by
  subst hds
  cases hd with
  | lst hs ha =>
    have ex := dpa_ints ha
    subst ex
    exact ⟨_, ns, rfl, sqL_mono go.vw.vw hs, hn, hl, q _ _ G1 H1 go (.int _) p⟩
/-- strictly in the pairs' order -/
abbrev LexLt (a b : Int × Int) : Prop := a.1 < b.1 ∨ (a.1 = b.1 ∧ a.2 < b.2)
theorem dpa_pairsX {G : Hp} : ∀ {cs : List (Int × Int)} {vs : List V}, DpAll K G vs (pairsL cs) → ∃ ks : List (Addr × List Int), vs = ks.map (fun p => V.ref p.1) ∧ (∀ p ∈ ks, SqT K G p.1 (p.2.map V.int)) ∧ ks.map (·.2) = cs.map fun c => [c.1, c.2]
  | [], _, h => by cases h; exact ⟨[], rfl, fun p hp => (nomatch hp), rfl⟩
  | c :: cs, vs, h => by
    have h : DpAll K G vs (.tuple [.int c.1, .int c.2] :: pairsL cs) := h
    cases h with
    | cons h1 t =>
      obtain ⟨ks, e1, e2, e3⟩ := dpa_pairsX t
      cases h1 with
      | tup hs ha =>
        rename_i a xs
        have := dpa_two ha
        subst this
        subst e1
        refine ⟨(a, [c.1, c.2]) :: ks, rfl, fun p hp => ?_, by rw [List.map_cons, List.map_cons, e3]⟩
        rcases List.mem_cons.mp hp with rfl | hp
        · exact hs
        · exact e2 p hp
theorem code_two (B x y : Int) : TS.code B [x, y] = x * B + y := by
  show x * B ^ 1 + (y * B ^ 0 + 0) = x * B + y
  rw [Int.pow_succ, Int.pow_zero, Int.one_mul, Int.mul_one, Int.add_zero]
theorem code_le {a b : Int × Int} (ha : 0 ≤ a.1 ∧ a.1 < 10000 ∧ 0 ≤ a.2 ∧ a.2 < 10000) (hb : 0 ≤ b.1 ∧ b.1 < 10000 ∧ 0 ≤ b.2 ∧ b.2 < 10000) (h : TS.code 10000 [a.1, a.2] ≤ TS.code 10000 [b.1, b.2]) : LexLt a b ∨ a = b := by
  rw [code_two, code_two] at h
  rcases Int.lt_trichotomy a.1 b.1 with c | c | c
  · exact .inl (.inl c)
  · rcases Int.lt_trichotomy a.2 b.2 with k | k | k
    · exact .inl (.inr ⟨c, k⟩)
    · exact .inr (Prod.ext c k)
    · omega
  · omega
theorem el_sortSetS (h : E K pen H0 te L fun d => ∃ cs : List (Int × Int), d = .list (pairsL cs) ∧ cs.length < 64 ∧ cs.Pairwise LexLt ∧ (∀ c ∈ cs, 0 ≤ c.1 ∧ c.1 < 10000 ∧ 0 ≤ c.2 ∧ c.2 < 10000) ∧ Pl (pairsL cs)) :
    EL K pen H0 (tCB (rSortedT K P w) (tCons (tCB (rSetOfT K P w) (tCons te tNil)) tNil)) L Pl := fun σ G H e Q q =>
  h σ G H e _ fun v d G1 H1 go hd ⟨cs, hcs, hl, hlt, hb, p⟩ => by
    subst hcs
    cases hd with
    | lst hs ha =>
      rename_i a vs
      obtain ⟨ks, rfl, k2, k3⟩ := dpa_pairsX ha
      have e1 := e.go go
      have klen : ks.length = cs.length := by have := congrArg List.length k3; rw [List.length_map, List.length_map] at this; exact this
      have inK : ∀ p ∈ ks, ∃ c ∈ cs, p.2 = [c.1, c.2] := fun p hp => by
        have : p.2 ∈ ks.map (·.2) := List.mem_map.mpr ⟨p, hp, rfl⟩
        rw [k3] at this
        obtain ⟨c, hc, e⟩ := List.mem_map.mp this
        exact ⟨c, hc, e.symm⟩
      refine ⟨a, ks, rfl, sqL_mono go.vw.vw hs, fun p hp => sqT_mono go.vw.vw (k2 p hp), by omega, fun b M hb1 m1 m2 => ?_⟩
      have g2 := Go.hid e1.vw (o := SetTO P w b M) hb1
      have e2 := e1.go g2
      refine ⟨b, M, 2, 10000, rfl, upd_same, fun p hp => sqT_mono g2.vw.vw (k2 p (m1 p hp)), by decide, fun p hp => ?_, fun N r pm nd lenN srt hr => ?_⟩
      · obtain ⟨c, hc, e⟩ := inK p (m1 p hp)
        rw [e]
        refine ⟨rfl, fun m hm => ?_⟩
        have := hb c hc
        rcases List.mem_cons.mp hm with rfl | hm
        · omega
        · rw [List.mem_singleton.mp hm]; omega
      · have g3 := Go.hid e2.vw (o := .lst (N.map fun q => V.ref q.1)) hr
        -- the pairs of N
        have inN : ∀ p ∈ N, ∃ c ∈ cs, p.2 = [c.1, c.2] := fun p hp => inK p (m1 p (pm.mem_iff.mp hp))
        have hd : ∃ ds : List (Int × Int), N.map (·.2) = ds.map (fun c => [c.1, c.2]) ∧ ∀ c ∈ ds, c ∈ cs := by
          have all : ∀ l : List (Addr × List Int), (∀ p ∈ l, ∃ c ∈ cs, p.2 = [c.1, c.2]) → ∃ ds : List (Int × Int), l.map (·.2) = ds.map (fun c => [c.1, c.2]) ∧ ∀ c ∈ ds, c ∈ cs := by
            intro l
            induction l with
            | nil => intro _; exact ⟨[], rfl, fun _ z => nomatch z⟩
            | cons x l ih =>
              intro hl
              obtain ⟨c, hc, e⟩ := hl x (List.mem_cons_self ..)
              obtain ⟨ds, e1, e2⟩ := ih fun y hy => hl y (List.mem_cons_of_mem _ hy)
              exact ⟨c :: ds, by rw [List.map_cons, List.map_cons, e, e1], fun z hz => (List.mem_cons.mp hz).elim (fun k => k ▸ hc) (e2 z)⟩
          exact all N inN
        obtain ⟨ds, d1, d2⟩ := hd
        have inj : ∀ {c c' : Int × Int}, ([c.1, c.2] : List Int) = [c'.1, c'.2] → c = c' := fun {c c'} h => by
          have h1 := (List.cons.inj h).1
          have h2 := (List.cons.inj (List.cons.inj h).2).1
          exact Prod.ext h1 h2
        have dsnd : ds.Nodup := by
          rw [d1] at nd
          exact (List.pairwise_map.mp nd).imp fun hab z => hab (by rw [z])
        have csnd : cs.Nodup := hlt.imp fun hab z => by rw [z] at hab; omega
        have allin : ∀ c ∈ cs, c ∈ ds := fun c hc => by
          have : ([c.1, c.2] : List Int) ∈ ks.map (·.2) := by rw [k3]; exact List.mem_map.mpr ⟨c, hc, rfl⟩
          obtain ⟨k, hk, e⟩ := List.mem_map.mp this
          have := m2 k hk
          rw [e] at this
          obtain ⟨y, hy, e⟩ := List.mem_map.mp this
          have : y.2 ∈ N.map (·.2) := List.mem_map.mpr ⟨y, pm.mem_iff.mpr hy, rfl⟩
          rw [d1, e] at this
          obtain ⟨z, hz, e⟩ := List.mem_map.mp this
          rw [← inj e]
          exact hz
        have dp : ds.Perm cs := (List.perm_ext_iff_of_nodup dsnd csnd).mpr fun c => ⟨d2 c, allin c⟩
        have dsS : ds.Pairwise fun a b => TS.code 10000 [a.1, a.2] ≤ TS.code 10000 [b.1, b.2] := by
          have : (N.map (·.2)).Pairwise fun x y => TS.code 10000 x ≤ TS.code 10000 y := List.pairwise_map.mpr srt
          rw [d1] at this
          exact (List.pairwise_map (R := fun x y => TS.code 10000 x ≤ TS.code 10000 y) (f := fun c : Int × Int => [c.1, c.2])).mp this
        have csS : cs.Pairwise fun a b => TS.code 10000 [a.1, a.2] ≤ TS.code 10000 [b.1, b.2] := by
          refine List.Pairwise.imp_of_mem (fun {a b} ha hb' hab => ?_) hlt
          rw [code_two, code_two]
          have h1 := hb a ha
          have h2 := hb b hb'
          omega
        have edc : ds = cs := List.Perm.eq_of_pairwise (le := fun a b : Int × Int => TS.code 10000 [a.1, a.2] ≤ TS.code 10000 [b.1, b.2]) (fun a b ha hb' x y => by
          have h1 := hb a (d2 a ha)
          have h2 := hb b hb'
          rcases code_le h1 h2 x with z | z
          · rw [code_two, code_two] at y
            omega
          · exact z) dsS csS dp
        subst edc
        have back : ∀ (l : List (Addr × List Int)) (es : List (Int × Int)), (∀ p ∈ l, SqT K G1 p.1 (p.2.map V.int)) → l.map (·.2) = es.map (fun c => [c.1, c.2]) → DpAll K G1 (l.map fun p => V.ref p.1) (pairsL es) := by
          intro l
          induction l with
          | nil =>
            intro es _ he
            cases es with
            | nil => exact .nil
            | cons c es => cases he
          | cons x l ih =>
            intro es hl he
            cases es with
            | nil => cases he
            | cons c es =>
              rw [List.map_cons, List.map_cons] at he
              have h1 := (List.cons.inj he).1
              have hx := hl x (List.mem_cons_self ..)
              rw [h1] at hx
              exact .cons (.tup hx (.cons (.int _) (.cons (.int _) .nil))) (ih es (fun p hp => hl p (List.mem_cons_of_mem _ hp)) (List.cons.inj he).2)
        exact q r _ _ G1 _ ((go.trans g2).trans g3) upd_same (e2.gnone hr) (EL.out e (go.trans g2) hr) (back N ds (fun p hp => k2 p (m1 p (pm.mem_iff.mp hp))) d1) p
end
section
variable {P : Program} {w : World} {K : PySem.W.Frag} {mg : Str → Option Value} {base : Heap}
/-- a def that tells what is new, its code object known -/
theorem fnXFc {α : Type} {x qual : Str} {st : Stmt} {f c : Addr} {fd : FuncData} {N ps : List Str} {k : Nat} {ts : List Addr} {Wf : α → Prop} {enc : α → List PyData} {res : α → PyData → Prop} (F : FunC K x qual st f fd c) (S0 : FnScope N ps (defScope st)) (hl : ∀ x, Wf x → (enc x).length = ps.length)
    (hbody : ∀ (A : Around) (outer : List Env) (s : Shared) (H : Hp) (E : XK), Room k (A.deeper (envOfC qual (defScope st) s.heap.objs.size f (.ref c))) →
      ∃ t, PSs (cxOf CX0 P w K mg base N qual (defScope st) f (.ref c) A outer s H E).nox (defBody st) t ∧ ∀ x, Wf x → S K ⟨none, ts⟩ H t (st0 N (enc x)) { nx := fun _ => False, rt := fun _ => False, rn := res x }) : FnOk P w K mg base CX0 (k + 1) f fd ps (SpXF K ts Wf enc res) := by
  refine F.ok S0 (fun vs H Q E h => ?_) (fun A outer s H vs Q E hr h => ?_)
  · obtain ⟨x, G, _, h1, h2, _⟩ := h
    rw [dpa_len h1]
    exact hl x h2
  · obtain ⟨x, G, v, h1, h2, q⟩ := h
    obtain ⟨t, ht, hS⟩ := hbody A outer s H E hr
    refine ⟨t, ht, hS x h2 (L2.start N vs) G H _ (ev_start h1 v) (fun _ _ _ _ _ _ z => z.elim) (fun _ _ _ _ _ _ _ z => z.elim) (fun _ _ _ _ _ _ z => z.elim) (fun _ _ _ _ _ _ z => z.elim) (fun v d G' H' x vw hd p => ?_) (fun _ _ _ _ _ _ _ _ _ _ _ z => z.elim)⟩
    exact q v d G' H' ⟨x.gg, x.nw, fun a o hp e => x.od a o hp (by rw [e]; exact fun z => by cases z) e, vw⟩ hd p
end
end Dl
set_option Elab.async false
set_option linter.all false
set_option maxRecDepth 100000
/-! what was told as new: returned, unpacked, walked -/
namespace Dl
open PySem PySem.Spec PyProof.Rows L2
section
variable {K : PySem.W.Frag} {pen : Pc} {H0 : Hp} {L : Lv} {P : PyData → Prop} {te : TE} {ti : TI} {tt : TT} {t1 : TS} {g : TG} {D : Dn}
theorem en_fr {i : Nat} {d : PyData} (hi : L[i]? = some (some (.fr d))) (p : P d) : EN K pen H0 (tVar i) L P := fun σ G H e Q q => by
  obtain ⟨v, k1, k2⟩ := e.sl i _ hi
  exact ⟨_, k1, q v d G H (.refl e.vw) k2 p⟩
theorem wipeL_len : ∀ (vs : List Nat), (wipeL L vs).length = L.length
  | [] => rfl
  | v :: vs => by unfold wipeL; rw [List.length_set, wipeL_len vs]
theorem wipeL_get : ∀ (vs : List Nat) {j : Nat} {av : AV}, (wipeL L vs)[j]? = some (some av) → j ∉ vs ∧ L[j]? = some (some av)
  | [], j, av, h => ⟨List.not_mem_nil, h⟩
  | v :: vs, j, av, h => by
    unfold wipeL at h
    by_cases q : v = j
    · subst q
      rw [List.getElem?_set] at h
      rw [if_pos rfl] at h
      split at h <;> cases h
    · rw [List.getElem?_set_ne q] at h
      obtain ⟨h1, h2⟩ := wipeL_get vs h
      exact ⟨fun z => (List.mem_cons.mp z).elim (fun z => q z.symm) h1, h2⟩
theorem ev_agree {G H : Hp} {σ σ' : L2.St} {vs : List Nat} (e : Ev K pen H0 G H σ L) (a : Agree vs σ σ') : Ev K pen H0 G H σ' (wipeL L vs) := by
  refine ⟨e.vw, e.h0, e.dom, by rw [wipeL_len, a.1]; exact e.len, fun j av hj => ?_, fun i j ds es l h1 h2 h3 h4 => ?_⟩
  · obtain ⟨n, hj⟩ := wipeL_get vs hj
    obtain ⟨v, k1, k2⟩ := e.sl j av hj
    exact ⟨v, (a.2 j n).trans k1, k2⟩
  · obtain ⟨n1, h1⟩ := wipeL_get vs h1
    obtain ⟨n2, h2⟩ := wipeL_get vs h2
    rw [a.2 i n1] at h3
    rw [a.2 j n2] at h4
    exact e.ow i j ds es l h1 h2 h3 h4
/-- a walk over what was told as new, nothing done but a test that fails -/
theorem s_forLook {vs : List Nat} (h : IT K pen H0 ti (lookL L) fun xs => ∀ (i : Nat) x, xs[i]? = some x → GTw K pen H0 vs g x (wipeL (lookL L) vs) fun L2 => ET K pen H0 tt L2 fun b => b = false) (k : D.nx (wipeL L vs)) :
    S K pen H0 (tFor ti g (tIfS tt t1 tNext)) L D := fun σ G H N e n1 n2 n3 n4 n5 n6 => h σ _ H e.look _ fun J G1 H1 xs go w hs => by
  refine ⟨fun i m σ' H' => m = xs.length - i ∧ i ≤ xs.length ∧ Agree vs σ σ' ∧ ∃ G', Go pen (vmax H0 G H) H G' H' ∧ Go pen G1 H1 G' H', ⟨xs.length, rfl, Nat.zero_le _, ⟨rfl, fun _ _ => rfl⟩, G1, go, .refl go.vw⟩, ?_⟩
  rintro i m σ1 H2 ⟨rfl, hi, ag, G2, go2, go12⟩
  obtain ⟨w1, w2⟩ := w G2 H2 go12.gg go12.vw
  by_cases hlt : i < xs.length
  · obtain ⟨k1, k2⟩ := w1 i _ (List.getElem?_eq_getElem hlt)
    refine .inr ⟨k1, fun σ' H' => Agree vs σ σ' ∧ ∃ G', Go pen (vmax H0 G H) H G' H' ∧ Go pen G1 H1 G' H', fun σ' H' ⟨a, b⟩ => ⟨xs.length - (i + 1), by omega, rfl, hlt, a, b⟩, fun v H3 hy => ?_⟩
    obtain ⟨G3, g3, d3⟩ := k2 v H3 hy
    refine hs i _ (List.getElem?_eq_getElem hlt) σ1 G3 H3 v (ev_agree (e.look.go (go2.trans g3)) ag) d3 _ fun σ4 L4 ag4 e4 h4 => ?_
    refine h4 σ4 G3 H3 e4 _ fun b G5 H5 g5 hb => ?_
    subst hb
    exact ⟨⟨ag4.1.trans ag.1, fun j hj => (ag4.2 j hj).trans (ag.2 j hj)⟩, G5, go2.trans (g3.trans g5), go12.trans (g3.trans g5)⟩
  · have e1 : i = xs.length := by omega
    subst e1
    obtain ⟨G', g', _, _⟩ := look_back e.vw e.h0 go2
    exact .inl ⟨w2, n1 σ1 G' H2 _ (e.gx g') (ev_agree (e.go g') ag) k⟩
/-- word, x = what is told as new: the word is data, x is new, or a number -/
theorem s_asgN2 {i j : Nat} (h : EN K pen H0 te L fun d => ∃ w b, d = .tuple [.str w, b] ∧ ((∃ x, b = .int x ∧ D.nx ((L.set i (some (.d (.str w)))).set j (some (.d (.int x))))) ∨ D.nx ((L.set i (some (.d (.str w)))).set j (some (.fr b))))) : S K pen H0 (tAsg te (gTup K 2 (gCons (gName i) (gCons (gName j) gNil)))) L D := fun σ G H N e n1 _ _ _ _ _ =>
  h σ G H e _ fun v d G' H' go hd ⟨w, b, hw, p⟩ => by
    subst hw
    cases hd with
    | tup hs ha =>
      cases ha with
      | cons h1 h2 =>
        cases h1
        cases h2 with
        | cons h2 h3 =>
          cases h3
          have e' := e.go go
          refine ⟨_, _, rfl, sqT_mono (same_new e') hs, rfl, _, _, rfl, _, _, rfl, rfl, ?_⟩
          rcases p with ⟨x, rfl, p⟩ | p
          · cases h2
            exact n1 _ G' H' _ (e.gx go) ((e'.set (.str w)).set (.int x)) p
          · exact n1 _ G' H' _ (e.gx go) ((e'.set (.str w)).setFr h2) p
/-- x[-1].append(e), x a told tuple -/
theorem s_appFrN {i k : Nat} {tj : TE} {ds es : List PyData} (hi : L[i]? = some (some (.fr (.tuple ds)))) (hk : ds[k]? = some (.list es)) (hl : ds.length = k + 1) (hz : es.length < 100000) (hj : E K pen H0 tj L fun d => d = .int (-1)) (h : E K pen H0 te (L.set i none) fun _ => D.nx (L.set i none)) (od : onlyD (L.set i none) = true := by rfl) :
    S K pen H0 (tDrop (tBM K "list" rAppend (tOp (rIxT K) (tVar i) tj) (tCons te tNil))) L D := fun σ G H N e n1 _ _ _ _ _ => by
  obtain ⟨v0, k0, _⟩ := e.sl i _ hi
  refine ⟨_, k0, hj σ G H e _ fun y d G0 H1 g0 hd hm => ?_⟩
  subst hm
  cases hd
  have e0 := e.go g0
  obtain ⟨t, xs, l, vs, k1, k2, k3, m1, m2, m3, m4, hxl⟩ : ∃ t xs l vs, σ[i]? = some (some (.ref t)) ∧ SqT K H1 t xs ∧ xs[k]? = some (.ref l) ∧ H1 l = some (.lst vs) ∧ H0 l = none ∧ G0 l = none ∧ vs.length = es.length ∧ xs.length = k + 1 := by
    obtain ⟨v, k1, k2⟩ := e0.sl i _ hi
    cases k2 with
    | tup hs ha =>
      obtain ⟨w, q1, q2⟩ := nda_get ha hk
      obtain ⟨l, vs, rfl, m1, m2, m3, m4⟩ := nd_list q2
      exact ⟨_, _, l, vs, k1, sqT_mono (same_new e0) hs, q1, m1, m2, m3, m4, (nda_len ha).trans hl⟩
  rw [k0] at k1
  cases k1
  have e' := e0.forget i od
  have hat : atI xs (-1) = some (.ref l) := by
    unfold atI
    have e1 : ixN (k + 1) (-1) = some k := by
      unfold ixN
      rw [if_neg (by decide), if_pos (by omega)]
      congr 1
      omega
    rw [hxl, e1, Option.bind_some]
    exact k3
  refine ⟨t, xs, -1, .ref l, rfl, rfl, k2, hat, .inl ⟨rfl, vs, .inl (.inl m1)⟩, h σ G0 H1 e' _ fun w d G1 H2 g1 d1 p => ?_⟩
  have np : ¬ IsPn pen l := fun q => e.h0.there q m2
  have q1 := g1.od _ _ np m1
  have q2 : G1 l = none := (g1.nw l (by rw [m1]; exact fun z => by cases z)).trans m3
  obtain ⟨r1, r2⟩ := (e'.go g1).spoil od (ho := .lst (vs ++ [w])) m2 q2 (code_ne q1 rfl)
  exact ⟨l, vs, w, rfl, rfl, q1, Nat.lt_of_lt_of_le (by rw [m4]; exact hz) (by decide : 100000 ≤ sizeLine), n1 σ G1 _ _ ((e.gx g0).trans ((e'.gx g1).trans r2)) r1 p⟩
end
end Dl
set_option Elab.async false
set_option linter.all false
set_option maxRecDepth 100000
/-! a part of what was told as new, told on -/
namespace Dl
open PySem PySem.Spec PyProof.Rows L2
section
variable {K : PySem.W.Frag} {pen : Pc} {H0 : Hp} {L : Lv} {P : PyData → Prop} {tj : TE}
theorem en_frPart {i k : Nat} {ds : List PyData} {d : PyData} (hi : L[i]? = some (some (.fr (.tuple ds)))) (hk : ds[k]? = some d) (hj : E K pen H0 tj L fun x => x = .int (k : Nat)) (p : P d) : EN K pen H0 (tOp (rIxT K) (tVar i) tj) L P := fun σ G H e Q q => by
  obtain ⟨v0, k0, _⟩ := e.sl i _ hi
  refine ⟨_, k0, hj σ G H e _ fun y d0 G0 H1 g0 hd hm => ?_⟩
  subst hm
  cases hd
  have e0 := e.go g0
  obtain ⟨v, k1, k2⟩ := e0.sl i _ hi
  rw [k0] at k1
  cases k1
  cases k2 with
  | tup hs ha =>
    obtain ⟨w, q1, q2⟩ := nda_get ha hk
    exact ⟨_, _, (k : Nat), w, rfl, rfl, sqT_mono (same_new e0) hs, atI_nat q1, q w d G0 H1 g0 q2 p⟩
theorem et_truB {ta : TE} {Pb : Bool → Prop} (h : E K pen H0 ta L fun d => ∃ b, d = .bool b ∧ Pb b) : ET K pen H0 (tTru K ta) L Pb := fun σ G H e Q q => h σ G H e _ fun v d G1 H1 go hd ⟨i, hi, p⟩ => by
  subst hi
  cases hd
  exact ⟨_, rfl, q _ G1 H1 go p⟩
/-- an if that is not taken while a told object stands by -/
theorem s_ifNo {D : Dn} {tt : TT} {t1 : TS} (h : ET K pen H0 tt (lookL L) fun b => b = false) (k : D.nx L) : S K pen H0 (tIfS tt t1 tNext) L D :=
  s_if (et_look (ET.mono h fun b e => ⟨fun z => absurd (e.symm.trans z) Bool.false_ne_true, fun _ => s_next k⟩))
end
end Dl
set_option Elab.async false
set_option linter.all false
set_option maxRecDepth 100000
/-! dicts whose keys are tuples within tuples, as data -/
namespace Dl
open PySem PySem.Spec PyProof.Rows L2
mutual
theorem nk_of {K : PySem.W.Frag} {G H : Hp} (s : Same G H) : ∀ (k : NestedKey) (v : V), Dp K G v k.data → Gn.NK K H k v
  | .none, v, h => by
    rw [NestedKey.data] at h
    cases h
    exact .none
  | .num i, v, h => by
    rw [NestedKey.data] at h
    cases h
    exact .int i
  | .text x, v, h => by
    rw [NestedKey.data] at h
    cases h
    exact .str x
  | .tup ks, v, h => by
    rw [NestedKey.data] at h
    cases h with
    | tup hs ha =>
      obtain ⟨h1, h2⟩ := nks_of s ks _ ha
      exact .tup (sqT_mono s hs) h1 h2
theorem nks_of {K : PySem.W.Frag} {G H : Hp} (s : Same G H) : ∀ (ks : List NestedKey) (xs : List V), DpAll K G xs (NestedKey.datas ks) → xs.length = ks.length ∧ ∀ (i : Nat) x k, xs[i]? = some x → ks[i]? = some k → Gn.NK K H k x
  | [], xs, h => by
    rw [NestedKey.datas] at h
    cases h
    exact ⟨rfl, fun i x k h => by cases h⟩
  | k :: ks, xs, h => by
    rw [NestedKey.datas] at h
    cases h with
    | cons h1 h2 =>
      obtain ⟨g1, g2⟩ := nks_of s ks _ h2
      refine ⟨by rw [List.length_cons, List.length_cons, g1], fun i x k' e1 e2 => ?_⟩
      rcases i with _ | i
      · cases e1; cases e2
        exact nk_of s k _ h1
      · exact g2 i x k' e1 e2
end
theorem tup_ref {K : PySem.W.Frag} {G : Hp} {v : V} {ks : List NestedKey} (h : Dp K G v (NestedKey.tup ks).data) : ∃ b, v = .ref b := by
  rw [NestedKey.data] at h
  cases h
  exact ⟨_, rfl⟩
section
variable {K : PySem.W.Frag} {G H : Hp} {kvs : List Gn.NE} {m : List (NestedKey × PyData)}
theorem nv_len (h : NvOk K G kvs m) : kvs.length = m.length := Paired.length h
theorem nv_keys (s : Same G H) (h : NvOk K G kvs m) : Gn.Keys K H kvs := by
  induction h with
  | nil => exact fun p hp => nomatch hp
  | @cons p q ps qs h t ih =>
    intro x hx
    rcases List.mem_cons.mp hx with e | hx
    · subst e
      exact ⟨nk_of s _ _ h.2.2.1, h.2.1⟩
    · exact ih x hx
theorem nv_val (k : NestedKey) (h : NvOk K G kvs m) : (∃ v d, Gn.getN kvs k = some v ∧ valD m k = some d ∧ Dp K G v d) ∨ (Gn.getN kvs k = none ∧ valD m k = none) := by
  induction h with
  | nil => exact .inr ⟨rfl, rfl⟩
  | @cons p q ps qs h t ih =>
    by_cases e : p.1 = k
    · refine .inl ⟨p.2.2, q.2, by simp [Gn.getN, List.find?_cons, e], by simp [valD, List.find?_cons, ← h.1, e], h.2.2.2⟩
    · have e2 : ¬ q.1 = k := fun z => e (h.1.trans z)
      rw [show Gn.getN (p :: ps) k = Gn.getN ps k from by simp [Gn.getN, List.find?_cons, e], show valD (q :: qs) k = valD qs k from by simp [valD, List.find?_cons, e2]]
      exact ih
theorem nv_any (k : NestedKey) (h : NvOk K G kvs m) : (kvs.any fun p => decide (p.1 = k)) = (m.any fun p => decide (p.1 = k)) := by
  induction h with
  | nil => rfl
  | @cons p q ps qs h t ih => rw [List.any_cons, List.any_cons, ih, h.1]
theorem nv_put {b : Addr} {v : V} {d : PyData} (k : NestedKey) (hd8 : k.depth ≤ 8) (hb : Dp K G (.ref b) k.data) (hd : Dp K G v d) (h : NvOk K G kvs m) : NvOk K G (Gn.putN kvs k b v) (putD m k d) := by
  unfold Gn.putN putD
  rw [nv_any k h]
  split
  · rename_i hs
    clear hb hs
    induction h with
    | nil => exact .nil
    | @cons p q ps qs h t ih =>
      rw [List.map_cons, List.map_cons]
      refine .cons ?_ ih
      obtain ⟨h1, h2, h3, h4⟩ := h
      by_cases e : p.1 = k
      · rw [if_pos e, if_pos (h1.symm.trans e)]; exact ⟨h1, h2, h3, hd⟩
      · rw [if_neg e, if_neg (fun z => e (h1.trans z))]; exact ⟨h1, h2, h3, h4⟩
  · exact Paired.snoc h ⟨rfl, hd8, hb, hd⟩
end
section
variable {w : World} {K : PySem.W.Frag} {pen : Pc} {H0 : Hp} {L : Lv} {P : PyData → Prop} {ty tv : TE} {D : Dn}
/-- a key: a tuple of ints, texts, None and tuples -/
def NkD (d : PyData) (k : NestedKey) : Prop := d = k.data ∧ k.depth ≤ 8 ∧ ∃ ks, k = .tup ks
theorem s_nnew {i : Nat} (h : D.nx (L.set i (some (.own (.dN w []))))) : S K pen H0 (tAsg (Gn.tNew w) (gName i)) L D := fun σ G H N e n1 _ _ _ _ _ => fun p hp =>
  n1 _ G _ _ (e.gx (Go.hid e.vw hp)) (e.newOwn (o := .dN w []) (ho := Gn.NO w p []) hp (OwnOk.ofN .nil)) h
theorem s_nput {j : Nat} {m : List (NestedKey × PyData)} (hj : L[j]? = some (some (.own (.dN w m)))) (hz : m.length < 100000) (h : E K pen H0 tv L fun d => E K pen H0 ty L fun x => ∃ k, NkD x k ∧ D.nx (L.set j (some (.own (.dN w (putD m k d)))))) (nf : noFr L = true := by rfl) :
    S K pen H0 (Gn.sPut w K (tVar j) ty tv) L D := fun σ G H N e n1 _ _ _ _ _ => h σ G H e _ fun v d G1 H1 g1 d1 h1 => by
  have e1 := e.go g1
  obtain ⟨l, ho, k1, k3, k6⟩ := e1.own hj
  refine ⟨_, k1, h1 σ G1 H1 e1 _ fun y x G2 H2 g2 d2 ⟨k, ⟨hk, hk8, ks, hkt⟩, p⟩ => ?_⟩
  have e2 := e1.go g2
  obtain ⟨ho2, q3, q6⟩ := e2.ownAt hj k1
  obtain ⟨kvs, rfl, q7⟩ := q6.dN
  subst hk
  obtain ⟨b, rfl⟩ := tup_ref (ks := ks) (by rw [← hkt]; exact d2)
  obtain ⟨r1, r2⟩ := e2.putOwn nf hj k1 (o' := .dN w (putD m k d)) (ho := Gn.NO w l (Gn.putN kvs k b v)) (OwnOk.ofN (nv_put k hk8 d2 (dp_mono g2.gg _ _ d1) q7))
  exact ⟨l, b, kvs, k, rfl, rfl, q3, nv_keys e2.vw.vw q7, nk_of e2.vw.vw _ _ d2, hk8, Nat.lt_of_lt_of_le (by rw [nv_len q7]; exact hz) (by decide : 100000 ≤ sizeLine), n1 σ G2 _ _ (((e.gx g1).trans (e1.gx g2)).trans r2) r1 p⟩
theorem e_nget {j : Nat} {m : List (NestedKey × PyData)} (hj : RdO L j (.dN w m)) (h : E K pen H0 ty L fun x => ∃ k, NkD x k ∧ ∃ d, valD m k = some d ∧ P d) : E K pen H0 (Gn.tGet w K (tVar j) ty) L P := fun σ G H e Q q => by
  obtain ⟨l, ho, k1, k3, k6⟩ := e.rd hj
  refine ⟨_, k1, h σ G H e _ fun y x G1 H1 g1 d1 ⟨k, ⟨hk, hk8, ks, hkt⟩, d, hd, p⟩ => ?_⟩
  obtain ⟨ho2, q3, q6⟩ := (e.go g1).rdAt hj k1
  obtain ⟨kvs2, rfl, q7⟩ := q6.dN
  subst hk
  obtain ⟨b, rfl⟩ := tup_ref (ks := ks) (by rw [← hkt]; exact d1)
  rcases nv_val k q7 with ⟨v, d', z1, z2, z3⟩ | ⟨z1, z2⟩
  · rw [z2] at hd
    cases hd
    exact ⟨l, b, kvs2, k, v, rfl, rfl, .inl q3, nv_keys (e.go g1).vw.vw q7, nk_of (e.go g1).vw.vw _ _ d1, hk8, z1, q v _ G1 H1 g1 z3 p⟩
  · rw [z2] at hd; cases hd
theorem e_nin {neg : Bool} {j : Nat} {m : List (NestedKey × PyData)} (hj : RdO L j (.dN w m)) (h : E K pen H0 ty L fun x => ∃ k, NkD x k ∧ P (.bool (neg != (valD m k).isSome))) : E K pen H0 (Gn.tIn w K neg ty (tVar j)) L P := fun σ G H e Q q =>
  h σ G H e _ fun y x G1 H1 g1 d1 ⟨k, ⟨hk, hk8, ks, hkt⟩, p⟩ => by
    obtain ⟨l, ho2, k1, q3, q6⟩ := (e.go g1).rd hj
    obtain ⟨kvs2, rfl, q7⟩ := q6.dN
    subst hk
    obtain ⟨b, rfl⟩ := tup_ref (ks := ks) (by rw [← hkt]; exact d1)
    refine ⟨_, k1, l, b, kvs2, k, rfl, rfl, .inl q3, nv_keys (e.go g1).vw.vw q7, nk_of (e.go g1).vw.vw _ _ d1, hk8, ?_⟩
    have e3 : (Gn.getN kvs2 k).isSome = (valD m k).isSome := by
      rcases nv_val k q7 with ⟨v, d', z1, z2, z3⟩ | ⟨z1, z2⟩ <;> rw [z1, z2] <;> rfl
    rw [e3]
    exact q _ _ G1 H1 g1 (.bl _) p
end
theorem hu9_of {k : Nat} {A : Around} (hr : L2.Room k A) : A.units + 9 < cLine := by have := hr.un; omega
section
variable {K : PySem.W.Frag} {H0 : Hp} {L : Lv} {tl : TA} {D : Dn} {C : Addr} {c : Value} {ts' : Addr → Value → Option Addr → TS} {Wout : WX} {α : Type} {pn : Option Pn} {ts : List Addr} {Wf : α → Prop} {enc : α → List PyData} {res : α → PyData → Prop} {bad : α → Prop}
/-- try: x = f(..) / except X: suite -/
theorem s_tryAsg {i : Nat} (he : PySem.W.exmOne K (.ref C) c = some true)
    (h : EA K ⟨pn, ts⟩ H0 tl L fun ds => ∃ x, ds = enc x ∧ Wf x ∧ (∀ d, res x d → D.nx (L.set i (some (.d d)))) ∧ (bad x → ∀ a, S K ⟨pn, ts⟩ H0 (ts' a (.ref C) none) L D)) :
    S K ⟨pn, ts⟩ H0 (fun N σ H => tAsg (tCallS (SpXR K ts C Wf enc res bad) (fun σ => L2.WE (wOnly K c ts' Wout N) σ) tl) (gName i) N σ H) L D := fun σ G H N e n1 n2 n3 n4 n5 n6 =>
  h σ G H e _ fun vs ds G1 H1 go hd ⟨x, hx, hw, hn, hb⟩ => ⟨x, G1, go.vw.plain, by rw [← hx]; exact hd, hw, fun v d G' H' g2 hd2 p => n1 _ G' H' _ (e.gx (go.trans (g2.lift go.vw))) ((e.go (go.trans (g2.lift go.vw))).set hd2) (hn d p),
    fun hbad G' H' g2 => ⟨true, he, fun _ a ha => (hb hbad a).at (e.go (go.trans (g2.lift go.vw))) (e.gx (go.trans (g2.lift go.vw))) n1 n2 n3 n4 n5 n6, fun z => (by cases z)⟩⟩
end
end Dl
set_option Elab.async false
set_option linter.all false
set_option maxRecDepth 100000
set_option maxHeartbeats 4000000
/-! ### try: .. / except X as e: m = e, the exception held by m in what comes behind -/
namespace L2
open PySem PySem.Spec PyProof.Rows
/-- what the body's exceptions must be: of the class c; behind the clause goes on what is said of the exception held -/
def wHeld (K : PySem.W.Frag) (c : Value) (i : Nat) (ts tr : Addr → Value → Option Addr → TS) (D : Ends) : WX := fun cls d σ H =>
  PySem.W.exmOne K cls c = some true ∧ ∀ a, H a = none → ts a cls d { D with nx := fun σ' H' => tr a cls d D (σ'.set i none) H' , rt := fun _ _ => False, bk := fun _ _ => False, ct := fun _ _ => False } (σ.set i (some (.ref a))) H
/-- the invariant with the exception pinned, wherever code runs -/
theorem Inv.heldIn {X : Cx} {pins pn' : List (Addr × Obj)} {σ : St} {H : Hp} {s : Shared} {a : Addr} {q : Addr × Obj} {xe : Value → Shared → Prop} (I : Inv (X.suite a (q :: (X.pn ++ pins))) pn' σ H s) (ok : X.Ok) : Inv (X.tr (q :: (X.pn ++ pins)) xe) [] σ H s :=
  ⟨ok.toTry _ _, I.os, I.bare, I.base, I.loc, I.cell, I.free, I.freeC, fun p hp => I.pin p (List.mem_append_left _ (by rw [List.append_nil] at hp; exact hp)), I.hok, I.len⟩
theorem Inv.heldOut {X : Cx} {pins pn' : List (Addr × Obj)} {σ : St} {H : Hp} {s : Shared} {q : Addr × Obj} {xe : Value → Shared → Prop} (I : Inv (X.tr (q :: (X.pn ++ pins)) xe) pn' σ H s) (ok : X.Ok) : Inv X pins σ H s :=
  ⟨ok, I.os, I.bare, I.base, I.loc, I.cell, I.free, I.freeC, fun p hp => I.pin p (List.mem_append_left _ (List.mem_cons_of_mem _ hp)), I.hok, I.len⟩
theorem sp_map {X Y : Cx} {p1 p2 : List (Addr × Obj)} {D : Ends} (h : ∀ σ H s, Inv X p1 σ H s → Inv Y p2 σ H s) {f : Flow} {s : Shared} (q : SP X p1 D f s) : SP Y p2 D f s := by
  cases f with
  | next => exact q.imp fun σ q => q.imp fun H q => ⟨h _ _ _ q.1, q.2⟩
  | brk => exact q.imp fun σ q => q.imp fun H q => ⟨h _ _ _ q.1, q.2⟩
  | cont => exact q.imp fun σ q => q.imp fun H q => ⟨h _ _ _ q.1, q.2⟩
  | ret u => exact q.imp fun v q => q.imp fun σ q => q.imp fun H q => ⟨h _ _ _ q.1, q.2⟩
section
variable {X : Cx} {x n : Str} {c : Value} {i : Nat} {body suite rest : List Stmt} {b₀ : Stmt} {np pos pos' : Pos} {tb : WX → TS} {tr : TS} {ts tre : Addr → Value → Option Addr → TS}
theorem pss_held (hs : X.stack = X.env :: X.outer) (hf : X.env.frame = some X.env.locals) (hN : X.N.Nodup) (hi : X.N[i]? = some n) (hln : X.env.kindOf n = some .local) (hc : Names X x c)
    (hb : ∀ (W : WX) (pn : List (Addr × Obj)) (xe : Value → Shared → Prop), Takes (X.tr pn xe) W → PassesOwn (model X.prog X.w) X.A X.env xe → PSs (X.tr pn xe) body (tb W))
    (hsu : ∀ (a : Addr) (oe : Obj) (cls : Value) (d : Option Addr) (pn : List (Addr × Obj)), Zc cls d oe → (∃ vs, oe.data = .fields vs) → PSs (X.suite a ((a, oe) :: pn)) (b₀ :: suite) (ts a cls d))
    (hr : PSs X rest tr)
    (hre : ∀ (a : Addr) (oe : Obj) (cls : Value) (d : Option Addr) (pn : List (Addr × Obj)), Zc cls d oe → (∃ vs, oe.data = .fields vs) → PSs (X.tr ((a, oe) :: pn) X.xe) rest (tre a cls d)) :
    PSs X (.Try body [.ExceptHandler (some (.Name x np)) (some n) (b₀ :: suite) pos'] [] [] pos :: rest) (fun D σ H => tb (wHeld X.K c i ts tre D) { D with nx := tr D } σ H) := by
  refine ⟨fun pins s σ H D I h => wpAny_execs_cons (wpAny_Try_except ?_)⟩
  have ok := I.ok
  have hfr : X.A.frames = some (X.env :: X.outer) := by rw [ok.frames, hs]
  refine wpAny_mono ((hb (wHeld X.K c i ts tre D) (X.pn ++ pins) _ (fun u s' xx => ?_) PassesOwn.looking).run [] s σ H _ (I.toTry _) h) (fun f s1 hsp => ?_) fun _ _ z => z
  · obtain ⟨a, B, sI, _, σ1, H1, cls, d, rfl, J', nb, up, sky, na, os, ag, hyes, hts⟩ := xx
    have J : Inv X pins σ1 H1 sI := J'.ofTry ok
    refine Sky.land Zc.steady hfr hf (by rw [← hs]; exact sky) fun h3 fl3 up3 => ?_
    obtain ⟨oe3, vs3, he3, hz3, hd3⟩ := fl3.there
    have J3 : Inv X pins σ1 H1 { s' with heap := h3 } := J.landed nb fl3.1 (up.trans up3) os ag
    have out : a ∉ frs (X.env :: X.outer) := fun hm => by
      obtain ⟨_, o', e', hnf⟩ := fl3.2.2.1.mem hm
      rw [he3] at e'
      cases e'
      exact hnf _ hd3
    have nL : a ≠ X.env.locals := fun z => out (List.mem_filterMap.mpr ⟨X.env, List.mem_cons_self, by rw [hf, z]⟩)
    have nF : a ∉ X.fs := fun hm => out (List.mem_filterMap.mpr (match List.mem_filterMap.mp hm with | ⟨e, he, q⟩ => ⟨e, List.mem_cons_of_mem _ he, q⟩))
    have S3 := J3.suite he3 hd3 na nL nF
    refine wpAny_handleBy_cons (codeAny_handlers_test ?_) (fun q => by cases q)
    have LT : PySem.W.Looks (model X.prog X.w) h3 (typeOf (.ref a)) cls := fun A Q E s k q => wpAny_typeOf_ref (k _ _ he3) (by rw [hz3.1]; exact q)
    have LM := PySem.W.exm_one (M := model X.prog X.w) J3.kIn LT hyes
    have test : ∀ {Q E : Value → Shared → Prop}, Q c { s' with heap := h3 } → wpAny (model X.prog X.w) (X.A.mark (some (.ref a))) (eval (.Name x np) X.env) Q E { s' with heap := h3 } := fun {Q E} q => by
      obtain ⟨hg, hdbg, hm | ⟨hm, hv, hnn⟩⟩ := hc
      · exact ld_glob (X := X.suite a ((a, oe3) :: (X.pn ++ pins))) S3 hg hm q hdbg
      · exact ld_blt (X := X.suite a ((a, oe3) :: (X.pn ++ pins))) S3 hg hm hv q hnn hdbg
    refine test (LM.here (codeAny_handlers_suite_as (HandSPX.lands_againZ fl3 fun h4 fl4 up4 => ?_)))
    obtain ⟨oe4, vs4, he4, hz4, hd4⟩ := fl4.there
    have S4 := (show Inv X pins σ1 H1 { s' with heap := h4 } from J.landed nb fl4.1 ((up.trans up3).trans up4) os ag).suite he4 hd4 na nL nF
    refine store_ok (X := X.suite a ((a, oe4) :: (X.pn ++ pins))) (v := .ref a) S4 hN hi (.inl hln) rfl (fun s5 S5 => ?_) (.inr hln)
    refine wpAny_mono ((hsu a oe4 cls d (X.pn ++ pins) hz4 ⟨_, hd4⟩).run [] s5 _ H1 _ S5 (hts a na)) (fun f s6 hsp => ?_) (fun _ _ z => False.elim z)
    cases f with
    | next =>
      obtain ⟨σ6, H6, S6, q6⟩ := hsp
      have S7 : Inv (X.tr ((a, oe4) :: (X.pn ++ pins)) X.xe) [] σ6 H6 s6 := S6.heldIn ok
      refine gone_ok (X := X.tr ((a, oe4) :: (X.pn ++ pins)) X.xe) S7 hN hi hln fun s8 S8 => ?_
      exact wpAny_mono ((hre a oe4 cls d (X.pn ++ pins) hz4 ⟨_, hd4⟩).run [] s8 _ H6 D S8 q6) (fun f s9 q => sp_map (fun _ _ _ J => J.heldOut ok) q) fun _ _ z => z
    | brk => exact hsp.elim fun _ q => q.elim fun _ q => q.2.elim
    | cont => exact hsp.elim fun _ q => q.elim fun _ q => q.2.elim
    | ret u => exact hsp.elim fun _ q => q.elim fun _ q => q.elim fun _ q => q.2.2.elim
  · have q := sp_map (Y := X) (p2 := pins) (fun _ _ _ J => J.ofTry ok) hsp
    cases f with
    | next =>
      obtain ⟨σ1, H1, J, q⟩ := q
      exact wpAny_execs_nil (hr.run pins s1 σ1 H1 D J q)
    | brk => exact q
    | cont => exact q
    | ret u => exact q
end
end L2
namespace Dl
open PySem PySem.Spec PyProof.Rows L2
theorem inst_held {X : Cx} {pins : List (Addr × Obj)} {σ : L2.St} {H : Hp} {s : Shared} {a D : Addr} {oe : Obj} (I : Inv X pins σ H s) (hp : (a, oe) ∈ X.pn) (hz : Zc (.ref D) none oe) (hf : ∃ vs, oe.data = .fields vs) : PySem.W.InstAt s.heap a oe D none := by
  have hget := (I.pin (a, oe) (List.mem_append.mpr (.inl hp))).1
  obtain ⟨vs, hv⟩ := hf
  obtain ⟨oc, od, oda, osl⟩ := oe
  obtain ⟨h1, h2⟩ := hz
  dsimp only at h1 h2 hv
  subst h1 h2 hv
  exact ⟨hget, rfl, rfl, trivial⟩
/-- isinstance(m, X), m the exception that is held -/
theorem kx_isEV {X : Cx} {a D : Addr} {oe : Obj} {cls : Value} {d : Option Addr} (C : ExcC X.K D) (hp : (a, oe) ∈ X.pn) (hz : Zc cls d oe) (hf : ∃ vs, oe.data = .fields vs) : CallR X (.builtin "isinstance") (rIsE1 X.K D a cls d) := by
  intro pins s σ H xs us Q I r h
  obtain ⟨rfl, rfl, c, cv, b, rfl, hcv, e, q⟩ := h
  obtain ⟨u1, u2, rfl, r1, r2⟩ := vals2 r
  cases (show u1 = Value.ref a from r1)
  cases hcv _ r2
  exact PySem.W.kia_one (PySem.W.handS_kitx_exc C.hg C.hk C.hs C.hd C.ha C.hn C.ht C.hm) I.kIn (inst_held I hp hz hf) e (fun z => nomatch z) fun tk => ⟨.bl b, H, I.kept (t' := tk) fun _ _ z => z, rfl, q⟩
/-- isinstance(m, (X, Y, ..)) -/
theorem kx_isETV {X : Cx} {a D : Addr} {oe : Obj} {cls : Value} {d : Option Addr} (C : ExcC X.K D) (hp : (a, oe) ∈ X.pn) (hz : Zc cls d oe) (hf : ∃ vs, oe.data = .fields vs) : CallR X (.builtin "isinstance") (rIsE2 X.K D a cls d) := by
  intro pins s σ H xs us Q I r h
  obtain ⟨rfl, rfl, tp, cs, ws, b, rfl, hT, k, e, q⟩ := h
  obtain ⟨u1, u2, rfl, r1, r2⟩ := vals2 r
  cases (show u2 = Value.ref tp from r2)
  cases (show u1 = Value.ref a from r1)
  obtain ⟨_, its, rv, o, h1, h2, n, h3⟩ := (show ObjOk X.prog X.w H s.heap tp (.tup cs) from I.hok tp _ hT)
  have e3 := ClsV.all k rv
  subst e3
  obtain ⟨oc, od, dt, sl⟩ := o
  simp only at h2 h3
  subst h2 h3
  exact PySem.W.kia_tup (PySem.W.handS_kitx_exc C.hg C.hk C.hs C.hd C.ha C.hn C.ht C.hm) I.kIn (inst_held I hp hz hf) h1 e (fun z => nomatch z) fun tk => ⟨.bl b, H, I.kept (t' := tk) fun _ _ z => z, rfl, q⟩
/-- a call that the proof never comes to -/
def rNever : List V → Hp → VK → Prop := fun _ _ _ => False
theorem kx_never {X : Cx} {f : Value} : CallR X f rNever := fun _ _ _ _ _ _ _ _ _ h => h.elim
end Dl
namespace Dl
open PySem PySem.Spec PyProof.Rows L2
section
variable {K : PySem.W.Frag} {H0 : Hp} {L : Lv} {tl : TA} {D : Dn} {C : Addr} {c : Value} {tr : TS} {ts' tre : Addr → Value → Option Addr → TS} {α : Type} {pn : Option Pn} {ts : List Addr} {Wf : α → Prop} {enc : α → List PyData} {res : α → PyData → Prop} {bad : α → Prop}
/-- try: x = f(..) / except X as e: m = e, and what comes behind it: where f raises, what comes behind is said of the exception and tells True -/
theorem s_held {i m : Nat} (he : PySem.W.exmOne K (.ref C) c = some true)
    (h : EA K ⟨pn, ts⟩ H0 tl L fun ds => ∃ x, ds = enc x ∧ Wf x ∧ (∀ d, res x d → S K ⟨pn, ts⟩ H0 tr (L.set m (some (.d d))) D) ∧ (bad x → D.rt (.bool true) ∧ ∀ (a : Addr) (σ' : L2.St) (G' H' : Hp) (N' : Ends), Ev K ⟨pn, ts⟩ H0 G' H' σ' L → (∀ p cs, H' p = none → N'.rt (.bl true) (upd H' p (.tup cs))) →
      ts' a (.ref C) none { N' with nx := fun σ2 H2 => tre a (.ref C) none N' (σ2.set i none) H2, rt := fun _ _ => False, bk := fun _ _ => False, ct := fun _ _ => False } (σ'.set i (some (.ref a))) H')) :
    S K ⟨pn, ts⟩ H0 (fun N σ H => tAsg (tCallS (SpXR K ts C Wf enc res bad) (fun σ => L2.WE (wHeld K c i ts' tre N) σ) tl) (gName m) { N with nx := tr N } σ H) L D := fun σ G H N e n1 n2 n3 n4 n5 n6 =>
  h σ G H e _ fun vs ds G1 H1 go hd ⟨x, hx, hw, hn, hb⟩ => ⟨x, G1, go.vw.plain, by rw [← hx]; exact hd, hw, fun v d G' H' g2 hd2 p => (hn d p).at ((e.go (go.trans (g2.lift go.vw))).set hd2) (e.gx (go.trans (g2.lift go.vw))) n1 n2 n3 n4 n5 n6,
    fun hbad G' H' g2 => ⟨he, fun a ha => (hb hbad).2 a σ G' H' N (e.go (go.trans (g2.lift go.vw))) fun p cs hp => by
      have g3 := go.trans (g2.lift go.vw)
      have g4 := g3.trans (Go.hid g3.vw (o := .tup cs) hp)
      exact n2 _ _ _ _ (e.gx g4) g4.vw (.bl true) (hb hbad).1⟩⟩
end
end Dl
namespace Dl
open PySem PySem.Spec PyProof.Rows L2
theorem kx_isEH {X : Cx} {a D : Addr} {oe : Obj} {cls : Value} {d : Option Addr} {pn : List (Addr × Obj)} {xe : Value → Shared → Prop} (C : ExcC X.K D) (hz : Zc cls d oe) (hf : ∃ vs, oe.data = .fields vs) : CallR (X.tr ((a, oe) :: pn) xe) (.builtin "isinstance") (rIsE1 X.K D a cls d) := kx_isEV (X := X.tr ((a, oe) :: pn) xe) C List.mem_cons_self hz hf
theorem kx_isETH {X : Cx} {a D : Addr} {oe : Obj} {cls : Value} {d : Option Addr} {pn : List (Addr × Obj)} {xe : Value → Shared → Prop} (C : ExcC X.K D) (hz : Zc cls d oe) (hf : ∃ vs, oe.data = .fields vs) : CallR (X.tr ((a, oe) :: pn) xe) (.builtin "isinstance") (rIsE2 X.K D a cls d) := kx_isETV (X := X.tr ((a, oe) :: pn) xe) C List.mem_cons_self hz hf
theorem kx_neverI {X : Cx} : CallR X (.builtin "isinstance") rNever := kx_never
end Dl
set_option Elab.async false
set_option linter.all false
set_option maxRecDepth 100000
/-! programs, stands, ticks as plain data -/
namespace Wm
open PySem Dl
inductive Row where
  | set (p v : Nat) | add (p q : Nat) | jump (p k : Nat) | say (p : Nat) | take (p : Nat) | fin
def Row.D : Row → PyData
  | .set p v => .tuple [.str "set", .int p, .int v]
  | .add p q => .tuple [.str "add", .int p, .int q]
  | .jump p k => .tuple [.str "jump", .int p, .int k]
  | .say p => .tuple [.str "say", .int p]
  | .take p => .tuple [.str "take", .int p]
  | .fin => .tuple [.str "end"]
def Row.Ok (n w many : Nat) : Row → Prop
  | .set p v => p < n ∧ v < w
  | .add p q => p < n ∧ q < n
  | .jump p k => p < n ∧ k < many
  | .say p => p < n
  | .take p => p < n
  | .fin => True
structure Prog where
  n : Nat
  w : Nat
  rows : List Row
structure Prog.Ok (x : Prog) : Prop where
  n1 : 1 ≤ x.n
  n2 : x.n ≤ 12
  w1 : 2 ≤ x.w
  w2 : x.w ≤ 100
  r1 : 1 ≤ x.rows.length
  r2 : x.rows.length ≤ 20
  rs : ∀ r ∈ x.rows, r.Ok x.n x.w x.rows.length
abbrev Prog.D (x : Prog) : PyData := .tuple [.int x.n, .int x.w, .tuple (x.rows.map Row.D)]
structure Stand where
  at_ : Nat
  sh : List Nat
structure Stand.Ok (x : Prog) (s : Stand) : Prop where
  a1 : s.at_ ≤ x.rows.length
  s1 : s.sh.length = x.n
  s2 : ∀ v ∈ s.sh, v < x.w
abbrev natD (v : Nat) : PyData := .int (v : Int)
def natsD (l : List Nat) : List PyData := l.map natD
abbrev Stand.D (s : Stand) : PyData := .tuple [.int s.at_, .tuple (natsD s.sh)]
structure Told where
  st : Stand
  word : Str
  num : Option Nat
  reads : List Nat
  writes : List Nat
def numD : Option Nat → PyData
  | none => .none
  | some v => .int v
abbrev Told.D (t : Told) : PyData := .tuple [t.st.D, .str t.word, numD t.num, .tuple (natsD t.reads), .tuple (natsD t.writes)]
def rowAt (x : Prog) (a : Nat) : Row := x.rows.getD a .fin
def rise (p q : Nat) : List Nat := if p = q then [p] else [min p q, max p q]
def tickF (x : Prog) (s : Stand) (ls : List Nat) : Told := match rowAt x s.at_ with
  | .set p v => ⟨⟨s.at_ + 1, s.sh.set p v⟩, "did", none, [], [p]⟩
  | .add p q => ⟨⟨s.at_ + 1, s.sh.set p ((s.sh.getD p 0 + s.sh.getD q 0) % x.w)⟩, "did", none, rise p q, [p]⟩
  | .jump p k => ⟨⟨if s.sh.getD p 0 = 0 then k else s.at_ + 1, s.sh⟩, "did", none, [p], []⟩
  | .say p => ⟨⟨s.at_ + 1, s.sh⟩, "said", some (s.sh.getD p 0), [p], []⟩
  | .take p => (match ls with
    | [] => ⟨s, "waits", none, [], []⟩
    | l :: _ => ⟨⟨s.at_ + 1, s.sh.set p l⟩, "took", some l, [], [p]⟩)
  | .fin => ⟨s, "ended", none, [], []⟩
theorem natsD_len (l : List Nat) : (natsD l).length = l.length := List.length_map _
theorem natsD_get {l : List Nat} {p : Nat} (h : p < l.length) : (natsD l)[p]? = some (natD (l.getD p 0)) := by
  unfold natsD
  rw [List.getElem?_map, List.getElem?_eq_getElem h, List.getD_eq_getElem?_getD, List.getElem?_eq_getElem h]
  rfl
theorem natsD_at {l : List Nat} {p : Nat} (h : p < l.length) : L2.atI (natsD l) (p : Int) = some (.int ((l.getD p 0 : Nat) : Int)) := L2.atI_nat (natsD_get h)
theorem cut_to (xs : List PyData) (p : Nat) : cutD xs none (some (p : Int)) = xs.take p := by
  unfold cutD
  rw [HT.sIx_none, HT.sIx_nat]
  show (xs.drop 0).take (min p xs.length - 0) = xs.take p
  rw [Nat.sub_zero, List.drop_zero]
  by_cases h : p ≤ xs.length
  · rw [Nat.min_eq_left h]
  · rw [Nat.min_eq_right (by omega), List.take_length, List.take_of_length_le (by omega)]
theorem cut_from (xs : List PyData) (p : Nat) : cutD xs (some (p : Int)) none = xs.drop p := by
  unfold cutD
  rw [HT.sIx_none, HT.sIx_nat]
  by_cases h : p ≤ xs.length
  · rw [Nat.min_eq_left h, List.take_of_length_le]
    rw [List.length_drop]; omega
  · rw [Nat.min_eq_right (by omega), Nat.sub_self, List.take_zero, List.drop_eq_nil_of_le (by omega)]
theorem set_parts {l : List Nat} {p v : Nat} (h : p < l.length) : (natsD l).take p ++ [natD v] ++ (natsD l).drop (p + 1) = natsD (l.set p v) := by
  unfold natsD
  rw [← List.map_take, ← List.map_drop, List.set_eq_take_append_cons_drop, if_pos h, List.map_append, List.map_cons, List.append_assoc]
  rfl
theorem natsD_set (l : List Nat) (p v : Nat) : (natsD l).set p (natD v) = natsD (l.set p v) := by
  unfold natsD
  rw [List.map_set]
end Wm
set_option Elab.async false
set_option linter.all false
set_option maxRecDepth 100000
/-! what is a program, what is a stand, over plain data -/
namespace Wm
open PySem Dl
def whole : PyData → Bool
  | .int _ => true
  | _ => false
def wholeIn (d : PyData) (lo hi : Int) : Bool := match d with
  | .int i => decide (lo ≤ i) && decide (i ≤ hi)
  | _ => false
def tupOf (d : PyData) (m : Int) : Bool := match d with
  | .tuple ds => decide ((ds.length : Int) = m)
  | _ => false
def lims (n w m : Int) : List (Str × List Int) := [("set", [n, w]), ("add", [n, n]), ("jump", [n, m]), ("say", [n]), ("take", [n]), ("end", [])]
def intsD (l : List Int) : List PyData := l.map .int
def limsD (n w m : Int) : List (Str × PyData) := [("set", .tuple [.int n, .int w]), ("add", .tuple [.int n, .int n]), ("jump", .tuple [.int n, .int m]), ("say", .tuple [.int n]), ("take", .tuple [.int n]), ("end", .tuple [])]
theorem limsD_eq (n w m : Int) : limsD n w m = (lims n w m).map fun p => (p.1, PyData.tuple (intsD p.2)) := rfl
theorem lookup_map {β γ : Type} (f : β → γ) (x : Str) : ∀ l : List (Str × β), (l.map fun p => (p.1, f p.2)).lookup x = (l.lookup x).map f
  | [] => rfl
  | (y, b) :: l => by
    rw [List.map_cons, List.lookup_cons, List.lookup_cons]
    cases x == y with
    | true => rfl
    | false => exact lookup_map f x l
theorem limsD_get (n w m : Int) (x : Str) : (limsD n w m).lookup x = ((lims n w m).lookup x).map fun l => PyData.tuple (intsD l) := by rw [limsD_eq, lookup_map (fun l => PyData.tuple (intsD l))]
def partB (x y : PyData) : Bool := match y with
  | .int l => wholeIn x 0 (l - 1)
  | _ => false
def restB (rest : List PyData) (o : Option (List Int)) : Bool := match o with
  | some ls => decide (rest.length = ls.length) && (rest.zip (intsD ls)).all fun p => partB p.1 p.2
  | none => false
def rowB (d : PyData) (n w m : Int) : Bool := match d with
  | .tuple (.str word :: rest) => restB rest ((lims n w m).lookup word)
  | _ => false
def progB3 (a b c : PyData) : Bool := match a, b, c with
  | .int n, .int w, .tuple rs => (decide (1 ≤ n) && decide (n ≤ 12)) && (decide (2 ≤ w) && decide (w ≤ 100)) && (decide (1 ≤ (rs.length : Int)) && decide ((rs.length : Int) ≤ 20)) && rs.all fun r => rowB r n w rs.length
  | _, _, _ => false
def progB (d : PyData) : Bool := match d with
  | .tuple [a, b, c] => progB3 a b c
  | _ => false
def sheetsB (x : Prog) (a s : PyData) : Bool := match s with
  | .tuple ss => wholeIn a 0 x.rows.length && decide ((ss.length : Int) = x.n) && ss.all fun s => wholeIn s 0 (x.w - 1)
  | _ => false
def standB (x : Prog) (d : PyData) : Bool := match d with
  | .tuple [a, s] => sheetsB x a s
  | _ => false
theorem whole_nat (v : Nat) (m : Int) (h : (v : Int) ≤ m) : wholeIn (.int v) 0 m = true := by
  show (decide ((0 : Int) ≤ v) && decide ((v : Int) ≤ m)) = true
  rw [decide_eq_true (by omega), decide_eq_true h]
  rfl
theorem row_B {r : Row} {n w m : Nat} (h : r.Ok n w m) : rowB r.D n w m = true := by
  cases r with
  | set p v => obtain ⟨h1, h2⟩ := h; show (true && (wholeIn (.int p) 0 ((n : Int) - 1) && (wholeIn (.int v) 0 ((w : Int) - 1) && true))) = true; rw [whole_nat _ _ (by omega), whole_nat _ _ (by omega)]; rfl
  | add p v => obtain ⟨h1, h2⟩ := h; show (true && (wholeIn (.int p) 0 ((n : Int) - 1) && (wholeIn (.int v) 0 ((n : Int) - 1) && true))) = true; rw [whole_nat _ _ (by omega), whole_nat _ _ (by omega)]; rfl
  | jump p v => obtain ⟨h1, h2⟩ := h; show (true && (wholeIn (.int p) 0 ((n : Int) - 1) && (wholeIn (.int v) 0 ((m : Int) - 1) && true))) = true; rw [whole_nat _ _ (by omega), whole_nat _ _ (by omega)]; rfl
  | say p => have h1 : p < n := h; show (true && (wholeIn (.int p) 0 ((n : Int) - 1) && true)) = true; rw [whole_nat _ _ (by omega)]; rfl
  | take p => have h1 : p < n := h; show (true && (wholeIn (.int p) 0 ((n : Int) - 1) && true)) = true; rw [whole_nat _ _ (by omega)]; rfl
  | fin => rfl
theorem prog_B {x : Prog} (h : x.Ok) : progB x.D = true := by
  obtain ⟨h1, h2, h3, h4, h5, h6, h7⟩ := h
  show ((decide (1 ≤ (x.n : Int)) && decide ((x.n : Int) ≤ 12)) && (decide (2 ≤ (x.w : Int)) && decide ((x.w : Int) ≤ 100)) && (decide (1 ≤ ((x.rows.map Row.D).length : Int)) && decide (((x.rows.map Row.D).length : Int) ≤ 20)) && (x.rows.map Row.D).all fun r => rowB r x.n x.w (x.rows.map Row.D).length) = true
  rw [List.length_map, decide_eq_true (by omega), decide_eq_true (by omega), decide_eq_true (by omega), decide_eq_true (by omega), decide_eq_true (by omega), decide_eq_true (by omega)]
  show ((x.rows.map Row.D).all fun r => rowB r x.n x.w x.rows.length) = true
  rw [List.all_eq_true]
  intro d hd
  obtain ⟨r, hr, rfl⟩ := List.mem_map.mp hd
  exact row_B (h7 r hr)
theorem stand_B {x : Prog} {s : Stand} (h : s.Ok x) : standB x s.D = true := by
  obtain ⟨h1, h2, h3⟩ := h
  show (wholeIn (.int s.at_) 0 x.rows.length && decide (((natsD s.sh).length : Int) = x.n) && (natsD s.sh).all fun s => wholeIn s 0 ((x.w : Int) - 1)) = true
  rw [natsD_len, whole_nat _ _ (by omega), decide_eq_true (by omega)]
  show ((natsD s.sh).all fun s => wholeIn s 0 ((x.w : Int) - 1)) = true
  rw [List.all_eq_true]
  intro d hd
  obtain ⟨v, hv, rfl⟩ := List.mem_map.mp hd
  have := h3 v hv
  exact whole_nat _ _ (by omega)
theorem wholeIn_int {d : PyData} {lo hi : Int} (h : wholeIn d lo hi = true) : ∃ i, d = .int i ∧ lo ≤ i ∧ i ≤ hi := by
  cases d with
  | int i =>
    have h : (decide (lo ≤ i) && decide (i ≤ hi)) = true := h
    rw [Bool.and_eq_true] at h
    exact ⟨i, rfl, of_decide_eq_true h.1, of_decide_eq_true h.2⟩
  | _ => cases h
theorem progB_no1 {a b c : PyData} (h : wholeIn a 1 12 = false) : progB (.tuple [a, b, c]) = false := by
  cases a <;> try rfl
  cases b <;> try rfl
  cases c <;> try rfl
  rename_i n w rs
  show (wholeIn (.int n) 1 12 && _ && _ && _) = false
  rw [h, Bool.false_and, Bool.false_and, Bool.false_and]
theorem progB_no2 {n : Int} {b c : PyData} (h : wholeIn b 2 100 = false) : progB (.tuple [.int n, b, c]) = false := by
  cases b <;> try rfl
  cases c <;> try rfl
  rename_i w rs
  show (_ && wholeIn (.int w) 2 100 && _ && _) = false
  rw [h, Bool.and_false, Bool.false_and, Bool.false_and]
theorem progB_yes {n w : Int} {rs : List PyData} (h1 : wholeIn (.int n) 1 12 = true) (h2 : wholeIn (.int w) 2 100 = true) : progB (.tuple [.int n, .int w, .tuple rs]) = ((decide (1 ≤ (rs.length : Int)) && decide ((rs.length : Int) ≤ 20)) && rs.all fun r => rowB r n w rs.length) := by
  show (wholeIn (.int n) 1 12 && wholeIn (.int w) 2 100 && (decide (1 ≤ (rs.length : Int)) && decide ((rs.length : Int) ≤ 20)) && rs.all fun r => rowB r n w rs.length) = _
  rw [h1, h2]
  rfl
theorem part_in (i m : Int) : wholeIn (.int i) 0 (m - 1) = (decide (0 ≤ i) && decide (i < m)) := by
  show (decide (0 ≤ i) && decide (i ≤ m - 1)) = _
  rw [show decide (i ≤ m - 1) = decide (i < m) from decide_eq_decide.mpr (by omega)]
theorem all_not (f : PyData → Bool) : ∀ l : List PyData, (!(l.map f).any (!·)) = l.all f
  | [] => rfl
  | a :: l => by
    rw [List.map_cons, List.any_cons, List.all_cons, ← all_not f l, Bool.not_or, Bool.not_not]
end Wm
set_option Elab.async false
set_option linter.all false
set_option maxRecDepth 100000
/-! a tick needs only what it reads -/
namespace Wm
open PySem Dl
theorem row_ok {x : Prog} (hx : x.Ok) (a : Nat) : (rowAt x a).Ok x.n x.w x.rows.length := by
  unfold rowAt
  rw [List.getD_eq_getElem?_getD]
  cases h : x.rows[a]? with
  | none => trivial
  | some r => exact hx.rs r (List.mem_of_getElem? h)
theorem set_lt {l : List Nat} {m p v : Nat} (h : ∀ x ∈ l, x < m) (hv : v < m) : ∀ x ∈ l.set p v, x < m := fun x hx => by
  rcases List.mem_or_eq_of_mem_set hx with hx | rfl
  · exact h x hx
  · exact hv
theorem tick_ok {x : Prog} {s : Stand} {ls : List Nat} (hx : x.Ok) (hs : s.Ok x) (hl : ∀ v ∈ ls, v < x.w) : (tickF x s ls).st.Ok x := by
  have hr := row_ok hx s.at_
  have hw := hx.w1
  have at1 : ∀ r, rowAt x s.at_ = r → r ≠ .fin → s.at_ + 1 ≤ x.rows.length := fun r e h => by
    by_cases hlt : s.at_ < x.rows.length
    · omega
    · exfalso
      apply h
      rw [← e]
      unfold rowAt
      rw [List.getD_eq_getElem?_getD, List.getElem?_eq_none (by omega)]
      rfl
  unfold tickF
  cases e : rowAt x s.at_ with
  | set p v =>
    rw [e] at hr
    exact ⟨at1 _ e (fun z => by cases z), by show (s.sh.set p v).length = _; rw [List.length_set]; exact hs.s1, set_lt hs.s2 hr.2⟩
  | add p q =>
    exact ⟨at1 _ e (fun z => by cases z), by show (s.sh.set p _).length = _; rw [List.length_set]; exact hs.s1, set_lt hs.s2 (Nat.mod_lt _ (by omega))⟩
  | jump p k =>
    rw [e] at hr
    refine ⟨?_, hs.s1, hs.s2⟩
    show (if s.sh.getD p 0 = 0 then k else s.at_ + 1) ≤ x.rows.length
    split
    · exact Nat.le_of_lt hr.2
    · exact at1 _ e (fun z => by cases z)
  | say p => exact ⟨at1 _ e (fun z => by cases z), hs.s1, hs.s2⟩
  | take p =>
    cases ls with
    | nil => exact hs
    | cons l r => exact ⟨at1 _ e (fun z => by cases z), by show (s.sh.set p l).length = _; rw [List.length_set]; exact hs.s1, set_lt hs.s2 (hl l (List.mem_cons_self ..))⟩
  | fin => exact hs
theorem getD_set {l : List Nat} {p q v : Nat} (h : p < l.length) : (l.set p v).getD q 0 = if p = q then v else l.getD q 0 := by
  rw [List.getD_eq_getElem?_getD, List.getD_eq_getElem?_getD, List.getElem?_set]
  by_cases e : p = q
  · rw [if_pos e, if_pos h, if_pos e]
    rfl
  · rw [if_neg e, if_neg e]
theorem rise_mem (p q : Nat) : p ∈ rise p q ∧ q ∈ rise p q := by
  unfold rise
  by_cases e : p = q
  · subst e
    rw [if_pos rfl]
    exact ⟨List.mem_cons_self .., List.mem_cons_self ..⟩
  · rw [if_neg e]
    rcases Nat.le_total p q with h | h
    · rw [Nat.min_eq_left h, Nat.max_eq_right h]
      exact ⟨List.mem_cons_self .., List.mem_cons_of_mem _ (List.mem_cons_self ..)⟩
    · rw [Nat.min_eq_right h, Nat.max_eq_left h]
      exact ⟨List.mem_cons_of_mem _ (List.mem_cons_self ..), List.mem_cons_self ..⟩
theorem rise_up (p q : Nat) : (rise p q).Pairwise (· < ·) ∧ (rise p q).length ≤ 2 := by
  unfold rise
  by_cases e : p = q
  · rw [if_pos e]
    exact ⟨List.pairwise_singleton _ _, Nat.le_of_ble_eq_true rfl⟩
  · rw [if_neg e]
    refine ⟨List.pairwise_pair.mpr ?_, Nat.le_refl _⟩
    omega
structure Like (x : Prog) (s : Stand) (os : List Nat) (t u : Told) : Prop where
  word : u.word = t.word
  num : u.num = t.num
  reads : u.reads = t.reads
  writes : u.writes = t.writes
  at_ : u.st.at_ = t.st.at_
  wr : ∀ p ∈ t.writes, u.st.sh.getD p 0 = t.st.sh.getD p 0
  nw : ∀ p, p ∉ t.writes → t.st.sh.getD p 0 = s.sh.getD p 0
  no : ∀ p, p ∉ t.writes → u.st.sh.getD p 0 = os.getD p 0
  r1 : t.reads.Pairwise (· < ·)
  r2 : t.reads.length ≤ 2
  w1 : t.writes.Pairwise (· < ·)
  w2 : t.writes.length ≤ 2
theorem one_up (p : Nat) : [p].Pairwise (· < ·) ∧ [p].length ≤ 2 := ⟨List.pairwise_singleton _ _, Nat.le_of_ble_eq_true rfl⟩
theorem nil_up : ([] : List Nat).Pairwise (· < ·) ∧ ([] : List Nat).length ≤ 2 := ⟨.nil, by decide⟩
theorem tick_like {x : Prog} {s : Stand} {os ls : List Nat} (hx : x.Ok) (hs : s.Ok x) (hl : os.length = s.sh.length) (ha : ∀ p ∈ (tickF x s ls).reads, os.getD p 0 = s.sh.getD p 0) : Like x s os (tickF x s ls) (tickF x ⟨s.at_, os⟩ ls) := by
  have hr := row_ok hx s.at_
  have hsl := hs.s1
  have wr1 : ∀ (p v : Nat), p < s.sh.length → (∀ q ∈ [p], (os.set p v).getD q 0 = (s.sh.set p v).getD q 0) ∧ (∀ q, q ∉ [p] → (s.sh.set p v).getD q 0 = s.sh.getD q 0) ∧ (∀ q, q ∉ [p] → (os.set p v).getD q 0 = os.getD q 0) := fun p v hp => by
    refine ⟨fun q hq => ?_, fun q hq => ?_, fun q hq => ?_⟩
    · rw [List.mem_singleton.mp hq, getD_set hp, getD_set (by omega), if_pos rfl, if_pos rfl]
    · rw [getD_set hp, if_neg (fun z => hq (by rw [z]; exact List.mem_cons_self ..))]
    · rw [getD_set (by omega), if_neg (fun z => hq (by rw [z]; exact List.mem_cons_self ..))]
  unfold tickF at ha ⊢
  cases e : rowAt x s.at_ with
  | set p v =>
    rw [e] at hr
    have k := wr1 p v (by have := hr.1; omega)
    exact ⟨rfl, rfl, rfl, rfl, rfl, k.1, k.2.1, k.2.2, nil_up.1, nil_up.2, (one_up p).1, (one_up p).2⟩
  | add p q =>
    rw [e] at hr ha
    have e1 := ha p (rise_mem p q).1
    have e2 := ha q (rise_mem p q).2
    have k := wr1 p ((s.sh.getD p 0 + s.sh.getD q 0) % x.w) (by have := hr.1; omega)
    dsimp only
    rw [e1, e2]
    exact ⟨rfl, rfl, rfl, rfl, rfl, k.1, k.2.1, k.2.2, (rise_up p q).1, (rise_up p q).2, (one_up p).1, (one_up p).2⟩
  | jump p k =>
    rw [e] at ha
    have e1 := ha p (List.mem_cons_self ..)
    dsimp only
    rw [e1]
    exact ⟨rfl, rfl, rfl, rfl, rfl, fun q hq => (nomatch hq), fun _ _ => rfl, fun _ _ => rfl, (one_up p).1, (one_up p).2, nil_up.1, nil_up.2⟩
  | say p =>
    rw [e] at ha
    have e1 := ha p (List.mem_cons_self ..)
    dsimp only
    rw [e1]
    exact ⟨rfl, rfl, rfl, rfl, rfl, fun q hq => (nomatch hq), fun _ _ => rfl, fun _ _ => rfl, (one_up p).1, (one_up p).2, nil_up.1, nil_up.2⟩
  | take p =>
    rw [e] at hr
    cases ls with
    | nil => exact ⟨rfl, rfl, rfl, rfl, rfl, fun q hq => (nomatch hq), fun _ _ => rfl, fun _ _ => rfl, nil_up.1, nil_up.2, nil_up.1, nil_up.2⟩
    | cons l r =>
      have k := wr1 p l (by have : p < x.n := hr; omega)
      exact ⟨rfl, rfl, rfl, rfl, rfl, k.1, k.2.1, k.2.2, nil_up.1, nil_up.2, (one_up p).1, (one_up p).2⟩
  | fin => exact ⟨rfl, rfl, rfl, rfl, rfl, fun q hq => (nomatch hq), fun _ _ => rfl, fun _ _ => rfl, nil_up.1, nil_up.2, nil_up.1, nil_up.2⟩
theorem srt_eq : ∀ {ms ns : List Int}, ms.Pairwise (· < ·) → ns.Pairwise (· < ·) → (∀ k, k ∈ ms ↔ k ∈ ns) → ms = ns
  | [], [], _, _, _ => rfl
  | [], n :: ns, _, _, h => absurd ((h n).mpr (List.mem_cons_self ..)) (by simp)
  | m :: ms, [], _, _, h => absurd ((h m).mp (List.mem_cons_self ..)) (by simp)
  | m :: ms, n :: ns, h1, h2, h => by
    obtain ⟨a1, b1⟩ := List.pairwise_cons.mp h1
    obtain ⟨a2, b2⟩ := List.pairwise_cons.mp h2
    have e : m = n := by
      rcases List.mem_cons.mp ((h m).mp (List.mem_cons_self ..)) with q | q
      · exact q
      · rcases List.mem_cons.mp ((h n).mpr (List.mem_cons_self ..)) with r | r
        · exact r.symm
        · have := a2 m q
          have := a1 n r
          omega
    subst e
    rw [srt_eq b1 b2 fun k => ⟨fun hk => ?_, fun hk => ?_⟩]
    · rcases List.mem_cons.mp ((h k).mp (List.mem_cons_of_mem _ hk)) with q | q
      · have := a1 k hk
        omega
      · exact q
    · rcases List.mem_cons.mp ((h k).mpr (List.mem_cons_of_mem _ hk)) with q | q
      · have := a2 k hk
        omega
      · exact q
abbrev castL (l : List Nat) : List Int := l.map fun v : Nat => (v : Int)
theorem natsD_ints (l : List Nat) : natsD l = intsL (castL l) := by
  unfold natsD intsL
  rw [List.map_map]
  rfl
theorem cast_mem (p : Nat) (l : List Nat) : ((p : Int) ∈ castL l) ↔ p ∈ l := by
  rw [List.mem_map]
  exact ⟨fun ⟨v, hv, e⟩ => by have : v = p := by omega
                              rw [← this]; exact hv, fun h => ⟨p, h, rfl⟩⟩
theorem cast_up {l : List Nat} (h : l.Pairwise (· < ·)) : (castL l).Pairwise (· < ·) := List.Pairwise.map _ (fun a b hab => by omega) h
theorem lay_nats : ∀ l : List Nat, PyData.canLayAll0 (natsD l) = true
  | [] => rfl
  | a :: r => by
    show PyData.canLayAll0 (natD a :: natsD r) = true
    rw [PyData.canLayAll0, lay_nats r]
    rfl
theorem depth_nats : ∀ l : List Nat, PyData.depthAll (natsD l) = 0
  | [] => rfl
  | a :: r => by
    show PyData.depthAll (natD a :: natsD r) = 0
    rw [PyData.depthAll, depth_nats r]
    rfl
theorem shaped_nats (l : List Nat) : SeqAt.shaped (.list (natsD l)) = true := by
  unfold SeqAt.shaped
  rw [PyData.canLay0, lay_nats, PyData.depth, depth_nats]
  rfl
abbrev restD (t : Told) : PyData := .tuple [.str t.word, numD t.num, .tuple (natsD t.reads), .tuple (natsD t.writes)]
theorem tick_word (x : Prog) (s : Stand) (ls : List Nat) : PyData.strOk (tickF x s ls).word = true := by
  unfold tickF
  cases rowAt x s.at_ with
  | take p => cases ls <;> (dsimp only; decide +kernel)
  | _ => dsimp only; decide +kernel
theorem lay_rest (t : Told) (h : PyData.strOk t.word = true) : (restD t).canLay0 = true := by
  rw [PyData.canLay0]
  rw [PyData.canLayAll0, PyData.canLayAll0, PyData.canLayAll0, PyData.canLayAll0, PyData.canLayAll0, PyData.canLay0, PyData.canLay0, PyData.canLay0, lay_nats, lay_nats, h]
  cases t.num <;> rfl
theorem shaped_rest (t : Told) (h : PyData.strOk t.word = true) : SeqAt.shaped (restD t) = true := by
  unfold SeqAt.shaped
  rw [lay_rest t h]
  rw [PyData.depth, PyData.depthAll, PyData.depthAll, PyData.depthAll, PyData.depthAll, PyData.depthAll, PyData.depth, PyData.depth, PyData.depth, depth_nats, depth_nats]
  cases t.num <;> rfl
end Wm
set_option Elab.async false
set_option linter.all false
set_option maxRecDepth 100000
/-! runs as plain data -/
namespace Wm
open PySem Dl
abbrev Let := Nat × Nat
def letD (l : Let) : PyData := .tuple [.int l.1, .int l.2]
def letsD (ls : List Let) : List PyData := ls.map letD
/-- what lies there at a tick, so many taken -/
def lie (ls : List Let) (now used : Nat) : List Nat := ((ls.filter fun l => decide (l.1 ≤ now)).map (·.2)).drop used
structure RunA where
  x : Prog
  s : Stand
  ls : List Let
  many : Nat
/-- the stand and how many were taken, behind so many ticks -/
def runS (x : Prog) (s : Stand) (ls : List Let) : Nat → Stand × Nat
  | 0 => (s, 0)
  | n + 1 => let r := runS x s ls n
    let t := tickF x r.1 (lie ls n r.2)
    (t.st, r.2 + if t.word = "took" then 1 else 0)
def toldAt (x : Prog) (s : Stand) (ls : List Let) (n : Nat) : Told := tickF x (runS x s ls n).1 (lie ls n (runS x s ls n).2)
theorem runS_succ (x : Prog) (s : Stand) (ls : List Let) (n : Nat) : runS x s ls (n + 1) = ((toldAt x s ls n).st, (runS x s ls n).2 + if (toldAt x s ls n).word = "took" then 1 else 0) := rfl
def toldL (x : Prog) (s : Stand) (ls : List Let) (n : Nat) : List Told := (List.range n).map (toldAt x s ls)
theorem toldL_succ (x : Prog) (s : Stand) (ls : List Let) (n : Nat) : toldL x s ls (n + 1) = toldL x s ls n ++ [toldAt x s ls n] := by
  unfold toldL
  rw [List.range_succ, List.map_append]
  rfl
theorem toldL_len (x : Prog) (s : Stand) (ls : List Let) (n : Nat) : (toldL x s ls n).length = n := by
  unfold toldL
  rw [List.length_map, List.length_range]
theorem lie_lt {x : Prog} {ls : List Let} (h : ∀ l ∈ ls, l.2 < x.w) (now used : Nat) : ∀ v ∈ lie ls now used, v < x.w := fun v hv => by
  have hv := List.mem_of_mem_drop hv
  obtain ⟨l, hl, rfl⟩ := List.mem_map.mp hv
  exact h l (List.mem_filter.mp hl).1
theorem runS_ok {x : Prog} {s : Stand} {ls : List Let} (hx : x.Ok) (hs : s.Ok x) (h : ∀ l ∈ ls, l.2 < x.w) : ∀ n, (runS x s ls n).1.Ok x
  | 0 => hs
  | n + 1 => tick_ok hx (runS_ok hx hs h n) (lie_lt h _ _)
theorem took_ne {x : Prog} {s : Stand} {ls : List Nat} (h : (tickF x s ls).word = "took") : ls ≠ [] := fun z => by
  subst z
  unfold tickF at h
  revert h
  cases rowAt x s.at_ with
  | _ => intro h; dsimp only at h; exact absurd h (by decide +kernel)
/-- sorted by ticks -/
def Rises (ls : List Let) : Prop := ls.Pairwise fun a b => a.1 ≤ b.1
theorem filter_take {ls : List Let} {now came : Nat} (hs : Rises ls) (h1 : ∀ l ∈ ls.take came, l.1 ≤ now) (h2 : ∀ l, ls[came]? = some l → now < l.1) : (ls.filter fun l => decide (l.1 ≤ now)) = ls.take came := by
  have e : ls.filter (fun l => decide (l.1 ≤ now)) = (ls.take came).filter (fun l => decide (l.1 ≤ now)) ++ (ls.drop came).filter (fun l => decide (l.1 ≤ now)) := by
    rw [← List.filter_append, List.take_append_drop]
  rw [e, List.filter_eq_self.mpr (fun l hl => decide_eq_true (h1 l hl)), List.filter_eq_nil_iff.mpr, List.append_nil]
  intro l hl hd
  have hd : l.1 ≤ now := by simpa using hd
  cases hc : ls.drop came with
  | nil => rw [hc] at hl; cases hl
  | cons f r =>
    have hf : ls[came]? = some f := by
      have := congrArg (fun z : List Let => z[0]?) hc
      simpa using this
    have h3 := h2 f hf
    have hp : Rises (ls.drop came) := List.Pairwise.sublist (List.drop_sublist ..) hs
    rw [hc] at hl hp
    rcases List.mem_cons.mp hl with rfl | hl
    · omega
    · have := (List.pairwise_cons.mp hp).1 l hl
      omega
def saidL (x : Prog) (s : Stand) (ls : List Let) (n : Nat) : List (Nat × Option Nat) := (List.range n).filterMap fun i => if (toldAt x s ls i).word = "said" then some (i, (toldAt x s ls i).num) else none
def saidD (l : Nat × Option Nat) : PyData := .tuple [.int l.1, numD l.2]
theorem saidL_succ (x : Prog) (s : Stand) (ls : List Let) (n : Nat) : saidL x s ls (n + 1) = saidL x s ls n ++ (if (toldAt x s ls n).word = "said" then [(n, (toldAt x s ls n).num)] else []) := by
  unfold saidL
  rw [List.range_succ, List.filterMap_append]
  congr 1
  by_cases h : (toldAt x s ls n).word = "said"
  · simp [h]
  · simp [h]
theorem saidL_len (x : Prog) (s : Stand) (ls : List Let) (n : Nat) : (saidL x s ls n).length ≤ n := by
  unfold saidL
  exact Nat.le_trans (List.length_filterMap_le ..) (by rw [List.length_range]; exact Nat.le_refl _)
def touchD (t : Told) : PyData := .tuple [.tuple (natsD t.reads), .tuple (natsD t.writes)]
structure RunA.Ok (a : RunA) : Prop where
  hx : a.x.Ok
  hs : a.s.Ok a.x
  hl : ∀ l ∈ a.ls, l.2 < a.x.w
  hr : Rises a.ls
  ln : a.ls.length ≤ 1000
  mn : a.many ≤ 10000
theorem noL_nat (l : List Nat) : noLs (natsD l) = true := by
  rw [noLs_iff]
  intro d hd
  obtain ⟨v, _, rfl⟩ := List.mem_map.mp hd
  rfl
theorem noL_stand (s : Stand) : noL s.D = true := by
  show (noL (.int s.at_) && (noL (.tuple (natsD s.sh)) && noLs [])) = true
  rw [show noL (.tuple (natsD s.sh)) = noLs (natsD s.sh) from rfl, noL_nat]
  rfl
theorem noL_told (t : Told) : noL t.D = true := by
  show (noL t.st.D && (noL (.str t.word) && (noL (numD t.num) && (noL (.tuple (natsD t.reads)) && (noL (.tuple (natsD t.writes)) && noLs []))))) = true
  rw [noL_stand, show noL (.tuple (natsD t.reads)) = noLs (natsD t.reads) from rfl, show noL (.tuple (natsD t.writes)) = noLs (natsD t.writes) from rfl, noL_nat, noL_nat]
  cases t.num <;> rfl
theorem noL_tolds (l : List Told) : noLs (l.map Told.D) = true := by
  rw [noLs_iff]
  intro d hd
  obtain ⟨v, _, rfl⟩ := List.mem_map.mp hd
  exact noL_told v
theorem noL_said (l : List (Nat × Option Nat)) : noLs (l.map saidD) = true := by
  rw [noLs_iff]
  intro d hd
  obtain ⟨v, _, rfl⟩ := List.mem_map.mp hd
  show (noL (.int v.1) && (noL (numD v.2) && noLs [])) = true
  cases v.2 <;> rfl
theorem noL_touch (l : List Told) : noLs (l.map touchD) = true := by
  rw [noLs_iff]
  intro d hd
  obtain ⟨v, _, rfl⟩ := List.mem_map.mp hd
  show (noL (.tuple (natsD v.reads)) && (noL (.tuple (natsD v.writes)) && noLs [])) = true
  rw [show noL (.tuple (natsD v.reads)) = noLs (natsD v.reads) from rfl, show noL (.tuple (natsD v.writes)) = noLs (natsD v.writes) from rfl, noL_nat, noL_nat]
  rfl
end Wm
set_option Elab.async false
set_option linter.all false
set_option maxRecDepth 100000
/-! runs put together -/
namespace Wm
open PySem Dl
theorem rises_filter {ls : List Let} (hs : Rises ls) (now : Nat) : (ls.filter fun l => decide (l.1 ≤ now)) = ls.take (ls.filter fun l => decide (l.1 ≤ now)).length := by
  induction ls with
  | nil => rfl
  | cons l r ih =>
    have hp := List.pairwise_cons.mp hs
    rw [List.filter_cons]
    by_cases h : l.1 ≤ now
    · rw [if_pos (decide_eq_true h), List.length_cons, List.take_succ_cons, ← ih hp.2]
    · rw [if_neg (by rw [decide_eq_true_eq]; exact h)]
      have : r.filter (fun l => decide (l.1 ≤ now)) = [] := by
        rw [List.filter_eq_nil_iff]
        intro m hm hd
        have := hp.1 m hm
        have hd : m.1 ≤ now := by simpa using hd
        omega
      rw [this]
      rfl
/-- what was taken had come -/
theorem used_pre {x : Prog} {s : Stand} {ls : List Let} (hs : Rises ls) : ∀ n, (∀ l ∈ ls.take (runS x s ls n).2, l.1 ≤ n) ∧ (runS x s ls n).2 ≤ ls.length
  | 0 => ⟨fun l hl => (nomatch hl), Nat.zero_le _⟩
  | n + 1 => by
    obtain ⟨ih, ih2⟩ := used_pre (x := x) (s := s) hs n
    rw [runS_succ]
    by_cases hw : (toldAt x s ls n).word = "took"
    · rw [if_pos hw]
      have ne := took_ne hw
      have hlt : (runS x s ls n).2 < (ls.filter fun l => decide (l.1 ≤ n)).length := by
        rcases Nat.lt_or_ge (runS x s ls n).2 (ls.filter fun l => decide (l.1 ≤ n)).length with h | h
        · exact h
        · exact absurd (by unfold lie; rw [List.drop_eq_nil_of_le (by rw [List.length_map]; exact h)]) ne
      have hle := List.length_filter_le (fun l : Let => decide (l.1 ≤ n)) ls
      refine ⟨fun l hl => ?_, by show (runS x s ls n).2 + 1 ≤ ls.length; omega⟩
      have hl2 : l ∈ ls.take (ls.filter fun l => decide (l.1 ≤ n)).length := by
        have : ls.take ((runS x s ls n).2 + 1) = (ls.take (ls.filter fun l => decide (l.1 ≤ n)).length).take ((runS x s ls n).2 + 1) := by
          rw [List.take_take, Nat.min_eq_left (by omega)]
        have hl : l ∈ ls.take ((runS x s ls n).2 + 1) := hl
        rw [this] at hl
        exact List.mem_of_mem_take hl
      rw [← rises_filter hs] at hl2
      have := of_decide_eq_true (List.mem_filter.mp hl2).2
      omega
    · rw [if_neg hw]
      exact ⟨fun l hl => Nat.le_succ_of_le (ih l hl), ih2⟩
def restL (ls : List Let) (at_ used : Nat) : List Let := (ls.drop used).map fun l => (l.1 - at_, l.2)
theorem lie_rest {ls : List Let} {at_ used : Nat} (h : ∀ l ∈ ls.take used, l.1 ≤ at_) (hu : used ≤ ls.length) (n u : Nat) : lie (restL ls at_ used) n u = lie ls (at_ + n) (used + u) := by
  unfold lie restL
  have e1 : ((ls.drop used).map fun l => (l.1 - at_, l.2)).filter (fun l => decide (l.1 ≤ n)) = ((ls.drop used).filter fun l => decide (l.1 ≤ at_ + n)).map fun l => (l.1 - at_, l.2) := by
    rw [List.filter_map]
    congr 1
    congr 1
    funext l
    show decide (l.1 - at_ ≤ n) = decide (l.1 ≤ at_ + n)
    exact decide_eq_decide.mpr ⟨fun h => by omega, fun h => by omega⟩
  have e2 : ls.filter (fun l => decide (l.1 ≤ at_ + n)) = ls.take used ++ (ls.drop used).filter fun l => decide (l.1 ≤ at_ + n) := by
    conv => lhs; rw [← List.take_append_drop used ls]
    rw [List.filter_append, List.filter_eq_self.mpr]
    intro l hl
    exact decide_eq_true (Nat.le_trans (h l hl) (Nat.le_add_right _ _))
  rw [e1, e2, List.map_map, List.map_append, ← List.drop_drop]
  congr 1
  rw [List.drop_left' (by rw [List.length_map, List.length_take]; omega)]
  rfl
theorem runS_rest {x : Prog} {s : Stand} {ls : List Let} (hs : Rises ls) (at_ : Nat) : ∀ n, (runS x (runS x s ls at_).1 (restL ls at_ (runS x s ls at_).2) n).1 = (runS x s ls (at_ + n)).1 ∧ (runS x s ls at_).2 + (runS x (runS x s ls at_).1 (restL ls at_ (runS x s ls at_).2) n).2 = (runS x s ls (at_ + n)).2
  | 0 => ⟨rfl, rfl⟩
  | n + 1 => by
    obtain ⟨h1, h2⟩ := runS_rest (x := x) (s := s) hs at_ n
    obtain ⟨p1, p2⟩ := used_pre (x := x) (s := s) hs at_
    have e : toldAt x (runS x s ls at_).1 (restL ls at_ (runS x s ls at_).2) n = toldAt x s ls (at_ + n) := by
      unfold toldAt
      rw [h1, lie_rest p1 p2, h2]
    rw [runS_succ, ← Nat.add_assoc, runS_succ, e]
    exact ⟨rfl, by rw [← h2]; omega⟩
theorem told_rest {x : Prog} {s : Stand} {ls : List Let} (hs : Rises ls) (at_ n : Nat) : toldAt x (runS x s ls at_).1 (restL ls at_ (runS x s ls at_).2) n = toldAt x s ls (at_ + n) := by
  obtain ⟨h1, h2⟩ := runS_rest (x := x) (s := s) hs at_ n
  obtain ⟨p1, p2⟩ := used_pre (x := x) (s := s) hs at_
  unfold toldAt
  rw [h1, lie_rest p1 p2, h2]
theorem toldL_app {x : Prog} {s : Stand} {ls : List Let} (hs : Rises ls) (at_ n : Nat) : toldL x s ls at_ ++ toldL x (runS x s ls at_).1 (restL ls at_ (runS x s ls at_).2) n = toldL x s ls (at_ + n) := by
  unfold toldL
  rw [List.range_add, List.map_append, List.map_map]
  congr 1
  apply List.map_congr_left
  intro i _
  exact told_rest hs at_ i
theorem saidL_app {x : Prog} {s : Stand} {ls : List Let} (hs : Rises ls) (at_ n : Nat) : saidL x s ls at_ ++ (saidL x (runS x s ls at_).1 (restL ls at_ (runS x s ls at_).2) n).map (fun l => (l.1 + at_, l.2)) = saidL x s ls (at_ + n) := by
  unfold saidL
  rw [List.range_add, List.filterMap_append, List.filterMap_map, List.map_filterMap]
  congr 1
  congr 1
  funext i
  rw [told_rest hs at_ i]
  show _ = (if (toldAt x s ls (at_ + i)).word = "said" then some (at_ + i, (toldAt x s ls (at_ + i)).num) else none)
  by_cases h : (toldAt x s ls (at_ + i)).word = "said"
  · rw [if_pos h, if_pos h, Option.map_some, Nat.add_comm i at_]
  · rw [if_neg h, if_neg h]; rfl
theorem rest_rises {ls : List Let} (hs : Rises ls) (at_ used : Nat) : Rises (restL ls at_ used) := by
  unfold Rises restL
  rw [List.pairwise_map]
  exact (List.Pairwise.sublist (List.drop_sublist ..) hs).imp fun h => by show _ - _ ≤ _ - _; omega
/-- letters that come behind the last tick -/
def behL (ls : List Let) (many far : Nat) : List Let := (ls.filter fun l => decide (l.1 < many)) ++ [(far, 0)]
theorem lie_beh {ls : List Let} {many far now : Nat} (hf : many ≤ far) (hn : now < many) (u : Nat) : lie (behL ls many far) now u = lie ls now u := by
  unfold lie behL
  congr 2
  rw [List.filter_append, List.filter_filter]
  have e : ([(far, 0)] : List Let).filter (fun l => decide (l.1 ≤ now)) = [] := by
    rw [List.filter_eq_nil_iff]
    intro l hl hd
    rw [List.mem_singleton.mp hl] at hd
    have hd : far ≤ now := by simpa using hd
    omega
  rw [e, List.append_nil]
  congr 1
  funext l
  by_cases h : l.1 ≤ now
  · rw [decide_eq_true h, decide_eq_true (show l.1 < many by omega)]; rfl
  · rw [decide_eq_false h]; rfl
theorem runS_beh {x : Prog} {s : Stand} {ls : List Let} {many far : Nat} (hf : many ≤ far) : ∀ n, n ≤ many → runS x s (behL ls many far) n = runS x s ls n
  | 0, _ => rfl
  | n + 1, h => by
    have ih := runS_beh (x := x) (s := s) (ls := ls) hf n (by omega)
    rw [runS_succ, runS_succ]
    unfold toldAt
    rw [ih, lie_beh hf (by omega)]
theorem told_beh {x : Prog} {s : Stand} {ls : List Let} {many far : Nat} (hf : many ≤ far) {n : Nat} (h : n < many) : toldAt x s (behL ls many far) n = toldAt x s ls n := by
  unfold toldAt
  rw [runS_beh hf n (by omega), lie_beh hf h]
theorem saidL_beh {x : Prog} {s : Stand} {ls : List Let} {many far : Nat} (hf : many ≤ far) : saidL x s (behL ls many far) many = saidL x s ls many := by
  unfold saidL
  have gen : ∀ l : List Nat, (∀ i ∈ l, i < many) → (l.filterMap fun i => if (toldAt x s (behL ls many far) i).word = "said" then some (i, (toldAt x s (behL ls many far) i).num) else none) = l.filterMap fun i => if (toldAt x s ls i).word = "said" then some (i, (toldAt x s ls i).num) else none := fun l => by
    induction l with
    | nil => intro _; rfl
    | cons a r ih =>
      intro h
      rw [List.filterMap_cons, List.filterMap_cons, told_beh hf (h a (List.mem_cons_self ..)), ih fun i hi => h i (List.mem_cons_of_mem _ hi)]
  exact gen _ fun i hi => List.mem_range.mp hi
theorem beh_rises {ls : List Let} {many far : Nat} (hs : Rises ls) (hf : many ≤ far) : Rises (behL ls many far) := by
  unfold Rises behL
  rw [List.pairwise_append]
  refine ⟨List.Pairwise.sublist List.filter_sublist hs, List.pairwise_singleton .., fun a ha b hb => ?_⟩
  rw [List.mem_singleton.mp hb]
  have := of_decide_eq_true (List.mem_filter.mp ha).2
  show a.1 ≤ far
  omega
theorem toldL_take {x : Prog} {s : Stand} {ls : List Let} (n m : Nat) : (toldL x s ls (n + m)).take n = toldL x s ls n := by
  unfold toldL
  rw [← List.map_take, List.range_add, List.take_left' (List.length_range)]
/-- a take row behind which another row is next -/
def isTake : Row → Bool
  | .take _ => true
  | _ => false
theorem took_iff {x : Prog} {s : Stand} {ls : List Nat} : (tickF x s ls).word = "took" ↔ (isTake (rowAt x s.at_) = true ∧ (tickF x s ls).st.at_ ≠ s.at_) := by
  unfold tickF
  cases rowAt x s.at_ with
  | take p =>
    cases ls with
    | nil => exact ⟨fun h => absurd h (by dsimp only; decide +kernel), fun h => absurd rfl h.2⟩
    | cons l r => exact ⟨fun _ => ⟨rfl, by show s.at_ + 1 ≠ s.at_; omega⟩, fun _ => rfl⟩
  | _ => exact ⟨fun h => absurd h (by dsimp only; decide +kernel), fun h => nomatch h.1⟩
end Wm
set_option Elab.async false
set_option linter.all false
set_option maxRecDepth 100000
namespace K07
open PySem PySem.Spec PyProof.Rows L2 Dl Wm
def topS (i : Nat) : Stmt := PySem.Challenge.pw_warmove_k07_ends_and_rounds.main.body.getD i (.Pass ⟨0, 0, 0, 0⟩)
abbrev s_row_at : Stmt := topS 9
theorem sc_row_at : FnScope ["program", "at", "rows"] ["program", "at"] (defScope s_row_at) := ⟨rfl, rfl, rfl, by decide +kernel, rfl, by decide +kernel, by decide +kernel⟩
abbrev s_rising : Stmt := topS 10
theorem sc_rising : FnScope ["p", "q"] ["p", "q"] (defScope s_rising) := ⟨rfl, rfl, rfl, by decide +kernel, rfl, by decide +kernel, by decide +kernel⟩
abbrev s_stand_behind_writing : Stmt := topS 11
theorem sc_stand_behind_writing : FnScope ["stand", "p", "number", "at", "sheets"] ["stand", "p", "number"] (defScope s_stand_behind_writing) := ⟨rfl, rfl, rfl, by decide +kernel, rfl, by decide +kernel, by decide +kernel⟩
abbrev s_nothing_done : Stmt := topS 12
theorem sc_nothing_done : FnScope ["stand", "word"] ["stand", "word"] (defScope s_nothing_done) := ⟨rfl, rfl, rfl, by decide +kernel, rfl, by decide +kernel, by decide +kernel⟩
abbrev s_do_set : Stmt := topS 13
theorem sc_do_set : FnScope ["stand", "p", "number"] ["stand", "p", "number"] (defScope s_do_set) := ⟨rfl, rfl, rfl, by decide +kernel, rfl, by decide +kernel, by decide +kernel⟩
abbrev s_do_add : Stmt := topS 14
theorem sc_do_add : FnScope ["stand", "w", "p", "q", "sheets", "total"] ["stand", "w", "p", "q"] (defScope s_do_add) := ⟨rfl, rfl, rfl, by decide +kernel, rfl, by decide +kernel, by decide +kernel⟩
abbrev s_do_jump : Stmt := topS 15
theorem sc_do_jump : FnScope ["stand", "p", "k", "at", "sheets", "to"] ["stand", "p", "k"] (defScope s_do_jump) := ⟨rfl, rfl, rfl, by decide +kernel, rfl, by decide +kernel, by decide +kernel⟩
abbrev s_do_say : Stmt := topS 16
theorem sc_do_say : FnScope ["stand", "p", "at", "sheets"] ["stand", "p"] (defScope s_do_say) := ⟨rfl, rfl, rfl, by decide +kernel, rfl, by decide +kernel, by decide +kernel⟩
abbrev s_do_take : Stmt := topS 17
theorem sc_do_take : FnScope ["stand", "p", "letters", "letter"] ["stand", "p", "letters"] (defScope s_do_take) := ⟨rfl, rfl, rfl, by decide +kernel, rfl, by decide +kernel, by decide +kernel⟩
abbrev s_tick : Stmt := topS 18
theorem sc_tick : FnScope ["program", "stand", "letters", "row", "word"] ["program", "stand", "letters"] (defScope s_tick) := ⟨rfl, rfl, rfl, by decide +kernel, rfl, by decide +kernel, by decide +kernel⟩
abbrev s_round_of : Stmt := topS 21
theorem sc_round_of : FnScope ["program", "stand", "seen", "many", "behind", "word", "number", "reads", "writes", "lead"] ["program", "stand"] (defScope s_round_of) := ⟨rfl, rfl, rfl, by decide +kernel, rfl, by decide +kernel, by decide +kernel⟩
abbrev s_law_pen : Stmt := topS 23
theorem sc_law_pen : FnScope ["script"] ["script"] (defScope s_law_pen) := ⟨rfl, rfl, rfl, by decide +kernel, rfl, by decide +kernel, by decide +kernel⟩
abbrev s_law_take : Stmt := topS 24
theorem sc_law_take : FnScope ["pen", "many", "at", "cell", "one", "two", "three", "found"] ["pen", "many"] (defScope s_law_take) := ⟨rfl, rfl, rfl, by decide +kernel, rfl, by decide +kernel, by decide +kernel⟩
abbrev s_law_row : Stmt := topS 25
theorem sc_law_row : FnScope ["pen", "n", "w", "many", "takes", "way", "p"] ["pen", "n", "w", "many", "takes"] (defScope s_law_row) := ⟨rfl, rfl, rfl, by decide +kernel, rfl, by decide +kernel, by decide +kernel⟩
abbrev s_law_program : Stmt := topS 26
theorem sc_law_program : FnScope ["pen", "takes", "n", "w", "many", "k"] ["pen", "takes"] (defScope s_law_program) := ⟨rfl, rfl, rfl, by decide +kernel, rfl, by decide +kernel, by decide +kernel⟩
abbrev s_law_sheets : Stmt := topS 27
theorem sc_law_sheets : FnScope ["pen", "program", "p"] ["pen", "program"] (defScope s_law_sheets) := ⟨rfl, rfl, rfl, by decide +kernel, rfl, by decide +kernel, by decide +kernel⟩
abbrev s_law_stand : Stmt := topS 28
theorem sc_law_stand : FnScope ["pen", "program", "at"] ["pen", "program"] (defScope s_law_stand) := ⟨rfl, rfl, rfl, by decide +kernel, rfl, by decide +kernel, by decide +kernel⟩
abbrev s_law_tick : Stmt := topS 29
theorem sc_law_tick : FnScope ["program", "stand", "letters", "n", "w", "rows", "at", "sheets", "row", "p", "there", "word", "number", "reads", "writes"] ["program", "stand", "letters"] (defScope s_law_tick) := ⟨rfl, rfl, rfl, by decide +kernel, rfl, by decide +kernel, by decide +kernel⟩
abbrev s_law_same : Stmt := topS 30
theorem sc_law_same : FnScope ["found", "due", "one", "other"] ["found", "due"] (defScope s_law_same) := ⟨rfl, rfl, rfl, by decide +kernel, rfl, by decide +kernel, by decide +kernel⟩
abbrev s_law_counter : Stmt := topS 31
theorem sc_law_counter : FnScope ["pen", "w", "step", "more", "ahead", "rows", "row", "sheets"] ["pen"] (defScope s_law_counter) := ⟨rfl, rfl, rfl, by decide +kernel, rfl, by decide +kernel, by decide +kernel⟩
abbrev s_law_ring : Stmt := topS 32
theorem sc_law_ring : FnScope ["pen", "rows", "ahead"] ["pen"] (defScope s_law_ring) := ⟨rfl, rfl, rfl, by decide +kernel, rfl, by decide +kernel, by decide +kernel⟩
abbrev s_law_due : Stmt := topS 33
theorem sc_law_due : FnScope ["program", "stand", "seen", "many"] ["program", "stand"] (defScope s_law_due) := ⟨rfl, rfl, rfl, by decide +kernel, rfl, by decide +kernel, by decide +kernel⟩
abbrev s_law_right : Stmt := topS 34
theorem sc_law_right : FnScope ["program", "stand", "due", "caught", "found", "e"] ["program", "stand"] (defScope s_law_right) := ⟨rfl, rfl, rfl, by decide +kernel, rfl, by decide +kernel, by decide +kernel⟩
abbrev s_law : Stmt := topS 35
theorem sc_law : FnScope ["script", "pen", "turn", "program", "stand"] ["script"] (defScope s_law) := ⟨rfl, rfl, rfl, by decide +kernel, rfl, by decide +kernel, by decide +kernel⟩
structure Tx (K : PySem.W.Frag) (mg : Str → Option Value) (base : Heap) where
  ts : List Addr
  f_row_at : Addr
  d_row_at : FuncData
  F_row_at : Fun K "row_at" "row_at" s_row_at f_row_at d_row_at
  b_row_at : Binds K d_row_at ["program", "at"] []
  g_row_at : mg "row_at" = some (.ref f_row_at)
  f_rising : Addr
  d_rising : FuncData
  F_rising : Fun K "rising" "rising" s_rising f_rising d_rising
  b_rising : Binds K d_rising ["p", "q"] []
  g_rising : mg "rising" = some (.ref f_rising)
  f_stand_behind_writing : Addr
  d_stand_behind_writing : FuncData
  F_stand_behind_writing : Fun K "stand_behind_writing" "stand_behind_writing" s_stand_behind_writing f_stand_behind_writing d_stand_behind_writing
  b_stand_behind_writing : Binds K d_stand_behind_writing ["stand", "p", "number"] []
  g_stand_behind_writing : mg "stand_behind_writing" = some (.ref f_stand_behind_writing)
  f_nothing_done : Addr
  d_nothing_done : FuncData
  F_nothing_done : Fun K "nothing_done" "nothing_done" s_nothing_done f_nothing_done d_nothing_done
  b_nothing_done : Binds K d_nothing_done ["stand", "word"] []
  g_nothing_done : mg "nothing_done" = some (.ref f_nothing_done)
  f_do_set : Addr
  d_do_set : FuncData
  F_do_set : Fun K "do_set" "do_set" s_do_set f_do_set d_do_set
  b_do_set : Binds K d_do_set ["stand", "p", "number"] []
  g_do_set : mg "do_set" = some (.ref f_do_set)
  f_do_add : Addr
  d_do_add : FuncData
  F_do_add : Fun K "do_add" "do_add" s_do_add f_do_add d_do_add
  b_do_add : Binds K d_do_add ["stand", "w", "p", "q"] []
  g_do_add : mg "do_add" = some (.ref f_do_add)
  f_do_jump : Addr
  d_do_jump : FuncData
  F_do_jump : Fun K "do_jump" "do_jump" s_do_jump f_do_jump d_do_jump
  b_do_jump : Binds K d_do_jump ["stand", "p", "k"] []
  g_do_jump : mg "do_jump" = some (.ref f_do_jump)
  f_do_say : Addr
  d_do_say : FuncData
  F_do_say : Fun K "do_say" "do_say" s_do_say f_do_say d_do_say
  b_do_say : Binds K d_do_say ["stand", "p"] []
  g_do_say : mg "do_say" = some (.ref f_do_say)
  f_do_take : Addr
  d_do_take : FuncData
  F_do_take : Fun K "do_take" "do_take" s_do_take f_do_take d_do_take
  b_do_take : Binds K d_do_take ["stand", "p", "letters"] []
  g_do_take : mg "do_take" = some (.ref f_do_take)
  f_tick : Addr
  d_tick : FuncData
  F_tick : Fun K "tick" "tick" s_tick f_tick d_tick
  b_tick : Binds K d_tick ["program", "stand", "letters"] []
  g_tick : mg "tick" = some (.ref f_tick)
  f_round_of : Addr
  d_round_of : FuncData
  F_round_of : Fun K "round_of" "round_of" s_round_of f_round_of d_round_of
  b_round_of : Binds K d_round_of ["program", "stand"] []
  g_round_of : mg "round_of" = some (.ref f_round_of)
  f_law_pen : Addr
  d_law_pen : FuncData
  F_law_pen : Fun K "_law_pen" "_law_pen" s_law_pen f_law_pen d_law_pen
  b_law_pen : Binds K d_law_pen ["script"] []
  g_law_pen : mg "_law_pen" = some (.ref f_law_pen)
  f_law_take : Addr
  d_law_take : FuncData
  F_law_take : Fun K "_law_take" "_law_take" s_law_take f_law_take d_law_take
  b_law_take : Binds K d_law_take ["pen", "many"] []
  g_law_take : mg "_law_take" = some (.ref f_law_take)
  f_law_row : Addr
  d_law_row : FuncData
  F_law_row : Fun K "_law_row" "_law_row" s_law_row f_law_row d_law_row
  b_law_row : Binds K d_law_row ["pen", "n", "w", "many", "takes"] []
  g_law_row : mg "_law_row" = some (.ref f_law_row)
  f_law_program : Addr
  d_law_program : FuncData
  F_law_program : Fun K "_law_program" "_law_program" s_law_program f_law_program d_law_program
  b_law_program : Binds K d_law_program ["pen", "takes"] []
  g_law_program : mg "_law_program" = some (.ref f_law_program)
  f_law_sheets : Addr
  d_law_sheets : FuncData
  F_law_sheets : Fun K "_law_sheets" "_law_sheets" s_law_sheets f_law_sheets d_law_sheets
  b_law_sheets : Binds K d_law_sheets ["pen", "program"] []
  g_law_sheets : mg "_law_sheets" = some (.ref f_law_sheets)
  f_law_stand : Addr
  d_law_stand : FuncData
  F_law_stand : Fun K "_law_stand" "_law_stand" s_law_stand f_law_stand d_law_stand
  b_law_stand : Binds K d_law_stand ["pen", "program"] []
  g_law_stand : mg "_law_stand" = some (.ref f_law_stand)
  f_law_tick : Addr
  d_law_tick : FuncData
  F_law_tick : Fun K "_law_tick" "_law_tick" s_law_tick f_law_tick d_law_tick
  b_law_tick : Binds K d_law_tick ["program", "stand", "letters"] []
  g_law_tick : mg "_law_tick" = some (.ref f_law_tick)
  f_law_same : Addr
  d_law_same : FuncData
  F_law_same : Fun K "_law_same" "_law_same" s_law_same f_law_same d_law_same
  b_law_same : Binds K d_law_same ["found", "due"] []
  g_law_same : mg "_law_same" = some (.ref f_law_same)
  f_law_counter : Addr
  d_law_counter : FuncData
  F_law_counter : Fun K "_law_counter" "_law_counter" s_law_counter f_law_counter d_law_counter
  b_law_counter : Binds K d_law_counter ["pen"] []
  g_law_counter : mg "_law_counter" = some (.ref f_law_counter)
  f_law_ring : Addr
  d_law_ring : FuncData
  F_law_ring : Fun K "_law_ring" "_law_ring" s_law_ring f_law_ring d_law_ring
  b_law_ring : Binds K d_law_ring ["pen"] []
  g_law_ring : mg "_law_ring" = some (.ref f_law_ring)
  f_law_due : Addr
  d_law_due : FuncData
  F_law_due : Fun K "_law_due" "_law_due" s_law_due f_law_due d_law_due
  b_law_due : Binds K d_law_due ["program", "stand"] []
  g_law_due : mg "_law_due" = some (.ref f_law_due)
  f_law_right : Addr
  d_law_right : FuncData
  F_law_right : Fun K "_law_right" "_law_right" s_law_right f_law_right d_law_right
  b_law_right : Binds K d_law_right ["program", "stand"] []
  g_law_right : mg "_law_right" = some (.ref f_law_right)
  C_MoveError : Addr
  gC_MoveError : mg "MoveError" = some (.ref C_MoveError)
  C_NoHouse : Addr
  gC_NoHouse : mg "NoHouse" = some (.ref C_NoHouse)
  C_NoLetter : Addr
  gC_NoLetter : mg "NoLetter" = some (.ref C_NoLetter)
  C_NoRow : Addr
  gC_NoRow : mg "NoRow" = some (.ref C_NoRow)
  C_NoStep : Addr
  gC_NoStep : mg "NoStep" = some (.ref C_NoStep)
  C_NoText : Addr
  gC_NoText : mg "NoText" = some (.ref C_NoText)
  C_TooMany : Addr
  gC_TooMany : mg "TooMany" = some (.ref C_TooMany)
  xP_TooMany : PySem.W.excIn K C_TooMany [.type "ValueError", .type "Exception", .type "BaseException", .type "object"] "ValueError.__new__" = true
  kP_TooMany : PySem.W.keepIn K (.ref C_TooMany) = true
  bP_TooMany : PySem.W.subIn K (.ref C_TooMany) (.type "BaseException") = some true
  tP_TooMany : PySem.W.typeIn K (.ref C_TooMany) = some (.type "type")
  X_TooMany : ExcC K C_TooMany
  e1 : PySem.W.exmOne K (.ref C_TooMany) (.ref C_MoveError) = some true
  e2 : PySem.W.kitOne K (.ref C_TooMany) (.ref C_TooMany) = some true
  e3 : PySem.W.kitOne K (.ref C_TooMany) (.type "ValueError") = some true
  e4 : PySem.W.kitAny K (.ref C_TooMany) [.ref C_NoHouse, .ref C_NoLetter, .ref C_NoRow, .ref C_NoStep, .ref C_NoText] = some false
  m_ValueError : mg "ValueError" = none
  m_bool : mg "bool" = none
  m_int : mg "int" = none
  m_isinstance : mg "isinstance" = none
  m_len : mg "len" = none
  m_list : mg "list" = none
  m_max : mg "max" = none
  m_min : mg "min" = none
  m_range : mg "range" = none
  m_str : mg "str" = none
  m_tuple : mg "tuple" = none
  m_zip : mg "zip" = none
  t_MOST_TICKS : Tok
  c_MOST_TICKS : mg "MOST_TICKS" = some (.int 1000 t_MOST_TICKS)

local macro_rules | `(tactic| walk_at "e") => `(tactic| first
  | ((with_reducible refine e_var (by with_unfolding_all exact rfl) ?_))
  | with_reducible refine e_int ?_
  | with_reducible refine e_str ?_
  | with_reducible refine e_bl ?_
  | with_reducible refine e_non ?_
  | ((with_reducible refine e_pen (by with_unfolding_all exact rfl) (Or.inr rfl) ?_); intro z hz)
  | ((with_reducible refine e_pen (by with_unfolding_all exact rfl) (Or.inl rfl) ?_); intro z hz)
  | ((with_reducible refine e_penIx (by with_unfolding_all exact rfl) ?_))
  | ((with_reducible refine e_spr (by with_unfolding_all exact rfl) ?_); intro z)
  | with_reducible refine e_op ?_
  | with_reducible refine e_tup ?_
  | with_reducible refine e_lst ?_
  | with_reducible refine ea_cons ?_
  | with_reducible refine ea_nil ?_
  | ((with_reducible refine e_penLen (by with_unfolding_all exact rfl) ?_))
  | ((with_reducible refine e_lenOwn (by with_unfolding_all exact rfl) ?_))
  | ((with_reducible refine e_tupOwn (by with_unfolding_all exact rfl) ?_))
  | ((with_reducible refine s_aug (by with_unfolding_all exact rfl) ?_); (try dsimp only [List.set]))
  | with_reducible refine e_callXF ?_
  | with_reducible refine r_ipI ?_
  | with_reducible refine e_un ?_
  | with_reducible refine r_neg ?_
  | with_reducible refine gws_cons ?_
  | with_reducible refine gws_nil ?_
  | with_reducible refine gw_tup rfl ?_
  | ((with_reducible refine gw_name (by decide) ?_); (try dsimp only [List.set]))
  | with_reducible refine e_isI ?_
  | with_reducible refine e_isB ?_
  | with_reducible refine e_isS ?_
  | with_reducible refine e_isTu ?_
  | with_reducible refine e_isL ?_
  | with_reducible refine e_cb ?_
  | with_reducible refine e_sl ?_
  | with_reducible refine eo_none ?_
  | with_reducible refine eo_some ?_
  | with_reducible refine et_test ?_
  | with_reducible refine et_B ?_
  | with_reducible refine et_and ?_
  | with_reducible refine et_or ?_
  | with_reducible refine et_not ?_
  | with_reducible refine et_yes ?_
  | with_reducible refine e_andV ?_
  | with_reducible refine e_orV ?_
  | with_reducible refine e_notV ?_
  | with_reducible refine e_if ?_
  | with_reducible refine e_chain ?_
  | with_reducible refine e_callX ?_
  | ((with_reducible refine e_callXP (by with_unfolding_all exact rfl) ?_ (by with_unfolding_all exact trivial)))
  | ((with_reducible refine s_seq ?_); (try dsimp only [List.set]))
  | with_reducible refine s_next ?_
  | with_reducible refine s_ret ?_
  | ((with_reducible refine s_pen (by with_unfolding_all exact rfl) (Or.inr rfl) ?_))
  | ((with_reducible refine s_pen (by with_unfolding_all exact rfl) (Or.inl rfl) ?_))
  | ((with_reducible refine s_spr (by with_unfolding_all exact rfl) ?_))
  | ((with_reducible refine s_putOwn (by with_unfolding_all exact rfl) ?_ (by with_unfolding_all exact rfl)))
  | with_reducible refine s_asg ?_
  | with_reducible refine s_asgG ?_
  | with_reducible refine s_if ?_
  | with_reducible refine g_name ?_
  | with_reducible refine g_tup rfl ?_
  | with_reducible refine gs_cons ?_
  | with_reducible refine gs_nil ?_
  | with_reducible refine r_lt ?_
  | with_reducible refine r_le ?_
  | with_reducible refine r_gt ?_
  | with_reducible refine r_ge ?_
  | with_reducible refine r_add ?_
  | with_reducible refine r_sub ?_
  | with_reducible refine r_eqI ?_
  | with_reducible refine r_eqS ?_
  | with_reducible refine r_eqB ?_
  | with_reducible refine r_neI ?_
  | with_reducible refine r_neB ?_
  | with_reducible refine c_min2 ?_
  | with_reducible refine c_max2 ?_
  | with_reducible refine c_intB ?_
  | with_reducible refine c_len (Or.inl rfl) ?_
  | with_reducible refine c_len (Or.inr rfl) ?_
  | with_reducible refine c_list (Or.inl rfl) ?_
  | with_reducible refine c_list (Or.inr rfl) ?_
  | with_reducible refine c_tuple (Or.inl rfl) ?_
  | with_reducible refine c_tuple (Or.inr rfl) ?_
  | with_reducible refine r_ixT (by with_unfolding_all exact rfl) ?_
  | with_reducible refine r_ixL (by with_unfolding_all exact rfl) ?_
  | with_reducible refine r_slT ?_
  | with_reducible refine r_slL ?_
  | with_reducible refine r_isNone ?_
  | with_reducible refine r_notBl ?_
  | with_reducible refine eps_cons ?_
  | with_reducible refine eps_nil ?_
  | with_reducible refine e_dget1 ?_
  | with_reducible refine ed_callX ?_
  | with_reducible refine ⟨_, rfl, ?_⟩
  | with_reducible refine And.intro (Nat.le_of_ble_eq_true rfl) ?_)
local macro_rules | `(tactic| walk_at "t") => `(tactic| first
  | walk_at "e"
  | refine r_modAny (by first | omega | decide) fun z z0 z1 => ?_
  | refine r_mul (by first | exact Or.inr ⟨by decide, by decide⟩ | exact Or.inl ⟨by decide, by decide⟩ | exact Or.inl ⟨by omega, by omega⟩) ?_
  | refine r_pow ⟨by decide, by decide, by decide⟩ ?_
  | refine r_fdivW (by first | assumption | (rename_i hw _; exact hw _) | exact wide_div (b := 200) (by decide) (by decide) (by decide) (by decide)) ?_
  | with_reducible refine And.intro (by omega) ?_)
local macro_rules | `(tactic| walk_at "k") => `(tactic| first
  | walk_at "e"
  | with_reducible refine ⟨fun hb => absurd hb (by decide +kernel), fun _ => ?_⟩
  | with_reducible refine ⟨fun _ => ?_, fun hb => absurd hb (by decide +kernel)⟩
  | refine ⟨fun hb => absurd hb Bool.false_ne_true, fun _ => ?_⟩
  | refine ⟨fun _ => ?_, fun hb => absurd hb.symm Bool.false_ne_true⟩)
local macro_rules | `(tactic| walk_at "d") => `(tactic| first
  | walk_at "k"
  | refine And.intro (show WfTake _ from ⟨by omega, by omega⟩) (take_all fun k hk => ?_))
local macro_rules | `(tactic| walk_at "o") => `(tactic| first
  | with_reducible refine s_ownList ?_
  | walk_at "d"
  | with_reducible refine ⟨_, Or.inl rfl, ?_⟩)
local macro_rules | `(tactic| walk_at "c") => `(tactic| first
  | with_reducible refine e_ofL (el_catL ?_)
  | with_reducible refine e_ofL (el_sortP ?_)
  | with_reducible refine e_ofL (el_sortSetP ?_)
  | with_reducible refine e_ofL (el_revL ?_)
  | walk_at "d")

section
variable {P : Program} {w : World} {K : PySem.W.Frag} {mg : Str → Option Value} {base : Heap}
theorem ok_rising (T : Tx K mg base) : FnOk P w K mg base CX0 1 T.f_rising T.d_rising ["p", "q"] (SpX (α := Int × Int) K T.ts (fun _ => True) (fun x => [.int x.1, .int x.2]) (fun x d => d = .tuple (if x.1 = x.2 then [.int x.1] else [.int (min x.1 x.2), .int (max x.1 x.2)]))) := by
  refine fnX T.F_rising sc_rising (fun _ _ => rfl) (fun cdv A outer s H E hr => ⟨_, (pss_one (ps_ret (pe_ifExp (pt_cmpR op_eq (pv 0) (pv 1) (nomark _)) (pe_tup (pa_cons (pv 0) pa_nil)) (pe_tup (pa_cons (pe_callB (call_min2 rfl) (by rfl) T.m_min (by decide +kernel) (pa_cons (pv 0) (pa_cons (pv 1) pa_nil))) (pa_cons (pe_callB (call_max2 rfl) (by rfl) T.m_max (by decide +kernel) (pa_cons (pv 0) (pa_cons (pv 1) pa_nil))) pa_nil)))))), fun x _ => ?_⟩)
  repeat walk_at "e"
  refine ⟨fun hb => ?_, fun hb => ?_⟩
  · repeat walk_at "e"
    rw [if_pos (of_decide_eq_true hb)]
  · repeat walk_at "e"
    have hne := of_decide_eq_false hb
    rw [if_neg hne]
    rcases Int.lt_or_gt_of_ne hne with h | h
    · rw [if_neg (by omega), if_pos (by omega), Int.min_eq_left (by omega), Int.max_eq_right (by omega)]
    · rw [if_pos (by omega), if_neg (by omega), Int.min_eq_right (by omega), Int.max_eq_left (by omega)]
theorem ok_row_at (T : Tx K mg base) : FnOk P w K mg base CX0 1 T.f_row_at T.d_row_at ["program", "at"] (SpX (α := Prog × Nat) K T.ts (fun _ => True) (fun x => [x.1.D, .int x.2]) (fun x d => d = (rowAt x.1 x.2).D)) := by
  refine fnX T.F_row_at sc_row_at (fun _ _ => rfl) (fun cdv A outer s H E hr => ⟨_, (pss_cons (ps_set (i := 2) sc_row_at.nd rfl (.inl rfl) (pe_ix (kx_ixT K rfl) (pv 0) pe_int (fun _ _ => rfl)))
      (pss_one (ps_ret (pe_ifExp (pt_cmpR op_lt (pv 1) (pe_callB (kx_len K rfl) (by rfl) T.m_len PySem.boot_len (pa_cons (pv 2) pa_nil)) (nomark _)) (pe_ix (kx_ixT K rfl) (pv 2) (pv 1) (fun _ _ => rfl)) (pe_tup (pa_cons pe_str pa_nil)))))), fun x _ => ?_⟩)
  obtain ⟨x, a⟩ := x
  try simp only [nox_K, blk_K, cx_K]
  repeat walk_at "e"
  rw [List.length_map]
  refine ⟨fun hb => ?_, fun hb => ?_⟩
  · have hb : a < x.rows.length := by have := of_decide_eq_true hb; omega
    repeat walk_at "e"
    refine r_ixT (atI_nat (v := (rowAt x a).D) ?_) rfl
    unfold rowAt
    rw [List.getElem?_map, List.getElem?_eq_getElem hb, List.getD_eq_getElem?_getD, List.getElem?_eq_getElem hb]
    rfl
  · have hb : ¬ a < x.rows.length := by have := of_decide_eq_false hb; omega
    repeat walk_at "e"
    unfold rowAt
    rw [List.getD_eq_getElem?_getD, List.getElem?_eq_none (by omega)]
    rfl
theorem ok_stand_behind_writing (T : Tx K mg base) : FnOk P w K mg base CX0 1 T.f_stand_behind_writing T.d_stand_behind_writing ["stand", "p", "number"] (SpX (α := Stand × Nat × Nat) K T.ts (fun x => x.2.1 < x.1.sh.length ∧ x.1.sh.length ≤ 100) (fun x => [x.1.D, .int x.2.1, .int x.2.2]) (fun x d => d = (Stand.mk (x.1.at_ + 1) (x.1.sh.set x.2.1 x.2.2)).D)) := by
  refine fnX T.F_stand_behind_writing sc_stand_behind_writing (fun _ _ => rfl) (fun cdv A outer s H E hr => ⟨_, (pss_cons (ps_asg (pv 0) (kx_pgT K (n := 2) rfl rfl (pgs_cons (pg_name (i := 3) sc_stand_behind_writing.nd rfl (.inl rfl)) (pgs_cons (pg_name (i := 4) sc_stand_behind_writing.nd rfl (.inl rfl)) pgs_nil))))
      (pss_one (ps_ret (pe_tup (pa_cons (pe_op op_add (pv 3) pe_int) (pa_cons (pe_op (kx_catT K rfl) (pe_op (kx_catT K rfl) (pe_slice (kx_slT K rfl) (pv 4) po_none (po_some (pv 1))) (pe_tup (pa_cons (pv 2) pa_nil))) (pe_slice (kx_slT K rfl) (pv 4) (po_some (pe_op op_add (pv 1) pe_int)) po_none)) pa_nil)))))), fun x hx => ?_⟩)
  obtain ⟨s, p, v⟩ := x
  obtain ⟨h1, h2⟩ := hx
  dsimp only at h1 h2
  try simp only [nox_K, blk_K, cx_K]
  repeat walk_at "e"
  have l0 := natsD_len s.sh
  rw [cut_to]
  refine r_catT (by rw [List.length_take]; show _ + 1 ≤ _; omega) ?_
  repeat walk_at "e"
  rw [show ((p : Int) + 1) = ((p + 1 : Nat) : Int) from rfl, cut_from]
  refine r_catT (by rw [List.length_append, List.length_take, List.length_drop]; show _ + 1 + _ ≤ _; omega) ?_
  repeat walk_at "e"
  rw [set_parts h1]
  rfl
theorem ok_nothing_done (T : Tx K mg base) : FnOk P w K mg base CX0 1 T.f_nothing_done T.d_nothing_done ["stand", "word"] (SpX (α := Stand × Str) K T.ts (fun _ => True) (fun x => [x.1.D, .str x.2]) (fun x d => d = (Told.mk x.1 x.2 none [] []).D)) := by
  refine fnX T.F_nothing_done sc_nothing_done (fun _ _ => rfl) (fun cdv A outer s H E hr => ⟨_, (pss_one (ps_ret (pe_tup (pa_cons (pv 0) (pa_cons (pv 1) (pa_cons pe_non (pa_cons (pe_tup pa_nil) (pa_cons (pe_tup pa_nil) pa_nil)))))))), fun x hx => ?_⟩)
  obtain ⟨s, word⟩ := x
  try simp only [nox_K, blk_K, cx_K]
  repeat walk_at "e"
  rfl
theorem ok_do_set (T : Tx K mg base) : FnOk P w K mg base CX0 2 T.f_do_set T.d_do_set ["stand", "p", "number"] (SpX (α := Stand × Nat × Nat) K T.ts (fun x => x.2.1 < x.1.sh.length ∧ x.1.sh.length ≤ 100) (fun x => [x.1.D, .int x.2.1, .int x.2.2]) (fun x d => d = (Told.mk (Stand.mk (x.1.at_ + 1) (x.1.sh.set x.2.1 x.2.2)) "did" none [] [x.2.1]).D)) := by
  refine fnX T.F_do_set sc_do_set (fun _ _ => rfl) (fun cdv A outer s H E hr => ⟨_, (pss_one (ps_ret (pe_tup (pa_cons (pe_call (ok_stand_behind_writing T) (hr.mono (by decide)) (by rfl) T.g_stand_behind_writing T.F_stand_behind_writing.kp T.b_stand_behind_writing .nil pass0 (pa_cons (pv 0) (pa_cons (pv 1) (pa_cons (pv 2) pa_nil)))) (pa_cons pe_str (pa_cons pe_non (pa_cons (pe_tup pa_nil) (pa_cons (pe_tup (pa_cons (pv 1) pa_nil)) pa_nil)))))))), fun x hx => ?_⟩)
  obtain ⟨s, p, v⟩ := x
  try simp only [nox_K, blk_K, cx_K]
  repeat walk_at "e"
  refine ⟨⟨s, p, v⟩, rfl, hx, ?_⟩
  rintro d rfl
  repeat walk_at "e"
  rfl
theorem ok_do_add (T : Tx K mg base) : FnOk P w K mg base CX0 2 T.f_do_add T.d_do_add ["stand", "w", "p", "q"] (SpX (α := Stand × Nat × Nat × Nat) K T.ts (fun x => 0 < x.2.1 ∧ x.2.2.1 < x.1.sh.length ∧ x.2.2.2 < x.1.sh.length ∧ x.1.sh.length ≤ 100) (fun x => [x.1.D, .int x.2.1, .int x.2.2.1, .int x.2.2.2])
    (fun x d => d = (Told.mk (Stand.mk (x.1.at_ + 1) (x.1.sh.set x.2.2.1 ((x.1.sh.getD x.2.2.1 0 + x.1.sh.getD x.2.2.2 0) % x.2.1))) "did" none (rise x.2.2.1 x.2.2.2) [x.2.2.1]).D)) := by
  refine fnX T.F_do_add sc_do_add (fun _ _ => rfl) (fun cdv A outer s H E hr => ⟨_, (pss_cons (ps_set (i := 4) sc_do_add.nd rfl (.inl rfl) (pe_ix (kx_ixT K rfl) (pv 0) pe_int (fun _ _ => rfl)))
      (pss_cons (ps_set (i := 5) sc_do_add.nd rfl (.inl rfl) (pe_op op_mod (pe_op op_add (pe_ix (kx_ixT K rfl) (pv 4) (pv 2) (fun _ _ => rfl)) (pe_ix (kx_ixT K rfl) (pv 4) (pv 3) (fun _ _ => rfl))) (pv 1)))
      (pss_one (ps_ret (pe_tup (pa_cons (pe_call (ok_stand_behind_writing T) (hr.mono (by decide)) (by rfl) T.g_stand_behind_writing T.F_stand_behind_writing.kp T.b_stand_behind_writing .nil pass0 (pa_cons (pv 0) (pa_cons (pv 2) (pa_cons (pv 5) pa_nil)))) (pa_cons pe_str (pa_cons pe_non (pa_cons (pe_call (ok_rising T) (hr.mono (by decide)) (by rfl) T.g_rising T.F_rising.kp T.b_rising .nil pass0 (pa_cons (pv 2) (pa_cons (pv 3) pa_nil))) (pa_cons (pe_tup (pa_cons (pv 2) pa_nil)) pa_nil)))))))))), fun x hx => ?_⟩)
  obtain ⟨s, w', p, q⟩ := x
  obtain ⟨h0, h1, h2, h3⟩ := hx
  dsimp only at h0 h1 h2 h3
  try simp only [nox_K, blk_K, cx_K]
  repeat walk_at "e"
  refine r_ixT (natsD_at h1) ?_
  repeat walk_at "e"
  refine r_ixT (natsD_at h2) ?_
  repeat walk_at "e"
  refine r_mod (by omega) ?_
  repeat walk_at "e"
  refine ⟨⟨s, p, (s.sh.getD p 0 + s.sh.getD q 0) % w'⟩, rfl, ⟨h1, h3⟩, ?_⟩
  rintro d rfl
  repeat walk_at "e"
  refine ⟨⟨(p : Int), (q : Int)⟩, rfl, trivial, ?_⟩
  rintro d rfl
  repeat walk_at "e"
  unfold rise
  show _ = PyData.tuple [_, _, _, _, _]
  congr 5
  by_cases h : p = q
  · rw [if_pos (by omega), if_pos h]
    rfl
  · rw [if_neg (by omega), if_neg h]
    show PyData.tuple [PyData.int (min (p : Int) (q : Int)), PyData.int (max (p : Int) (q : Int))] = PyData.tuple [PyData.int ((min p q : Nat) : Int), PyData.int ((max p q : Nat) : Int)]
    rcases Nat.le_total p q with h2 | h2
    · rw [Int.min_eq_left (by omega), Int.max_eq_right (by omega), Nat.min_eq_left h2, Nat.max_eq_right h2]
    · rw [Int.min_eq_right (by omega), Int.max_eq_left (by omega), Nat.min_eq_right h2, Nat.max_eq_left h2]
theorem ok_do_jump (T : Tx K mg base) : FnOk P w K mg base CX0 1 T.f_do_jump T.d_do_jump ["stand", "p", "k"] (SpX (α := Stand × Nat × Nat) K T.ts (fun x => x.2.1 < x.1.sh.length) (fun x => [x.1.D, .int x.2.1, .int x.2.2]) (fun x d => d = (Told.mk (Stand.mk (if x.1.sh.getD x.2.1 0 = 0 then x.2.2 else x.1.at_ + 1) x.1.sh) "did" none [x.2.1] []).D)) := by
  refine fnX T.F_do_jump sc_do_jump (fun _ _ => rfl) (fun cdv A outer s H E hr => ⟨_, (pss_cons (ps_asg (pv 0) (kx_pgT K (n := 2) rfl rfl (pgs_cons (pg_name (i := 3) sc_do_jump.nd rfl (.inl rfl)) (pgs_cons (pg_name (i := 4) sc_do_jump.nd rfl (.inl rfl)) pgs_nil))))
      (pss_cons (ps_set (i := 5) sc_do_jump.nd rfl (.inl rfl) (pe_ifExp (pt_cmpR op_eq (pe_ix (kx_ixT K rfl) (pv 4) (pv 1) (fun _ _ => rfl)) pe_int (nomark _)) (pv 2) (pe_op op_add (pv 3) pe_int)))
      (pss_one (ps_ret (pe_tup (pa_cons (pe_tup (pa_cons (pv 5) (pa_cons (pv 4) pa_nil))) (pa_cons pe_str (pa_cons pe_non (pa_cons (pe_tup (pa_cons (pv 1) pa_nil)) (pa_cons (pe_tup pa_nil) pa_nil)))))))))), fun x hx => ?_⟩)
  obtain ⟨s, p, k⟩ := x
  dsimp only at hx
  try simp only [nox_K, blk_K, cx_K]
  repeat walk_at "e"
  refine r_ixT (natsD_at hx) ?_
  repeat walk_at "e"
  refine ⟨fun hb => ?_, fun hb => ?_⟩
  · have hb := of_decide_eq_true hb
    repeat walk_at "e"
    rw [if_pos (by omega)]
    rfl
  · have hb := of_decide_eq_false hb
    repeat walk_at "e"
    rw [if_neg (by omega)]
    rfl
theorem ok_do_say (T : Tx K mg base) : FnOk P w K mg base CX0 1 T.f_do_say T.d_do_say ["stand", "p"] (SpX (α := Stand × Nat) K T.ts (fun x => x.2 < x.1.sh.length) (fun x => [x.1.D, .int x.2]) (fun x d => d = (Told.mk (Stand.mk (x.1.at_ + 1) x.1.sh) "said" (some (x.1.sh.getD x.2 0)) [x.2] []).D)) := by
  refine fnX T.F_do_say sc_do_say (fun _ _ => rfl) (fun cdv A outer s H E hr => ⟨_, (pss_cons (ps_asg (pv 0) (kx_pgT K (n := 2) rfl rfl (pgs_cons (pg_name (i := 2) sc_do_say.nd rfl (.inl rfl)) (pgs_cons (pg_name (i := 3) sc_do_say.nd rfl (.inl rfl)) pgs_nil))))
      (pss_one (ps_ret (pe_tup (pa_cons (pe_tup (pa_cons (pe_op op_add (pv 2) pe_int) (pa_cons (pv 3) pa_nil))) (pa_cons pe_str (pa_cons (pe_ix (kx_ixT K rfl) (pv 3) (pv 1) (fun _ _ => rfl)) (pa_cons (pe_tup (pa_cons (pv 1) pa_nil)) (pa_cons (pe_tup pa_nil) pa_nil))))))))), fun x hx => ?_⟩)
  obtain ⟨s, p⟩ := x
  dsimp only at hx
  try simp only [nox_K, blk_K, cx_K]
  repeat walk_at "e"
  refine r_ixT (natsD_at hx) ?_
  repeat walk_at "e"
  rfl
theorem ok_do_take (T : Tx K mg base) : FnOk P w K mg base CX0 2 T.f_do_take T.d_do_take ["stand", "p", "letters"] (SpX (α := Stand × Nat × List Nat) K T.ts (fun x => x.2.1 < x.1.sh.length ∧ x.1.sh.length ≤ 100) (fun x => [x.1.D, .int x.2.1, .list (natsD x.2.2)])
    (fun x d => d = (match x.2.2 with | [] => Told.mk x.1 "waits" none [] [] | l :: _ => Told.mk (Stand.mk (x.1.at_ + 1) (x.1.sh.set x.2.1 l)) "took" (some l) [] [x.2.1]).D)) := by
  refine fnX T.F_do_take sc_do_take (fun _ _ => rfl) (fun cdv A outer s H E hr => ⟨_, (pss_cons (ps_if (pt_cmpR op_eq (pe_callB (kx_len K rfl) (by rfl) T.m_len PySem.boot_len (pa_cons (pv 2) pa_nil)) pe_int (nomark _))
      (pss_one (ps_ret (pe_call (ok_nothing_done T) (hr.mono (by decide)) (by rfl) T.g_nothing_done T.F_nothing_done.kp T.b_nothing_done .nil pass0 (pa_cons (pv 0) (pa_cons pe_str pa_nil)))))
      pss_nil)
      (pss_cons (ps_set (i := 3) sc_do_take.nd rfl (.inl rfl) (pe_ix (kx_ixL K rfl) (pv 2) pe_int (fun _ _ => rfl)))
      (pss_one (ps_ret (pe_tup (pa_cons (pe_call (ok_stand_behind_writing T) (hr.mono (by decide)) (by rfl) T.g_stand_behind_writing T.F_stand_behind_writing.kp T.b_stand_behind_writing .nil pass0 (pa_cons (pv 0) (pa_cons (pv 1) (pa_cons (pv 3) pa_nil)))) (pa_cons pe_str (pa_cons (pv 3) (pa_cons (pe_tup pa_nil) (pa_cons (pe_tup (pa_cons (pv 1) pa_nil)) pa_nil)))))))))), fun x hx => ?_⟩)
  obtain ⟨s, p, ls⟩ := x
  try simp only [nox_K, blk_K, cx_K]
  repeat walk_at "e"
  rw [natsD_len]
  cases ls with
  | nil =>
    refine ⟨fun _ => ?_, fun hb => absurd hb (by decide)⟩
    repeat walk_at "e"
    refine ⟨⟨s, "waits"⟩, rfl, trivial, ?_⟩
    rintro d rfl
    rfl
  | cons l r =>
    refine ⟨fun hb => ?_, fun hb => ?_⟩
    · have hb := of_decide_eq_true hb
      rw [List.length_cons] at hb
      omega
    · repeat walk_at "e"
      refine r_ixL (natsD_at (l := l :: r) (p := 0) (Nat.succ_pos _)) ?_
      repeat walk_at "e"
      refine ⟨⟨s, p, l⟩, rfl, hx, ?_⟩
      rintro d rfl
      repeat walk_at "e"
      rfl
abbrev tickA := Prog × Stand × List Nat
abbrev tickW (x : tickA) : Prop := x.1.Ok ∧ x.2.1.Ok x.1
abbrev tickE (x : tickA) : List PyData := [x.1.D, x.2.1.D, .list (natsD x.2.2)]
theorem ok_tick (T : Tx K mg base) : FnOk P w K mg base CX0 3 T.f_tick T.d_tick ["program", "stand", "letters"] (SpX (α := tickA) K T.ts tickW tickE (fun x d => d = (tickF x.1 x.2.1 x.2.2).D)) := by
  refine fnX T.F_tick sc_tick (fun _ _ => rfl) (fun cdv A outer s H E hr => ⟨_, (pss_cons (ps_set (i := 3) sc_tick.nd rfl (.inl rfl) (pe_call (ok_row_at T) (hr.mono (by decide)) (by rfl) T.g_row_at T.F_row_at.kp T.b_row_at .nil pass0 (pa_cons (pv 0) (pa_cons (pe_ix (kx_ixT K rfl) (pv 1) pe_int (fun _ _ => rfl)) pa_nil))))
      (pss_cons (ps_set (i := 4) sc_tick.nd rfl (.inl rfl) (pe_ix (kx_ixT K rfl) (pv 3) pe_int (fun _ _ => rfl)))
      (pss_cons (ps_if (pt_cmpR op_eq (pv 4) pe_str (nomark _))
      (pss_one (ps_ret (pe_call (ok_do_set T) (hr.mono (by decide)) (by rfl) T.g_do_set T.F_do_set.kp T.b_do_set .nil pass0 (pa_cons (pv 1) (pa_cons (pe_ix (kx_ixT K rfl) (pv 3) pe_int (fun _ _ => rfl)) (pa_cons (pe_ix (kx_ixT K rfl) (pv 3) pe_int (fun _ _ => rfl)) pa_nil))))))
      pss_nil)
      (pss_cons (ps_if (pt_cmpR op_eq (pv 4) pe_str (nomark _))
      (pss_one (ps_ret (pe_call (ok_do_add T) (hr.mono (by decide)) (by rfl) T.g_do_add T.F_do_add.kp T.b_do_add .nil pass0 (pa_cons (pv 1) (pa_cons (pe_ix (kx_ixT K rfl) (pv 0) pe_int (fun _ _ => rfl)) (pa_cons (pe_ix (kx_ixT K rfl) (pv 3) pe_int (fun _ _ => rfl)) (pa_cons (pe_ix (kx_ixT K rfl) (pv 3) pe_int (fun _ _ => rfl)) pa_nil)))))))
      pss_nil)
      (pss_cons (ps_if (pt_cmpR op_eq (pv 4) pe_str (nomark _))
      (pss_one (ps_ret (pe_call (ok_do_jump T) (hr.mono (by decide)) (by rfl) T.g_do_jump T.F_do_jump.kp T.b_do_jump .nil pass0 (pa_cons (pv 1) (pa_cons (pe_ix (kx_ixT K rfl) (pv 3) pe_int (fun _ _ => rfl)) (pa_cons (pe_ix (kx_ixT K rfl) (pv 3) pe_int (fun _ _ => rfl)) pa_nil))))))
      pss_nil)
      (pss_cons (ps_if (pt_cmpR op_eq (pv 4) pe_str (nomark _))
      (pss_one (ps_ret (pe_call (ok_do_say T) (hr.mono (by decide)) (by rfl) T.g_do_say T.F_do_say.kp T.b_do_say .nil pass0 (pa_cons (pv 1) (pa_cons (pe_ix (kx_ixT K rfl) (pv 3) pe_int (fun _ _ => rfl)) pa_nil)))))
      pss_nil)
      (pss_cons (ps_if (pt_cmpR op_eq (pv 4) pe_str (nomark _))
      (pss_one (ps_ret (pe_call (ok_do_take T) (hr.mono (by decide)) (by rfl) T.g_do_take T.F_do_take.kp T.b_do_take .nil pass0 (pa_cons (pv 1) (pa_cons (pe_ix (kx_ixT K rfl) (pv 3) pe_int (fun _ _ => rfl)) (pa_cons (pv 2) pa_nil))))))
      pss_nil)
      (pss_one (ps_ret (pe_call (ok_nothing_done T) (hr.mono (by decide)) (by rfl) T.g_nothing_done T.F_nothing_done.kp T.b_nothing_done .nil pass0 (pa_cons (pv 1) (pa_cons pe_str pa_nil)))))))))))), fun x hx => ?_⟩)
  obtain ⟨x, s, ls⟩ := x
  obtain ⟨hx, hs⟩ := hx
  dsimp only at hx hs
  try simp only [nox_K, blk_K, cx_K]
  have hr := row_ok hx s.at_
  have hl : s.sh.length ≤ 100 := by have := hs.s1; have := hx.n2; omega
  have hsl := hs.s1
  have hw := hx.w1
  repeat walk_at "e"
  refine ⟨⟨x, s.at_⟩, rfl, trivial, ?_⟩
  rintro d rfl
  unfold tickF
  dsimp only
  cases e : rowAt x s.at_ with
  | set p v =>
    rw [e] at hr
    dsimp only [Row.D, Row.Ok] at hr ⊢
    repeat walk_at "k"
    refine ⟨⟨s, p, v⟩, rfl, ⟨by show p < s.sh.length; omega, hl⟩, ?_⟩
    rintro d rfl
    rfl
  | add p q =>
    rw [e] at hr
    dsimp only [Row.D, Row.Ok] at hr ⊢
    repeat walk_at "k"
    refine ⟨⟨s, x.w, p, q⟩, rfl, ⟨by show 0 < x.w; omega, by show p < s.sh.length; omega, by show q < s.sh.length; omega, hl⟩, ?_⟩
    rintro d rfl
    rfl
  | jump p k =>
    rw [e] at hr
    dsimp only [Row.D, Row.Ok] at hr ⊢
    repeat walk_at "k"
    refine ⟨⟨s, p, k⟩, rfl, by show p < s.sh.length; omega, ?_⟩
    rintro d rfl
    rfl
  | say p =>
    rw [e] at hr
    dsimp only [Row.D, Row.Ok] at hr ⊢
    repeat walk_at "k"
    refine ⟨⟨s, p⟩, rfl, by show p < s.sh.length; omega, ?_⟩
    rintro d rfl
    rfl
  | take p =>
    rw [e] at hr
    dsimp only [Row.D, Row.Ok] at hr ⊢
    repeat walk_at "k"
    refine ⟨⟨s, p, ls⟩, rfl, ⟨by show p < s.sh.length; omega, hl⟩, ?_⟩
    rintro d rfl
    rfl
  | fin =>
    dsimp only [Row.D]
    repeat walk_at "k"
    refine ⟨⟨s, "ended"⟩, rfl, trivial, ?_⟩
    rintro d rfl
    rfl
def stF (x : Prog) (s : Stand) (k : Nat) : Stand := (runS x s [] k).1
def skey (s : Stand) : NestedKey := .tup [.num s.at_, .tup (s.sh.map fun v : Nat => .num (v : Int))]
theorem datas_nums : ∀ l : List Nat, NestedKey.datas (l.map fun v : Nat => .num (v : Int)) = natsD l
  | [] => by rw [List.map_nil, NestedKey.datas]; rfl
  | v :: l => by rw [List.map_cons, NestedKey.datas, datas_nums l, NestedKey.data]; rfl
theorem depth_nums : ∀ l : List Nat, NestedKey.depthAll (l.map fun v : Nat => .num (v : Int)) = 0
  | [] => by rw [List.map_nil, NestedKey.depthAll]
  | v :: l => by rw [List.map_cons, NestedKey.depthAll, depth_nums l, NestedKey.depth]; rfl
theorem skey_data (s : Stand) : s.D = (skey s).data := by
  unfold skey
  rw [NestedKey.data, NestedKey.datas, NestedKey.datas, NestedKey.datas, NestedKey.data, NestedKey.data, datas_nums]
theorem skey_depth (s : Stand) : (skey s).depth ≤ 8 := by
  unfold skey
  rw [NestedKey.depth, NestedKey.depthAll, NestedKey.depthAll, NestedKey.depthAll, NestedKey.depth, NestedKey.depth, depth_nums]
  decide
theorem nums_inj : ∀ {l m : List Nat}, (l.map fun v : Nat => NestedKey.num (v : Int)) = (m.map fun v : Nat => NestedKey.num (v : Int)) → l = m
  | [], [], _ => rfl
  | v :: l, u :: m, h => by
    rw [List.map_cons, List.map_cons] at h
    injection h with h1 h2
    injection h1 with h1
    rw [nums_inj h2, Int.ofNat.inj h1]
  | [], _ :: _, h => by cases h
  | _ :: _, [], h => by cases h
theorem skey_inj {s t : Stand} (h : skey s = skey t) : s = t := by
  unfold skey at h
  injection h with h
  injection h with h1 h2
  injection h2 with h2 _
  injection h1 with h1
  injection h2 with h2
  obtain ⟨a, b⟩ := s
  obtain ⟨c, d⟩ := t
  have e1 : a = c := Int.ofNat.inj h1
  have e2 : b = d := nums_inj h2
  rw [e1, e2]
theorem skey_nk (s : Stand) : NkD s.D (skey s) := ⟨skey_data s, skey_depth s, _, rfl⟩
def seenL (f : Nat → Stand) (k : Nat) : List (NestedKey × PyData) := (List.range k).map fun j => (skey (f j), .int (j : Nat))
theorem seenL_len (f : Nat → Stand) (k : Nat) : (seenL f k).length = k := by unfold seenL; rw [List.length_map, List.length_range]
theorem seenL_succ (f : Nat → Stand) (k : Nat) : seenL f (k + 1) = seenL f k ++ [(skey (f k), .int (k : Nat))] := by
  unfold seenL
  rw [List.range_succ, List.map_append]
  rfl
open Classical in
theorem seen_val (f : Nat → Stand) (t : Stand) : ∀ k, (∃ j, j < k ∧ f j = t ∧ (∀ i, i < j → f i ≠ t) ∧ valD (seenL f k) (skey t) = some (.int (j : Nat))) ∨ ((∀ j, j < k → f j ≠ t) ∧ valD (seenL f k) (skey t) = none)
  | 0 => .inr ⟨fun j hj => absurd hj (Nat.not_lt_zero _), rfl⟩
  | k + 1 => by
    have app : ∀ o, valD (seenL f k) (skey t) = o → valD (seenL f (k + 1)) (skey t) = o.or (if f k = t then some (.int (k : Nat)) else none) := fun o ho => by
      rw [seenL_succ, ← ho]
      unfold valD
      rw [List.find?_append, List.find?_cons]
      by_cases q : f k = t
      · rw [if_pos q, q]
        simp only [decide_true]
        cases List.find? (fun kv => decide (kv.1 = skey t)) (seenL f k) <;> rfl
      · rw [if_neg q, decide_eq_false (fun z => q (skey_inj z))]
        simp only [List.find?_nil]
        cases List.find? (fun kv => decide (kv.1 = skey t)) (seenL f k) <;> rfl
    rcases seen_val f t k with ⟨j, hj, e, hu, hv⟩ | ⟨hn, hv⟩
    · exact .inl ⟨j, by omega, e, hu, app _ hv⟩
    · by_cases q : f k = t
      · refine .inl ⟨k, by omega, q, hn, ?_⟩
        rw [app _ hv, if_pos q]
        rfl
      · refine .inr ⟨fun j hj => ?_, ?_⟩
        · rcases Nat.lt_or_ge j k with z | z
          · exact hn j z
          · rw [show j = k by omega]; exact q
        · rw [app _ hv, if_neg q]
          rfl
theorem any_val (k : NestedKey) : ∀ m : List (NestedKey × PyData), (m.any fun p => decide (p.1 = k)) = (valD m k).isSome
  | [] => rfl
  | p :: ps => by
    rw [List.any_cons, any_val k ps]
    by_cases e : p.1 = k
    · simp [valD, List.find?_cons, e]
    · simp [valD, List.find?_cons, e]
theorem put_new {m : List (NestedKey × PyData)} {k : NestedKey} (d : PyData) (h : valD m k = none) : putD m k d = m ++ [(k, d)] := by
  unfold putD
  rw [any_val, h]
  rfl
theorem lie_nil (now used : Nat) : lie [] now used = [] := by unfold lie; rw [List.filter_nil, List.map_nil, List.drop_nil]
theorem told_nil (x : Prog) (s : Stand) (k : Nat) : toldAt x s [] k = tickF x (stF x s k) [] := by unfold toldAt stF; rw [lie_nil]
theorem stF_succ (x : Prog) (s : Stand) (k : Nat) : stF x s (k + 1) = (tickF x (stF x s k) []).st := by
  rw [← told_nil]
  rfl
theorem stF_ok {x : Prog} {s : Stand} (hx : x.Ok) (hs : s.Ok x) (k : Nat) : (stF x s k).Ok x := runS_ok hx hs (fun _ h => absurd h List.not_mem_nil) k
def wdF (x : Prog) (s : Stand) (k : Nat) : Str := (tickF x (stF x s k) []).word
end
end K07
set_option Elab.async false
set_option linter.all false
set_option maxRecDepth 100000
namespace K07
open PySem PySem.Spec PyProof.Rows L2 Dl Wm
local macro_rules | `(tactic| walk_at "e") => `(tactic| first
  | ((with_reducible refine e_var (by with_unfolding_all exact rfl) ?_))
  | with_reducible refine e_int ?_
  | with_reducible refine e_str ?_
  | with_reducible refine e_bl ?_
  | with_reducible refine e_non ?_
  | ((with_reducible refine e_pen (by with_unfolding_all exact rfl) (Or.inr rfl) ?_); intro z hz)
  | ((with_reducible refine e_pen (by with_unfolding_all exact rfl) (Or.inl rfl) ?_); intro z hz)
  | ((with_reducible refine e_penIx (by with_unfolding_all exact rfl) ?_))
  | ((with_reducible refine e_spr (by with_unfolding_all exact rfl) ?_); intro z)
  | with_reducible refine e_op ?_
  | with_reducible refine e_tup ?_
  | with_reducible refine e_lst ?_
  | with_reducible refine ea_cons ?_
  | with_reducible refine ea_nil ?_
  | ((with_reducible refine e_penLen (by with_unfolding_all exact rfl) ?_))
  | ((with_reducible refine e_lenOwn (by with_unfolding_all exact rfl) ?_))
  | ((with_reducible refine e_tupOwn (by with_unfolding_all exact rfl) ?_))
  | ((with_reducible refine s_aug (by with_unfolding_all exact rfl) ?_); (try dsimp only [List.set]))
  | with_reducible refine e_callXF ?_
  | with_reducible refine r_ipI ?_
  | with_reducible refine e_un ?_
  | with_reducible refine r_neg ?_
  | with_reducible refine gws_cons ?_
  | with_reducible refine gws_nil ?_
  | with_reducible refine gw_tup rfl ?_
  | ((with_reducible refine gw_name (by decide) ?_); (try dsimp only [List.set]))
  | with_reducible refine e_isI ?_
  | with_reducible refine e_isB ?_
  | with_reducible refine e_isS ?_
  | with_reducible refine e_isTu ?_
  | with_reducible refine e_isL ?_
  | with_reducible refine e_cb ?_
  | with_reducible refine e_sl ?_
  | with_reducible refine eo_none ?_
  | with_reducible refine eo_some ?_
  | with_reducible refine et_test ?_
  | with_reducible refine et_B ?_
  | with_reducible refine et_and ?_
  | with_reducible refine et_or ?_
  | with_reducible refine et_not ?_
  | with_reducible refine et_yes ?_
  | with_reducible refine e_andV ?_
  | with_reducible refine e_orV ?_
  | with_reducible refine e_notV ?_
  | with_reducible refine e_if ?_
  | with_reducible refine e_chain ?_
  | with_reducible refine e_callX ?_
  | ((with_reducible refine e_callXP (by with_unfolding_all exact rfl) ?_ (by with_unfolding_all exact trivial)))
  | ((with_reducible refine s_seq ?_); (try dsimp only [List.set]))
  | with_reducible refine s_next ?_
  | with_reducible refine s_ret ?_
  | ((with_reducible refine s_pen (by with_unfolding_all exact rfl) (Or.inr rfl) ?_))
  | ((with_reducible refine s_pen (by with_unfolding_all exact rfl) (Or.inl rfl) ?_))
  | ((with_reducible refine s_spr (by with_unfolding_all exact rfl) ?_))
  | ((with_reducible refine s_putOwn (by with_unfolding_all exact rfl) ?_ (by with_unfolding_all exact rfl)))
  | with_reducible refine s_asg ?_
  | with_reducible refine s_asgG ?_
  | with_reducible refine s_if ?_
  | with_reducible refine g_name ?_
  | with_reducible refine g_tup rfl ?_
  | with_reducible refine gs_cons ?_
  | with_reducible refine gs_nil ?_
  | with_reducible refine r_lt ?_
  | with_reducible refine r_le ?_
  | with_reducible refine r_gt ?_
  | with_reducible refine r_ge ?_
  | with_reducible refine r_add ?_
  | with_reducible refine r_sub ?_
  | with_reducible refine r_eqI ?_
  | with_reducible refine r_eqS ?_
  | with_reducible refine r_eqB ?_
  | with_reducible refine r_neI ?_
  | with_reducible refine r_neB ?_
  | with_reducible refine c_min2 ?_
  | with_reducible refine c_max2 ?_
  | with_reducible refine c_intB ?_
  | with_reducible refine c_len (Or.inl rfl) ?_
  | with_reducible refine c_len (Or.inr rfl) ?_
  | with_reducible refine c_list (Or.inl rfl) ?_
  | with_reducible refine c_list (Or.inr rfl) ?_
  | with_reducible refine c_tuple (Or.inl rfl) ?_
  | with_reducible refine c_tuple (Or.inr rfl) ?_
  | with_reducible refine r_ixT (by with_unfolding_all exact rfl) ?_
  | with_reducible refine r_ixL (by with_unfolding_all exact rfl) ?_
  | with_reducible refine r_slT ?_
  | with_reducible refine r_slL ?_
  | with_reducible refine r_isNone ?_
  | with_reducible refine r_notBl ?_
  | with_reducible refine eps_cons ?_
  | with_reducible refine eps_nil ?_
  | with_reducible refine e_dget1 ?_
  | with_reducible refine ed_callX ?_
  | with_reducible refine ⟨_, rfl, ?_⟩
  | with_reducible refine And.intro (Nat.le_of_ble_eq_true rfl) ?_)
local macro_rules | `(tactic| walk_at "t") => `(tactic| first
  | walk_at "e"
  | refine r_modAny (by first | omega | decide) fun z z0 z1 => ?_
  | refine r_mul (by first | exact Or.inr ⟨by decide, by decide⟩ | exact Or.inl ⟨by decide, by decide⟩ | exact Or.inl ⟨by omega, by omega⟩) ?_
  | refine r_pow ⟨by decide, by decide, by decide⟩ ?_
  | refine r_fdivW (by first | assumption | (rename_i hw _; exact hw _) | exact wide_div (b := 200) (by decide) (by decide) (by decide) (by decide)) ?_
  | with_reducible refine And.intro (by omega) ?_)
local macro_rules | `(tactic| walk_at "k") => `(tactic| first
  | walk_at "e"
  | with_reducible refine ⟨fun hb => absurd hb (by decide +kernel), fun _ => ?_⟩
  | with_reducible refine ⟨fun _ => ?_, fun hb => absurd hb (by decide +kernel)⟩
  | refine ⟨fun hb => absurd hb Bool.false_ne_true, fun _ => ?_⟩
  | refine ⟨fun _ => ?_, fun hb => absurd hb.symm Bool.false_ne_true⟩)
local macro_rules | `(tactic| walk_at "d") => `(tactic| first
  | walk_at "k"
  | refine And.intro (show WfTake _ from ⟨by omega, by omega⟩) (take_all fun k hk => ?_))
local macro_rules | `(tactic| walk_at "o") => `(tactic| first
  | with_reducible refine s_ownList ?_
  | walk_at "d"
  | with_reducible refine ⟨_, Or.inl rfl, ?_⟩)
local macro_rules | `(tactic| walk_at "c") => `(tactic| first
  | with_reducible refine e_ofL (el_catL ?_)
  | with_reducible refine e_ofL (el_sortP ?_)
  | with_reducible refine e_ofL (el_sortSetP ?_)
  | with_reducible refine e_ofL (el_revL ?_)
  | walk_at "d")

section
variable {P : Program} {w : World} {K : PySem.W.Frag} {mg : Str → Option Value} {base : Heap}
structure RoA where
  x : Prog
  s : Stand
def RoA.Ok (a : RoA) : Prop := a.x.Ok ∧ a.s.Ok a.x
def Apart (x : Prog) (s : Stand) (k : Nat) : Prop := ∀ i j, i < j → j < k → stF x s i ≠ stF x s j
def Goes (x : Prog) (s : Stand) (k : Nat) : Prop := ∀ j, j < k → wdF x s j ≠ "ended"
def RoR (x : Prog) (s : Stand) (d : PyData) : Prop := (∃ m : Nat, m ≤ 1000 ∧ wdF x s m = "ended" ∧ Goes x s m ∧ Apart x s m ∧ d = .tuple [.str "ends", .int (m : Nat)]) ∨
  (∃ lead m : Nat, lead < m ∧ m ≤ 1000 ∧ stF x s lead = stF x s m ∧ Goes x s (m + 1) ∧ Apart x s m ∧ d = .tuple [.str "round", .int (lead : Nat), .int ((m : Int) - (lead : Int))])
def RoBad (x : Prog) (s : Stand) : Prop := Goes x s 1001 ∧ Apart x s 1001
theorem Goes.succ {x : Prog} {s : Stand} {k : Nat} (h : Goes x s k) (h2 : wdF x s k ≠ "ended") : Goes x s (k + 1) := fun j hj => by
  rcases Nat.lt_or_ge j k with z | z
  · exact h j z
  · rw [show j = k by omega]; exact h2
theorem Apart.succ {x : Prog} {s : Stand} {k : Nat} (h : Apart x s k) (h2 : ∀ j, j < k → stF x s j ≠ stF x s k) : Apart x s (k + 1) := fun i j hij hj => by
  rcases Nat.lt_or_ge j k with z | z
  · exact h i j hij z
  · have e : j = k := by omega
    subst e
    exact h2 i hij
abbrev spRo (K : PySem.W.Frag) (ts : List Addr) (C : Addr) : Sp := SpXR (α := RoA) K ts C RoA.Ok (fun a => [a.x.D, a.s.D]) (fun a d => RoR a.x a.s d) (fun a => RoBad a.x a.s)
abbrev LR (w : World) (x : Prog) (s : Stand) (k : Nat) : Lv := [some (.d x.D), some (.d (stF x s k).D), some (.own (.dN w (seenL (stF x s) k))), none, none, none, none, none, none, none]
theorem fits_round : (Str.empty ++ "neither an end nor a round within " ++ toString (1000 : Int)).length ≤ sizeLine ∧ (Str.empty ++ "neither an end nor a round within " ++ toString (1000 : Int) ++ " ticks").length ≤ sizeLine := by
  have a : (Str.empty ++ "neither an end nor a round within " ++ toString (1000 : Int)).length ≤ 1000 ∧ (Str.empty ++ "neither an end nor a round within " ++ toString (1000 : Int) ++ " ticks").length ≤ 1000 := by decide +kernel
  rw [sizeLine_eq]
  exact ⟨Nat.le_trans a.1 (by decide), Nat.le_trans a.2 (by decide)⟩
set_option maxHeartbeats 8000000 in
theorem ok_round_of (T : Tx K mg base) : FnOk P w K mg base (L2.CX P w) 4 T.f_round_of T.d_round_of ["program", "stand"] (spRo K T.ts T.C_TooMany) := by
  refine fnXR T.F_round_of sc_round_of (fun _ _ => rfl) (fun cdv A outer s H E hr => ⟨_, (pss_cons (ps_set (i := 2) sc_round_of.nd rfl (.inl rfl) (_root_.Gn.pe_new rfl))
      (pss_cons (ps_for (passes_of rfl) rfl (pi_range1 rfl T.m_range (pa_cons (pe_op op_add (pe_glob (v := .int 1000) (by rfl) T.c_MOST_TICKS ⟨_, rfl⟩) pe_int) pa_nil)) (pg_name (i := 3) sc_round_of.nd rfl (.inl rfl))
      (pss_cons (ps_asg (pe_call (ok_tick T) (hr.mono (by decide)) (by rfl) T.g_tick T.F_tick.kp T.b_tick .nil pass0 (pa_cons (pv 0) (pa_cons (pv 1) (pa_cons (pe_lst pa_nil) pa_nil)))) (kx_pgT K (n := 5) rfl rfl (pgs_cons (pg_name (i := 4) sc_round_of.nd rfl (.inl rfl)) (pgs_cons (pg_name (i := 5) sc_round_of.nd rfl (.inl rfl)) (pgs_cons (pg_name (i := 6) sc_round_of.nd rfl (.inl rfl)) (pgs_cons (pg_name (i := 7) sc_round_of.nd rfl (.inl rfl)) (pgs_cons (pg_name (i := 8) sc_round_of.nd rfl (.inl rfl)) pgs_nil)))))))
      (pss_cons (ps_if (pt_cmpR op_eq (pv 5) pe_str (nomark _))
      (pss_one (ps_ret (pe_tup (pa_cons pe_str (pa_cons (pv 3) pa_nil)))))
      pss_nil)
      (pss_cons (ps_if (pt_cmp (_root_.Gn.pc_in rfl rfl (hu9_of hr) (pv 1) (pv 2)))
      (pss_cons (ps_set (i := 9) sc_round_of.nd rfl (.inl rfl) (_root_.Gn.pe_get rfl rfl (hu9_of hr) (pv 2) (pv 1) (fun _ _ => rfl)))
      (pss_one (ps_ret (pe_tup (pa_cons pe_str (pa_cons (pv 9) (pa_cons (pe_op op_sub (pv 3) (pv 9)) pa_nil)))))))
      pss_nil)
      (pss_cons (_root_.Gn.ps_put rfl rfl (hu9_of hr) (pv 2) (pv 1) (pv 3) rfl)
      (pss_one (ps_set (i := 1) sc_round_of.nd rfl (.inl rfl) (pv 4))))))))
      (pss_one (ps_raise rfl (takes_of rfl rfl rfl rfl) (SkE.pmk_own1 PySem.F.excBase_ValueError T.xP_TooMany T.gC_TooMany T.kP_TooMany (raises_own T.bP_TooMany T.tP_TooMany) (by rfl) (pe_joined (.cons pe_str (.cons (pe_fmt (pe_glob (v := .int 1000) (by rfl) T.c_MOST_TICKS ⟨_, rfl⟩)) (.cons pe_str .nil))))))))), fun a ha => ?_⟩)
  obtain ⟨x, s0⟩ := a
  obtain ⟨hx, hs⟩ := ha
  dsimp only at hx hs
  try simp only [nox_K, blk_K, cx_K]
  show SX K ⟨none, T.ts⟩ H _ _ _ _ [some (.d _), some (.d _), none, none, none, none, none, none, none, none] _
  refine sx_seq (sx_of (s_nnew ?_))
  dsimp only [List.set]
  refine sx_seq (sx_forI (it_rng (ea_cons (e_op (e_cD (d := .int 1000) (fun _ => .int _) (e_int (r_add (ea_nil ⟨1001, rfl, by decide, by decide, fun k L => Goes x s0 k ∧ Apart x s0 k ∧ L = LR w x s0 k, ⟨_, Sub.refl _, fun j hj => absurd hj (Nat.not_lt_zero _), fun i j _ hj => absurd hj (Nat.not_lt_zero _), rfl⟩, fun k d L' hd ⟨h1, h2, e⟩ => ?_, fun L' ⟨h1, h2, e⟩ L4 s4 => ?_⟩))))))))
  · subst e
    obtain ⟨hk, rfl⟩ := rngL_get hd
    rw [Int.zero_add]
    have hk : k < 1001 := hk
    refine g_name ?_
    dsimp only [List.set]
    refine sx_seq (sx_of (s_asgG (e_callX (ea_cons (e_var rfl (ea_cons (e_var rfl (ea_cons (e_lst (ea_nil ⟨Nat.zero_le _, ea_nil ⟨(x, stF x s0 k, []), rfl, ⟨hx, stF_ok hx hs k⟩, ?_⟩⟩))))))))))
    rintro d rfl
    dsimp only [Told.D]
    refine g_tup rfl (gs_cons (g_name (gs_cons (g_name (gs_cons (g_name (gs_cons (g_name (gs_cons (g_name (gs_nil ?_)))))))))))
    dsimp only [List.set]
    refine sx_seq (sx_if ?_)
    repeat walk_at "e"
    refine ⟨fun h => ?_, fun h => ?_⟩
    · refine sx_of (s_ret ?_)
      repeat walk_at "e"
      exact .inl ⟨k, by omega, of_decide_eq_true h, h1, h2, rfl⟩
    have hw : wdF x s0 k ≠ "ended" := of_decide_eq_false h
    refine sx_of (s_next ?_)
    rcases seen_val (stF x s0) (stF x s0 k) k with ⟨j, hj, e, hu, hv⟩ | ⟨hn, hv⟩
    · refine sx_seq (sx_if (et_test (e_nin (.inl rfl) (e_var rfl ⟨_, skey_nk _, ?_⟩))))
      rw [hv]
      refine ⟨_, rfl, fun _ => ?_, fun h => (by cases h)⟩
      refine sx_of (s_seq (s_asg (e_nget (.inl rfl) (e_var rfl ⟨_, skey_nk _, _, hv, ?_⟩))))
      dsimp only [List.set]
      refine s_ret ?_
      repeat walk_at "e"
      exact .inr ⟨j, k, hj, by omega, e, h1.succ hw, h2, rfl⟩
    · refine sx_seq (sx_if (et_test (e_nin (.inl rfl) (e_var rfl ⟨_, skey_nk _, ?_⟩))))
      rw [hv]
      refine ⟨_, rfl, fun h => (by cases h), fun _ => sx_of (s_next ?_)⟩
      refine sx_seq (sx_of (s_nput rfl (by rw [seenL_len]; omega) (e_var rfl (e_var rfl ⟨_, skey_nk _, ?_⟩))))
      dsimp only [List.set]
      rw [put_new _ hv, ← seenL_succ]
      refine sx_of (s_asg (e_var rfl ?_))
      dsimp only [List.set]
      refine ⟨LR w x s0 (k + 1), ?_, h1.succ hw, h2.succ hn, rfl⟩
      unfold LR
      rw [stF_succ]
      repeat (first | exact Sub.nil | apply Sub.keep | apply Sub.drop)
  · subst e
    refine sx_raise ⟨h1, h2⟩ (e_js3 (by rw [sizeLine_eq]; decide) (e_cD (d := .int 1000) (fun _ => .int _) ⟨1000, rfl, by decide, fits_round.1, fits_round.2⟩))
end
end K07
set_option Elab.async false
set_option linter.all false
set_option maxRecDepth 100000
namespace K07
open PySem PySem.Spec PyProof.Rows L2 Dl Wm
local macro_rules | `(tactic| walk_at "e") => `(tactic| first
  | ((with_reducible refine e_var (by with_unfolding_all exact rfl) ?_))
  | with_reducible refine e_int ?_
  | with_reducible refine e_str ?_
  | with_reducible refine e_bl ?_
  | with_reducible refine e_non ?_
  | ((with_reducible refine e_pen (by with_unfolding_all exact rfl) (Or.inr rfl) ?_); intro z hz)
  | ((with_reducible refine e_pen (by with_unfolding_all exact rfl) (Or.inl rfl) ?_); intro z hz)
  | ((with_reducible refine e_penIx (by with_unfolding_all exact rfl) ?_))
  | ((with_reducible refine e_spr (by with_unfolding_all exact rfl) ?_); intro z)
  | with_reducible refine e_op ?_
  | with_reducible refine e_tup ?_
  | with_reducible refine e_lst ?_
  | with_reducible refine ea_cons ?_
  | with_reducible refine ea_nil ?_
  | ((with_reducible refine e_penLen (by with_unfolding_all exact rfl) ?_))
  | ((with_reducible refine e_lenOwn (by with_unfolding_all exact rfl) ?_))
  | ((with_reducible refine e_tupOwn (by with_unfolding_all exact rfl) ?_))
  | ((with_reducible refine s_aug (by with_unfolding_all exact rfl) ?_); (try dsimp only [List.set]))
  | with_reducible refine e_callXF ?_
  | with_reducible refine r_ipI ?_
  | with_reducible refine e_un ?_
  | with_reducible refine r_neg ?_
  | with_reducible refine gws_cons ?_
  | with_reducible refine gws_nil ?_
  | with_reducible refine gw_tup rfl ?_
  | ((with_reducible refine gw_name (by decide) ?_); (try dsimp only [List.set]))
  | with_reducible refine e_isI ?_
  | with_reducible refine e_isB ?_
  | with_reducible refine e_isS ?_
  | with_reducible refine e_isTu ?_
  | with_reducible refine e_isL ?_
  | with_reducible refine e_cb ?_
  | with_reducible refine e_sl ?_
  | with_reducible refine eo_none ?_
  | with_reducible refine eo_some ?_
  | with_reducible refine et_test ?_
  | with_reducible refine et_B ?_
  | with_reducible refine et_and ?_
  | with_reducible refine et_or ?_
  | with_reducible refine et_not ?_
  | with_reducible refine et_yes ?_
  | with_reducible refine e_andV ?_
  | with_reducible refine e_orV ?_
  | with_reducible refine e_notV ?_
  | with_reducible refine e_if ?_
  | with_reducible refine e_chain ?_
  | with_reducible refine e_callX ?_
  | ((with_reducible refine e_callXP (by with_unfolding_all exact rfl) ?_ (by with_unfolding_all exact trivial)))
  | ((with_reducible refine s_seq ?_); (try dsimp only [List.set]))
  | with_reducible refine s_next ?_
  | with_reducible refine s_ret ?_
  | ((with_reducible refine s_pen (by with_unfolding_all exact rfl) (Or.inr rfl) ?_))
  | ((with_reducible refine s_pen (by with_unfolding_all exact rfl) (Or.inl rfl) ?_))
  | ((with_reducible refine s_spr (by with_unfolding_all exact rfl) ?_))
  | ((with_reducible refine s_putOwn (by with_unfolding_all exact rfl) ?_ (by with_unfolding_all exact rfl)))
  | with_reducible refine s_asg ?_
  | with_reducible refine s_asgG ?_
  | with_reducible refine s_if ?_
  | with_reducible refine g_name ?_
  | with_reducible refine g_tup rfl ?_
  | with_reducible refine gs_cons ?_
  | with_reducible refine gs_nil ?_
  | with_reducible refine r_lt ?_
  | with_reducible refine r_le ?_
  | with_reducible refine r_gt ?_
  | with_reducible refine r_ge ?_
  | with_reducible refine r_add ?_
  | with_reducible refine r_sub ?_
  | with_reducible refine r_eqI ?_
  | with_reducible refine r_eqS ?_
  | with_reducible refine r_eqB ?_
  | with_reducible refine r_neI ?_
  | with_reducible refine r_neB ?_
  | with_reducible refine c_min2 ?_
  | with_reducible refine c_max2 ?_
  | with_reducible refine c_intB ?_
  | with_reducible refine c_len (Or.inl rfl) ?_
  | with_reducible refine c_len (Or.inr rfl) ?_
  | with_reducible refine c_list (Or.inl rfl) ?_
  | with_reducible refine c_list (Or.inr rfl) ?_
  | with_reducible refine c_tuple (Or.inl rfl) ?_
  | with_reducible refine c_tuple (Or.inr rfl) ?_
  | with_reducible refine r_ixT (by with_unfolding_all exact rfl) ?_
  | with_reducible refine r_ixL (by with_unfolding_all exact rfl) ?_
  | with_reducible refine r_slT ?_
  | with_reducible refine r_slL ?_
  | with_reducible refine r_isNone ?_
  | with_reducible refine r_notBl ?_
  | with_reducible refine eps_cons ?_
  | with_reducible refine eps_nil ?_
  | with_reducible refine e_dget1 ?_
  | with_reducible refine ed_callX ?_
  | with_reducible refine ⟨_, rfl, ?_⟩
  | with_reducible refine And.intro (Nat.le_of_ble_eq_true rfl) ?_)
local macro_rules | `(tactic| walk_at "t") => `(tactic| first
  | walk_at "e"
  | refine r_modAny (by first | omega | decide) fun z z0 z1 => ?_
  | refine r_mul (by first | exact Or.inr ⟨by decide, by decide⟩ | exact Or.inl ⟨by decide, by decide⟩ | exact Or.inl ⟨by omega, by omega⟩) ?_
  | refine r_pow ⟨by decide, by decide, by decide⟩ ?_
  | refine r_fdivW (by first | assumption | (rename_i hw _; exact hw _) | exact wide_div (b := 200) (by decide) (by decide) (by decide) (by decide)) ?_
  | with_reducible refine And.intro (by omega) ?_)
local macro_rules | `(tactic| walk_at "k") => `(tactic| first
  | walk_at "e"
  | with_reducible refine ⟨fun hb => absurd hb (by decide +kernel), fun _ => ?_⟩
  | with_reducible refine ⟨fun _ => ?_, fun hb => absurd hb (by decide +kernel)⟩
  | refine ⟨fun hb => absurd hb Bool.false_ne_true, fun _ => ?_⟩
  | refine ⟨fun _ => ?_, fun hb => absurd hb.symm Bool.false_ne_true⟩)
local macro_rules | `(tactic| walk_at "d") => `(tactic| first
  | walk_at "k"
  | refine And.intro (show WfTake _ from ⟨by omega, by omega⟩) (take_all fun k hk => ?_))
local macro_rules | `(tactic| walk_at "o") => `(tactic| first
  | with_reducible refine s_ownList ?_
  | walk_at "d"
  | with_reducible refine ⟨_, Or.inl rfl, ?_⟩)
local macro_rules | `(tactic| walk_at "c") => `(tactic| first
  | with_reducible refine e_ofL (el_catL ?_)
  | with_reducible refine e_ofL (el_sortP ?_)
  | with_reducible refine e_ofL (el_sortSetP ?_)
  | with_reducible refine e_ofL (el_revL ?_)
  | walk_at "d")

section
variable {P : Program} {w : World} {K : PySem.W.Frag} {mg : Str → Option Value} {base : Heap}
theorem ok_law_pen (T : Tx K mg base) : FnOk P w K mg base CX0 1 T.f_law_pen T.d_law_pen ["script"] (spPenS K) := by
  refine T.F_law_pen.ok sc_law_pen (fun vs H Q E h => ?_) (fun cdv A outer s H vs Q E hr h => ?_)
  · obtain ⟨a, ns, rfl, _⟩ := h
    rfl
  · obtain ⟨a, ns, rfl, hS, q⟩ := h
    obtain ⟨ms, hms⟩ := cut_ints ns none (some 63)
    refine ⟨_, (pss_one (ps_ret (pe_lst (pa_cons (pe_callTy (kx_list K rfl) (by rfl) T.m_list (by decide +kernel) (pa_cons (pe_slice (kx_slL K rfl) (pv 0) po_none (po_some pe_int)) pa_nil)) (pa_cons pe_int (pa_cons pe_int pa_nil)))))), ?_⟩
    refine ⟨.ref a, rfl, 63, rfl, a, _, rfl, hS, fun l hl => ⟨l, _, rfl, .inl (.inl (.inl upd_same)), fun c hc => ⟨by show 3 ≤ sizeLine; decide, fun p hp => ?_⟩⟩⟩
    have s1 : ∀ (H : Hp) (b : Addr) (o : HO), H b = none → Same H (upd H b o) := fun H b o hb a u e => by rw [upd_ne (ne_of_none e hb)]; exact e
    refine q p c ms _ (((s1 _ _ _ hl).trans (s1 _ _ _ hc)).trans (s1 _ _ _ hp)) ?_ upd_same ?_
    · cases z : H p with
      | none => rfl
      | some o => rw [(s1 _ _ _ hc) _ _ ((s1 _ _ _ hl) _ _ z)] at hp; cases hp
    · rw [upd_ne (fun z => by rw [z, upd_same] at hp; cases hp), upd_same, hms]
theorem ok_law_take (T : Tx K mg base) : FnOk P w K mg base CX0 1 T.f_law_take T.d_law_take ["pen", "many"] (spTake K T.ts) := by
  refine fnXP T.F_law_take sc_law_take ⟨_, _, rfl⟩ (fun _ _ => rfl) (fun cdv A outer s H E hr => ⟨_, (pss_cons (ps_if (pt_cmpR op_eq (pe_ix (kx_ixL K rfl) (pv 0) pe_int (fun _ _ => rfl)) pe_int (nomark _))
      (pss_cons (ps_set (i := 2) sc_law_take.nd rfl (.inl rfl) (pe_ix (kx_ixL K rfl) (pv 0) pe_int (fun _ _ => rfl)))
      (pss_cons (ps_asg (pe_op op_add (pv 2) pe_int) (pg_sub (pv 0) pe_int set_list))
      (pss_cons (ps_set (i := 3) sc_law_take.nd rfl (.inl rfl) pe_int)
      (pss_cons (ps_if (pt_cmpR op_lt (pv 2) (pe_callB (kx_len K rfl) (by rfl) T.m_len PySem.boot_len (pa_cons (pe_ix (kx_ixL K rfl) (pv 0) pe_int (fun _ _ => rfl)) pa_nil)) (nomark _))
      (pss_one (ps_set (i := 3) sc_law_take.nd rfl (.inl rfl) (pe_ix (kx_ixL K rfl) (pe_ix (kx_ixL K rfl) (pv 0) pe_int (fun _ _ => rfl)) (pv 2) (fun _ _ => rfl))))
      (pss_one (ps_if (pt_cmpR op_gt (pe_callB (kx_len K rfl) (by rfl) T.m_len PySem.boot_len (pa_cons (pe_ix (kx_ixL K rfl) (pv 0) pe_int (fun _ _ => rfl)) pa_nil)) pe_int (nomark _))
      (pss_one (ps_set (i := 3) sc_law_take.nd rfl (.inl rfl) (pe_op op_add (pe_op op_mod (pe_ix (kx_ixL K rfl) (pe_ix (kx_ixL K rfl) (pv 0) pe_int (fun _ _ => rfl)) (pe_op op_mod (pe_op op_mul (pv 2) pe_int) (pe_callB (kx_len K rfl) (by rfl) T.m_len PySem.boot_len (pa_cons (pe_ix (kx_ixL K rfl) (pv 0) pe_int (fun _ _ => rfl)) pa_nil))) (fun _ _ => rfl)) pe_int) (pe_op op_mul pe_int (pv 2)))))
      pss_nil)))
      (pss_cons (ps_set (i := 4) sc_law_take.nd rfl (.inl rfl) (pe_op op_mod (pe_op op_mul (pe_op op_add (pe_op op_add (pe_op op_mod (pv 3) pe_int) (pe_op op_mul pe_int (pv 2))) pe_int) pe_int) pe_int))
      (pss_cons (ps_set (i := 5) sc_law_take.nd rfl (.inl rfl) (pe_op op_mod (pe_op op_add (pe_op op_add (pe_op op_mul (pv 4) (pv 4)) (pe_op op_mul pe_int (pv 2))) pe_int) pe_int))
      (pss_cons (ps_set (i := 6) sc_law_take.nd rfl (.inl rfl) (pe_op op_mod (pe_op op_add (pe_op op_mul (pv 5) (pv 5)) (pv 4)) pe_int))
      (pss_cons (ps_asg (pe_op op_add (pe_op op_fdivW (pe_op op_add (pe_op op_mul (pv 5) pe_int) (pv 6)) pe_int) pe_int) (pg_sub (pv 0) pe_int set_list))
      (pss_one (ps_if (pt_cmpR op_ge (pv 3) (pe_op op_pow pe_int pe_int) (nomark _))
      (pss_one (ps_asg (pe_op op_fdivW (pv 3) (pe_op op_pow pe_int pe_int)) (pg_sub (pv 0) pe_int set_list)))
      pss_nil))))))))))
      pss_nil)
      (pss_cons (ps_set (i := 7) sc_law_take.nd rfl (.inl rfl) (pe_op op_mod (pe_ix (kx_ixL K rfl) (pv 0) pe_int (fun _ _ => rfl)) (pv 1)))
      (pss_cons (ps_asg (pe_op op_fdivW (pe_ix (kx_ixL K rfl) (pv 0) pe_int (fun _ _ => rfl)) (pv 1)) (pg_sub (pv 0) pe_int set_list))
      (pss_one (ps_ret (pv 7)))))), fun pa pc pn m hm => ?_⟩)
  try simp only [nox_K, blk_K, cx_K]
  obtain ⟨h0, h1⟩ := hm
  have hw : ∀ i : Int, CDivW i m := fun i => wide_div (b := 200) h0 (by omega) (by decide) (by decide)
  have h18 : (10 : Int) ^ (18 : Int).toNat = 1000000000000000000 := by decide
  have hw18 : ∀ i : Int, CDivW i (10 ^ (18 : Int).toNat) := fun i => by
    rw [h18]
    exact wide_div (b := 200) (by decide) (by decide) (by decide) (by decide)
  have hd : ∀ z : Int, 0 ≤ z → 0 ≤ z / m := fun z hz => Int.ediv_nonneg hz (by omega)
  repeat walk_at "e"
  refine ⟨fun _ => ?_, fun _ => ?_⟩
  · repeat walk_at "e"
    refine ⟨by omega, ?_⟩
    repeat walk_at "e"
    refine ⟨fun hb => ?_, fun hb => ?_⟩
    · have hb := of_decide_eq_true hb
      repeat walk_at "e"
      refine ⟨Int.toNat _, by rw [Int.toNat_of_nonneg (by assumption)], by omega, fun c => ?_⟩
      repeat walk_at "t"
      refine ⟨fun hc => ?_, fun hc => ?_⟩
      · have hc := of_decide_eq_true hc
        rw [h18] at hc
        repeat walk_at "t"
        refine ⟨by rw [h18]; omega, ?_⟩
        repeat walk_at "t"
        refine r_fdivW (hw _) ?_
        refine ⟨_, rfl, hd _ (by assumption), ?_⟩
        repeat walk_at "t"
        exact resTake_of (by assumption) (by assumption)
      · repeat walk_at "t"
        refine r_fdivW (hw _) ?_
        refine ⟨_, rfl, hd _ (by assumption), ?_⟩
        repeat walk_at "t"
        exact resTake_of (by assumption) (by assumption)
    · repeat walk_at "e"
      refine ⟨fun hn => ?_, fun hn => ?_⟩
      · have hn := of_decide_eq_true hn
        repeat walk_at "t"
        refine ⟨Int.toNat _, by rw [Int.toNat_of_nonneg (by assumption)], by omega, fun c => ?_⟩
        repeat walk_at "t"
        refine ⟨fun hc => ?_, fun hc => ?_⟩
        · have hc := of_decide_eq_true hc
          rw [h18] at hc
          repeat walk_at "t"
          refine ⟨by rw [h18]; omega, ?_⟩
          repeat walk_at "t"
          refine r_fdivW (hw _) ?_
          refine ⟨_, rfl, hd _ (by assumption), ?_⟩
          repeat walk_at "t"
          exact resTake_of (by assumption) (by assumption)
        · repeat walk_at "t"
          refine r_fdivW (hw _) ?_
          refine ⟨_, rfl, hd _ (by assumption), ?_⟩
          repeat walk_at "t"
          exact resTake_of (by assumption) (by assumption)
      · repeat walk_at "t"
        refine ⟨fun hc => ?_, fun hc => ?_⟩
        · have hc := of_decide_eq_true hc
          rw [h18] at hc
          omega
        · repeat walk_at "t"
          refine r_fdivW (hw _) ?_
          refine ⟨_, rfl, hd _ (by assumption), ?_⟩
          repeat walk_at "t"
          exact resTake_of (by assumption) (by assumption)
  · repeat walk_at "t"
    refine r_fdivW (hw _) ?_
    refine ⟨_, rfl, hd _ (by assumption), ?_⟩
    repeat walk_at "t"
    exact resTake_of (by assumption) (by assumption)
structure RowA where
  n : Nat
  w : Nat
  many : Nat
  takes : Bool
def noTake : Wm.Row → Prop
  | .take _ => False
  | _ => True
abbrev spRow (K : PySem.W.Frag) (ts : List Addr) : Sp := SpXP (α := RowA) K ts (fun x => 1 ≤ x.n ∧ x.n ≤ 1000 ∧ 1 ≤ x.w ∧ x.w ≤ 1000 ∧ 1 ≤ x.many ∧ x.many ≤ 1000) (fun x => [.int x.n, .int x.w, .int x.many, .bool x.takes]) (fun x d => ∃ r : Wm.Row, d = r.D ∧ r.Ok x.n x.w x.many ∧ (x.takes = false → noTake r))
theorem ok_law_row (T : Tx K mg base) : FnOk P w K mg base CX0 2 T.f_law_row T.d_law_row ["pen", "n", "w", "many", "takes"] (spRow K T.ts) := by
  refine fnXP T.F_law_row sc_law_row ⟨_, _, rfl⟩ (fun _ _ => rfl) (fun cdv A outer s H E hr => ⟨_, (pss_cons (ps_set (i := 5) sc_law_row.nd rfl (.inl rfl) (pe_call (ok_law_take T) (hr.mono (by decide)) (by rfl) T.g_law_take T.F_law_take.kp T.b_law_take .nil pass0 (pa_cons (pv 0) (pa_cons pe_int pa_nil))))
      (pss_cons (ps_set (i := 6) sc_law_row.nd rfl (.inl rfl) (pe_call (ok_law_take T) (hr.mono (by decide)) (by rfl) T.g_law_take T.F_law_take.kp T.b_law_take .nil pass0 (pa_cons (pv 0) (pa_cons (pv 1) pa_nil))))
      (pss_cons (ps_if (pt_cmpR op_lt (pv 5) pe_int (nomark _))
      (pss_one (ps_ret (pe_tup (pa_cons pe_str (pa_cons (pv 6) (pa_cons (pe_call (ok_law_take T) (hr.mono (by decide)) (by rfl) T.g_law_take T.F_law_take.kp T.b_law_take .nil pass0 (pa_cons (pv 0) (pa_cons (pv 2) pa_nil))) pa_nil))))))
      pss_nil)
      (pss_cons (ps_if (pt_cmpR op_lt (pv 5) pe_int (nomark _))
      (pss_one (ps_ret (pe_tup (pa_cons pe_str (pa_cons (pv 6) (pa_cons (pe_call (ok_law_take T) (hr.mono (by decide)) (by rfl) T.g_law_take T.F_law_take.kp T.b_law_take .nil pass0 (pa_cons (pv 0) (pa_cons (pv 1) pa_nil))) pa_nil))))))
      pss_nil)
      (pss_cons (ps_if (pt_cmpR op_lt (pv 5) pe_int (nomark _))
      (pss_one (ps_ret (pe_tup (pa_cons pe_str (pa_cons (pv 6) (pa_cons (pe_call (ok_law_take T) (hr.mono (by decide)) (by rfl) T.g_law_take T.F_law_take.kp T.b_law_take .nil pass0 (pa_cons (pv 0) (pa_cons (pv 3) pa_nil))) pa_nil))))))
      pss_nil)
      (pss_cons (ps_if (pt_cmpR op_lt (pv 5) pe_int (nomark _))
      (pss_one (ps_ret (pe_tup (pa_cons pe_str (pa_cons (pv 6) pa_nil)))))
      pss_nil)
      (pss_cons (ps_if (PW.pt (pw_and (pt_cmpR op_lt (pv 5) pe_int (nomark _)) (pw_and1 (pt_val (pv 4)))))
      (pss_one (ps_ret (pe_tup (pa_cons pe_str (pa_cons (pv 6) pa_nil)))))
      pss_nil)
      (pss_cons (ps_if (pt_cmpR op_lt (pv 5) pe_int (nomark _))
      (pss_one (ps_ret (pe_tup (pa_cons pe_str (pa_cons (pv 6) (pa_cons (pv 6) pa_nil))))))
      pss_nil)
      (pss_one (ps_ret (pe_ix (kx_ixL K rfl) (pe_lst (pa_cons (pe_tup (pa_cons pe_str pa_nil)) (pa_cons (pe_tup (pa_cons pe_str (pa_cons (pv 6) (pa_cons (pe_call (ok_law_take T) (hr.mono (by decide)) (by rfl) T.g_law_take T.F_law_take.kp T.b_law_take .nil pass0 (pa_cons (pv 0) (pa_cons (pv 3) pa_nil))) pa_nil)))) (pa_cons (pe_tup (pa_cons pe_str (pa_cons (pv 6) pa_nil))) pa_nil)))) (pe_call (ok_law_take T) (hr.mono (by decide)) (by rfl) T.g_law_take T.F_law_take.kp T.b_law_take .nil pass0 (pa_cons (pv 0) (pa_cons pe_int pa_nil))) (fun _ _ => rfl)))))))))))), fun pa pc pn x hx => ?_⟩)
  obtain ⟨n, w', many, takes⟩ := x
  dsimp only at hx
  obtain ⟨h1, h2, h3, h4, h5, h6⟩ := hx
  try simp only [nox_K, blk_K, cx_K]
  repeat walk_at "d"
  rename_i way hway p' hp
  have hp' : p' < n := by omega
  refine ⟨fun hb => ?_, fun hb => ?_⟩
  · repeat walk_at "d"
    rename_i v hv
    exact ⟨.set p' v, rfl, ⟨hp', by omega⟩, fun _ => trivial⟩
  repeat walk_at "d"
  refine ⟨fun hb => ?_, fun hb => ?_⟩
  · repeat walk_at "d"
    rename_i v hv
    exact ⟨.add p' v, rfl, ⟨hp', by omega⟩, fun _ => trivial⟩
  repeat walk_at "d"
  refine ⟨fun hb => ?_, fun hb => ?_⟩
  · repeat walk_at "d"
    rename_i v hv
    exact ⟨.jump p' v, rfl, ⟨hp', by omega⟩, fun _ => trivial⟩
  repeat walk_at "d"
  refine ⟨fun hb => ?_, fun hb => ?_⟩
  · repeat walk_at "d"
    exact ⟨.say p', rfl, hp', fun _ => trivial⟩
  repeat walk_at "d"
  refine ⟨fun hb => ?_, fun hb => ?_⟩
  · repeat walk_at "d"
    refine ⟨fun ht => ?_, fun ht => ?_⟩
    · repeat walk_at "d"
      exact ⟨.take p', rfl, hp', fun h => by rw [ht] at h; cases h⟩
    · repeat walk_at "d"
      refine ⟨fun _ => ?_, fun hb2 => by rw [hb] at hb2; cases hb2⟩
      repeat walk_at "d"
      exact ⟨.add p' p', rfl, ⟨hp', hp'⟩, fun _ => trivial⟩
  · repeat walk_at "d"
    refine ⟨fun hb2 => absurd (hb.symm.trans hb2) (by decide), fun _ => ?_⟩
    repeat walk_at "d"
    rename_i v hv k hk
    rcases (by omega : k = 0 ∨ k = 1 ∨ k = 2) with rfl | rfl | rfl
    · exact r_ixL rfl ⟨.fin, rfl, trivial, fun _ => trivial⟩
    · exact r_ixL rfl ⟨.jump p' v, rfl, ⟨hp', by omega⟩, fun _ => trivial⟩
    · exact r_ixL rfl ⟨.say p', rfl, hp', fun _ => trivial⟩
structure ProgR (takes : Bool) (x : Prog) : Prop where
  ok : x.Ok
  nt : takes = false → ∀ r ∈ x.rows, noTake r
abbrev spProgram (K : PySem.W.Frag) (ts : List Addr) : Sp := SpXP (α := Bool) K ts (fun _ => True) (fun b => [.bool b]) (fun b d => ∃ x : Prog, d = x.D ∧ ProgR b x)
theorem ok_law_program (T : Tx K mg base) : FnOk P w K mg base CX0 3 T.f_law_program T.d_law_program ["pen", "takes"] (spProgram K T.ts) := by
  refine fnXP T.F_law_program sc_law_program ⟨_, _, rfl⟩ (fun _ _ => rfl) (fun cdv A outer s H E hr => ⟨_, (pss_cons (ps_set (i := 2) sc_law_program.nd rfl (.inr rfl) (pe_op op_add pe_int (pe_call (ok_law_take T) (hr.mono (by decide)) (by rfl) T.g_law_take T.F_law_take.kp T.b_law_take .nil pass0 (pa_cons (pv 0) (pa_cons (pe_ix (kx_ixL K rfl) (pe_lst (pa_cons pe_int (pa_cons pe_int pa_nil))) (pe_call (ok_law_take T) (hr.mono (by decide)) (by rfl) T.g_law_take T.F_law_take.kp T.b_law_take .nil pass0 (pa_cons (pv 0) (pa_cons pe_int pa_nil))) (fun _ _ => rfl)) pa_nil)))))
      (pss_cons (ps_set (i := 3) sc_law_program.nd rfl (.inr rfl) (pe_ix (kx_ixL K rfl) (pe_lst (pa_cons pe_int (pa_cons pe_int (pa_cons pe_int (pa_cons pe_int (pa_cons (pe_op op_add pe_int (pe_call (ok_law_take T) (hr.mono (by decide)) (by rfl) T.g_law_take T.F_law_take.kp T.b_law_take .nil pass0 (pa_cons (pv 0) (pa_cons pe_int pa_nil)))) pa_nil)))))) (pe_call (ok_law_take T) (hr.mono (by decide)) (by rfl) T.g_law_take T.F_law_take.kp T.b_law_take .nil pass0 (pa_cons (pv 0) (pa_cons pe_int pa_nil))) (fun _ _ => rfl)))
      (pss_cons (ps_set (i := 4) sc_law_program.nd rfl (.inr rfl) (pe_op op_add pe_int (pe_call (ok_law_take T) (hr.mono (by decide)) (by rfl) T.g_law_take T.F_law_take.kp T.b_law_take .nil pass0 (pa_cons (pv 0) (pa_cons (pe_ix (kx_ixL K rfl) (pe_lst (pa_cons pe_int (pa_cons pe_int (pa_cons pe_int pa_nil)))) (pe_call (ok_law_take T) (hr.mono (by decide)) (by rfl) T.g_law_take T.F_law_take.kp T.b_law_take .nil pass0 (pa_cons (pv 0) (pa_cons pe_int pa_nil))) (fun _ _ => rfl)) pa_nil)))))
      (pss_one (ps_ret (pe_tup (pa_cons (pv 2) (pa_cons (pv 3) (pa_cons (pe_callTy (kx_tuple K rfl) (by rfl) T.m_tuple (by decide +kernel) (pa_cons (pe_lc (own := [("k", 5)]) (g := gName 5) (tt := tYes) rfl sc_law_program.nd (pi_range1 rfl T.m_range (pa_cons (pv 4) pa_nil)) (blkOk_by (own := [("k", 5)]) (N := ["pen", "takes", "n", "w", "many", "k"]) (sc := defScope s_law_program) (by decide +kernel)) (fun _ _ _ _ _ => (pg_name (i := 5) sc_law_program.nd rfl (.inl rfl))) (fun _ _ _ _ _ => pts_nil) (fun _ _ _ _ _ => (pe_call (ok_law_row T) (hr.mono (by decide)) (by rfl) T.g_law_row T.F_law_row.kp T.b_law_row .nil pass0 (pa_cons (pv 0) (pa_cons (pv 2) (pa_cons (pv 3) (pa_cons (pv 4) (pa_cons (pv 1) pa_nil)))))))) pa_nil)) pa_nil))))))))), fun pa pc pn takes hx => ?_⟩)
  try simp only [nox_K, blk_K, cx_K]
  repeat walk_at "d"
  rename_i k0 hk0
  have hn : ∃ m : Nat, atI [PyData.int 3, .int 12] (k0 : Int) = some (.int m) ∧ 1 ≤ m ∧ m ≤ 12 := by
    rcases (by omega : k0 = 0 ∨ k0 = 1) with rfl | rfl
    · exact ⟨3, rfl, by decide, by decide⟩
    · exact ⟨12, rfl, by decide, by decide⟩
  obtain ⟨m0, e0, hm1, hm2⟩ := hn
  refine r_ixL e0 ?_
  repeat walk_at "d"
  rename_i n0 hn0 k1 hk1 k2 hk2
  have hw : ∃ m : Nat, atI [PyData.int 2, .int 3, .int 10, .int 100, .int (2 + (k1 : Int))] (k2 : Int) = some (.int m) ∧ 2 ≤ m ∧ m ≤ 100 := by
    rcases (by omega : k2 = 0 ∨ k2 = 1 ∨ k2 = 2 ∨ k2 = 3 ∨ k2 = 4) with rfl | rfl | rfl | rfl | rfl
    · exact ⟨2, rfl, by decide, by decide⟩
    · exact ⟨3, rfl, by decide, by decide⟩
    · exact ⟨10, rfl, by decide, by decide⟩
    · exact ⟨100, rfl, by decide, by decide⟩
    · exact ⟨2 + k1, rfl, by omega, by omega⟩
  obtain ⟨w', e1, hw1, hw2⟩ := hw
  refine r_ixL e1 ?_
  repeat walk_at "d"
  rename_i k3 hk3
  have hm : ∃ m : Nat, atI [PyData.int 6, .int 12, .int 20] (k3 : Int) = some (.int m) ∧ 1 ≤ m ∧ m ≤ 20 := by
    rcases (by omega : k3 = 0 ∨ k3 = 1 ∨ k3 = 2) with rfl | rfl | rfl
    · exact ⟨6, rfl, by decide, by decide⟩
    · exact ⟨12, rfl, by decide, by decide⟩
    · exact ⟨20, rfl, by decide, by decide⟩
  obtain ⟨m3, e3, hm3, hm4⟩ := hm
  refine r_ixL e3 ?_
  repeat walk_at "d"
  rename_i k4 hk4
  refine e_lcR (j := 5) (ea_cons (e_var rfl (ea_nil ?_)))
  refine ⟨1 + k4, rfl, by omega, fun i acc => ∃ rows : List Wm.Row, acc = rows.map Row.D ∧ rows.length = i ∧ (∀ r ∈ rows, r.Ok (1 + n0) w' (1 + k4)) ∧ (takes = false → ∀ r ∈ rows, noTake r), ⟨[], rfl, rfl, fun r hr => (nomatch hr), fun _ r hr => (nomatch hr)⟩, fun i acc hi ⟨rows, ea, el, eo, en⟩ => ?_, fun acc ⟨rows, ea, el, eo, en⟩ => ?_⟩
  · repeat walk_at "d"
    refine ⟨⟨1 + n0, w', 1 + k4, takes⟩, rfl, ⟨by show 1 ≤ 1 + n0; omega, by show 1 + n0 ≤ 1000; omega, by show 1 ≤ w'; omega, by show w' ≤ 1000; omega, by show 1 ≤ 1 + k4; omega, by show 1 + k4 ≤ 1000; omega⟩, ?_⟩
    rintro d ⟨r, rfl, hr1, hr2⟩
    subst ea
    refine ⟨rows ++ [r], by rw [List.map_append]; rfl, by rw [List.length_append, el]; rfl, fun r' h' => ?_, fun ht r' h' => ?_⟩
    · rcases List.mem_append.mp h' with h' | h'
      · exact eo r' h'
      · rw [List.mem_singleton.mp h']; exact hr1
    · rcases List.mem_append.mp h' with h' | h'
      · exact en ht r' h'
      · rw [List.mem_singleton.mp h']; exact hr2 ht
  · subst ea
    repeat walk_at "d"
    refine ⟨⟨1 + n0, w', rows⟩, rfl, ⟨by show 1 ≤ 1 + n0; omega, by show 1 + n0 ≤ 12; omega, hw1, hw2, by show 1 ≤ rows.length; omega, by show rows.length ≤ 20; omega, ?_⟩, en⟩
    rw [show (Prog.mk (1 + n0) w' rows).rows.length = 1 + k4 from el]
    exact eo
abbrev spSheets (K : PySem.W.Frag) (ts : List Addr) : Sp := SpXP (α := Prog) K ts Prog.Ok (fun x => [x.D]) (fun x d => ∃ sh : List Nat, d = .tuple (natsD sh) ∧ sh.length = x.n ∧ ∀ v ∈ sh, v < x.w)
theorem ok_law_sheets (T : Tx K mg base) : FnOk P w K mg base CX0 2 T.f_law_sheets T.d_law_sheets ["pen", "program"] (spSheets K T.ts) := by
  refine fnXP T.F_law_sheets sc_law_sheets ⟨_, _, rfl⟩ (fun _ _ => rfl) (fun cdv A outer s H E hr => ⟨_, (pss_one (ps_ret (pe_callTy (kx_tuple K rfl) (by rfl) T.m_tuple (by decide +kernel) (pa_cons (pe_lc (own := [("p", 2)]) (g := gName 2) (tt := tYes) rfl sc_law_sheets.nd (pi_range1 rfl T.m_range (pa_cons (pe_ix (kx_ixT K rfl) (pv 1) pe_int (fun _ _ => rfl)) pa_nil)) (blkOk_by (own := [("p", 2)]) (N := ["pen", "program", "p"]) (sc := defScope s_law_sheets) (by decide +kernel)) (fun _ _ _ _ _ => (pg_name (i := 2) sc_law_sheets.nd rfl (.inl rfl))) (fun _ _ _ _ _ => pts_nil) (fun _ _ _ _ _ => (pe_call (ok_law_take T) (hr.mono (by decide)) (by rfl) T.g_law_take T.F_law_take.kp T.b_law_take .nil pass0 (pa_cons (pv 0) (pa_cons (pe_ix (kx_ixL K rfl) (pe_lst (pa_cons (pe_ix (kx_ixT K rfl) (pv 1) pe_int (fun _ _ => rfl)) (pa_cons pe_int pa_nil))) (pe_callTy call_int1 (by rfl) T.m_int (by decide +kernel) (pa_cons (pe_cmpR op_eq (pe_call (ok_law_take T) (hr.mono (by decide)) (by rfl) T.g_law_take T.F_law_take.kp T.b_law_take .nil pass0 (pa_cons (pv 0) (pa_cons pe_int pa_nil))) pe_int (nomark _)) pa_nil)) (fun _ _ => rfl)) pa_nil))))) pa_nil)))), fun pa pc pn x hx => ?_⟩)
  have hn1 := hx.n1
  have hn2 := hx.n2
  have hw1 := hx.w1
  have hw2 := hx.w2
  try simp only [nox_K, blk_K, cx_K]
  repeat walk_at "d"
  refine e_lcR (j := 2) ?_
  repeat walk_at "d"
  refine ⟨by omega, fun i acc => ∃ sh : List Nat, acc = natsD sh ∧ sh.length = i ∧ ∀ v ∈ sh, v < x.w, ⟨[], rfl, rfl, fun r hr => (nomatch hr)⟩, fun i acc hi ⟨sh, ea, el, eo⟩ => ?_, fun acc ⟨sh, ea, el, eo⟩ => ?_⟩
  · repeat walk_at "d"
    rename_i k hk
    have hm : ∃ m : Nat, atI [PyData.int x.w, .int 1] (if decide ((k : Int) = 0) = true then (1 : Int) else 0) = some (.int m) ∧ 1 ≤ m ∧ m ≤ x.w := by
      by_cases h : (k : Int) = 0
      · rw [if_pos (decide_eq_true h)]
        exact ⟨1, rfl, by decide, by omega⟩
      · rw [if_neg (by rw [decide_eq_true_eq]; exact h)]
        exact ⟨x.w, rfl, by omega, by omega⟩
    obtain ⟨m, e1, hm1, hm2⟩ := hm
    refine r_ixL e1 ?_
    repeat walk_at "d"
    rename_i v hv
    subst ea
    refine ⟨sh ++ [v], by unfold natsD; rw [List.map_append]; rfl, by rw [List.length_append, el]; rfl, fun r' h' => ?_⟩
    rcases List.mem_append.mp h' with h' | h'
    · exact eo r' h'
    · rw [List.mem_singleton.mp h']; omega
  · subst ea
    repeat walk_at "d"
    exact ⟨el, eo⟩
abbrev spStand (K : PySem.W.Frag) (ts : List Addr) : Sp := SpXP (α := Prog) K ts Prog.Ok (fun x => [x.D]) (fun x d => ∃ s : Stand, d = s.D ∧ s.Ok x)
theorem ok_law_stand (T : Tx K mg base) : FnOk P w K mg base CX0 3 T.f_law_stand T.d_law_stand ["pen", "program"] (spStand K T.ts) := by
  refine fnXP T.F_law_stand sc_law_stand ⟨_, _, rfl⟩ (fun _ _ => rfl) (fun cdv A outer s H E hr => ⟨_, (pss_cons (ps_set (i := 2) sc_law_stand.nd rfl (.inl rfl) (pe_op op_mul (pe_call (ok_law_take T) (hr.mono (by decide)) (by rfl) T.g_law_take T.F_law_take.kp T.b_law_take .nil pass0 (pa_cons (pv 0) (pa_cons (pe_op op_add (pe_callB (kx_len K rfl) (by rfl) T.m_len PySem.boot_len (pa_cons (pe_ix (kx_ixT K rfl) (pv 1) pe_int (fun _ _ => rfl)) pa_nil)) pe_int) pa_nil))) (pe_callTy call_int1 (by rfl) T.m_int (by decide +kernel) (pa_cons (pe_cmpR op_eq (pe_call (ok_law_take T) (hr.mono (by decide)) (by rfl) T.g_law_take T.F_law_take.kp T.b_law_take .nil pass0 (pa_cons (pv 0) (pa_cons pe_int pa_nil))) pe_int (nomark _)) pa_nil))))
      (pss_one (ps_ret (pe_tup (pa_cons (pv 2) (pa_cons (pe_call (ok_law_sheets T) (hr.mono (by decide)) (by rfl) T.g_law_sheets T.F_law_sheets.kp T.b_law_sheets .nil pass0 (pa_cons (pv 0) (pa_cons (pv 1) pa_nil))) pa_nil)))))), fun pa pc pn x hx => ?_⟩)
  have hr1 := hx.r1
  have hr2 := hx.r2
  try simp only [nox_K, blk_K, cx_K]
  repeat walk_at "d"
  rw [List.length_map]
  repeat walk_at "d"
  rename_i a ha k hk
  refine r_mul (.inr ⟨by split <;> decide, by split <;> decide⟩) ?_
  have e1 : ∃ m : Nat, (a : Int) * (if decide ((k : Int) = 0) = true then (1 : Int) else 0) = m ∧ m ≤ x.rows.length := by
    split
    · exact ⟨a, by rw [Int.mul_one], by omega⟩
    · exact ⟨0, by rw [Int.mul_zero]; rfl, by omega⟩
  obtain ⟨m, e1, hm⟩ := e1
  rw [e1]
  repeat walk_at "d"
  refine ⟨hx, ?_⟩
  rintro d ⟨sh, rfl, hl, ho⟩
  repeat walk_at "d"
  exact ⟨⟨m, sh⟩, rfl, hm, hl, ho⟩
end
end K07
set_option Elab.async false
set_option linter.all false
set_option maxRecDepth 100000
namespace K07
open PySem PySem.Spec PyProof.Rows L2 Dl Wm
local macro_rules | `(tactic| walk_at "e") => `(tactic| first
  | ((with_reducible refine e_var (by with_unfolding_all exact rfl) ?_))
  | with_reducible refine e_int ?_
  | with_reducible refine e_str ?_
  | with_reducible refine e_bl ?_
  | with_reducible refine e_non ?_
  | ((with_reducible refine e_pen (by with_unfolding_all exact rfl) (Or.inr rfl) ?_); intro z hz)
  | ((with_reducible refine e_pen (by with_unfolding_all exact rfl) (Or.inl rfl) ?_); intro z hz)
  | ((with_reducible refine e_penIx (by with_unfolding_all exact rfl) ?_))
  | ((with_reducible refine e_spr (by with_unfolding_all exact rfl) ?_); intro z)
  | with_reducible refine e_op ?_
  | with_reducible refine e_tup ?_
  | with_reducible refine e_lst ?_
  | with_reducible refine ea_cons ?_
  | with_reducible refine ea_nil ?_
  | ((with_reducible refine e_penLen (by with_unfolding_all exact rfl) ?_))
  | ((with_reducible refine e_lenOwn (by with_unfolding_all exact rfl) ?_))
  | ((with_reducible refine e_tupOwn (by with_unfolding_all exact rfl) ?_))
  | ((with_reducible refine s_aug (by with_unfolding_all exact rfl) ?_); (try dsimp only [List.set]))
  | with_reducible refine e_callXF ?_
  | with_reducible refine r_ipI ?_
  | with_reducible refine e_un ?_
  | with_reducible refine r_neg ?_
  | with_reducible refine gws_cons ?_
  | with_reducible refine gws_nil ?_
  | with_reducible refine gw_tup rfl ?_
  | ((with_reducible refine gw_name (by decide) ?_); (try dsimp only [List.set]))
  | with_reducible refine e_isI ?_
  | with_reducible refine e_isB ?_
  | with_reducible refine e_isS ?_
  | with_reducible refine e_isTu ?_
  | with_reducible refine e_isL ?_
  | with_reducible refine e_cb ?_
  | with_reducible refine e_sl ?_
  | with_reducible refine eo_none ?_
  | with_reducible refine eo_some ?_
  | with_reducible refine et_test ?_
  | with_reducible refine et_B ?_
  | with_reducible refine et_and ?_
  | with_reducible refine et_or ?_
  | with_reducible refine et_not ?_
  | with_reducible refine et_yes ?_
  | with_reducible refine e_andV ?_
  | with_reducible refine e_orV ?_
  | with_reducible refine e_notV ?_
  | with_reducible refine e_if ?_
  | with_reducible refine e_chain ?_
  | with_reducible refine e_callX ?_
  | ((with_reducible refine e_callXP (by with_unfolding_all exact rfl) ?_ (by with_unfolding_all exact trivial)))
  | ((with_reducible refine s_seq ?_); (try dsimp only [List.set]))
  | with_reducible refine s_next ?_
  | with_reducible refine s_ret ?_
  | ((with_reducible refine s_pen (by with_unfolding_all exact rfl) (Or.inr rfl) ?_))
  | ((with_reducible refine s_pen (by with_unfolding_all exact rfl) (Or.inl rfl) ?_))
  | ((with_reducible refine s_spr (by with_unfolding_all exact rfl) ?_))
  | ((with_reducible refine s_putOwn (by with_unfolding_all exact rfl) ?_ (by with_unfolding_all exact rfl)))
  | with_reducible refine s_asg ?_
  | with_reducible refine s_asgG ?_
  | with_reducible refine s_if ?_
  | with_reducible refine g_name ?_
  | with_reducible refine g_tup rfl ?_
  | with_reducible refine gs_cons ?_
  | with_reducible refine gs_nil ?_
  | with_reducible refine r_lt ?_
  | with_reducible refine r_le ?_
  | with_reducible refine r_gt ?_
  | with_reducible refine r_ge ?_
  | with_reducible refine r_add ?_
  | with_reducible refine r_sub ?_
  | with_reducible refine r_eqI ?_
  | with_reducible refine r_eqS ?_
  | with_reducible refine r_eqB ?_
  | with_reducible refine r_neI ?_
  | with_reducible refine r_neB ?_
  | with_reducible refine c_min2 ?_
  | with_reducible refine c_max2 ?_
  | with_reducible refine c_intB ?_
  | with_reducible refine c_len (Or.inl rfl) ?_
  | with_reducible refine c_len (Or.inr rfl) ?_
  | with_reducible refine c_list (Or.inl rfl) ?_
  | with_reducible refine c_list (Or.inr rfl) ?_
  | with_reducible refine c_tuple (Or.inl rfl) ?_
  | with_reducible refine c_tuple (Or.inr rfl) ?_
  | with_reducible refine r_ixT (by with_unfolding_all exact rfl) ?_
  | with_reducible refine r_ixL (by with_unfolding_all exact rfl) ?_
  | with_reducible refine r_slT ?_
  | with_reducible refine r_slL ?_
  | with_reducible refine r_isNone ?_
  | with_reducible refine r_notBl ?_
  | with_reducible refine eps_cons ?_
  | with_reducible refine eps_nil ?_
  | with_reducible refine e_dget1 ?_
  | with_reducible refine ed_callX ?_
  | with_reducible refine ⟨_, rfl, ?_⟩
  | with_reducible refine And.intro (Nat.le_of_ble_eq_true rfl) ?_)
local macro_rules | `(tactic| walk_at "t") => `(tactic| first
  | walk_at "e"
  | refine r_modAny (by first | omega | decide) fun z z0 z1 => ?_
  | refine r_mul (by first | exact Or.inr ⟨by decide, by decide⟩ | exact Or.inl ⟨by decide, by decide⟩ | exact Or.inl ⟨by omega, by omega⟩) ?_
  | refine r_pow ⟨by decide, by decide, by decide⟩ ?_
  | refine r_fdivW (by first | assumption | (rename_i hw _; exact hw _) | exact wide_div (b := 200) (by decide) (by decide) (by decide) (by decide)) ?_
  | with_reducible refine And.intro (by omega) ?_)
local macro_rules | `(tactic| walk_at "k") => `(tactic| first
  | walk_at "e"
  | with_reducible refine ⟨fun hb => absurd hb (by decide +kernel), fun _ => ?_⟩
  | with_reducible refine ⟨fun _ => ?_, fun hb => absurd hb (by decide +kernel)⟩
  | refine ⟨fun hb => absurd hb Bool.false_ne_true, fun _ => ?_⟩
  | refine ⟨fun _ => ?_, fun hb => absurd hb.symm Bool.false_ne_true⟩)
local macro_rules | `(tactic| walk_at "d") => `(tactic| first
  | walk_at "k"
  | refine And.intro (show WfTake _ from ⟨by omega, by omega⟩) (take_all fun k hk => ?_))
local macro_rules | `(tactic| walk_at "o") => `(tactic| first
  | with_reducible refine s_ownList ?_
  | walk_at "d"
  | with_reducible refine ⟨_, Or.inl rfl, ?_⟩)
local macro_rules | `(tactic| walk_at "c") => `(tactic| first
  | with_reducible refine e_ofL (el_catL ?_)
  | with_reducible refine e_ofL (el_sortP ?_)
  | with_reducible refine e_ofL (el_sortSetP ?_)
  | with_reducible refine e_ofL (el_revL ?_)
  | walk_at "d")

section
variable {P : Program} {w : World} {K : PySem.W.Frag} {mg : Str → Option Value} {base : Heap}
theorem row_get {x : Prog} {a : Nat} (h : a < x.rows.length) : atI (x.rows.map Row.D) (a : Int) = some (rowAt x a).D := by
  refine atI_nat ?_
  unfold rowAt
  rw [List.getElem?_map, List.getElem?_eq_getElem h, List.getD_eq_getElem?_getD, List.getElem?_eq_getElem h]
  rfl
theorem rise_cut (p q : Nat) : cutD [PyData.int (if (q : Int) < p then (q : Int) else p), .int (if (q : Int) > p then (q : Int) else p)] (some (if decide ((p : Int) = q) = true then (1 : Int) else 0)) none = natsD (rise p q) := by
  unfold rise
  by_cases h : p = q
  · subst h
    have e1 : (if decide ((p : Int) = p) = true then (1 : Int) else 0) = 1 := if_pos (decide_eq_true rfl)
    rw [e1, if_neg (show ¬ (p : Int) < p by omega), if_pos rfl]
    rfl
  · have e1 : (if decide ((p : Int) = q) = true then (1 : Int) else 0) = 0 := if_neg (by rw [decide_eq_true_eq]; omega)
    rw [e1, if_neg h]
    show [PyData.int (if (q : Int) < p then (q : Int) else p), .int (if (q : Int) > p then (q : Int) else p)] = [.int ((min p q : Nat) : Int), .int ((max p q : Nat) : Int)]
    rcases Nat.le_total p q with h2 | h2
    · rw [if_neg (show ¬ (q : Int) < p by omega), if_pos (show (q : Int) > p by omega), Nat.min_eq_left h2, Nat.max_eq_right h2]
    · rw [if_pos (show (q : Int) < p by omega), if_neg (show ¬ (q : Int) > p by omega), Nat.min_eq_right h2, Nat.max_eq_left h2]
set_option maxHeartbeats 4000000 in
theorem ok_law_tick (T : Tx K mg base) : FnOk P w K mg base CX0 1 T.f_law_tick T.d_law_tick ["program", "stand", "letters"] (SpX (α := tickA) K T.ts tickW tickE (fun x d => d = (tickF x.1 x.2.1 x.2.2).D)) := by
  refine fnX T.F_law_tick sc_law_tick (fun _ _ => rfl) (fun cdv A outer s H E hr => ⟨_, (pss_cons (ps_asg (pv 0) (kx_pgT K (n := 3) rfl rfl (pgs_cons (pg_name (i := 3) sc_law_tick.nd rfl (.inl rfl)) (pgs_cons (pg_name (i := 4) sc_law_tick.nd rfl (.inl rfl)) (pgs_cons (pg_name (i := 5) sc_law_tick.nd rfl (.inl rfl)) pgs_nil)))))
      (pss_cons (ps_asg (pv 1) (kx_pgT K (n := 2) rfl rfl (pgs_cons (pg_name (i := 6) sc_law_tick.nd rfl (.inl rfl)) (pgs_cons (pg_name (i := 7) sc_law_tick.nd rfl (.inl rfl)) pgs_nil))))
      (pss_cons (ps_if (PW.pt (pw_or (pt_cmpR op_ge (pv 6) (pe_callB (kx_len K rfl) (by rfl) T.m_len PySem.boot_len (pa_cons (pv 5) pa_nil)) (nomark _)) (pw_or1 (pt_cmpR op_eq (pe_ix (kx_ixT K rfl) (pe_ix (kx_ixT K rfl) (pv 5) (pv 6) (fun _ _ => rfl)) pe_int (fun _ _ => rfl)) pe_str (nomark _)))))
      (pss_one (ps_ret (pe_tup (pa_cons (pv 1) (pa_cons pe_str (pa_cons pe_non (pa_cons (pe_tup pa_nil) (pa_cons (pe_tup pa_nil) pa_nil))))))))
      pss_nil)
      (pss_cons (ps_set (i := 8) sc_law_tick.nd rfl (.inl rfl) (pe_ix (kx_ixT K rfl) (pv 5) (pv 6) (fun _ _ => rfl)))
      (pss_cons (ps_set (i := 9) sc_law_tick.nd rfl (.inl rfl) (pe_ix (kx_ixT K rfl) (pv 8) pe_int (fun _ _ => rfl)))
      (pss_cons (ps_set (i := 10) sc_law_tick.nd rfl (.inl rfl) (pe_callTy (kx_list K rfl) (by rfl) T.m_list (by decide +kernel) (pa_cons (pv 7) pa_nil)))
      (pss_cons (ps_set (i := 11) sc_law_tick.nd rfl (.inl rfl) pe_str)
      (pss_cons (ps_set (i := 12) sc_law_tick.nd rfl (.inl rfl) pe_non)
      (pss_cons (ps_set (i := 13) sc_law_tick.nd rfl (.inl rfl) (pe_tup pa_nil))
      (pss_cons (ps_set (i := 14) sc_law_tick.nd rfl (.inl rfl) (pe_tup (pa_cons (pv 9) pa_nil)))
      (pss_cons (ps_set (i := 6) sc_law_tick.nd rfl (.inl rfl) (pe_op op_add (pv 6) pe_int))
      (pss_cons (ps_if (pt_cmpR op_eq (pe_ix (kx_ixT K rfl) (pv 8) pe_int (fun _ _ => rfl)) pe_str (nomark _))
      (pss_one (ps_asg (pe_ix (kx_ixT K rfl) (pv 8) pe_int (fun _ _ => rfl)) (pg_sub (pv 10) (pv 9) set_list)))
      (pss_one (ps_if (pt_cmpR op_eq (pe_ix (kx_ixT K rfl) (pv 8) pe_int (fun _ _ => rfl)) pe_str (nomark _))
      (pss_cons (ps_asg (pe_op op_mod (pe_op op_add (pe_ix (kx_ixT K rfl) (pv 7) (pv 9) (fun _ _ => rfl)) (pe_ix (kx_ixT K rfl) (pv 7) (pe_ix (kx_ixT K rfl) (pv 8) pe_int (fun _ _ => rfl)) (fun _ _ => rfl))) (pv 4)) (pg_sub (pv 10) (pv 9) set_list))
      (pss_one (ps_set (i := 13) sc_law_tick.nd rfl (.inl rfl) (pe_slice (kx_slT K rfl) (pe_tup (pa_cons (pe_callB (call_min2 rfl) (by rfl) T.m_min (by decide +kernel) (pa_cons (pv 9) (pa_cons (pe_ix (kx_ixT K rfl) (pv 8) pe_int (fun _ _ => rfl)) pa_nil))) (pa_cons (pe_callB (call_max2 rfl) (by rfl) T.m_max (by decide +kernel) (pa_cons (pv 9) (pa_cons (pe_ix (kx_ixT K rfl) (pv 8) pe_int (fun _ _ => rfl)) pa_nil))) pa_nil))) (po_some (pe_callTy call_int1 (by rfl) T.m_int (by decide +kernel) (pa_cons (pe_cmpR op_eq (pv 9) (pe_ix (kx_ixT K rfl) (pv 8) pe_int (fun _ _ => rfl)) (nomark _)) pa_nil))) po_none))))
      (pss_one (ps_if (pt_cmpR op_eq (pe_ix (kx_ixT K rfl) (pv 8) pe_int (fun _ _ => rfl)) pe_str (nomark _))
      (pss_cons (ps_if (pt_cmpR (kx_eqD K rfl hr.units) (pv 2) (pe_lst pa_nil) (nomark _))
      (pss_one (ps_ret (pe_tup (pa_cons (pv 1) (pa_cons pe_str (pa_cons pe_non (pa_cons (pe_tup pa_nil) (pa_cons (pe_tup pa_nil) pa_nil))))))))
      pss_nil)
      (pss_cons (ps_set (i := 11) sc_law_tick.nd rfl (.inl rfl) pe_str)
      (pss_cons (ps_set (i := 12) sc_law_tick.nd rfl (.inl rfl) (pe_ix (kx_ixL K rfl) (pv 2) pe_int (fun _ _ => rfl)))
      (pss_one (ps_asg (pv 12) (pg_sub (pv 10) (pv 9) set_list))))))
      (pss_cons (ps_set (i := 13) sc_law_tick.nd rfl (.inl rfl) (pe_tup (pa_cons (pv 9) pa_nil)))
      (pss_cons (ps_set (i := 14) sc_law_tick.nd rfl (.inl rfl) (pe_tup pa_nil))
      (pss_one (ps_if (pt_cmpR op_eq (pe_ix (kx_ixT K rfl) (pv 8) pe_int (fun _ _ => rfl)) pe_str (nomark _))
      (pss_cons (ps_set (i := 11) sc_law_tick.nd rfl (.inl rfl) pe_str)
      (pss_one (ps_set (i := 12) sc_law_tick.nd rfl (.inl rfl) (pe_ix (kx_ixT K rfl) (pv 7) (pv 9) (fun _ _ => rfl)))))
      (pss_one (ps_if (pt_cmpR op_eq (pe_ix (kx_ixT K rfl) (pv 7) (pv 9) (fun _ _ => rfl)) pe_int (nomark _))
      (pss_one (ps_set (i := 6) sc_law_tick.nd rfl (.inl rfl) (pe_ix (kx_ixT K rfl) (pv 8) pe_int (fun _ _ => rfl))))
      pss_nil)))))))))))
      (pss_one (ps_ret (pe_tup (pa_cons (pe_tup (pa_cons (pv 6) (pa_cons (pe_callTy (kx_tuple K rfl) (by rfl) T.m_tuple (by decide +kernel) (pa_cons (pv 10) pa_nil)) pa_nil))) (pa_cons (pv 11) (pa_cons (pv 12) (pa_cons (pv 13) (pa_cons (pv 14) pa_nil)))))))))))))))))))), fun x hx => ?_⟩)
  obtain ⟨x, s, ls⟩ := x
  obtain ⟨hx, hs⟩ := hx
  dsimp only at hx hs
  try simp only [nox_K, blk_K, cx_K]
  have hr := row_ok hx s.at_
  have hl : s.sh.length ≤ 100 := by have := hs.s1; have := hx.n2; omega
  have hsl := hs.s1
  have hw := hx.w1
  unfold tickF
  dsimp only [tickE]
  show S K ⟨none, T.ts⟩ H _ [some (.d _), some (.d _), some (.d _), none, none, none, none, none, none, none, none, none, none, none, none] _
  repeat walk_at "o"
  rw [List.length_map]
  by_cases hlt : s.at_ < x.rows.length
  · refine ⟨fun hb => absurd (of_decide_eq_true hb) (by omega), fun _ => ?_⟩
    have eg := row_get hlt
    repeat walk_at "o"
    refine r_ixT eg ?_
    have nl := natsD_len s.sh
    cases e : rowAt x s.at_ with
    | set p v =>
      rw [e] at hr eg
      dsimp only [Row.D, Row.Ok] at hr eg ⊢
      repeat walk_at "o"
      refine r_ixT eg ?_
      repeat walk_at "o"
      refine ⟨by omega, ?_⟩
      rw [natsD_set]
      repeat walk_at "o"
      rfl
    | add p q =>
      rw [e] at hr eg
      dsimp only [Row.D, Row.Ok] at hr eg ⊢
      repeat walk_at "o"
      refine r_ixT eg ?_
      repeat walk_at "o"
      refine r_ixT (natsD_at (p := p) (by omega)) ?_
      repeat walk_at "o"
      refine r_ixT (natsD_at (p := q) (by omega)) ?_
      repeat walk_at "o"
      refine r_mod (by omega) ?_
      repeat walk_at "o"
      refine ⟨by omega, ?_⟩
      rw [show PyData.int ((((s.sh.getD p 0 : Nat) : Int) + ((s.sh.getD q 0 : Nat) : Int)) % (x.w : Int)) = natD ((s.sh.getD p 0 + s.sh.getD q 0) % x.w) from rfl, natsD_set]
      repeat walk_at "o"
      rw [rise_cut]
      repeat walk_at "o"
      rfl
    | jump p k =>
      rw [e] at hr eg
      dsimp only [Row.D, Row.Ok] at hr eg ⊢
      repeat walk_at "o"
      refine r_ixT eg ?_
      repeat walk_at "o"
      refine r_ixT (natsD_at (p := p) (by omega)) ?_
      repeat walk_at "o"
      by_cases h0 : s.sh.getD p 0 = 0
      · rw [if_pos h0]
        refine ⟨fun _ => ?_, fun hb => absurd (of_decide_eq_false hb) (by omega)⟩
        repeat walk_at "o"
        rfl
      · rw [if_neg h0]
        refine ⟨fun hb => absurd (of_decide_eq_true hb) (by omega), fun _ => ?_⟩
        repeat walk_at "o"
        rfl
    | say p =>
      rw [e] at hr eg
      dsimp only [Row.D, Row.Ok] at hr eg ⊢
      repeat walk_at "o"
      refine r_ixT eg ?_
      repeat walk_at "o"
      refine r_ixT (natsD_at (p := p) (by omega)) ?_
      repeat walk_at "o"
      rfl
    | take p =>
      rw [e] at hr eg
      dsimp only [Row.D, Row.Ok] at hr eg ⊢
      repeat walk_at "o"
      refine r_ixT eg ?_
      repeat walk_at "o"
      cases ls with
      | nil =>
        refine r_eqD rfl rfl ?_
        repeat walk_at "o"
        rfl
      | cons l r =>
        refine r_eqD (shaped_nats _) rfl ?_
        repeat walk_at "o"
        refine r_ixL (natsD_at (l := l :: r) (p := 0) (Nat.succ_pos _)) ?_
        repeat walk_at "o"
        refine ⟨by omega, ?_⟩
        rw [show PyData.int (((l :: r).getD 0 0 : Nat) : Int) = natD l from rfl, natsD_set]
        repeat walk_at "o"
        rfl
    | fin =>
      rw [e] at eg
      dsimp only [Row.D] at eg ⊢
      repeat walk_at "o"
      rfl
  · have e : rowAt x s.at_ = .fin := by
      unfold rowAt
      rw [List.getD_eq_getElem?_getD, List.getElem?_eq_none (by omega)]
      rfl
    rw [e]
    refine ⟨fun _ => ?_, fun hb => absurd (of_decide_eq_false hb) (by omega)⟩
    repeat walk_at "o"
    rfl
abbrev spLd (K : PySem.W.Frag) (ts : List Addr) : Sp := SpX (α := RoA) K ts RoA.Ok (fun a => [a.x.D, a.s.D]) (fun a d => RoR a.x a.s d ∨ (d = .none ∧ RoBad a.x a.s))
abbrev LDu (w : World) (x : Prog) (s : Stand) (k : Nat) : Lv := [some (.d x.D), some (.d (stF x s k).D), some (.own (.dN w (seenL (stF x s) k))), none]
set_option maxHeartbeats 8000000 in
theorem ok_law_due (T : Tx K mg base) : FnOk P w K mg base CX0 2 T.f_law_due T.d_law_due ["program", "stand"] (spLd K T.ts) := by
  refine fnX T.F_law_due sc_law_due (fun _ _ => rfl) (fun cdv A outer s H E hr => ⟨_, (pss_cons (ps_set (i := 2) sc_law_due.nd rfl (.inl rfl) (_root_.Gn.pe_new rfl))
      (pss_cons (ps_for PassesOwn.never rfl (pi_range1 rfl T.m_range (pa_cons pe_int pa_nil)) (pg_name (i := 3) sc_law_due.nd rfl (.inl rfl))
      (pss_cons (ps_if (pt_cmpR op_eq (pe_ix (kx_ixT K rfl) (pe_call (ok_law_tick T) (hr.mono (by decide)) (by rfl) T.g_law_tick T.F_law_tick.kp T.b_law_tick .nil pass0 (pa_cons (pv 0) (pa_cons (pv 1) (pa_cons (pe_lst pa_nil) pa_nil)))) pe_int (fun _ _ => rfl)) pe_str (nomark _))
      (pss_one (ps_ret (pe_tup (pa_cons pe_str (pa_cons (pv 3) pa_nil)))))
      pss_nil)
      (pss_cons (ps_if (pt_cmp (_root_.Gn.pc_in rfl rfl (hu9_of hr) (pv 1) (pv 2)))
      (pss_one (ps_ret (pe_tup (pa_cons pe_str (pa_cons (_root_.Gn.pe_get rfl rfl (hu9_of hr) (pv 2) (pv 1) (fun _ _ => rfl)) (pa_cons (pe_op op_sub (pv 3) (_root_.Gn.pe_get rfl rfl (hu9_of hr) (pv 2) (pv 1) (fun _ _ => rfl))) pa_nil))))))
      pss_nil)
      (pss_cons (_root_.Gn.ps_put rfl rfl (hu9_of hr) (pv 2) (pv 1) (pv 3) rfl)
      (pss_one (ps_set (i := 1) sc_law_due.nd rfl (.inl rfl) (pe_ix (kx_ixT K rfl) (pe_call (ok_law_tick T) (hr.mono (by decide)) (by rfl) T.g_law_tick T.F_law_tick.kp T.b_law_tick .nil pass0 (pa_cons (pv 0) (pa_cons (pv 1) (pa_cons (pe_lst pa_nil) pa_nil)))) pe_int (fun _ _ => rfl))))))))
      (pss_one (ps_ret pe_non)))), fun a ha => ?_⟩)
  obtain ⟨x, s0⟩ := a
  obtain ⟨hx, hs⟩ := ha
  dsimp only at hx hs
  try simp only [nox_K, blk_K, cx_K]
  show S K ⟨none, T.ts⟩ H _ [some (.d _), some (.d _), none, none] _
  refine s_seq (s_nnew ?_)
  dsimp only [List.set]
  refine s_seq (s_forI (it_rng (ea_cons (e_int (ea_nil ⟨1001, rfl, by decide, by decide, fun k L => Goes x s0 k ∧ Apart x s0 k ∧ L = LDu w x s0 k, ⟨_, Sub.refl _, fun j hj => absurd hj (Nat.not_lt_zero _), fun i j _ hj => absurd hj (Nat.not_lt_zero _), rfl⟩, fun k d L' hd ⟨h1, h2, e⟩ => ?_, fun L' ⟨h1, h2, e⟩ L4 s4 => ?_⟩)))))
  · subst e
    obtain ⟨hk, rfl⟩ := rngL_get hd
    rw [Int.zero_add]
    have hk : k < 1001 := hk
    refine g_name ?_
    dsimp only [List.set]
    refine s_seq (s_if ?_)
    repeat walk_at "k"
    refine ⟨(x, stF x s0 k, []), rfl, ⟨hx, stF_ok hx hs k⟩, ?_⟩
    rintro d rfl
    dsimp only [Told.D]
    repeat walk_at "k"
    refine ⟨fun h => ?_, fun h => ?_⟩
    · repeat walk_at "k"
      exact .inl (.inl ⟨k, by omega, of_decide_eq_true h, h1, h2, rfl⟩)
    have hw : wdF x s0 k ≠ "ended" := of_decide_eq_false h
    refine s_next ?_
    rcases seen_val (stF x s0) (stF x s0 k) k with ⟨j, hj, e, hu, hv⟩ | ⟨hn, hv⟩
    · refine s_seq (s_if (et_test (e_nin (.inl rfl) (e_var rfl ⟨_, skey_nk _, ?_⟩))))
      rw [hv]
      refine ⟨_, rfl, fun _ => ?_, fun h => (by cases h)⟩
      refine s_ret (e_tup (ea_cons (e_str (ea_cons (e_nget (.inl rfl) (e_var rfl ⟨_, skey_nk _, _, hv, ea_cons (e_op (e_var rfl (e_nget (.inl rfl) (e_var rfl ⟨_, skey_nk _, _, hv, ?_⟩))))⟩))))))
      repeat walk_at "k"
      exact .inl (.inr ⟨j, k, hj, by omega, e, h1.succ hw, h2, rfl⟩)
    · refine s_seq (s_if (et_test (e_nin (.inl rfl) (e_var rfl ⟨_, skey_nk _, ?_⟩))))
      rw [hv]
      refine ⟨_, rfl, fun h => (by cases h), fun _ => s_next ?_⟩
      refine s_seq (s_nput rfl (by rw [seenL_len]; omega) (e_var rfl (e_var rfl ⟨_, skey_nk _, ?_⟩)))
      dsimp only [List.set]
      rw [put_new _ hv, ← seenL_succ]
      refine s_asg ?_
      repeat walk_at "k"
      refine ⟨(x, stF x s0 k, []), rfl, ⟨hx, stF_ok hx hs k⟩, ?_⟩
      rintro d rfl
      dsimp only [Told.D]
      repeat walk_at "k"
      refine ⟨LDu w x s0 (k + 1), ?_, h1.succ hw, h2.succ hn, rfl⟩
      unfold LDu
      rw [stF_succ]
      repeat (first | exact Sub.nil | apply Sub.keep | apply Sub.drop)
  · subst e
    refine S.sub ?_ s4
    repeat walk_at "k"
    exact .inr ⟨rfl, h1, h2⟩
end
end K07
set_option Elab.async false
set_option linter.all false
set_option maxRecDepth 100000
namespace K07
open PySem PySem.Spec PyProof.Rows L2 Dl Wm
local macro_rules | `(tactic| walk_at "e") => `(tactic| first
  | ((with_reducible refine e_var (by with_unfolding_all exact rfl) ?_))
  | with_reducible refine e_int ?_
  | with_reducible refine e_str ?_
  | with_reducible refine e_bl ?_
  | with_reducible refine e_non ?_
  | ((with_reducible refine e_pen (by with_unfolding_all exact rfl) (Or.inr rfl) ?_); intro z hz)
  | ((with_reducible refine e_pen (by with_unfolding_all exact rfl) (Or.inl rfl) ?_); intro z hz)
  | ((with_reducible refine e_penIx (by with_unfolding_all exact rfl) ?_))
  | ((with_reducible refine e_spr (by with_unfolding_all exact rfl) ?_); intro z)
  | with_reducible refine e_op ?_
  | with_reducible refine e_tup ?_
  | with_reducible refine e_lst ?_
  | with_reducible refine ea_cons ?_
  | with_reducible refine ea_nil ?_
  | ((with_reducible refine e_penLen (by with_unfolding_all exact rfl) ?_))
  | ((with_reducible refine e_lenOwn (by with_unfolding_all exact rfl) ?_))
  | ((with_reducible refine e_tupOwn (by with_unfolding_all exact rfl) ?_))
  | ((with_reducible refine s_aug (by with_unfolding_all exact rfl) ?_); (try dsimp only [List.set]))
  | with_reducible refine e_callXF ?_
  | with_reducible refine r_ipI ?_
  | with_reducible refine e_un ?_
  | with_reducible refine r_neg ?_
  | with_reducible refine gws_cons ?_
  | with_reducible refine gws_nil ?_
  | with_reducible refine gw_tup rfl ?_
  | ((with_reducible refine gw_name (by decide) ?_); (try dsimp only [List.set]))
  | with_reducible refine e_isI ?_
  | with_reducible refine e_isB ?_
  | with_reducible refine e_isS ?_
  | with_reducible refine e_isTu ?_
  | with_reducible refine e_isL ?_
  | with_reducible refine e_cb ?_
  | with_reducible refine e_sl ?_
  | with_reducible refine eo_none ?_
  | with_reducible refine eo_some ?_
  | with_reducible refine et_test ?_
  | with_reducible refine et_B ?_
  | with_reducible refine et_and ?_
  | with_reducible refine et_or ?_
  | with_reducible refine et_not ?_
  | with_reducible refine et_yes ?_
  | with_reducible refine e_andV ?_
  | with_reducible refine e_orV ?_
  | with_reducible refine e_notV ?_
  | with_reducible refine e_if ?_
  | with_reducible refine e_chain ?_
  | with_reducible refine e_callX ?_
  | ((with_reducible refine e_callXP (by with_unfolding_all exact rfl) ?_ (by with_unfolding_all exact trivial)))
  | ((with_reducible refine s_seq ?_); (try dsimp only [List.set]))
  | with_reducible refine s_next ?_
  | with_reducible refine s_ret ?_
  | ((with_reducible refine s_pen (by with_unfolding_all exact rfl) (Or.inr rfl) ?_))
  | ((with_reducible refine s_pen (by with_unfolding_all exact rfl) (Or.inl rfl) ?_))
  | ((with_reducible refine s_spr (by with_unfolding_all exact rfl) ?_))
  | ((with_reducible refine s_putOwn (by with_unfolding_all exact rfl) ?_ (by with_unfolding_all exact rfl)))
  | with_reducible refine s_asg ?_
  | with_reducible refine s_asgG ?_
  | with_reducible refine s_if ?_
  | with_reducible refine g_name ?_
  | with_reducible refine g_tup rfl ?_
  | with_reducible refine gs_cons ?_
  | with_reducible refine gs_nil ?_
  | with_reducible refine r_lt ?_
  | with_reducible refine r_le ?_
  | with_reducible refine r_gt ?_
  | with_reducible refine r_ge ?_
  | with_reducible refine r_add ?_
  | with_reducible refine r_sub ?_
  | with_reducible refine r_eqI ?_
  | with_reducible refine r_eqS ?_
  | with_reducible refine r_eqB ?_
  | with_reducible refine r_neI ?_
  | with_reducible refine r_neB ?_
  | with_reducible refine c_min2 ?_
  | with_reducible refine c_max2 ?_
  | with_reducible refine c_intB ?_
  | with_reducible refine c_len (Or.inl rfl) ?_
  | with_reducible refine c_len (Or.inr rfl) ?_
  | with_reducible refine c_list (Or.inl rfl) ?_
  | with_reducible refine c_list (Or.inr rfl) ?_
  | with_reducible refine c_tuple (Or.inl rfl) ?_
  | with_reducible refine c_tuple (Or.inr rfl) ?_
  | with_reducible refine r_ixT (by with_unfolding_all exact rfl) ?_
  | with_reducible refine r_ixL (by with_unfolding_all exact rfl) ?_
  | with_reducible refine r_slT ?_
  | with_reducible refine r_slL ?_
  | with_reducible refine r_isNone ?_
  | with_reducible refine r_notBl ?_
  | with_reducible refine eps_cons ?_
  | with_reducible refine eps_nil ?_
  | with_reducible refine e_dget1 ?_
  | with_reducible refine ed_callX ?_
  | with_reducible refine ⟨_, rfl, ?_⟩
  | with_reducible refine And.intro (Nat.le_of_ble_eq_true rfl) ?_)
local macro_rules | `(tactic| walk_at "t") => `(tactic| first
  | walk_at "e"
  | refine r_modAny (by first | omega | decide) fun z z0 z1 => ?_
  | refine r_mul (by first | exact Or.inr ⟨by decide, by decide⟩ | exact Or.inl ⟨by decide, by decide⟩ | exact Or.inl ⟨by omega, by omega⟩) ?_
  | refine r_pow ⟨by decide, by decide, by decide⟩ ?_
  | refine r_fdivW (by first | assumption | (rename_i hw _; exact hw _) | exact wide_div (b := 200) (by decide) (by decide) (by decide) (by decide)) ?_
  | with_reducible refine And.intro (by omega) ?_)
local macro_rules | `(tactic| walk_at "k") => `(tactic| first
  | walk_at "e"
  | with_reducible refine ⟨fun hb => absurd hb (by decide +kernel), fun _ => ?_⟩
  | with_reducible refine ⟨fun _ => ?_, fun hb => absurd hb (by decide +kernel)⟩
  | refine ⟨fun hb => absurd hb Bool.false_ne_true, fun _ => ?_⟩
  | refine ⟨fun _ => ?_, fun hb => absurd hb.symm Bool.false_ne_true⟩)
local macro_rules | `(tactic| walk_at "d") => `(tactic| first
  | walk_at "k"
  | refine And.intro (show WfTake _ from ⟨by omega, by omega⟩) (take_all fun k hk => ?_))
local macro_rules | `(tactic| walk_at "o") => `(tactic| first
  | with_reducible refine s_ownList ?_
  | walk_at "d"
  | with_reducible refine ⟨_, Or.inl rfl, ?_⟩)
local macro_rules | `(tactic| walk_at "c") => `(tactic| first
  | with_reducible refine e_ofL (el_catL ?_)
  | with_reducible refine e_ofL (el_sortP ?_)
  | with_reducible refine e_ofL (el_sortSetP ?_)
  | with_reducible refine e_ofL (el_revL ?_)
  | walk_at "d")

section
variable {P : Program} {w : World} {K : PySem.W.Frag} {mg : Str → Option Value} {base : Heap}
/-- one level more -/
def Up (W : PyData → Prop) : PyData → Prop
  | .tuple ds => ds.length ≤ 10000 ∧ ∀ d ∈ ds, W d
  | .list ds => ds.length ≤ 10000 ∧ ∀ d ∈ ds, W d
  | .dict _ => False
  | _ => True
abbrev spSame (K : PySem.W.Frag) (ts : List Addr) (W : PyData → Prop) : Sp := SpX (α := PyData) K ts W (fun a => [a, a]) (fun _ d => d = .bool true)
theorem all_true : ∀ n : Nat, (List.replicate n true).any (!·) = false
  | 0 => rfl
  | n + 1 => by
    rw [List.replicate_succ, List.any_cons, all_true n]
    rfl
set_option maxHeartbeats 4000000 in
theorem ok_same_up (T : Tx K mg base) {k : Nat} {W : PyData → Prop} (IH : FnOk P w K mg base CX0 k T.f_law_same T.d_law_same ["found", "due"] (spSame K T.ts W)) : FnOk P w K mg base CX0 (k + 1) T.f_law_same T.d_law_same ["found", "due"] (spSame K T.ts (Up W)) := by
  refine fnX T.F_law_same sc_law_same (fun _ _ => rfl) (fun cdv A outer s H E hr => ⟨_, (pss_cons (ps_if (pt_cmpR op_isN (pv 1) pe_non (nomark _))
      (pss_one (ps_ret (pe_cmpR op_isN (pv 0) pe_non (nomark _))))
      pss_nil)
      (pss_cons (ps_if (pt_val (pe_callB (kx_isi K rfl) (by rfl) T.m_isinstance (by decide +kernel) (pa_cons (pv 1) (pa_cons (pe_bltn (v := .ty "str") (by rfl) T.m_str (by decide +kernel) rfl) pa_nil))))
      (pss_one (ps_ret (pe_and (pe_callB (kx_isi K rfl) (by rfl) T.m_isinstance (by decide +kernel) (pa_cons (pv 0) (pa_cons (pe_bltn (v := .ty "str") (by rfl) T.m_str (by decide +kernel) rfl) pa_nil))) (pe_one (pe_cmpR op_eq (pv 0) (pv 1) (nomark _))))))
      pss_nil)
      (pss_cons (ps_if (pt_val (pe_callB (kx_isi K rfl) (by rfl) T.m_isinstance (by decide +kernel) (pa_cons (pv 1) (pa_cons (pe_bltn (v := .ty "int") (by rfl) T.m_int (by decide +kernel) rfl) pa_nil))))
      (pss_one (ps_ret (pe_and (pe_callB (kx_isi K rfl) (by rfl) T.m_isinstance (by decide +kernel) (pa_cons (pv 0) (pa_cons (pe_bltn (v := .ty "int") (by rfl) T.m_int (by decide +kernel) rfl) pa_nil))) (pe_and (pe_cmpR op_eq (pe_callB (kx_isi K rfl) (by rfl) T.m_isinstance (by decide +kernel) (pa_cons (pv 0) (pa_cons (pe_bltn (v := .ty "bool") (by rfl) T.m_bool (by decide +kernel) rfl) pa_nil))) (pe_callB (kx_isi K rfl) (by rfl) T.m_isinstance (by decide +kernel) (pa_cons (pv 1) (pa_cons (pe_bltn (v := .ty "bool") (by rfl) T.m_bool (by decide +kernel) rfl) pa_nil))) (nomark _)) (pe_one (pe_cmpR op_eq (pv 0) (pv 1) (nomark _)))))))
      pss_nil)
      (pss_cons (ps_if (pt_cmpR op_ne (pe_callB (kx_isi K rfl) (by rfl) T.m_isinstance (by decide +kernel) (pa_cons (pv 1) (pa_cons (pe_bltn (v := .ty "tuple") (by rfl) T.m_tuple (by decide +kernel) rfl) pa_nil))) (pe_callB (kx_isi K rfl) (by rfl) T.m_isinstance (by decide +kernel) (pa_cons (pv 0) (pa_cons (pe_bltn (v := .ty "tuple") (by rfl) T.m_tuple (by decide +kernel) rfl) pa_nil))) (nomark _))
      (pss_one (ps_ret pe_bl))
      pss_nil)
      (pss_cons (ps_if (pt_cmpR op_ne (pe_callB (kx_isi K rfl) (by rfl) T.m_isinstance (by decide +kernel) (pa_cons (pv 1) (pa_cons (pe_bltn (v := .ty "list") (by rfl) T.m_list (by decide +kernel) rfl) pa_nil))) (pe_callB (kx_isi K rfl) (by rfl) T.m_isinstance (by decide +kernel) (pa_cons (pv 0) (pa_cons (pe_bltn (v := .ty "list") (by rfl) T.m_list (by decide +kernel) rfl) pa_nil))) (nomark _))
      (pss_one (ps_ret pe_bl))
      pss_nil)
      (pss_cons (ps_if (pt_cmpR op_ne (pe_callB (kx_len K rfl) (by rfl) T.m_len PySem.boot_len (pa_cons (pv 0) pa_nil)) (pe_callB (kx_len K rfl) (by rfl) T.m_len PySem.boot_len (pa_cons (pv 1) pa_nil)) (nomark _))
      (pss_one (ps_ret pe_bl))
      pss_nil)
      (pss_one (ps_ret (pe_cmpR (kx_notIn K rfl) pe_bl (pe_lc (own := [("one", 2), ("other", 3)]) (tt := tYes) rfl sc_law_same.nd (kx_zip K rfl rfl T.m_zip (pa_cons (pv 0) (pa_cons (pv 1) pa_nil))) (blkOk_by (own := [("one", 2), ("other", 3)]) (N := ["found", "due", "one", "other"]) (sc := defScope s_law_same) (by decide +kernel)) (fun _ _ _ _ _ => (kx_pgT K (n := 2) rfl rfl (pgs_cons (pg_name (i := 2) sc_law_same.nd rfl (.inl rfl)) (pgs_cons (pg_name (i := 3) sc_law_same.nd rfl (.inl rfl)) pgs_nil)))) (fun _ _ _ _ _ => pts_nil) (fun _ _ _ _ _ => (pe_call (IH) hr (by rfl) T.g_law_same T.F_law_same.kp T.b_law_same .nil pass0 (pa_cons (pv 2) (pa_cons (pv 3) pa_nil))))) (by rfl)))))))))), fun x hx => ?_⟩)
  try simp only [nox_K, blk_K, cx_K]
  show S K ⟨none, T.ts⟩ H _ [some (.d _), some (.d _), none, none] _
  cases x with
  | dict _ => exact hx.elim
  | none =>
    repeat walk_at "k"
    rfl
  | bool b =>
    repeat walk_at "k"
    show PyData.bool (decide (b = b)) = .bool true
    rw [decide_eq_true rfl]
  | int b =>
    repeat walk_at "k"
    show PyData.bool (decide (b = b)) = .bool true
    rw [decide_eq_true rfl]
  | str b =>
    repeat walk_at "k"
    show PyData.bool (decide (b = b)) = .bool true
    rw [decide_eq_true rfl]
  | list ds =>
    obtain ⟨h1, h2⟩ := hx
    repeat walk_at "k"
    refine ⟨fun hb => absurd hb (by rw [decide_eq_true rfl]; decide), fun _ => ?_⟩
    refine s_next (s_ret (e_op (e_bl ?_)))
    refine e_lcZ (j := 2) (k := 3) (ea_cons (e_var rfl (ea_cons (e_var rfl (ea_nil ?_)))))
    refine ⟨ds, ds, .inr rfl, rfl, by omega, fun i acc => acc = (List.replicate i true).map PyData.bool, rfl, fun i x y acc hx hy ha => ?_, fun acc ha => ?_⟩
    · have e : y = x := Option.some.inj (hy.symm.trans hx)
      subst e
      repeat walk_at "k"
      refine ⟨h2 y (List.mem_of_getElem? hx), ?_⟩
      rintro d rfl
      rw [ha, List.replicate_succ', List.map_append]
      rfl
    · subst ha
      refine r_notIn ?_
      rw [all_true]
      rfl
  | tuple ds =>
    obtain ⟨h1, h2⟩ := hx
    repeat walk_at "k"
    refine ⟨fun hb => absurd hb (by rw [decide_eq_true rfl]; decide), fun _ => ?_⟩
    refine s_next (s_ret (e_op (e_bl ?_)))
    refine e_lcZ (j := 2) (k := 3) (ea_cons (e_var rfl (ea_cons (e_var rfl (ea_nil ?_)))))
    refine ⟨ds, ds, .inl rfl, rfl, by omega, fun i acc => acc = (List.replicate i true).map PyData.bool, rfl, fun i x y acc hx hy ha => ?_, fun acc ha => ?_⟩
    · have e : y = x := Option.some.inj (hy.symm.trans hx)
      subst e
      repeat walk_at "k"
      refine ⟨h2 y (List.mem_of_getElem? hx), ?_⟩
      rintro d rfl
      rw [ha, List.replicate_succ', List.map_append]
      rfl
    · subst ha
      refine r_notIn ?_
      rw [all_true]
      rfl
theorem ok_law_same (T : Tx K mg base) : FnOk P w K mg base CX0 4 T.f_law_same T.d_law_same ["found", "due"] (spSame K T.ts (Up (Up (Up (Up fun _ => False))))) := ok_same_up T (ok_same_up T (ok_same_up T (ok_same_up T fn_never)))
end
end K07
set_option Elab.async false
set_option linter.all false
set_option maxRecDepth 100000
namespace K07
open PySem PySem.Spec PyProof.Rows L2 Dl Wm
local macro_rules | `(tactic| walk_at "e") => `(tactic| first
  | ((with_reducible refine e_var (by with_unfolding_all exact rfl) ?_))
  | with_reducible refine e_int ?_
  | with_reducible refine e_str ?_
  | with_reducible refine e_bl ?_
  | with_reducible refine e_non ?_
  | ((with_reducible refine e_pen (by with_unfolding_all exact rfl) (Or.inr rfl) ?_); intro z hz)
  | ((with_reducible refine e_pen (by with_unfolding_all exact rfl) (Or.inl rfl) ?_); intro z hz)
  | ((with_reducible refine e_penIx (by with_unfolding_all exact rfl) ?_))
  | ((with_reducible refine e_spr (by with_unfolding_all exact rfl) ?_); intro z)
  | with_reducible refine e_op ?_
  | with_reducible refine e_tup ?_
  | with_reducible refine e_lst ?_
  | with_reducible refine ea_cons ?_
  | with_reducible refine ea_nil ?_
  | ((with_reducible refine e_penLen (by with_unfolding_all exact rfl) ?_))
  | ((with_reducible refine e_lenOwn (by with_unfolding_all exact rfl) ?_))
  | ((with_reducible refine e_tupOwn (by with_unfolding_all exact rfl) ?_))
  | ((with_reducible refine s_aug (by with_unfolding_all exact rfl) ?_); (try dsimp only [List.set]))
  | with_reducible refine e_callXF ?_
  | with_reducible refine r_ipI ?_
  | with_reducible refine e_un ?_
  | with_reducible refine r_neg ?_
  | with_reducible refine gws_cons ?_
  | with_reducible refine gws_nil ?_
  | with_reducible refine gw_tup rfl ?_
  | ((with_reducible refine gw_name (by decide) ?_); (try dsimp only [List.set]))
  | with_reducible refine e_isI ?_
  | with_reducible refine e_isB ?_
  | with_reducible refine e_isS ?_
  | with_reducible refine e_isTu ?_
  | with_reducible refine e_isL ?_
  | with_reducible refine e_cb ?_
  | with_reducible refine e_sl ?_
  | with_reducible refine eo_none ?_
  | with_reducible refine eo_some ?_
  | with_reducible refine et_test ?_
  | with_reducible refine et_B ?_
  | with_reducible refine et_and ?_
  | with_reducible refine et_or ?_
  | with_reducible refine et_not ?_
  | with_reducible refine et_yes ?_
  | with_reducible refine e_andV ?_
  | with_reducible refine e_orV ?_
  | with_reducible refine e_notV ?_
  | with_reducible refine e_if ?_
  | with_reducible refine e_chain ?_
  | with_reducible refine e_callX ?_
  | ((with_reducible refine e_callXP (by with_unfolding_all exact rfl) ?_ (by with_unfolding_all exact trivial)))
  | ((with_reducible refine s_seq ?_); (try dsimp only [List.set]))
  | with_reducible refine s_next ?_
  | with_reducible refine s_ret ?_
  | ((with_reducible refine s_pen (by with_unfolding_all exact rfl) (Or.inr rfl) ?_))
  | ((with_reducible refine s_pen (by with_unfolding_all exact rfl) (Or.inl rfl) ?_))
  | ((with_reducible refine s_spr (by with_unfolding_all exact rfl) ?_))
  | ((with_reducible refine s_putOwn (by with_unfolding_all exact rfl) ?_ (by with_unfolding_all exact rfl)))
  | with_reducible refine s_asg ?_
  | with_reducible refine s_asgG ?_
  | with_reducible refine s_if ?_
  | with_reducible refine g_name ?_
  | with_reducible refine g_tup rfl ?_
  | with_reducible refine gs_cons ?_
  | with_reducible refine gs_nil ?_
  | with_reducible refine r_lt ?_
  | with_reducible refine r_le ?_
  | with_reducible refine r_gt ?_
  | with_reducible refine r_ge ?_
  | with_reducible refine r_add ?_
  | with_reducible refine r_sub ?_
  | with_reducible refine r_eqI ?_
  | with_reducible refine r_eqS ?_
  | with_reducible refine r_eqB ?_
  | with_reducible refine r_neI ?_
  | with_reducible refine r_neB ?_
  | with_reducible refine c_min2 ?_
  | with_reducible refine c_max2 ?_
  | with_reducible refine c_intB ?_
  | with_reducible refine c_len (Or.inl rfl) ?_
  | with_reducible refine c_len (Or.inr rfl) ?_
  | with_reducible refine c_list (Or.inl rfl) ?_
  | with_reducible refine c_list (Or.inr rfl) ?_
  | with_reducible refine c_tuple (Or.inl rfl) ?_
  | with_reducible refine c_tuple (Or.inr rfl) ?_
  | with_reducible refine r_ixT (by with_unfolding_all exact rfl) ?_
  | with_reducible refine r_ixL (by with_unfolding_all exact rfl) ?_
  | with_reducible refine r_slT ?_
  | with_reducible refine r_slL ?_
  | with_reducible refine r_isNone ?_
  | with_reducible refine r_notBl ?_
  | with_reducible refine eps_cons ?_
  | with_reducible refine eps_nil ?_
  | with_reducible refine e_dget1 ?_
  | with_reducible refine ed_callX ?_
  | with_reducible refine ⟨_, rfl, ?_⟩
  | with_reducible refine And.intro (Nat.le_of_ble_eq_true rfl) ?_)
local macro_rules | `(tactic| walk_at "t") => `(tactic| first
  | walk_at "e"
  | refine r_modAny (by first | omega | decide) fun z z0 z1 => ?_
  | refine r_mul (by first | exact Or.inr ⟨by decide, by decide⟩ | exact Or.inl ⟨by decide, by decide⟩ | exact Or.inl ⟨by omega, by omega⟩) ?_
  | refine r_pow ⟨by decide, by decide, by decide⟩ ?_
  | refine r_fdivW (by first | assumption | (rename_i hw _; exact hw _) | exact wide_div (b := 200) (by decide) (by decide) (by decide) (by decide)) ?_
  | with_reducible refine And.intro (by omega) ?_)
local macro_rules | `(tactic| walk_at "k") => `(tactic| first
  | walk_at "e"
  | with_reducible refine ⟨fun hb => absurd hb (by decide +kernel), fun _ => ?_⟩
  | with_reducible refine ⟨fun _ => ?_, fun hb => absurd hb (by decide +kernel)⟩
  | refine ⟨fun hb => absurd hb Bool.false_ne_true, fun _ => ?_⟩
  | refine ⟨fun _ => ?_, fun hb => absurd hb.symm Bool.false_ne_true⟩)
local macro_rules | `(tactic| walk_at "d") => `(tactic| first
  | walk_at "k"
  | refine And.intro (show WfTake _ from ⟨by omega, by omega⟩) (take_all fun k hk => ?_))
local macro_rules | `(tactic| walk_at "o") => `(tactic| first
  | with_reducible refine s_ownList ?_
  | walk_at "d"
  | with_reducible refine ⟨_, Or.inl rfl, ?_⟩)
local macro_rules | `(tactic| walk_at "c") => `(tactic| first
  | with_reducible refine e_ofL (el_catL ?_)
  | with_reducible refine e_ofL (el_sortP ?_)
  | with_reducible refine e_ofL (el_sortSetP ?_)
  | with_reducible refine e_ofL (el_revL ?_)
  | walk_at "d")

section
variable {P : Program} {w : World} {K : PySem.W.Frag} {mg : Str → Option Value} {base : Heap}
theorem ror_end {x : Prog} {s : Stand} {m n : Nat} (h1 : wdF x s m = "ended") (g : Goes x s m) (h2 : wdF x s n = "ended") (g2 : Goes x s n) : m = n := by
  rcases Nat.lt_trichotomy m n with z | z | z
  · exact absurd h1 (g2 m z)
  · exact z
  · exact absurd h2 (g n z)
theorem ror_mix {x : Prog} {s : Stand} {m lead n : Nat} (h1 : wdF x s m = "ended") (a : Apart x s m) (hl : lead < n) (e : stF x s lead = stF x s n) (g : Goes x s (n + 1)) : False := by
  rcases Nat.lt_or_ge n m with z | z
  · exact a lead n hl z e
  · exact g m (by omega) h1
theorem ror_one {x : Prog} {s : Stand} {d e : PyData} (h : RoR x s d) (q : RoR x s e) : d = e := by
  rcases h with ⟨m, _, h1, h2, h3, rfl⟩ | ⟨lead, m, h0, _, h1, h2, h3, rfl⟩
  · rcases q with ⟨n, _, q1, q2, q3, rfl⟩ | ⟨l2, n, q0, _, q1, q2, q3, rfl⟩
    · rw [ror_end h1 h2 q1 q2]
    · exact (ror_mix h1 h3 q0 q1 q2).elim
  · rcases q with ⟨n, _, q1, q2, q3, rfl⟩ | ⟨l2, n, q0, _, q1, q2, q3, rfl⟩
    · exact (ror_mix q1 q3 h0 h1 h2).elim
    · have e1 : m = n := by
        rcases Nat.lt_trichotomy m n with z | z | z
        · exact absurd h1 (q3 lead m h0 z)
        · exact z
        · exact absurd q1 (h3 l2 n q0 z)
      subst e1
      have e2 : lead = l2 := by
        rcases Nat.lt_trichotomy lead l2 with z | z | z
        · exact absurd (h1.trans q1.symm) (h3 lead l2 z q0)
        · exact z
        · exact absurd (q1.trans h1.symm) (h3 l2 lead z h0)
      rw [e2]
theorem ror_bad {x : Prog} {s : Stand} {d : PyData} (h : RoR x s d) (b : RoBad x s) : False := by
  rcases h with ⟨m, hm, h1, _, _, rfl⟩ | ⟨lead, m, h0, hm, h1, _, _, rfl⟩
  · exact b.1 m (by omega) h1
  · exact b.2 lead m h0 (by omega) h1
theorem up_ror {x : Prog} {s : Stand} {d : PyData} (h : RoR x s d) : Up (Up (Up (Up fun _ => False))) d := by
  rcases h with ⟨m, _, _, _, _, rfl⟩ | ⟨lead, m, _, _, _, _, _, rfl⟩
  · refine ⟨Nat.le_of_ble_eq_true rfl, fun d hd => ?_⟩
    rcases List.mem_cons.mp hd with rfl | hd
    · trivial
    · rw [List.mem_singleton.mp hd]
      trivial
  · refine ⟨Nat.le_of_ble_eq_true rfl, fun d hd => ?_⟩
    rcases List.mem_cons.mp hd with rfl | hd
    · trivial
    rcases List.mem_cons.mp hd with rfl | hd
    · trivial
    · rw [List.mem_singleton.mp hd]
      trivial
theorem ror_some {x : Prog} {s : Stand} {d : PyData} (h : RoR x s d) : isNone d = false := by
  rcases h with ⟨m, _, _, _, _, rfl⟩ | ⟨lead, m, _, _, _, _, _, rfl⟩ <;> rfl
abbrev spRt (K : PySem.W.Frag) (ts : List Addr) : Sp := SpX (α := RoA) K ts RoA.Ok (fun a => [a.x.D, a.s.D]) (fun a d => d = .bool true)
set_option maxHeartbeats 8000000 in
theorem ok_law_right (T : Tx K mg base) : FnOk P w K mg base CX0 5 T.f_law_right T.d_law_right ["program", "stand"] (spRt K T.ts) := by
  refine fnX T.F_law_right sc_law_right (fun _ _ => rfl) (fun cdv A outer s H E hr => ⟨_, (pss_cons (ps_set (i := 2) sc_law_right.nd rfl (.inl rfl) (pe_call (ok_law_due T) (hr.mono (by decide)) (by rfl) T.g_law_due T.F_law_due.kp T.b_law_due .nil pass0 (pa_cons (pv 0) (pa_cons (pv 1) pa_nil))))
      (pss_cons (ps_set (i := 3) sc_law_right.nd rfl (.inl rfl) pe_non)
      (pss_cons (ps_set (i := 4) sc_law_right.nd rfl (.inl rfl) pe_non)
      (pss_held (i := 5) rfl rfl sc_law_right.nd rfl rfl ⟨by rfl, by decide, .inl T.gC_MoveError⟩ (fun W pn xe tk _ => (pss_one (ps_set (i := 4) sc_law_right.nd rfl (.inl rfl) (pe_callS (ok_round_of T) (hr.mono (by decide)) (by rfl) T.g_round_of T.F_round_of.kp T.b_round_of (fun σ => passAt tk σ) (pa_cons (pv 0) (pa_cons (pv 1) pa_nil))))))
      (fun a oe cls d pn hz hf => (pss_one (ps_set (i := 3) sc_law_right.nd rfl (.inl rfl) (pv 5))))
      (pss_cons (ps_if (pt_cmpR op_notN (pv 2) pe_non (nomark _))
      (pss_one (ps_ret (pe_and (pe_cmpR op_isN (pv 3) pe_non (nomark _)) (pe_one (pe_call (ok_law_same T) (hr.mono (by decide)) (by rfl) T.g_law_same T.F_law_same.kp T.b_law_same .nil pass0 (pa_cons (pv 4) (pa_cons (pv 2) pa_nil)))))))
      pss_nil)
      (pss_cons (ps_if (pt_val (pe_callB kx_neverI (by rfl) T.m_isinstance (by decide +kernel) (pa_cons (pv 3) (pa_cons (pe_tup (pa_cons (pe_glob (v := .ref T.C_NoHouse) (by rfl) T.gC_NoHouse rfl) (pa_cons (pe_glob (v := .ref T.C_NoLetter) (by rfl) T.gC_NoLetter rfl) (pa_cons (pe_glob (v := .ref T.C_NoRow) (by rfl) T.gC_NoRow rfl) (pa_cons (pe_glob (v := .ref T.C_NoStep) (by rfl) T.gC_NoStep rfl) (pa_cons (pe_glob (v := .ref T.C_NoText) (by rfl) T.gC_NoText rfl) pa_nil)))))) pa_nil))))
      (pss_one (ps_ret pe_bl))
      pss_nil)
      (pss_one (ps_ret (pe_and (pe_callB kx_neverI (by rfl) T.m_isinstance (by decide +kernel) (pa_cons (pv 3) (pa_cons (pe_glob (v := .ref T.C_TooMany) (by rfl) T.gC_TooMany rfl) pa_nil))) (pe_one (pe_callB kx_neverI (by rfl) T.m_isinstance (by decide +kernel) (pa_cons (pv 3) (pa_cons (pe_bltn (v := .ty "ValueError") (by rfl) T.m_ValueError (by decide +kernel) rfl) pa_nil)))))))))
      (fun a oe cls d pn hz hf => (pss_cons (ps_if (pt_cmpR op_notN (pv 2) pe_non (nomark _))
      (pss_one (ps_ret (pe_and (pe_cmpR op_isN (pv 3) pe_non (nomark _)) (pe_one (pe_call (ok_law_same T) (hr.mono (by decide)) (by rfl) T.g_law_same T.F_law_same.kp T.b_law_same .nil pass0 (pa_cons (pv 4) (pa_cons (pv 2) pa_nil)))))))
      pss_nil)
      (pss_cons (ps_if (pt_val (pe_callB (kx_isETH T.X_TooMany hz hf) (by rfl) T.m_isinstance (by decide +kernel) (pa_cons (pv 3) (pa_cons (pe_tup (pa_cons (pe_glob (v := .ref T.C_NoHouse) (by rfl) T.gC_NoHouse rfl) (pa_cons (pe_glob (v := .ref T.C_NoLetter) (by rfl) T.gC_NoLetter rfl) (pa_cons (pe_glob (v := .ref T.C_NoRow) (by rfl) T.gC_NoRow rfl) (pa_cons (pe_glob (v := .ref T.C_NoStep) (by rfl) T.gC_NoStep rfl) (pa_cons (pe_glob (v := .ref T.C_NoText) (by rfl) T.gC_NoText rfl) pa_nil)))))) pa_nil))))
      (pss_one (ps_ret pe_bl))
      pss_nil)
      (pss_one (ps_ret (pe_and (pe_callB (kx_isEH T.X_TooMany hz hf) (by rfl) T.m_isinstance (by decide +kernel) (pa_cons (pv 3) (pa_cons (pe_glob (v := .ref T.C_TooMany) (by rfl) T.gC_TooMany rfl) pa_nil))) (pe_one (pe_callB (kx_isEH T.X_TooMany hz hf) (by rfl) T.m_isinstance (by decide +kernel) (pa_cons (pv 3) (pa_cons (pe_bltn (v := .ty "ValueError") (by rfl) T.m_ValueError (by decide +kernel) rfl) pa_nil)))))))))))))), fun a ha => ?_⟩)
  try simp only [nox_K, blk_K, cx_K]
  show S K ⟨none, T.ts⟩ H _ [some (.d _), some (.d _), none, none, none, none] _
  refine s_seq (s_asg ?_)
  repeat walk_at "k"
  refine ⟨ha, fun due hdue => ?_⟩
  dsimp only [List.set]
  refine s_seq (s_asg ?_)
  repeat walk_at "k"
  rcases hdue with hdue | ⟨rfl, hbad⟩
  · refine s_held T.e1 ?_
    repeat walk_at "k"
    refine ⟨ha, fun d hd => ?_, fun hb => (ror_bad hdue hb).elim⟩
    dsimp only [List.set]
    have e := ror_one hd hdue
    subst e
    refine s_seq (s_if ?_)
    repeat walk_at "k"
    refine r_notNone ?_
    rw [ror_some hdue]
    refine ⟨_, rfl, fun _ => ?_, fun h => by cases h⟩
    repeat walk_at "k"
    refine ⟨up_ror hdue, fun _ e => e⟩
  · refine s_held T.e1 ?_
    repeat walk_at "k"
    refine ⟨ha, fun d hd => (ror_bad hd hbad).elim, fun hb => ⟨rfl, fun e σ' G' H' N' ev hn => ?_⟩⟩
    have hl : σ'.length = 6 := ev.len
    have h2 : ((((σ'.set 5 (some (V.ref e))).set 3 (some (V.ref e))).set 5 none)[2]? : Option (Option V)) = some (some .non) := by
      rw [List.getElem?_set_ne (by decide), List.getElem?_set_ne (by decide), List.getElem?_set_ne (by decide)]
      obtain ⟨v, hv, hd⟩ := ev.sl 2 (.d PyData.none) rfl
      cases hd
      exact hv
    have h3 : ((((σ'.set 5 (some (V.ref e))).set 3 (some (V.ref e))).set 5 none)[3]? : Option (Option V)) = some (some (.ref e)) := by
      rw [List.getElem?_set_ne (by decide), List.getElem?_set_self (by rw [List.length_set]; omega)]
    refine ⟨.ref e, List.getElem?_set_self (by omega), ?_⟩
    refine ⟨.non, h2, rfl, _, rfl, ?_⟩
    dsimp only
    rw [if_neg (show ¬ ((!decide (V.non = V.non)) = true) by rw [decide_eq_true rfl]; decide)]
    refine ⟨.ref e, h3, by rw [sizeLine_eq]; show 5 ≤ 16777216; decide, fun p hp => ⟨rfl, rfl, p, _, _, false, rfl, upd_same, .cons (.own _) (.cons (.own _) (.cons (.own _) (.cons (.own _) (.cons (.own _) .nil)))), T.e4, false, rfl, ?_⟩⟩
    dsimp only
    rw [if_neg (show ¬ (false = true) by decide)]
    refine ⟨.ref e, h3, rfl, rfl, .ref _, .ref _, true, rfl, fun u r => r, T.e2, true, rfl, ?_⟩
    rw [if_pos rfl]
    exact ⟨.ref e, h3, rfl, rfl, .ty "ValueError", .type "ValueError", true, rfl, fun u r => r, T.e3, hn p _ hp⟩
end
end K07
set_option Elab.async false
set_option linter.all false
set_option maxRecDepth 100000
namespace K07
open PySem PySem.Spec PyProof.Rows L2 Dl Wm
local macro_rules | `(tactic| walk_at "e") => `(tactic| first
  | ((with_reducible refine e_var (by with_unfolding_all exact rfl) ?_))
  | with_reducible refine e_int ?_
  | with_reducible refine e_str ?_
  | with_reducible refine e_bl ?_
  | with_reducible refine e_non ?_
  | ((with_reducible refine e_pen (by with_unfolding_all exact rfl) (Or.inr rfl) ?_); intro z hz)
  | ((with_reducible refine e_pen (by with_unfolding_all exact rfl) (Or.inl rfl) ?_); intro z hz)
  | ((with_reducible refine e_penIx (by with_unfolding_all exact rfl) ?_))
  | ((with_reducible refine e_spr (by with_unfolding_all exact rfl) ?_); intro z)
  | with_reducible refine e_op ?_
  | with_reducible refine e_tup ?_
  | with_reducible refine e_lst ?_
  | with_reducible refine ea_cons ?_
  | with_reducible refine ea_nil ?_
  | ((with_reducible refine e_penLen (by with_unfolding_all exact rfl) ?_))
  | ((with_reducible refine e_lenOwn (by with_unfolding_all exact rfl) ?_))
  | ((with_reducible refine e_tupOwn (by with_unfolding_all exact rfl) ?_))
  | ((with_reducible refine s_aug (by with_unfolding_all exact rfl) ?_); (try dsimp only [List.set]))
  | with_reducible refine e_callXF ?_
  | with_reducible refine r_ipI ?_
  | with_reducible refine e_un ?_
  | with_reducible refine r_neg ?_
  | with_reducible refine gws_cons ?_
  | with_reducible refine gws_nil ?_
  | with_reducible refine gw_tup rfl ?_
  | ((with_reducible refine gw_name (by decide) ?_); (try dsimp only [List.set]))
  | with_reducible refine e_isI ?_
  | with_reducible refine e_isB ?_
  | with_reducible refine e_isS ?_
  | with_reducible refine e_isTu ?_
  | with_reducible refine e_isL ?_
  | with_reducible refine e_cb ?_
  | with_reducible refine e_sl ?_
  | with_reducible refine eo_none ?_
  | with_reducible refine eo_some ?_
  | with_reducible refine et_test ?_
  | with_reducible refine et_B ?_
  | with_reducible refine et_and ?_
  | with_reducible refine et_or ?_
  | with_reducible refine et_not ?_
  | with_reducible refine et_yes ?_
  | with_reducible refine e_andV ?_
  | with_reducible refine e_orV ?_
  | with_reducible refine e_notV ?_
  | with_reducible refine e_if ?_
  | with_reducible refine e_chain ?_
  | with_reducible refine e_callX ?_
  | ((with_reducible refine e_callXP (by with_unfolding_all exact rfl) ?_ (by with_unfolding_all exact trivial)))
  | ((with_reducible refine s_seq ?_); (try dsimp only [List.set]))
  | with_reducible refine s_next ?_
  | with_reducible refine s_ret ?_
  | ((with_reducible refine s_pen (by with_unfolding_all exact rfl) (Or.inr rfl) ?_))
  | ((with_reducible refine s_pen (by with_unfolding_all exact rfl) (Or.inl rfl) ?_))
  | ((with_reducible refine s_spr (by with_unfolding_all exact rfl) ?_))
  | ((with_reducible refine s_putOwn (by with_unfolding_all exact rfl) ?_ (by with_unfolding_all exact rfl)))
  | with_reducible refine s_asg ?_
  | with_reducible refine s_asgG ?_
  | with_reducible refine s_if ?_
  | with_reducible refine g_name ?_
  | with_reducible refine g_tup rfl ?_
  | with_reducible refine gs_cons ?_
  | with_reducible refine gs_nil ?_
  | with_reducible refine r_lt ?_
  | with_reducible refine r_le ?_
  | with_reducible refine r_gt ?_
  | with_reducible refine r_ge ?_
  | with_reducible refine r_add ?_
  | with_reducible refine r_sub ?_
  | with_reducible refine r_eqI ?_
  | with_reducible refine r_eqS ?_
  | with_reducible refine r_eqB ?_
  | with_reducible refine r_neI ?_
  | with_reducible refine r_neB ?_
  | with_reducible refine c_min2 ?_
  | with_reducible refine c_max2 ?_
  | with_reducible refine c_intB ?_
  | with_reducible refine c_len (Or.inl rfl) ?_
  | with_reducible refine c_len (Or.inr rfl) ?_
  | with_reducible refine c_list (Or.inl rfl) ?_
  | with_reducible refine c_list (Or.inr rfl) ?_
  | with_reducible refine c_tuple (Or.inl rfl) ?_
  | with_reducible refine c_tuple (Or.inr rfl) ?_
  | with_reducible refine r_ixT (by with_unfolding_all exact rfl) ?_
  | with_reducible refine r_ixL (by with_unfolding_all exact rfl) ?_
  | with_reducible refine r_slT ?_
  | with_reducible refine r_slL ?_
  | with_reducible refine r_isNone ?_
  | with_reducible refine r_notBl ?_
  | with_reducible refine eps_cons ?_
  | with_reducible refine eps_nil ?_
  | with_reducible refine e_dget1 ?_
  | with_reducible refine ed_callX ?_
  | with_reducible refine ⟨_, rfl, ?_⟩
  | with_reducible refine And.intro (Nat.le_of_ble_eq_true rfl) ?_)
local macro_rules | `(tactic| walk_at "t") => `(tactic| first
  | walk_at "e"
  | refine r_modAny (by first | omega | decide) fun z z0 z1 => ?_
  | refine r_mul (by first | exact Or.inr ⟨by decide, by decide⟩ | exact Or.inl ⟨by decide, by decide⟩ | exact Or.inl ⟨by omega, by omega⟩) ?_
  | refine r_pow ⟨by decide, by decide, by decide⟩ ?_
  | refine r_fdivW (by first | assumption | (rename_i hw _; exact hw _) | exact wide_div (b := 200) (by decide) (by decide) (by decide) (by decide)) ?_
  | with_reducible refine And.intro (by omega) ?_)
local macro_rules | `(tactic| walk_at "k") => `(tactic| first
  | walk_at "e"
  | with_reducible refine ⟨fun hb => absurd hb (by decide +kernel), fun _ => ?_⟩
  | with_reducible refine ⟨fun _ => ?_, fun hb => absurd hb (by decide +kernel)⟩
  | refine ⟨fun hb => absurd hb Bool.false_ne_true, fun _ => ?_⟩
  | refine ⟨fun _ => ?_, fun hb => absurd hb.symm Bool.false_ne_true⟩)
local macro_rules | `(tactic| walk_at "d") => `(tactic| first
  | walk_at "k"
  | refine And.intro (show WfTake _ from ⟨by omega, by omega⟩) (take_all fun k hk => ?_))
local macro_rules | `(tactic| walk_at "o") => `(tactic| first
  | with_reducible refine s_ownList ?_
  | walk_at "d"
  | with_reducible refine ⟨_, Or.inl rfl, ?_⟩)
local macro_rules | `(tactic| walk_at "c") => `(tactic| first
  | with_reducible refine e_ofL (el_catL ?_)
  | with_reducible refine e_ofL (el_sortP ?_)
  | with_reducible refine e_ofL (el_sortSetP ?_)
  | with_reducible refine e_ofL (el_revL ?_)
  | walk_at "d")

section
variable {P : Program} {w : World} {K : PySem.W.Frag} {mg : Str → Option Value} {base : Heap}
structure PSR (d : PyData) : Prop where
  is : ∃ (x : Prog) (s : Stand), x.Ok ∧ s.Ok x ∧ d = .tuple [x.D, s.D]
abbrev spCt (K : PySem.W.Frag) (ts : List Addr) : Sp := SpXP (α := Unit) K ts (fun _ => True) (fun _ => []) (fun _ d => PSR d)
def rowsD (l : List Wm.Row) : List PyData := l.map Wm.Row.D
theorem rowsD_len (l : List Wm.Row) : (rowsD l).length = l.length := by unfold rowsD; rw [List.length_map]
theorem rowsD_app (l m : List Wm.Row) : rowsD (l ++ m) = rowsD l ++ rowsD m := by unfold rowsD; rw [List.map_append]
def shiftR (a : Nat) : Wm.Row → Wm.Row
  | .jump p k => .jump p (k + a)
  | r => r
def mo4 : List Wm.Row := [.add 0 2, .jump 0 3, .jump 3 0, .add 1 2]
def mo2 : List Wm.Row := [.jump 3 0, .fin]
abbrev LC (w st : Nat) (mo ah : Option AV) : Lv := [some .pen, some (.d (.int w)), some (.d (.int st)), mo, ah, none, none, none]
abbrev LCi (w st : Nat) (mo ah : List Wm.Row) (l : List Wm.Row) : Lv := [some .pen, some (.d (.int w)), some (.d (.int st)), some (.d (.list (rowsD mo))), some (.d (.list (rowsD ah))), some (.own (.lst (rowsD l))), none, none]
def Turn (r : Wm.Row) : Prop := r = .jump 3 0 ∨ ∃ k, k < 2 ∧ r = .jump 1 (5 + k)
theorem cnt_ok {w st : Nat} {ah : List Wm.Row} {r : Wm.Row} (hw1 : 10 ≤ w) (hw2 : w ≤ 100) (hs : st ≤ 3) (ha : ah = [] ∨ ah = [.set 2 st]) (hr : Turn r) :
    (Prog.mk 4 w ((ah ++ (mo4 ++ [r] ++ mo2)).map (shiftR ah.length))).Ok := by
  have hl : ah.length ≤ 1 := by
    rcases ha with rfl | rfl
    · exact Nat.zero_le _
    · exact Nat.le_refl _
  have hn : ((ah ++ (mo4 ++ [r] ++ mo2)).map (shiftR ah.length)).length = ah.length + 7 := by
    rw [List.length_map, List.length_append]
    rfl
  refine ⟨by show 1 ≤ 4; decide, by show 4 ≤ 12; decide, by show 2 ≤ w; omega, hw2, by show 1 ≤ List.length _; rw [hn]; omega, by show List.length _ ≤ 20; rw [hn]; omega, fun q hq => ?_⟩
  dsimp only at hq ⊢
  rw [hn]
  obtain ⟨q0, hq0, rfl⟩ := List.mem_map.mp hq
  rcases List.mem_append.mp hq0 with h | h
  · rcases ha with rfl | rfl
    · exact nomatch h
    · rw [List.mem_singleton.mp h]
      exact ⟨by show 2 < 4; decide, by show st < w; omega⟩
  rcases List.mem_append.mp h with h | h
  · rcases List.mem_append.mp h with h | h
    · rcases List.mem_cons.mp h with rfl | h
      · exact ⟨by decide, by decide⟩
      rcases List.mem_cons.mp h with rfl | h
      · exact ⟨by decide, by show 3 + ah.length < ah.length + 7; omega⟩
      rcases List.mem_cons.mp h with rfl | h
      · exact ⟨by decide, by show 0 + ah.length < ah.length + 7; omega⟩
      rw [List.mem_singleton.mp h]
      exact ⟨by decide, by decide⟩
    · rw [List.mem_singleton.mp h]
      rcases hr with rfl | ⟨k, hk, rfl⟩
      · exact ⟨by decide, by show 0 + ah.length < ah.length + 7; omega⟩
      · exact ⟨by decide, by show 5 + k + ah.length < ah.length + 7; omega⟩
  · rcases List.mem_cons.mp h with rfl | h
    · exact ⟨by decide, by show 0 + ah.length < ah.length + 7; omega⟩
    rw [List.mem_singleton.mp h]
    trivial
set_option maxHeartbeats 4000000 in
theorem ok_law_counter (T : Tx K mg base) : FnOk P w K mg base CX0 2 T.f_law_counter T.d_law_counter ["pen"] (spCt K T.ts) := by
  refine fnXP T.F_law_counter sc_law_counter ⟨_, _, rfl⟩ (fun _ _ => rfl) (fun cdv A outer s H E hr => ⟨_, (pss_cons (ps_set (i := 1) sc_law_counter.nd rfl (.inl rfl) (pe_op op_add pe_int (pe_call (ok_law_take T) (hr.mono (by decide)) (by rfl) T.g_law_take T.F_law_take.kp T.b_law_take .nil pass0 (pa_cons (pv 0) (pa_cons pe_int pa_nil)))))
      (pss_cons (ps_set (i := 2) sc_law_counter.nd rfl (.inl rfl) (pe_op op_add pe_int (pe_call (ok_law_take T) (hr.mono (by decide)) (by rfl) T.g_law_take T.F_law_take.kp T.b_law_take .nil pass0 (pa_cons (pv 0) (pa_cons pe_int pa_nil)))))
      (pss_cons (ps_set (i := 3) sc_law_counter.nd rfl (.inl rfl) (pe_lst (pa_cons (pe_tup (pa_cons pe_str (pa_cons pe_int (pa_cons pe_int pa_nil)))) (pa_cons (pe_tup (pa_cons pe_str (pa_cons pe_int (pa_cons pe_int pa_nil)))) (pa_cons (pe_tup (pa_cons pe_str (pa_cons pe_int (pa_cons pe_int pa_nil)))) (pa_cons (pe_tup (pa_cons pe_str (pa_cons pe_int (pa_cons pe_int pa_nil)))) pa_nil))))))
      (pss_cons (ps_set (i := 3) sc_law_counter.nd rfl (.inl rfl) (pe_op (kx_catL (K := K) rfl) (pv 3) (pe_lst (pa_cons (pe_ix (kx_ixL K rfl) (pe_lst (pa_cons (pe_tup (pa_cons pe_str (pa_cons pe_int (pa_cons pe_int pa_nil)))) (pa_cons (pe_tup (pa_cons pe_str (pa_cons pe_int (pa_cons (pe_op op_add pe_int (pe_call (ok_law_take T) (hr.mono (by decide)) (by rfl) T.g_law_take T.F_law_take.kp T.b_law_take .nil pass0 (pa_cons (pv 0) (pa_cons pe_int pa_nil)))) pa_nil)))) pa_nil))) (pe_call (ok_law_take T) (hr.mono (by decide)) (by rfl) T.g_law_take T.F_law_take.kp T.b_law_take .nil pass0 (pa_cons (pv 0) (pa_cons pe_int pa_nil))) (fun _ _ => rfl)) pa_nil))))
      (pss_cons (ps_set (i := 3) sc_law_counter.nd rfl (.inl rfl) (pe_op (kx_catL (K := K) rfl) (pv 3) (pe_lst (pa_cons (pe_tup (pa_cons pe_str (pa_cons pe_int (pa_cons pe_int pa_nil)))) (pa_cons (pe_tup (pa_cons pe_str pa_nil)) pa_nil)))))
      (pss_cons (ps_set (i := 4) sc_law_counter.nd rfl (.inl rfl) (pe_slice (kx_slL K rfl) (pe_lst (pa_cons (pe_tup (pa_cons pe_str (pa_cons pe_int (pa_cons (pv 2) pa_nil)))) pa_nil)) po_none (po_some (pe_call (ok_law_take T) (hr.mono (by decide)) (by rfl) T.g_law_take T.F_law_take.kp T.b_law_take .nil pass0 (pa_cons (pv 0) (pa_cons pe_int pa_nil))))))
      (pss_cons (ps_set (i := 5) sc_law_counter.nd rfl (.inl rfl) (pe_lst pa_nil))
      (pss_cons (ps_for PassesOwn.never rfl (kx_piL K rfl (pe_op (kx_catL (K := K) rfl) (pv 4) (pv 3))) (pg_name (i := 6) sc_law_counter.nd rfl (.inl rfl))
      (pss_cons (ps_if (pt_cmpR op_eq (pe_ix (kx_ixT K rfl) (pv 6) pe_int (fun _ _ => rfl)) pe_str (nomark _))
      (pss_one (ps_set (i := 6) sc_law_counter.nd rfl (.inl rfl) (pe_tup (pa_cons pe_str (pa_cons (pe_ix (kx_ixT K rfl) (pv 6) pe_int (fun _ _ => rfl)) (pa_cons (pe_op op_add (pe_ix (kx_ixT K rfl) (pv 6) pe_int (fun _ _ => rfl)) (pe_callB (kx_len K rfl) (by rfl) T.m_len PySem.boot_len (pa_cons (pv 4) pa_nil))) pa_nil))))))
      pss_nil)
      (pss_one (ps_expr (pe_bm PySem.F.plainAttrs_list PySem.F.slot_list_append PySem.F.type_list_append mt_append (pv 5) (pa_cons (pv 6) pa_nil))))))
      (pss_cons (ps_set (i := 7) sc_law_counter.nd rfl (.inl rfl) (pe_tup (pa_cons (pe_call (ok_law_take T) (hr.mono (by decide)) (by rfl) T.g_law_take T.F_law_take.kp T.b_law_take .nil pass0 (pa_cons (pv 0) (pa_cons (pv 1) pa_nil))) (pa_cons (pe_call (ok_law_take T) (hr.mono (by decide)) (by rfl) T.g_law_take T.F_law_take.kp T.b_law_take .nil pass0 (pa_cons (pv 0) (pa_cons (pv 1) pa_nil))) (pa_cons (pv 2) (pa_cons pe_int pa_nil))))))
      (pss_one (ps_ret (pe_tup (pa_cons (pe_tup (pa_cons pe_int (pa_cons (pv 1) (pa_cons (pe_callTy (kx_tuple K rfl) (by rfl) T.m_tuple (by decide +kernel) (pa_cons (pv 5) pa_nil)) pa_nil)))) (pa_cons (pe_tup (pa_cons pe_int (pa_cons (pv 7) pa_nil))) pa_nil)))))))))))))), fun pa pc pn u hu => ?_⟩)
  try simp only [nox_K, blk_K, cx_K]
  show S K ⟨some ⟨pa, .pen pc pn⟩, T.ts⟩ H _ [some .pen, none, none, none, none, none, none, none] _
  refine s_cut (fun L => ∃ v : Nat, 10 ≤ v ∧ v ≤ 100 ∧ Sub [some .pen, some (.d (.int v)), none, none, none, none, none, none] L) (s_asg ?_) fun L' ⟨v, hv1, hv2, sb⟩ => S.sub ?_ sb
  · repeat walk_at "d"
    rename_i k hk
    refine ⟨10 + k, by omega, by omega, ?_⟩
    rw [show (10 : Int) + (k : Int) = ((10 + k : Nat) : Int) by omega]
    dsimp only [List.set]
    repeat (first | exact Sub.nil | apply Sub.keep | apply Sub.drop)
  refine s_cut (fun L => ∃ st : Nat, st ≤ 3 ∧ Sub (LC v st none none) L) (s_asg ?_) fun L' ⟨st, hs, sb⟩ => S.sub ?_ sb
  · repeat walk_at "d"
    rename_i k hk
    refine ⟨1 + k, by omega, ?_⟩
    rw [show (1 : Int) + (k : Int) = ((1 + k : Nat) : Int) by omega]
    dsimp only [List.set]
    repeat (first | exact Sub.nil | apply Sub.keep | apply Sub.drop)
  refine s_cut (fun L => Sub (LC v st (some (.d (.list (rowsD mo4)))) none) L) (s_asg ?_) fun L' sb => S.sub ?_ sb
  · repeat walk_at "d"
    exact Sub.refl _
  refine s_cut (fun L => ∃ r : Wm.Row, Turn r ∧ Sub (LC v st (some (.d (.list (rowsD (mo4 ++ [r]))))) none) L) (s_asg (e_ofL (el_catL (e_var rfl ?_)))) fun L' ⟨r, hr1, sb⟩ => S.sub ?_ sb
  · repeat walk_at "d"
    rename_i k0 hk0 k1 hk1
    have hr : ∃ r : Wm.Row, atI [PyData.tuple [.str "jump", .int 3, .int 0], .tuple [.str "jump", .int 1, .int (5 + (k0 : Int))]] (k1 : Int) = some r.D ∧ Turn r := by
      rcases (by omega : k1 = 0 ∨ k1 = 1) with rfl | rfl
      · exact ⟨.jump 3 0, rfl, .inl rfl⟩
      · exact ⟨.jump 1 (5 + k0), rfl, .inr ⟨k0, by omega, rfl⟩⟩
    obtain ⟨r, e0, hr⟩ := hr
    refine r_ixL e0 ?_
    repeat walk_at "d"
    refine ⟨_, _, rfl, rfl, by rw [rowsD_len]; exact Nat.le_of_ble_eq_true rfl, r, hr, ?_⟩
    rw [rowsD_app]
    dsimp only [List.set]
    exact Sub.refl _
  refine s_cut (fun L => Sub (LC v st (some (.d (.list (rowsD (mo4 ++ [r] ++ mo2))))) none) L) (s_asg (e_ofL (el_catL (e_var rfl ?_)))) fun L' sb => S.sub ?_ sb
  · repeat walk_at "d"
    refine ⟨_, _, rfl, rfl, by rw [rowsD_len]; exact Nat.le_of_ble_eq_true rfl, ?_⟩
    rw [rowsD_app _ mo2]
    dsimp only [List.set]
    exact Sub.refl _
  refine s_cut (fun L => ∃ ah : List Wm.Row, (ah = [] ∨ ah = [.set 2 st]) ∧ Sub (LC v st (some (.d (.list (rowsD (mo4 ++ [r] ++ mo2))))) (some (.d (.list (rowsD ah))))) L) (s_asg ?_) fun L' ⟨ah, ha, sb⟩ => S.sub ?_ sb
  · repeat walk_at "d"
    rename_i k hk
    rcases (by omega : k = 0 ∨ k = 1) with rfl | rfl
    · exact ⟨[], .inl rfl, Sub.refl _⟩
    · exact ⟨[.set 2 st], .inr rfl, Sub.refl _⟩
  have hok := cnt_ok hv1 hv2 hs ha hr1
  have hal : ah.length ≤ 1 := by
    rcases ha with rfl | rfl
    · exact Nat.zero_le _
    · exact Nat.le_refl _
  generalize hmo : (mo4 ++ [r] ++ mo2 : List Wm.Row) = mo at hok
  have hml : mo.length = 7 := by
    rw [← hmo]
    rfl
  refine s_seq (s_ownNil ?_)
  dsimp only [List.set]
  refine s_cut (fun L => Sub (LCi v st mo ah ((ah ++ mo).map (shiftR ah.length))) L) (s_forI (it_list (e_ofL (el_catL (e_var rfl (e_var rfl ⟨_, _, rfl, rfl, by rw [rowsD_len, rowsD_len]; omega, ?_⟩)))))) fun L' sb => S.sub ?_ sb
  · rw [← rowsD_app]
    refine ⟨_, rfl, fun i L => L = LCi v st mo ah (((ah ++ mo).take i).map (shiftR ah.length)), ⟨_, Sub.refl _, rfl⟩, fun i d L' hd e => ?_, fun L' e L4 s4 => ?_⟩
    · subst e
      unfold rowsD at hd
      rw [List.getElem?_map] at hd
      obtain ⟨q, hq, rfl⟩ := Option.map_eq_some_iff.mp hd
      have htk : (((ah ++ mo).take (i + 1)).map (shiftR ah.length)) = (((ah ++ mo).take i).map (shiftR ah.length)) ++ [shiftR ah.length q] := by
        rw [List.take_add_one, hq, List.map_append]
        rfl
      have hlt : (rowsD (((ah ++ mo).take i).map (shiftR ah.length))).length < 100000 := by
        rw [rowsD_len, List.length_map, List.length_take, List.length_append]
        omega
      refine g_name ?_
      dsimp only [List.set]
      refine s_cut (fun L => Sub [some .pen, some (.d (.int v)), some (.d (.int st)), some (.d (.list (rowsD mo))), some (.d (.list (rowsD ah))), some (.own (.lst (rowsD (((ah ++ mo).take i).map (shiftR ah.length))))), some (.d (shiftR ah.length q).D), none] L) (s_if ?_) fun L' sb => S.sub ?_ sb
      · cases q with
        | jump p k =>
          dsimp only [Wm.Row.D, shiftR]
          repeat walk_at "k"
          rw [rowsD_len]
          repeat walk_at "k"
          rw [show (k : Int) + (ah.length : Int) = ((k + ah.length : Nat) : Int) by omega]
          exact Sub.refl _
        | set p k =>
          dsimp only [Wm.Row.D, shiftR]
          repeat walk_at "k"
          exact Sub.refl _
        | add p k =>
          dsimp only [Wm.Row.D, shiftR]
          repeat walk_at "k"
          exact Sub.refl _
        | say p =>
          dsimp only [Wm.Row.D, shiftR]
          repeat walk_at "k"
          exact Sub.refl _
        | take p =>
          dsimp only [Wm.Row.D, shiftR]
          repeat walk_at "k"
          exact Sub.refl _
        | fin =>
          dsimp only [Wm.Row.D, shiftR]
          repeat walk_at "k"
          exact Sub.refl _
      · refine s_appOwn rfl hlt (e_var rfl ?_)
        refine ⟨LCi v st mo ah (((ah ++ mo).take (i + 1)).map (shiftR ah.length)), ?_, rfl⟩
        rw [htk]
        unfold LCi
        rw [rowsD_app]
        dsimp only [List.set]
        repeat (first | exact Sub.nil | apply Sub.keep | apply Sub.drop)
    · subst e
      rw [rowsD_len, List.take_of_length_le (Nat.le_refl _)] at s4
      exact s4
  refine s_cut (fun L => ∃ a b : Nat, a < v ∧ b < v ∧ Sub [some .pen, some (.d (.int v)), some (.d (.int st)), some (.d (.list (rowsD mo))), some (.d (.list (rowsD ah))), some (.own (.lst (rowsD ((ah ++ mo).map (shiftR ah.length))))), none, some (.d (.tuple (natsD [a, b, st, 0])))] L) (s_asg ?_) fun L' ⟨a, b, hva, hvb, sb⟩ => S.sub ?_ sb
  · repeat walk_at "d"
    rename_i a ha b hb
    exact ⟨a, b, by omega, by omega, Sub.refl _⟩
  repeat walk_at "d"
  exact ⟨⟨_, ⟨0, [a, b, st, 0]⟩, hok, ⟨Nat.zero_le _, rfl, fun u hu => by
    rcases List.mem_cons.mp hu with rfl | hu
    · exact hva
    rcases List.mem_cons.mp hu with rfl | hu
    · exact hvb
    rcases List.mem_cons.mp hu with rfl | hu
    · show u < v; omega
    · rw [List.mem_singleton.mp hu]
      show 0 < v; omega⟩, rfl⟩⟩
theorem rng_ok {ah : List Wm.Row} {k : Nat} (ha : ah = [] ∨ ah = [.set 2 0]) (hk : k ≤ 9) : (Prog.mk 4 100 (ah ++ [.add 0 1] ++ List.replicate k (.add 2 2) ++ [.jump 3 ah.length])).Ok := by
  have hl : ah.length ≤ 1 := by
    rcases ha with rfl | rfl
    · exact Nat.zero_le _
    · exact Nat.le_refl _
  have hn : (ah ++ [.add 0 1] ++ List.replicate k (.add 2 2) ++ [.jump 3 ah.length] : List Wm.Row).length = ah.length + k + 2 := by
    rw [List.length_append, List.length_append, List.length_append, List.length_replicate]
    show ah.length + 1 + k + 1 = _
    omega
  refine ⟨by show 1 ≤ 4; decide, by show 4 ≤ 12; decide, by show 2 ≤ 100; decide, Nat.le_refl _, by show 1 ≤ List.length _; rw [hn]; omega, by show List.length _ ≤ 20; rw [hn]; omega, fun q hq => ?_⟩
  dsimp only at hq ⊢
  rw [hn]
  rcases List.mem_append.mp hq with h | h
  · rcases List.mem_append.mp h with h | h
    · rcases List.mem_append.mp h with h | h
      · rcases ha with rfl | rfl
        · exact nomatch h
        · rw [List.mem_singleton.mp h]
          exact ⟨by show 2 < 4; decide, by show 0 < 100; decide⟩
      · rw [List.mem_singleton.mp h]
        exact ⟨by decide, by decide⟩
    · rw [(List.mem_replicate.mp h).2]
      exact ⟨by decide, by decide⟩
  · rw [List.mem_singleton.mp h]
    exact ⟨by decide, by show ah.length < ah.length + k + 2; omega⟩
theorem rowsD_rep (k : Nat) (r : Wm.Row) : (List.replicate k [r.D]).flatten = rowsD (List.replicate k r) := by
  unfold rowsD
  rw [List.map_replicate]
  induction k with
  | zero => rfl
  | succ k ih => rw [List.replicate_succ, List.flatten_cons, ih, List.replicate_succ]; rfl
set_option maxHeartbeats 4000000 in
theorem ok_law_ring (T : Tx K mg base) : FnOk P w K mg base CX0 2 T.f_law_ring T.d_law_ring ["pen"] (spCt K T.ts) := by
  refine fnXP T.F_law_ring sc_law_ring ⟨_, _, rfl⟩ (fun _ _ => rfl) (fun cdv A outer s H E hr => ⟨_, (pss_cons (ps_set (i := 1) sc_law_ring.nd rfl (.inl rfl) (pe_slice (kx_slL K rfl) (pe_lst (pa_cons (pe_tup (pa_cons pe_str (pa_cons pe_int (pa_cons pe_int pa_nil)))) pa_nil)) po_none (po_some (pe_call (ok_law_take T) (hr.mono (by decide)) (by rfl) T.g_law_take T.F_law_take.kp T.b_law_take .nil pass0 (pa_cons (pv 0) (pa_cons pe_int pa_nil))))))
      (pss_cons (ps_set (i := 2) sc_law_ring.nd rfl (.inl rfl) (pe_callB (kx_len K rfl) (by rfl) T.m_len PySem.boot_len (pa_cons (pv 1) pa_nil)))
      (pss_cons (ps_set (i := 1) sc_law_ring.nd rfl (.inl rfl) (pe_op (kx_catL (K := K) rfl) (pe_op (kx_catL (K := K) rfl) (pe_op (kx_catL (K := K) rfl) (pv 1) (pe_lst (pa_cons (pe_tup (pa_cons pe_str (pa_cons pe_int (pa_cons pe_int pa_nil)))) pa_nil))) (pe_op op_rep (pe_lst (pa_cons (pe_tup (pa_cons pe_str (pa_cons pe_int (pa_cons pe_int pa_nil)))) pa_nil)) (pe_op op_add pe_int (pe_call (ok_law_take T) (hr.mono (by decide)) (by rfl) T.g_law_take T.F_law_take.kp T.b_law_take .nil pass0 (pa_cons (pv 0) (pa_cons pe_int pa_nil)))))) (pe_lst (pa_cons (pe_tup (pa_cons pe_str (pa_cons pe_int (pa_cons (pv 2) pa_nil)))) pa_nil))))
      (pss_one (ps_ret (pe_tup (pa_cons (pe_tup (pa_cons pe_int (pa_cons pe_int (pa_cons (pe_callTy (kx_tuple K rfl) (by rfl) T.m_tuple (by decide +kernel) (pa_cons (pv 1) pa_nil)) pa_nil)))) (pa_cons (pe_tup (pa_cons pe_int (pa_cons (pe_tup (pa_cons (pe_call (ok_law_take T) (hr.mono (by decide)) (by rfl) T.g_law_take T.F_law_take.kp T.b_law_take .nil pass0 (pa_cons (pv 0) (pa_cons pe_int pa_nil))) (pa_cons pe_int (pa_cons pe_int (pa_cons pe_int pa_nil))))) pa_nil))) pa_nil)))))))), fun pa pc pn u hu => ?_⟩)
  try simp only [nox_K, blk_K, cx_K]
  show S K ⟨some ⟨pa, .pen pc pn⟩, T.ts⟩ H _ [some .pen, none, none] _
  refine s_cut (fun L => ∃ ah : List Wm.Row, (ah = [] ∨ ah = [.set 2 0]) ∧ Sub [some .pen, some (.d (.list (rowsD ah))), none] L) (s_asg ?_) fun L' ⟨ah, ha, sb⟩ => S.sub ?_ sb
  · repeat walk_at "d"
    rename_i k hk
    rcases (by omega : k = 0 ∨ k = 1) with rfl | rfl
    · exact ⟨[], .inl rfl, Sub.refl _⟩
    · exact ⟨[.set 2 0], .inr rfl, Sub.refl _⟩
  have hal : ah.length ≤ 1 := by
    rcases ha with rfl | rfl
    · exact Nat.zero_le _
    · exact Nat.le_refl _
  refine s_cut (fun L => Sub [some .pen, some (.d (.list (rowsD ah))), some (.d (.int (ah.length : Nat)))] L) (s_asg ?_) fun L' sb => S.sub ?_ sb
  · repeat walk_at "d"
    rw [rowsD_len]
    exact Sub.refl _
  refine s_cut (fun L => ∃ k : Nat, k ≤ 9 ∧ Sub [some .pen, some (.d (.list (rowsD (ah ++ [.add 0 1] ++ List.replicate k (.add 2 2) ++ [.jump 3 ah.length])))), some (.d (.int (ah.length : Nat)))] L) (s_asg (e_ofL (el_catL (e_ofL (el_catL (e_ofL (el_catL (e_var rfl ?_)))))))) fun L' ⟨k, hk, sb⟩ => S.sub ?_ sb
  · repeat walk_at "d"
    refine ⟨_, _, rfl, rfl, by rw [rowsD_len]; show ah.length + 1 ≤ 100000; omega, ?_⟩
    refine e_ofL (el_rep (el_lst ?_))
    repeat walk_at "d"
    rename_i k hk
    refine ⟨by show 7 + k ≤ 100000; omega, by show 1 * (7 + k) ≤ 100000; omega, ?_⟩
    have e1 : rowsD ah ++ [PyData.tuple [.str "add", .int 0, .int 1]] = rowsD (ah ++ [.add 0 1]) := (rowsD_app ah [.add 0 1]).symm
    have e2 : (List.replicate (7 + k) [PyData.tuple [.str "add", .int 2, .int 2]]).flatten = rowsD (List.replicate (7 + k) (.add 2 2)) := rowsD_rep (7 + k) (.add 2 2)
    refine ⟨_, _, rfl, rfl, ?_, ?_⟩
    · rw [e1, e2, rowsD_len, rowsD_len, List.length_append, List.length_replicate]
      show ah.length + 1 + (7 + k) ≤ 100000
      omega
    rw [e1, e2, ← rowsD_app]
    repeat walk_at "d"
    refine ⟨_, _, rfl, rfl, ?_, 7 + k, by omega, ?_⟩
    · rw [rowsD_len, List.length_append, List.length_append, List.length_replicate]
      show ah.length + 1 + (7 + k) + 1 ≤ 100000
      omega
    · rw [rowsD_app _ [.jump 3 ah.length]]
      exact Sub.refl _
  repeat walk_at "d"
  rename_i a ha2
  exact ⟨⟨_, ⟨0, [a, 1, 0, 0]⟩, rng_ok ha hk, ⟨Nat.zero_le _, rfl, fun u hu => by
    rcases List.mem_cons.mp hu with rfl | hu
    · show u < 100; omega
    rcases List.mem_cons.mp hu with rfl | hu
    · show 1 < 100; decide
    rcases List.mem_cons.mp hu with rfl | hu
    · show 0 < 100; decide
    · rw [List.mem_singleton.mp hu]
      show 0 < 100; decide⟩, rfl⟩⟩
end
end K07
set_option Elab.async false
set_option linter.all false
set_option maxRecDepth 100000
namespace K07
open PySem PySem.Spec PyProof.Rows L2 Dl Wm
local macro_rules | `(tactic| walk_at "e") => `(tactic| first
  | ((with_reducible refine e_var (by with_unfolding_all exact rfl) ?_))
  | with_reducible refine e_int ?_
  | with_reducible refine e_str ?_
  | with_reducible refine e_bl ?_
  | with_reducible refine e_non ?_
  | ((with_reducible refine e_pen (by with_unfolding_all exact rfl) (Or.inr rfl) ?_); intro z hz)
  | ((with_reducible refine e_pen (by with_unfolding_all exact rfl) (Or.inl rfl) ?_); intro z hz)
  | ((with_reducible refine e_penIx (by with_unfolding_all exact rfl) ?_))
  | ((with_reducible refine e_spr (by with_unfolding_all exact rfl) ?_); intro z)
  | with_reducible refine e_op ?_
  | with_reducible refine e_tup ?_
  | with_reducible refine e_lst ?_
  | with_reducible refine ea_cons ?_
  | with_reducible refine ea_nil ?_
  | ((with_reducible refine e_penLen (by with_unfolding_all exact rfl) ?_))
  | ((with_reducible refine e_lenOwn (by with_unfolding_all exact rfl) ?_))
  | ((with_reducible refine e_tupOwn (by with_unfolding_all exact rfl) ?_))
  | ((with_reducible refine s_aug (by with_unfolding_all exact rfl) ?_); (try dsimp only [List.set]))
  | with_reducible refine e_callXF ?_
  | with_reducible refine r_ipI ?_
  | with_reducible refine e_un ?_
  | with_reducible refine r_neg ?_
  | with_reducible refine gws_cons ?_
  | with_reducible refine gws_nil ?_
  | with_reducible refine gw_tup rfl ?_
  | ((with_reducible refine gw_name (by decide) ?_); (try dsimp only [List.set]))
  | with_reducible refine e_isI ?_
  | with_reducible refine e_isB ?_
  | with_reducible refine e_isS ?_
  | with_reducible refine e_isTu ?_
  | with_reducible refine e_isL ?_
  | with_reducible refine e_cb ?_
  | with_reducible refine e_sl ?_
  | with_reducible refine eo_none ?_
  | with_reducible refine eo_some ?_
  | with_reducible refine et_test ?_
  | with_reducible refine et_B ?_
  | with_reducible refine et_and ?_
  | with_reducible refine et_or ?_
  | with_reducible refine et_not ?_
  | with_reducible refine et_yes ?_
  | with_reducible refine e_andV ?_
  | with_reducible refine e_orV ?_
  | with_reducible refine e_notV ?_
  | with_reducible refine e_if ?_
  | with_reducible refine e_chain ?_
  | with_reducible refine e_callX ?_
  | ((with_reducible refine e_callXP (by with_unfolding_all exact rfl) ?_ (by with_unfolding_all exact trivial)))
  | ((with_reducible refine s_seq ?_); (try dsimp only [List.set]))
  | with_reducible refine s_next ?_
  | with_reducible refine s_ret ?_
  | ((with_reducible refine s_pen (by with_unfolding_all exact rfl) (Or.inr rfl) ?_))
  | ((with_reducible refine s_pen (by with_unfolding_all exact rfl) (Or.inl rfl) ?_))
  | ((with_reducible refine s_spr (by with_unfolding_all exact rfl) ?_))
  | ((with_reducible refine s_putOwn (by with_unfolding_all exact rfl) ?_ (by with_unfolding_all exact rfl)))
  | with_reducible refine s_asg ?_
  | with_reducible refine s_asgG ?_
  | with_reducible refine s_if ?_
  | with_reducible refine g_name ?_
  | with_reducible refine g_tup rfl ?_
  | with_reducible refine gs_cons ?_
  | with_reducible refine gs_nil ?_
  | with_reducible refine r_lt ?_
  | with_reducible refine r_le ?_
  | with_reducible refine r_gt ?_
  | with_reducible refine r_ge ?_
  | with_reducible refine r_add ?_
  | with_reducible refine r_sub ?_
  | with_reducible refine r_eqI ?_
  | with_reducible refine r_eqS ?_
  | with_reducible refine r_eqB ?_
  | with_reducible refine r_neI ?_
  | with_reducible refine r_neB ?_
  | with_reducible refine c_min2 ?_
  | with_reducible refine c_max2 ?_
  | with_reducible refine c_intB ?_
  | with_reducible refine c_len (Or.inl rfl) ?_
  | with_reducible refine c_len (Or.inr rfl) ?_
  | with_reducible refine c_list (Or.inl rfl) ?_
  | with_reducible refine c_list (Or.inr rfl) ?_
  | with_reducible refine c_tuple (Or.inl rfl) ?_
  | with_reducible refine c_tuple (Or.inr rfl) ?_
  | with_reducible refine r_ixT (by with_unfolding_all exact rfl) ?_
  | with_reducible refine r_ixL (by with_unfolding_all exact rfl) ?_
  | with_reducible refine r_slT ?_
  | with_reducible refine r_slL ?_
  | with_reducible refine r_isNone ?_
  | with_reducible refine r_notBl ?_
  | with_reducible refine eps_cons ?_
  | with_reducible refine eps_nil ?_
  | with_reducible refine e_dget1 ?_
  | with_reducible refine ed_callX ?_
  | with_reducible refine ⟨_, rfl, ?_⟩
  | with_reducible refine And.intro (Nat.le_of_ble_eq_true rfl) ?_)
local macro_rules | `(tactic| walk_at "t") => `(tactic| first
  | walk_at "e"
  | refine r_modAny (by first | omega | decide) fun z z0 z1 => ?_
  | refine r_mul (by first | exact Or.inr ⟨by decide, by decide⟩ | exact Or.inl ⟨by decide, by decide⟩ | exact Or.inl ⟨by omega, by omega⟩) ?_
  | refine r_pow ⟨by decide, by decide, by decide⟩ ?_
  | refine r_fdivW (by first | assumption | (rename_i hw _; exact hw _) | exact wide_div (b := 200) (by decide) (by decide) (by decide) (by decide)) ?_
  | with_reducible refine And.intro (by omega) ?_)
local macro_rules | `(tactic| walk_at "k") => `(tactic| first
  | walk_at "e"
  | with_reducible refine ⟨fun hb => absurd hb (by decide +kernel), fun _ => ?_⟩
  | with_reducible refine ⟨fun _ => ?_, fun hb => absurd hb (by decide +kernel)⟩
  | refine ⟨fun hb => absurd hb Bool.false_ne_true, fun _ => ?_⟩
  | refine ⟨fun _ => ?_, fun hb => absurd hb.symm Bool.false_ne_true⟩)
local macro_rules | `(tactic| walk_at "d") => `(tactic| first
  | walk_at "k"
  | refine And.intro (show WfTake _ from ⟨by omega, by omega⟩) (take_all fun k hk => ?_))
local macro_rules | `(tactic| walk_at "o") => `(tactic| first
  | with_reducible refine s_ownList ?_
  | walk_at "d"
  | with_reducible refine ⟨_, Or.inl rfl, ?_⟩)
local macro_rules | `(tactic| walk_at "c") => `(tactic| first
  | with_reducible refine e_ofL (el_catL ?_)
  | with_reducible refine e_ofL (el_sortP ?_)
  | with_reducible refine e_ofL (el_sortSetP ?_)
  | with_reducible refine e_ofL (el_revL ?_)
  | walk_at "d")

section
variable {P : Program} {w : World} {K : PySem.W.Frag} {mg : Str → Option Value} {base : Heap}
abbrev L0 (ns : List Int) : Lv := [some (.d (.list (intsL ns))), some .pen, none, none, none]
set_option maxHeartbeats 4000000 in
theorem ok_law {f : Addr} {fd : FuncData} (F : Fun K "law" "law" s_law f fd) (T : Tx K mg base) : FnOk P w K mg base CX0 6 f fd ["script"] (spLawT K T.ts) := by
  refine F.ok sc_law (fun vs H Q E h => ?_) (fun cdv A outer s H vs Q E hr h => ?_)
  · obtain ⟨a, ns, rfl, _⟩ := h
    rfl
  · obtain ⟨a, ns, rfl, hS, hlen, hT, q⟩ := h
    refine ⟨_, (pss_cons (ps_set (i := 1) sc_law.nd rfl (.inl rfl) (pe_call (ok_law_pen T) (hr.mono (by decide)) (by rfl) T.g_law_pen T.F_law_pen.kp T.b_law_pen .nil pass0 (pa_cons (pv 0) pa_nil)))
      (pss_cons (ps_for PassesOwn.never rfl (pi_range1 rfl T.m_range (pa_cons pe_int pa_nil)) (pg_name (i := 2) sc_law.nd rfl (.inl rfl))
      (pss_cons (ps_set (i := 3) sc_law.nd rfl (.inl rfl) (pe_call (ok_law_program T) (hr.mono (by decide)) (by rfl) T.g_law_program T.F_law_program.kp T.b_law_program .nil pass0 (pa_cons (pv 1) (pa_cons pe_bl pa_nil))))
      (pss_one (ps_if (pt_not (pt_val (pe_call (ok_law_right T) (hr.mono (by decide)) (by rfl) T.g_law_right T.F_law_right.kp T.b_law_right .nil pass0 (pa_cons (pv 3) (pa_cons (pe_call (ok_law_stand T) (hr.mono (by decide)) (by rfl) T.g_law_stand T.F_law_stand.kp T.b_law_stand .nil pass0 (pa_cons (pv 1) (pa_cons (pv 3) pa_nil))) pa_nil)))))
      (pss_one (ps_ret pe_bl))
      pss_nil))))
      (pss_cons (ps_for PassesOwn.never rfl (kx_piL K rfl (pe_lst (pa_cons (pe_call (ok_law_counter T) (hr.mono (by decide)) (by rfl) T.g_law_counter T.F_law_counter.kp T.b_law_counter .nil pass0 (pa_cons (pv 1) pa_nil)) (pa_cons (pe_call (ok_law_ring T) (hr.mono (by decide)) (by rfl) T.g_law_ring T.F_law_ring.kp T.b_law_ring .nil pass0 (pa_cons (pv 1) pa_nil)) pa_nil)))) (kx_pgT K (n := 2) rfl rfl (pgs_cons (pg_name (i := 3) sc_law.nd rfl (.inl rfl)) (pgs_cons (pg_name (i := 4) sc_law.nd rfl (.inl rfl)) pgs_nil)))
      (pss_one (ps_if (pt_not (pt_val (pe_call (ok_law_right T) (hr.mono (by decide)) (by rfl) T.g_law_right T.F_law_right.kp T.b_law_right .nil pass0 (pa_cons (pv 3) (pa_cons (pv 4) pa_nil)))))
      (pss_one (ps_ret pe_bl))
      pss_nil)))
      (pss_one (ps_ret pe_bl))))), ?_⟩
    refine ⟨.ref a, rfl, a, ns, rfl, hS, fun p c cells H1 hsame hpn hp hc => ?_⟩
    dsimp only [gName]
    refine pen_startS (K := K) (ts := T.ts) (L := L0 ns) hp hc (hsame.seq hS) rfl (fun i av hi => ?_) (fun P hP => ?_) ?_ q
    · rcases i with _ | _ | i
      · cases hi
        exact .inr ⟨rfl, rfl⟩
      · cases hi
        exact .inl ⟨rfl, rfl⟩
      · iterate 3 (rcases i with _ | i; (· cases hi))
        cases hi
    · obtain ⟨ps, e, t1, t2⟩ := hT P hP
      exact ⟨ps, hsame _ _ e, t1, fun pos cv h => let ⟨c, q, e1, e2⟩ := t2 pos cv h; ⟨c, q, e1, hsame _ _ e2⟩⟩
    · refine s_cut (fun L => Sub (L0 ns) L) (s_forRw (ea_cons (e_int (ea_nil ⟨4, rfl, by decide, fun _ L => L = L0 ns, ⟨L0 ns, Sub.refl _, rfl⟩, fun i L' hi e => ?_, fun L' e L4 s4 => e ▸ s4⟩)))) fun L' sb => S.sub ?_ sb
      · subst e
        refine g_name ?_
        dsimp only [List.set]
        refine s_cut (fun L => ∃ x : Prog, ProgR false x ∧ Sub [some (.d (.list (intsL ns))), some .pen, none, some (.d x.D), none] L) (s_asg ?_) fun L' ⟨x, hx, sb⟩ => S.sub ?_ sb
        · repeat walk_at "d"
          refine ⟨trivial, ?_⟩
          rintro d ⟨x, rfl, hx⟩
          exact ⟨x, hx, by dsimp only [List.set]; repeat (first | exact Sub.nil | apply Sub.keep | apply Sub.drop)⟩
        have hxo := hx.ok
        refine s_if ?_
        repeat walk_at "d"
        refine ⟨hxo, ?_⟩
        rintro d ⟨s0, rfl, hs0⟩
        repeat walk_at "d"
        refine ⟨⟨x, s0⟩, rfl, ⟨hxo, hs0⟩, ?_⟩
        rintro d rfl
        repeat walk_at "d"
        exact ⟨L0 ns, by repeat (first | exact Sub.nil | apply Sub.keep | apply Sub.drop), rfl⟩
      refine s_seq (s_forI (it_list ?_))
      repeat walk_at "d"
      refine ⟨(), rfl, trivial, ?_⟩
      rintro d1 ⟨x1, s1, hx1, hs1, rfl⟩
      repeat walk_at "d"
      refine ⟨(), rfl, trivial, ?_⟩
      rintro d2 ⟨x2, s2, hx2, hs2, rfl⟩
      repeat walk_at "d"
      refine ⟨fun _ L => L = L0 ns, ⟨_, Sub.refl _, rfl⟩, fun i d L' hd e => ?_, fun L' e L4 s4 => ?_⟩
      · subst e
        have hd' : ∃ (x : Prog) (s : Stand), x.Ok ∧ s.Ok x ∧ d = .tuple [x.D, s.D] := by
          rcases List.mem_cons.mp (List.mem_of_getElem? hd) with rfl | h
          · exact ⟨x1, s1, hx1, hs1, rfl⟩
          · rw [List.mem_singleton.mp h]
            exact ⟨x2, s2, hx2, hs2, rfl⟩
        obtain ⟨x, s0, hx, hs, rfl⟩ := hd'
        refine g_tup rfl (gs_cons (g_name (gs_cons (g_name (gs_nil ?_)))))
        dsimp only [List.set]
        refine s_if ?_
        repeat walk_at "d"
        refine ⟨⟨x, s0⟩, rfl, ⟨hx, hs⟩, ?_⟩
        rintro d rfl
        repeat walk_at "d"
        exact ⟨L0 ns, by repeat (first | exact Sub.nil | apply Sub.keep | apply Sub.drop), rfl⟩
      · subst e
        refine S.sub ?_ s4
        repeat walk_at "d"
        rfl
end
end K07
set_option Elab.async false
set_option linter.all false
set_option maxRecDepth 100000
namespace K07
open PySem PySem.Spec PyProof.Rows L2 Dl
set_option maxHeartbeats 0 in
theorem all_mk {l : PySem.W.OpenLaw} {q : Program} {w : World} {K : PySem.W.Frag} {h : Heap} {mg : Str → Option Value} {fa f1 f2 f3 f4 f5 f6 f7 f8 f9 f10 f11 f12 f13 f14 f15 f16 f17 f18 f19 f20 f21 f22 f23 f24  : Addr} (X : K.In h) (G : h.Ns mainGlobals mg) (hfa : mg "law" = some (.ref fa)) (AT : Dl.AllTabs q K mg h)
    {od1 an1 od2 an2 od3 an3 od4 an4 od5 an5 od6 an6 od7 an7 od8 an8 od9 an9 od10 an10 od11 an11 od12 an12 od13 an13 od14 an14 od15 an15 od16 an16 od17 an17 od18 an18 od19 an19 od20 an20 od21 an21 od22 an22 od23 an23 od24 an24 : Option Addr} {sl1 sl2 sl3 sl4 sl5 sl6 sl7 sl8 sl9 sl10 sl11 sl12 sl13 sl14 sl15 sl16 sl17 sl18 sl19 sl20 sl21 sl22 sl23 sl24 : Array (Option Value)} {oc1 kV1 dc1 pm1 ct1 cd1 oc2 kV2 dc2 pm2 ct2 cd2 oc3 kV3 dc3 pm3 ct3 cd3 oc4 kV4 dc4 pm4 ct4 cd4 oc5 kV5 dc5 pm5 ct5 cd5 oc6 kV6 dc6 pm6 ct6 cd6 oc7 kV7 dc7 pm7 ct7 cd7 oc8 kV8 dc8 pm8 ct8 cd8 oc9 kV9 dc9 pm9 ct9 cd9 oc10 kV10 dc10 pm10 ct10 cd10 oc11 kV11 dc11 pm11 ct11 cd11 oc12 kV12 dc12 pm12 ct12 cd12 oc13 kV13 dc13 pm13 ct13 cd13 oc14 kV14 dc14 pm14 ct14 cd14 oc15 kV15 dc15 pm15 ct15 cd15 oc16 kV16 dc16 pm16 ct16 cd16 oc17 kV17 dc17 pm17 ct17 cd17 oc18 kV18 dc18 pm18 ct18 cd18 oc19 kV19 dc19 pm19 ct19 cd19 oc20 kV20 dc20 pm20 ct20 cd20 oc21 kV21 dc21 pm21 ct21 cd21 oc22 kV22 dc22 pm22 ct22 cd22 oc23 kV23 dc23 pm23 ct23 cd23 oc24 kV24 dc24 pm24 ct24 cd24 : Value}
    {t_MOST_TICKS : Tok}
    {C_MoveError C_NoHouse C_NoLetter C_NoRow C_NoStep C_NoText C_TooMany : Addr}
    (yC_MoveError : PySem.W.nsIn K mainGlobals "MoveError" = some (some (.ref C_MoveError)))
    (yC_NoHouse : PySem.W.nsIn K mainGlobals "NoHouse" = some (some (.ref C_NoHouse)))
    (yC_NoLetter : PySem.W.nsIn K mainGlobals "NoLetter" = some (some (.ref C_NoLetter)))
    (yC_NoRow : PySem.W.nsIn K mainGlobals "NoRow" = some (some (.ref C_NoRow)))
    (yC_NoStep : PySem.W.nsIn K mainGlobals "NoStep" = some (some (.ref C_NoStep)))
    (yC_NoText : PySem.W.nsIn K mainGlobals "NoText" = some (some (.ref C_NoText)))
    (yC_TooMany : PySem.W.nsIn K mainGlobals "TooMany" = some (some (.ref C_TooMany)))
    (xP_TooMany : PySem.W.excIn K C_TooMany [.type "ValueError", .type "Exception", .type "BaseException", .type "object"] "ValueError.__new__" = true)
    (kP_TooMany : PySem.W.keepIn K (.ref C_TooMany) = true)
    (bP_TooMany : PySem.W.subIn K (.ref C_TooMany) (.type "BaseException") = some true)
    (tP_TooMany : PySem.W.typeIn K (.ref C_TooMany) = some (.type "type"))
    (hg_TooMany : PySem.W.findIn K (.ref C_TooMany) "__getattribute__" = some (some (.builtin "BaseException.__getattribute__")))
    (hk_TooMany : PySem.W.findIn K (.ref C_TooMany) "__getattr__" = some none)
    (hs_TooMany : PySem.W.subIn K (.ref C_TooMany) (.type "BaseException") = some true)
    (hd_TooMany : PySem.W.hasDictIn K C_TooMany = true)
    (ha_TooMany : PySem.W.findIn K (.ref C_TooMany) "__class__" = some (some (.builtin "object.__class__")))
    (hn_TooMany : PySem.W.specialIn K (.builtin "object.__class__") "__get__" = some (some (.builtin "getset_descriptor.__get__")))
    (ht_TooMany : PySem.W.takesIn K (.builtin "object.__class__") = some true)
    (hm_TooMany : PySem.W.mroIn K C_TooMany (.type "object") = some true)
    (e1 : PySem.W.exmOne K (.ref C_TooMany) (.ref C_MoveError) = some true)
    (e2 : PySem.W.kitOne K (.ref C_TooMany) (.ref C_TooMany) = some true)
    (e3 : PySem.W.kitOne K (.ref C_TooMany) (.type "ValueError") = some true)
    (e4 : PySem.W.kitAny K (.ref C_TooMany) [.ref C_NoHouse, .ref C_NoLetter, .ref C_NoRow, .ref C_NoStep, .ref C_NoText] = some false)
    (a1 : PySem.W.nsIn K mainGlobals "row_at" = some (some (.ref f1))) (l1 : K.lookup f1 = some ⟨oc1, od1, .func (PySem.W.fnOf "row_at" "row_at" (defArgs s_row_at) (defBody s_row_at) (defScope s_row_at) .none kV1 dc1 pm1 an1 cd1 ct1), sl1⟩) (c1 : PySem.W.codeIn K cd1 "row_at" = true) (k1 : PySem.W.keepIn K (.ref f1) = true)
    (a2 : PySem.W.nsIn K mainGlobals "rising" = some (some (.ref f2))) (l2 : K.lookup f2 = some ⟨oc2, od2, .func (PySem.W.fnOf "rising" "rising" (defArgs s_rising) (defBody s_rising) (defScope s_rising) .none kV2 dc2 pm2 an2 cd2 ct2), sl2⟩) (c2 : PySem.W.codeIn K cd2 "rising" = true) (k2 : PySem.W.keepIn K (.ref f2) = true)
    (a3 : PySem.W.nsIn K mainGlobals "stand_behind_writing" = some (some (.ref f3))) (l3 : K.lookup f3 = some ⟨oc3, od3, .func (PySem.W.fnOf "stand_behind_writing" "stand_behind_writing" (defArgs s_stand_behind_writing) (defBody s_stand_behind_writing) (defScope s_stand_behind_writing) .none kV3 dc3 pm3 an3 cd3 ct3), sl3⟩) (c3 : PySem.W.codeIn K cd3 "stand_behind_writing" = true) (k3 : PySem.W.keepIn K (.ref f3) = true)
    (a4 : PySem.W.nsIn K mainGlobals "nothing_done" = some (some (.ref f4))) (l4 : K.lookup f4 = some ⟨oc4, od4, .func (PySem.W.fnOf "nothing_done" "nothing_done" (defArgs s_nothing_done) (defBody s_nothing_done) (defScope s_nothing_done) .none kV4 dc4 pm4 an4 cd4 ct4), sl4⟩) (c4 : PySem.W.codeIn K cd4 "nothing_done" = true) (k4 : PySem.W.keepIn K (.ref f4) = true)
    (a5 : PySem.W.nsIn K mainGlobals "do_set" = some (some (.ref f5))) (l5 : K.lookup f5 = some ⟨oc5, od5, .func (PySem.W.fnOf "do_set" "do_set" (defArgs s_do_set) (defBody s_do_set) (defScope s_do_set) .none kV5 dc5 pm5 an5 cd5 ct5), sl5⟩) (c5 : PySem.W.codeIn K cd5 "do_set" = true) (k5 : PySem.W.keepIn K (.ref f5) = true)
    (a6 : PySem.W.nsIn K mainGlobals "do_add" = some (some (.ref f6))) (l6 : K.lookup f6 = some ⟨oc6, od6, .func (PySem.W.fnOf "do_add" "do_add" (defArgs s_do_add) (defBody s_do_add) (defScope s_do_add) .none kV6 dc6 pm6 an6 cd6 ct6), sl6⟩) (c6 : PySem.W.codeIn K cd6 "do_add" = true) (k6 : PySem.W.keepIn K (.ref f6) = true)
    (a7 : PySem.W.nsIn K mainGlobals "do_jump" = some (some (.ref f7))) (l7 : K.lookup f7 = some ⟨oc7, od7, .func (PySem.W.fnOf "do_jump" "do_jump" (defArgs s_do_jump) (defBody s_do_jump) (defScope s_do_jump) .none kV7 dc7 pm7 an7 cd7 ct7), sl7⟩) (c7 : PySem.W.codeIn K cd7 "do_jump" = true) (k7 : PySem.W.keepIn K (.ref f7) = true)
    (a8 : PySem.W.nsIn K mainGlobals "do_say" = some (some (.ref f8))) (l8 : K.lookup f8 = some ⟨oc8, od8, .func (PySem.W.fnOf "do_say" "do_say" (defArgs s_do_say) (defBody s_do_say) (defScope s_do_say) .none kV8 dc8 pm8 an8 cd8 ct8), sl8⟩) (c8 : PySem.W.codeIn K cd8 "do_say" = true) (k8 : PySem.W.keepIn K (.ref f8) = true)
    (a9 : PySem.W.nsIn K mainGlobals "do_take" = some (some (.ref f9))) (l9 : K.lookup f9 = some ⟨oc9, od9, .func (PySem.W.fnOf "do_take" "do_take" (defArgs s_do_take) (defBody s_do_take) (defScope s_do_take) .none kV9 dc9 pm9 an9 cd9 ct9), sl9⟩) (c9 : PySem.W.codeIn K cd9 "do_take" = true) (k9 : PySem.W.keepIn K (.ref f9) = true)
    (a10 : PySem.W.nsIn K mainGlobals "tick" = some (some (.ref f10))) (l10 : K.lookup f10 = some ⟨oc10, od10, .func (PySem.W.fnOf "tick" "tick" (defArgs s_tick) (defBody s_tick) (defScope s_tick) .none kV10 dc10 pm10 an10 cd10 ct10), sl10⟩) (c10 : PySem.W.codeIn K cd10 "tick" = true) (k10 : PySem.W.keepIn K (.ref f10) = true)
    (a11 : PySem.W.nsIn K mainGlobals "round_of" = some (some (.ref f11))) (l11 : K.lookup f11 = some ⟨oc11, od11, .func (PySem.W.fnOf "round_of" "round_of" (defArgs s_round_of) (defBody s_round_of) (defScope s_round_of) .none kV11 dc11 pm11 an11 cd11 ct11), sl11⟩) (c11 : PySem.W.codeIn K cd11 "round_of" = true) (k11 : PySem.W.keepIn K (.ref f11) = true)
    (a12 : PySem.W.nsIn K mainGlobals "_law_pen" = some (some (.ref f12))) (l12 : K.lookup f12 = some ⟨oc12, od12, .func (PySem.W.fnOf "_law_pen" "_law_pen" (defArgs s_law_pen) (defBody s_law_pen) (defScope s_law_pen) .none kV12 dc12 pm12 an12 cd12 ct12), sl12⟩) (c12 : PySem.W.codeIn K cd12 "_law_pen" = true) (k12 : PySem.W.keepIn K (.ref f12) = true)
    (a13 : PySem.W.nsIn K mainGlobals "_law_take" = some (some (.ref f13))) (l13 : K.lookup f13 = some ⟨oc13, od13, .func (PySem.W.fnOf "_law_take" "_law_take" (defArgs s_law_take) (defBody s_law_take) (defScope s_law_take) .none kV13 dc13 pm13 an13 cd13 ct13), sl13⟩) (c13 : PySem.W.codeIn K cd13 "_law_take" = true) (k13 : PySem.W.keepIn K (.ref f13) = true)
    (a14 : PySem.W.nsIn K mainGlobals "_law_row" = some (some (.ref f14))) (l14 : K.lookup f14 = some ⟨oc14, od14, .func (PySem.W.fnOf "_law_row" "_law_row" (defArgs s_law_row) (defBody s_law_row) (defScope s_law_row) .none kV14 dc14 pm14 an14 cd14 ct14), sl14⟩) (c14 : PySem.W.codeIn K cd14 "_law_row" = true) (k14 : PySem.W.keepIn K (.ref f14) = true)
    (a15 : PySem.W.nsIn K mainGlobals "_law_program" = some (some (.ref f15))) (l15 : K.lookup f15 = some ⟨oc15, od15, .func (PySem.W.fnOf "_law_program" "_law_program" (defArgs s_law_program) (defBody s_law_program) (defScope s_law_program) .none kV15 dc15 pm15 an15 cd15 ct15), sl15⟩) (c15 : PySem.W.codeIn K cd15 "_law_program" = true) (k15 : PySem.W.keepIn K (.ref f15) = true)
    (a16 : PySem.W.nsIn K mainGlobals "_law_sheets" = some (some (.ref f16))) (l16 : K.lookup f16 = some ⟨oc16, od16, .func (PySem.W.fnOf "_law_sheets" "_law_sheets" (defArgs s_law_sheets) (defBody s_law_sheets) (defScope s_law_sheets) .none kV16 dc16 pm16 an16 cd16 ct16), sl16⟩) (c16 : PySem.W.codeIn K cd16 "_law_sheets" = true) (k16 : PySem.W.keepIn K (.ref f16) = true)
    (a17 : PySem.W.nsIn K mainGlobals "_law_stand" = some (some (.ref f17))) (l17 : K.lookup f17 = some ⟨oc17, od17, .func (PySem.W.fnOf "_law_stand" "_law_stand" (defArgs s_law_stand) (defBody s_law_stand) (defScope s_law_stand) .none kV17 dc17 pm17 an17 cd17 ct17), sl17⟩) (c17 : PySem.W.codeIn K cd17 "_law_stand" = true) (k17 : PySem.W.keepIn K (.ref f17) = true)
    (a18 : PySem.W.nsIn K mainGlobals "_law_tick" = some (some (.ref f18))) (l18 : K.lookup f18 = some ⟨oc18, od18, .func (PySem.W.fnOf "_law_tick" "_law_tick" (defArgs s_law_tick) (defBody s_law_tick) (defScope s_law_tick) .none kV18 dc18 pm18 an18 cd18 ct18), sl18⟩) (c18 : PySem.W.codeIn K cd18 "_law_tick" = true) (k18 : PySem.W.keepIn K (.ref f18) = true)
    (a19 : PySem.W.nsIn K mainGlobals "_law_same" = some (some (.ref f19))) (l19 : K.lookup f19 = some ⟨oc19, od19, .func (PySem.W.fnOf "_law_same" "_law_same" (defArgs s_law_same) (defBody s_law_same) (defScope s_law_same) .none kV19 dc19 pm19 an19 cd19 ct19), sl19⟩) (c19 : PySem.W.codeIn K cd19 "_law_same" = true) (k19 : PySem.W.keepIn K (.ref f19) = true)
    (a20 : PySem.W.nsIn K mainGlobals "_law_counter" = some (some (.ref f20))) (l20 : K.lookup f20 = some ⟨oc20, od20, .func (PySem.W.fnOf "_law_counter" "_law_counter" (defArgs s_law_counter) (defBody s_law_counter) (defScope s_law_counter) .none kV20 dc20 pm20 an20 cd20 ct20), sl20⟩) (c20 : PySem.W.codeIn K cd20 "_law_counter" = true) (k20 : PySem.W.keepIn K (.ref f20) = true)
    (a21 : PySem.W.nsIn K mainGlobals "_law_ring" = some (some (.ref f21))) (l21 : K.lookup f21 = some ⟨oc21, od21, .func (PySem.W.fnOf "_law_ring" "_law_ring" (defArgs s_law_ring) (defBody s_law_ring) (defScope s_law_ring) .none kV21 dc21 pm21 an21 cd21 ct21), sl21⟩) (c21 : PySem.W.codeIn K cd21 "_law_ring" = true) (k21 : PySem.W.keepIn K (.ref f21) = true)
    (a22 : PySem.W.nsIn K mainGlobals "_law_due" = some (some (.ref f22))) (l22 : K.lookup f22 = some ⟨oc22, od22, .func (PySem.W.fnOf "_law_due" "_law_due" (defArgs s_law_due) (defBody s_law_due) (defScope s_law_due) .none kV22 dc22 pm22 an22 cd22 ct22), sl22⟩) (c22 : PySem.W.codeIn K cd22 "_law_due" = true) (k22 : PySem.W.keepIn K (.ref f22) = true)
    (a23 : PySem.W.nsIn K mainGlobals "_law_right" = some (some (.ref f23))) (l23 : K.lookup f23 = some ⟨oc23, od23, .func (PySem.W.fnOf "_law_right" "_law_right" (defArgs s_law_right) (defBody s_law_right) (defScope s_law_right) .none kV23 dc23 pm23 an23 cd23 ct23), sl23⟩) (c23 : PySem.W.codeIn K cd23 "_law_right" = true) (k23 : PySem.W.keepIn K (.ref f23) = true)
    (a24 : PySem.W.nsIn K mainGlobals "law" = some (some (.ref f24))) (l24 : K.lookup f24 = some ⟨oc24, od24, .func (PySem.W.fnOf "law" "law" (defArgs s_law) (defBody s_law) (defScope s_law) .none kV24 dc24 pm24 an24 cd24 ct24), sl24⟩) (c24 : PySem.W.codeIn K cd24 "law" = true) (k24 : PySem.W.keepIn K (.ref f24) = true)
    (z_ValueError : PySem.W.nsIn K mainGlobals "ValueError" = some none)
    (z_bool : PySem.W.nsIn K mainGlobals "bool" = some none)
    (z_int : PySem.W.nsIn K mainGlobals "int" = some none)
    (z_isinstance : PySem.W.nsIn K mainGlobals "isinstance" = some none)
    (z_len : PySem.W.nsIn K mainGlobals "len" = some none)
    (z_list : PySem.W.nsIn K mainGlobals "list" = some none)
    (z_max : PySem.W.nsIn K mainGlobals "max" = some none)
    (z_min : PySem.W.nsIn K mainGlobals "min" = some none)
    (z_range : PySem.W.nsIn K mainGlobals "range" = some none)
    (z_str : PySem.W.nsIn K mainGlobals "str" = some none)
    (z_tuple : PySem.W.nsIn K mainGlobals "tuple" = some none)
    (z_zip : PySem.W.nsIn K mainGlobals "zip" = some none)
    (y_MOST_TICKS : PySem.W.nsIn K mainGlobals "MOST_TICKS" = some (some (.int 1000 t_MOST_TICKS)))
    : LamX.LawAtS l w K CX0 6 63 "script" mg fa h := by
  have e := hfa.symm.trans (PySem.W.mg_of X G a24)
  cases e
  have F1 := fun_mk (st := s_row_at) l1 c1 k1
  have F2 := fun_mk (st := s_rising) l2 c2 k2
  have F3 := fun_mk (st := s_stand_behind_writing) l3 c3 k3
  have F4 := fun_mk (st := s_nothing_done) l4 c4 k4
  have F5 := fun_mk (st := s_do_set) l5 c5 k5
  have F6 := fun_mk (st := s_do_add) l6 c6 k6
  have F7 := fun_mk (st := s_do_jump) l7 c7 k7
  have F8 := fun_mk (st := s_do_say) l8 c8 k8
  have F9 := fun_mk (st := s_do_take) l9 c9 k9
  have F10 := fun_mk (st := s_tick) l10 c10 k10
  have F11 := fun_mk (st := s_round_of) l11 c11 k11
  have F12 := fun_mk (st := s_law_pen) l12 c12 k12
  have F13 := fun_mk (st := s_law_take) l13 c13 k13
  have F14 := fun_mk (st := s_law_row) l14 c14 k14
  have F15 := fun_mk (st := s_law_program) l15 c15 k15
  have F16 := fun_mk (st := s_law_sheets) l16 c16 k16
  have F17 := fun_mk (st := s_law_stand) l17 c17 k17
  have F18 := fun_mk (st := s_law_tick) l18 c18 k18
  have F19 := fun_mk (st := s_law_same) l19 c19 k19
  have F20 := fun_mk (st := s_law_counter) l20 c20 k20
  have F21 := fun_mk (st := s_law_ring) l21 c21 k21
  have F22 := fun_mk (st := s_law_due) l22 c22 k22
  have F23 := fun_mk (st := s_law_right) l23 c23 k23
  have F24 := fun_mk (st := s_law) l24 c24 k24
  have b1 := F1.binds (ps := ["program", "at"]) fun _ _ _ _ _ _ us hl => match us, hl with | [_, _], _ => rfl
  have b2 := F2.binds (ps := ["p", "q"]) fun _ _ _ _ _ _ us hl => match us, hl with | [_, _], _ => rfl
  have b3 := F3.binds (ps := ["stand", "p", "number"]) fun _ _ _ _ _ _ us hl => match us, hl with | [_, _, _], _ => rfl
  have b4 := F4.binds (ps := ["stand", "word"]) fun _ _ _ _ _ _ us hl => match us, hl with | [_, _], _ => rfl
  have b5 := F5.binds (ps := ["stand", "p", "number"]) fun _ _ _ _ _ _ us hl => match us, hl with | [_, _, _], _ => rfl
  have b6 := F6.binds (ps := ["stand", "w", "p", "q"]) fun _ _ _ _ _ _ us hl => match us, hl with | [_, _, _, _], _ => rfl
  have b7 := F7.binds (ps := ["stand", "p", "k"]) fun _ _ _ _ _ _ us hl => match us, hl with | [_, _, _], _ => rfl
  have b8 := F8.binds (ps := ["stand", "p"]) fun _ _ _ _ _ _ us hl => match us, hl with | [_, _], _ => rfl
  have b9 := F9.binds (ps := ["stand", "p", "letters"]) fun _ _ _ _ _ _ us hl => match us, hl with | [_, _, _], _ => rfl
  have b10 := F10.binds (ps := ["program", "stand", "letters"]) fun _ _ _ _ _ _ us hl => match us, hl with | [_, _, _], _ => rfl
  have b11 := F11.binds (ps := ["program", "stand"]) fun _ _ _ _ _ _ us hl => match us, hl with | [_, _], _ => rfl
  have b12 := F12.binds (ps := ["script"]) fun _ _ _ _ _ _ us hl => match us, hl with | [_], _ => rfl
  have b13 := F13.binds (ps := ["pen", "many"]) fun _ _ _ _ _ _ us hl => match us, hl with | [_, _], _ => rfl
  have b14 := F14.binds (ps := ["pen", "n", "w", "many", "takes"]) fun _ _ _ _ _ _ us hl => match us, hl with | [_, _, _, _, _], _ => rfl
  have b15 := F15.binds (ps := ["pen", "takes"]) fun _ _ _ _ _ _ us hl => match us, hl with | [_, _], _ => rfl
  have b16 := F16.binds (ps := ["pen", "program"]) fun _ _ _ _ _ _ us hl => match us, hl with | [_, _], _ => rfl
  have b17 := F17.binds (ps := ["pen", "program"]) fun _ _ _ _ _ _ us hl => match us, hl with | [_, _], _ => rfl
  have b18 := F18.binds (ps := ["program", "stand", "letters"]) fun _ _ _ _ _ _ us hl => match us, hl with | [_, _, _], _ => rfl
  have b19 := F19.binds (ps := ["found", "due"]) fun _ _ _ _ _ _ us hl => match us, hl with | [_, _], _ => rfl
  have b20 := F20.binds (ps := ["pen"]) fun _ _ _ _ _ _ us hl => match us, hl with | [_], _ => rfl
  have b21 := F21.binds (ps := ["pen"]) fun _ _ _ _ _ _ us hl => match us, hl with | [_], _ => rfl
  have b22 := F22.binds (ps := ["program", "stand"]) fun _ _ _ _ _ _ us hl => match us, hl with | [_, _], _ => rfl
  have b23 := F23.binds (ps := ["program", "stand"]) fun _ _ _ _ _ _ us hl => match us, hl with | [_, _], _ => rfl
  refine ⟨PySem.W.fnOf "law" "law" (defArgs s_law) (defBody s_law) (defScope s_law) .none kV24 dc24 pm24 an24 cd24 ct24, [], Dl.spLawT K [], (fun _ h => nomatch h), (fun _ h => nomatch h), (fun _ h => nomatch h), fun s v => .of_eq rfl, fun H a ns hl _ hH hS => ⟨a, ns, rfl, hS, hl, ?_, fun _ => rfl⟩, fun base _ _ TB => ?_⟩
  · intro P hP
    have hP : P ∈ ([] : List (Addr × Addr)).map (·.2) := hP
    obtain ⟨p, hp, rfl⟩ := List.mem_map.mp hP
    exact Dl.tabG_nil (hH p hp)
  · exact ok_law (base := base) F24 { ts := [], f_row_at := f1, d_row_at := _, F_row_at := F1, b_row_at := b1, g_row_at := PySem.W.mg_of X G a1, f_rising := f2, d_rising := _, F_rising := F2, b_rising := b2, g_rising := PySem.W.mg_of X G a2, f_stand_behind_writing := f3, d_stand_behind_writing := _, F_stand_behind_writing := F3, b_stand_behind_writing := b3, g_stand_behind_writing := PySem.W.mg_of X G a3, f_nothing_done := f4, d_nothing_done := _, F_nothing_done := F4, b_nothing_done := b4, g_nothing_done := PySem.W.mg_of X G a4, f_do_set := f5, d_do_set := _, F_do_set := F5, b_do_set := b5, g_do_set := PySem.W.mg_of X G a5, f_do_add := f6, d_do_add := _, F_do_add := F6, b_do_add := b6, g_do_add := PySem.W.mg_of X G a6, f_do_jump := f7, d_do_jump := _, F_do_jump := F7, b_do_jump := b7, g_do_jump := PySem.W.mg_of X G a7, f_do_say := f8, d_do_say := _, F_do_say := F8, b_do_say := b8, g_do_say := PySem.W.mg_of X G a8, f_do_take := f9, d_do_take := _, F_do_take := F9, b_do_take := b9, g_do_take := PySem.W.mg_of X G a9, f_tick := f10, d_tick := _, F_tick := F10, b_tick := b10, g_tick := PySem.W.mg_of X G a10, f_round_of := f11, d_round_of := _, F_round_of := F11, b_round_of := b11, g_round_of := PySem.W.mg_of X G a11, f_law_pen := f12, d_law_pen := _, F_law_pen := F12, b_law_pen := b12, g_law_pen := PySem.W.mg_of X G a12, f_law_take := f13, d_law_take := _, F_law_take := F13, b_law_take := b13, g_law_take := PySem.W.mg_of X G a13, f_law_row := f14, d_law_row := _, F_law_row := F14, b_law_row := b14, g_law_row := PySem.W.mg_of X G a14, f_law_program := f15, d_law_program := _, F_law_program := F15, b_law_program := b15, g_law_program := PySem.W.mg_of X G a15, f_law_sheets := f16, d_law_sheets := _, F_law_sheets := F16, b_law_sheets := b16, g_law_sheets := PySem.W.mg_of X G a16, f_law_stand := f17, d_law_stand := _, F_law_stand := F17, b_law_stand := b17, g_law_stand := PySem.W.mg_of X G a17, f_law_tick := f18, d_law_tick := _, F_law_tick := F18, b_law_tick := b18, g_law_tick := PySem.W.mg_of X G a18, f_law_same := f19, d_law_same := _, F_law_same := F19, b_law_same := b19, g_law_same := PySem.W.mg_of X G a19, f_law_counter := f20, d_law_counter := _, F_law_counter := F20, b_law_counter := b20, g_law_counter := PySem.W.mg_of X G a20, f_law_ring := f21, d_law_ring := _, F_law_ring := F21, b_law_ring := b21, g_law_ring := PySem.W.mg_of X G a21, f_law_due := f22, d_law_due := _, F_law_due := F22, b_law_due := b22, g_law_due := PySem.W.mg_of X G a22, f_law_right := f23, d_law_right := _, F_law_right := F23, b_law_right := b23, g_law_right := PySem.W.mg_of X G a23, m_ValueError := PySem.W.mg_none_of X G z_ValueError, m_bool := PySem.W.mg_none_of X G z_bool, m_int := PySem.W.mg_none_of X G z_int, m_isinstance := PySem.W.mg_none_of X G z_isinstance, m_len := PySem.W.mg_none_of X G z_len, m_list := PySem.W.mg_none_of X G z_list, m_max := PySem.W.mg_none_of X G z_max, m_min := PySem.W.mg_none_of X G z_min, m_range := PySem.W.mg_none_of X G z_range, m_str := PySem.W.mg_none_of X G z_str, m_tuple := PySem.W.mg_none_of X G z_tuple, m_zip := PySem.W.mg_none_of X G z_zip, t_MOST_TICKS := t_MOST_TICKS, c_MOST_TICKS := PySem.W.mg_of X G y_MOST_TICKS, C_MoveError := C_MoveError, gC_MoveError := PySem.W.mg_of X G yC_MoveError, C_NoHouse := C_NoHouse, gC_NoHouse := PySem.W.mg_of X G yC_NoHouse, C_NoLetter := C_NoLetter, gC_NoLetter := PySem.W.mg_of X G yC_NoLetter, C_NoRow := C_NoRow, gC_NoRow := PySem.W.mg_of X G yC_NoRow, C_NoStep := C_NoStep, gC_NoStep := PySem.W.mg_of X G yC_NoStep, C_NoText := C_NoText, gC_NoText := PySem.W.mg_of X G yC_NoText, C_TooMany := C_TooMany, gC_TooMany := PySem.W.mg_of X G yC_TooMany, xP_TooMany := xP_TooMany, kP_TooMany := kP_TooMany, bP_TooMany := bP_TooMany, tP_TooMany := tP_TooMany, e1 := e1, e2 := e2, e3 := e3, e4 := e4, X_TooMany := ⟨hg_TooMany, hk_TooMany, hs_TooMany, hd_TooMany, ha_TooMany, hn_TooMany, ht_TooMany, hm_TooMany⟩ }
end K07
open PySem PySem.W PyProof.Rows
set_option maxHeartbeats 0 in
theorem PySem.Challenge.cw_warmove_k07_ends_and_rounds_holds : PySem.Challenge.rw_warmove_k07_ends_and_rounds.Holds := by
  w_on; o_law; k_head; (case hw => w_witness2)
  k_fill
  refine Dl.walk_ofTabs (l := PySem.Challenge.rw_warmove_k07_ends_and_rounds) (n := 63) (k := 6) (x := "script") (CX := fun _ => L2.CX0) rfl (by decide) rfl ⟨rfl, by decide, by decide⟩ (fun w h Y => by first | exact PySem.W.kIn_of Y | exact PySem.W.km_in_of Y) ?F (fun _ _ _ _ _ h => h)
  case F =>
    intro w mg fa h KX G hmg AT
    refine' K07.all_mk KX G hmg AT ?yC_MoveError ?yC_NoHouse ?yC_NoLetter ?yC_NoRow ?yC_NoStep ?yC_NoText ?yC_TooMany ?xP_TooMany ?kP_TooMany ?bP_TooMany ?tP_TooMany ?hg_TooMany ?hk_TooMany ?hs_TooMany ?hd_TooMany ?ha_TooMany ?hn_TooMany ?ht_TooMany ?hm_TooMany ?e1 ?e2 ?e3 ?e4 ?a1 ?l1 ?c1 ?k1 ?a2 ?l2 ?c2 ?k2 ?a3 ?l3 ?c3 ?k3 ?a4 ?l4 ?c4 ?k4 ?a5 ?l5 ?c5 ?k5 ?a6 ?l6 ?c6 ?k6 ?a7 ?l7 ?c7 ?k7 ?a8 ?l8 ?c8 ?k8 ?a9 ?l9 ?c9 ?k9 ?a10 ?l10 ?c10 ?k10 ?a11 ?l11 ?c11 ?k11 ?a12 ?l12 ?c12 ?k12 ?a13 ?l13 ?c13 ?k13 ?a14 ?l14 ?c14 ?k14 ?a15 ?l15 ?c15 ?k15 ?a16 ?l16 ?c16 ?k16 ?a17 ?l17 ?c17 ?k17 ?a18 ?l18 ?c18 ?k18 ?a19 ?l19 ?c19 ?k19 ?a20 ?l20 ?c20 ?k20 ?a21 ?l21 ?c21 ?k21 ?a22 ?l22 ?c22 ?k22 ?a23 ?l23 ?c23 ?k23 ?a24 ?l24 ?c24 ?k24 ?z_ValueError ?z_bool ?z_int ?z_isinstance ?z_len ?z_list ?z_max ?z_min ?z_range ?z_str ?z_tuple ?z_zip ?y_MOST_TICKS
    (case yC_MoveError => k_is); (case yC_NoHouse => k_is); (case yC_NoLetter => k_is); (case yC_NoRow => k_is); (case yC_NoStep => k_is); (case yC_NoText => k_is); (case yC_TooMany => k_is); (case xP_TooMany => k_exc); (case kP_TooMany => k_is); (case bP_TooMany => k_is); (case tP_TooMany => k_is); (case hg_TooMany => first | k_is | kernel_rfl); (case hk_TooMany => first | k_is | kernel_rfl); (case hs_TooMany => first | k_is | kernel_rfl); (case hd_TooMany => first | k_is | kernel_rfl); (case ha_TooMany => first | k_is | kernel_rfl); (case hn_TooMany => first | k_is | kernel_rfl); (case ht_TooMany => first | k_is | kernel_rfl); (case hm_TooMany => first | k_is | kernel_rfl); (case e1 => first | k_is | kernel_rfl); (case e2 => first | k_is | kernel_rfl); (case e3 => first | k_is | kernel_rfl); (case e4 => first | k_is | kernel_rfl); (case a1 => k_is); (case l1 => k_is); (case c1 => k_is); (case k1 => k_is); (case a2 => k_is); (case l2 => k_is); (case c2 => k_is); (case k2 => k_is); (case a3 => k_is); (case l3 => k_is); (case c3 => k_is); (case k3 => k_is); (case a4 => k_is); (case l4 => k_is); (case c4 => k_is); (case k4 => k_is); (case a5 => k_is); (case l5 => k_is); (case c5 => k_is); (case k5 => k_is); (case a6 => k_is); (case l6 => k_is); (case c6 => k_is); (case k6 => k_is); (case a7 => k_is); (case l7 => k_is); (case c7 => k_is); (case k7 => k_is); (case a8 => k_is); (case l8 => k_is); (case c8 => k_is); (case k8 => k_is); (case a9 => k_is); (case l9 => k_is); (case c9 => k_is); (case k9 => k_is); (case a10 => k_is); (case l10 => k_is); (case c10 => k_is); (case k10 => k_is); (case a11 => k_is); (case l11 => k_is); (case c11 => k_is); (case k11 => k_is); (case a12 => k_is); (case l12 => k_is); (case c12 => k_is); (case k12 => k_is); (case a13 => k_is); (case l13 => k_is); (case c13 => k_is); (case k13 => k_is); (case a14 => k_is); (case l14 => k_is); (case c14 => k_is); (case k14 => k_is); (case a15 => k_is); (case l15 => k_is); (case c15 => k_is); (case k15 => k_is); (case a16 => k_is); (case l16 => k_is); (case c16 => k_is); (case k16 => k_is); (case a17 => k_is); (case l17 => k_is); (case c17 => k_is); (case k17 => k_is); (case a18 => k_is); (case l18 => k_is); (case c18 => k_is); (case k18 => k_is); (case a19 => k_is); (case l19 => k_is); (case c19 => k_is); (case k19 => k_is); (case a20 => k_is); (case l20 => k_is); (case c20 => k_is); (case k20 => k_is); (case a21 => k_is); (case l21 => k_is); (case c21 => k_is); (case k21 => k_is); (case a22 => k_is); (case l22 => k_is); (case c22 => k_is); (case k22 => k_is); (case a23 => k_is); (case l23 => k_is); (case c23 => k_is); (case k23 => k_is); (case a24 => k_is); (case l24 => k_is); (case c24 => k_is); (case k24 => k_is); (case z_ValueError => k_is); (case z_bool => k_is); (case z_int => k_is); (case z_isinstance => k_is); (case z_len => k_is); (case z_list => k_is); (case z_max => k_is); (case z_min => k_is); (case z_range => k_is); (case z_str => k_is); (case z_tuple => k_is); (case z_zip => k_is); (case y_MOST_TICKS => k_is)
