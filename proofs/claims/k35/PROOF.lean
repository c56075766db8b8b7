import PyProof.Rows.All
import Wide.All
import OpenK.AllK
import Wide.FinOn
import HandS.Base
import HandS.Call
import HandS.List
import HandS.Comp
import HandS.Ends
import HandS.Words
import HandS.GenList
import HandS.AnyAll
import HandS.Lambda
import HandS.Dict
import KE.KeyNested
import KE.KDictWalk
import KE.KDictSum
import HandS.WordsList
import HandS.TupAny
import HandS.Zip
import HandS.Wide
import HandS.IsInst
import HandS.TupMul
import HandS.Style
import HandS.EndOwn
import KE.KNestM
import HandS.SetFor
import HandS.Strs
import HandS.Text
import HandS.Iter
import HandS.SortInts
import HandS.More
import HandS.Sort
import HandS.Conv
import KE.GoesEnum
import PyProof.SumAny
import KE.DataMinMax
import PyProof.Rows.CallKwBuiltin
import HandS.SortKw
import HandS.ExcValue
import HandS.Star
import HandS.TupSets
import KE.DataCmp
import HandS.SortOrd
import KE.KDictZip
import HandS.Exc
import HandS.ExcOwn
import HandS.WordsExc
import HandS.TryOnly
import HandS.ExcIs
import HandS.FStr
import HandS.RaiseMore
import HandS.Deep
import KE.KDictDisplayH
import KE.KDictCopyH
import PyProof.DictTruth
import HandS.Defaults
import HandS.MakeKw
import HandS.CallSlots
import HandS.DictComp
import KE.KDictPairs
import PyProof.TupleOfGen
import KE.DatumIndex
import PyProof.ReprLen
import PyProof.ReprRoads
import PyProof.ListTruth
import HandS.Rev
import PySem.Challenge.RW_warmove_k35_never_and_two_looked_at
set_option Elab.async false
set_option linter.all false
set_option maxRecDepth 100000
/-! a generator expression whose element calls defs: all(..), any(..) -/
namespace Gx
open PySem PySem.Spec PyProof.Rows L2 GenW GxR
/-- the context of a generator expression's frame -/
abbrev gcx (X : Cx) (A' : Around) (s : Shared) (H : Hp) (cenv : Env) (fp : List Addr) (pn : List (Addr × Obj)) : Cx :=
  { X with A := A', s_0 := s, H_0 := H, env := cenv, outer := X.stack, stack := cenv :: X.stack, ex := fp, fn := fun _ => false, pn := pn, xe := fun _ _ => False }
section
variable {X : Cx} {pins : List (Addr × Obj)} {σ : L2.St} {H : Hp} {s : Shared}
theorem inv_woke {s' : Shared} (I : Inv X pins σ H s) (hh : s'.heap = s.heap) (ho : s'.os = s.os) (hb : AllBare s'.gens) : Inv X pins σ H s' :=
  ⟨I.ok, ho.trans I.os, hb, by rw [hh]; exact I.base, by rw [hh]; exact I.loc, by rw [hh]; exact I.cell, I.free, I.freeC, by rw [hh]; exact I.pin, by rw [hh]; exact I.hok, I.len⟩
theorem gen_start {scope : Scope} {own : List (Str × Nat)} {fp : List Addr} {A' : Around} {code : Value} {s5 : Shared} {m : Str → Option Value} {pn : List (Addr × Obj)} {cenv : Env}
    (I : Inv X pins σ H s) (ok : BlkOk X.N X.env.scope scope own) (hN : X.N.Nodup) (hcell : ∀ y ∈ scope.names, y.2 ≠ .cell) (hfp : ∀ b ∈ fp, FpOk X pins H b ∧ b < s.heap.objs.size) (hA : A'.handled = none)
    (hcenv : cenv = genEnv scope (cloFrom X.env.cells scope.names []) s.heap.objs.size code builtinsNs X.env) (hfr : A'.frames = some (cenv :: X.stack)) (hos : s5.os = s.os) (hb : AllBare s5.gens)
    (kp : ∀ b o, s.heap.get? b = some o → s5.heap.get? b = some o) (ns : s5.heap.Ns s.heap.objs.size m) (hpn : ∀ p ∈ pn, s5.heap.get? p.1 = some p.2 ∧ s.heap.objs.size < p.1 ∧ ∀ v, p.2.data ≠ .cell v) :
    Inv (gcx X A' s H cenv fp pn) [] (wipe σ (own.map (·.2))) H s5 := by
  have hfree : ∀ y ∈ scope.names, y.2 = .free → ∃ c, X.env.cells.lookup y.1 = some c := fun y hy e => by
    rcases ok.free y hy e with k | k
    · exact I.ok.has _ (.inl k)
    · exact I.ok.has _ (.inr k)
  have hL : cenv.locals = s.heap.objs.size := by rw [hcenv]; rfl
  have hcl : cenv.cells = cloFrom X.env.cells scope.names [] := by rw [hcenv]; rfl
  have hsc : cenv.scope = scope := by rw [hcenv]; rfl
  have cm : ∀ {y c}, (y, c) ∈ cloFrom X.env.cells scope.names [] → X.env.cells.lookup y = some c ∧ c < s.heap.objs.size := fun {y c} hm => by
    rcases cloFrom_mem hm with hm | ⟨h1, rfl⟩
    · cases hm
    · obtain ⟨c, hc⟩ := hfree _ h1 rfl
      rw [hc]
      obtain ⟨w, z⟩ := I.cell _ _ hc
      exact ⟨rfl, z.lt⟩
  have mem : ∀ {y c}, cenv.cells.lookup y = some c → X.env.cells.lookup y = some c ∧ c < s.heap.objs.size := fun {y c} e => by
    rw [hcl] at e
    exact cm (PySem.mem_of_lookup e)
  have look : ∀ {y}, scope.names.lookup y = some .free → ∃ c, cenv.cells.lookup y = some c ∧ X.env.cells.lookup y = some c := fun {y} hl => by
    have hy : (y, NameKind.free) ∈ scope.names := PySem.mem_of_lookup hl
    obtain ⟨c', e'⟩ := mem_lookup (cloFrom_has (cells := X.env.cells) (acc := []) hy)
    rw [← hcl] at e'
    exact ⟨c', e', (mem e').1⟩
  have okB : (gcx X A' s H cenv fp pn).Ok := by
    refine ⟨I.ok.mod, by show cenv.scope.kind = _; rw [hsc]; exact ok.kind, by show cenv.globals = _; rw [hcenv]; exact I.ok.glob, by show cenv.builtins = _; rw [hcenv]; rfl, by show s.heap.objs.size ≤ cenv.locals; rw [hL]; exact Nat.le_refl _,
      fun y z c e1 e2 => I.ok.inj y z c (mem e1).1 (mem e2).1, fun y hy => ?_, fun y c z e => (by cases z), fun _ => hA, hfr, .inr ⟨rfl, by show cenv.frame = some cenv.locals; rw [hcenv]; rfl⟩, fun b hb => ⟨?_, fun y c e z => ?_⟩, I.bs, Nat.le_trans I.ok.bsz I.sz, fun b o e hb => ?_, fun b hb z => ?_, I.stack, I.stkFree⟩
    · show ∃ c, cenv.cells.lookup y = some c
      have key : ∀ k, cenv.kindOf y = some k → (k = .cell ∨ k = .free) → ∃ c, cenv.cells.lookup y = some c := fun k hk hk' => by
        unfold Env.kindOf at hk
        rw [hsc] at hk
        rcases hk' with rfl | rfl
        · exact absurd rfl (hcell _ (PySem.mem_of_lookup hk))
        · obtain ⟨c, h1, _⟩ := look hk
          exact ⟨c, h1⟩
      rcases hy with hy | hy
      · exact key _ hy (.inl rfl)
      · exact key _ hy (.inr rfl)
    · show b ≠ cenv.locals
      rw [hL]; exact Nat.ne_of_lt (hfp b hb).2
    · exact (hfp b hb).1.2.2.2.2.1 y c (mem e).1 z
    · rcases (hfp b hb).1.2.2.2.1 with z | z
      · exact I.ok.noex b o e z
      · exact absurd (Nat.lt_of_lt_of_le (Heap.lt_size e) (Nat.le_trans I.ok.bsz z)) (Nat.lt_irrefl _)
    · rcases List.mem_cons.mp (I.stkSub b z) with z | z
      · exact (hfp b hb).1.2.1 z
      · exact (hfp b hb).1.2.2.1 z
  refine ⟨okB, hos, hb, Un.kept kp, ⟨m, by show s5.heap.Ns cenv.locals m; rw [hL]; exact ns, fun i y av e1 e2 e3 => ?_⟩, fun y c e => ?_, ?_, fun y c e => I.freeC y c (mem e).1, fun p hp => ?_, I.hok.kept kp, by rw [wipe_length]; exact I.len⟩
  · obtain ⟨e2, hne⟩ := wipe_some e2
    have hfr : scope.names.lookup y = some .free := by
      have key : ∀ k, scope.names.lookup y = some k → k = .local ∨ k = .cell ∨ k = .free → scope.names.lookup y = some .free := fun k hk hk' => by
        have no : ¬ (k = .local ∨ k = .cell) := fun hh => by
          rcases ok.own _ (PySem.mem_of_lookup hk) hh with e' | e'
          · obtain ⟨p, hp, hpy⟩ := List.mem_map.mp e'
            have e3 := ok.ix p hp
            have : p.1 = y := hpy
            rw [this] at e3
            exact hne (List.mem_map.mpr ⟨p, hp, nodup_ix hN e3 e1⟩)
          · exact e' (List.mem_of_getElem? e1)
        rcases hk' with rfl | rfl | rfl
        · exact absurd (.inl rfl) no
        · exact absurd (.inr rfl) no
        · exact hk
      have e3 : Vis cenv.scope y := e3
      rw [hsc] at e3
      rcases e3 with e3 | e3 | e3
      · exact key _ e3 (.inl rfl)
      · exact key _ e3 (.inr (.inl rfl))
      · exact key _ e3 (.inr (.inr rfl))
    obtain ⟨m', hn, hl⟩ := I.loc
    have hvis : Vis X.env.scope y := (ok.free _ (PySem.mem_of_lookup hfr) rfl).elim (fun k => .inr (.inl k)) (fun k => .inr (.inr k))
    obtain ⟨w, r, q⟩ := hl i y av e1 e2 hvis
    refine ⟨w, r, .inr ⟨.inr (by show cenv.kindOf y = some .free; unfold Env.kindOf; rw [hsc]; exact hfr), ?_⟩⟩
    obtain ⟨c, h1, h2⟩ := look hfr
    rcases q with ⟨k, _⟩ | ⟨_, c', e', z⟩
    · have k : X.env.scope.names.lookup y = some .local := k
      rcases ok.free _ (PySem.mem_of_lookup hfr) rfl with k' | k' <;> rw [show X.env.scope.names.lookup y = _ from k'] at k <;> cases k
    · rw [h2] at e'; cases e'
      exact ⟨c, h1, z.keeps kp⟩
  · obtain ⟨w, z⟩ := I.cell y c (mem e).1
    exact ⟨w, z.keeps kp⟩
  · show H cenv.locals = none
    rw [hL]; exact I.hok.fresh (Nat.le_refl _)
  · have hp : p ∈ pn := by simpa using hp
    obtain ⟨h1, h2, h3⟩ := hpn p hp
    refine ⟨h1, I.hok.fresh (Nat.le_of_lt h2), ?_, fun z => ?_, h3⟩
    · show p.1 ≠ cenv.locals
      rw [hL]; exact Nat.ne_of_gt h2
    · have z : p.1 ∈ frs X.stack := z
      obtain ⟨_, o, ho, _⟩ := I.stack.mem z
      exact absurd (Nat.lt_trans h2 (Heap.lt_size ho)) (Nat.lt_irrefl _)
end
/-- a table of code objects, each of which is known -/
def TabX (H : Hp) (P : Addr) : Prop := ∃ ps : Array Value, H P = some (.tbl ps) ∧ TriplesOk ps.toList ∧ ∀ (pos : Pos) (cv : Value), codeAmong pos ps.toList = some cv → ∃ (c : Addr) (q : Str), cv = .ref c ∧ H c = some (LamX.CodeO c q)
/-- the table may have grown, all else stands -/
def TabbedX (P : Addr) (H H' : Hp) : Prop := TabX H' P ∧ ∀ b o, b ≠ P → H b = some o → H' b = some o
theorem TabX.keep {H H' : Hp} {P : Addr} (h : TabX H P) (k : ∀ a o, H a = some o → H' a = some o) : TabX H' P := by
  obtain ⟨ps, e, t, a⟩ := h
  refine ⟨ps, k _ _ e, t, fun pos cv hc => ?_⟩
  obtain ⟨c, q, e1, e2⟩ := a pos cv hc
  exact ⟨c, q, e1, k _ _ e2⟩
theorem TabbedX.same {H : Hp} {P : Addr} (h : TabX H P) : TabbedX P H H := ⟨h, fun _ _ _ e => e⟩
/-- another table stands -/
theorem TabX.other {H H' : Hp} {P P' : Addr} (h : TabX H P') (k : TabbedX P H H') (hp : TabX H P) : TabX H' P' := by
  by_cases z : P' = P
  · rw [z]; exact k.1
  · obtain ⟨ps, e, t, a⟩ := h
    refine ⟨ps, k.2 _ _ z e, t, fun pos cv hc => ?_⟩
    obtain ⟨c, q, e1, e2⟩ := a pos cv hc
    refine ⟨c, q, e1, k.2 _ _ (fun y => ?_) e2⟩
    obtain ⟨ps', e', _⟩ := hp
    rw [y, e'] at e2
    exact LamX.codeO_ne _ (Option.some.inj e2).symm
theorem tabX_new {H : Hp} {P c : Addr} {q : Str} {ps : Array Value} {pos : Pos} (hP : H P = some (.tbl ps)) (ht : TriplesOk ps.toList) (ha : ∀ (pos : Pos) (cv : Value), codeAmong pos ps.toList = some cv → ∃ (c : Addr) (q : Str), cv = .ref c ∧ H c = some (LamX.CodeO c q)) (hn : H c = none) :
    TabbedX P H (upd (upd H P (.tbl (ps ++ #[rawInt pos.line, rawInt pos.col, .ref c]))) c (LamX.CodeO c q)) := by
  have nPc : P ≠ c := ne_of_none hP hn
  have keep : ∀ b o, b ≠ P → H b = some o → upd (upd H P (.tbl (ps ++ #[rawInt pos.line, rawInt pos.col, .ref c]))) c (LamX.CodeO c q) b = some o := fun b o hb e => by
    rw [upd_ne (ne_of_none e hn), upd_ne hb]
    exact e
  have eL : (ps ++ #[rawInt pos.line, rawInt pos.col, .ref c]).toList = ps.toList ++ [rawInt pos.line, rawInt pos.col, .ref c] := by simp
  refine ⟨⟨_, by rw [upd_ne nPc, upd_same], by rw [eL]; exact PySem.TriplesOk_snoc _ _ _ _ ht, fun p' cv hcv => ?_⟩, keep⟩
  rw [eL] at hcv
  rcases LamX.among_app _ ht hcv with z | z
  · obtain ⟨c0, q0, e1, e2⟩ := ha p' cv z
    refine ⟨c0, q0, e1, keep _ _ (fun y => ?_) e2⟩
    rw [y, hP] at e2
    exact LamX.codeO_ne _ (Option.some.inj e2).symm
  · exact ⟨c, q, z, upd_same⟩
theorem tabX_nil {H : Hp} {P : Addr} (h : H P = some (.tbl #[])) : TabX H P := ⟨#[], h, trivial, fun pos cv hc => by
  have z : codeAmong pos [] = some cv := hc
  simp [codeAmong] at z⟩
end Gx

set_option Elab.async false
set_option linter.all false
set_option maxRecDepth 100000
set_option maxHeartbeats 1000000
namespace Gx
open PySem PySem.Spec PyProof.Rows L2 GenW GxR
/-- slept: nothing but the table of generators has changed -/
structure Woke (s s' : Shared) : Prop where
  heap : s'.heap = s.heap
  os : s'.os = s.os
  bare : AllBare s'.gens
/-- what a turn asks: W a word of the turn, a measure and the heap; Qt behind the last turn, D at each value handed out -/
def Turns (J : It) (g : TG) (tt : TT) (te : TE) (vs : List Nat) (σ0 : L2.St) (W : Nat → Nat → Hp → Prop) (Qt : Hp → Prop) (Yd : V → Hp → (Hp → Prop) → Prop) : Prop :=
  ∀ i m H, W i m H → (J.stop i H ∧ Qt H) ∨ (J.go i H ∧ ∃ Nx : Hp → Prop, (∀ H', Nx H' → ∃ m', m' < m ∧ W (i + 1) m' H') ∧ ∀ x H', J.yld i H x H' → g x σ0 H' fun σ2 H2 => wipe σ2 vs = σ0 ∧ tt σ2 H2 fun b H3 => if b = true then te σ2 H3 fun y H4 => Yd y H4 Nx else Nx H3)
/-- a truth is handed out: one way goes on, the other ends -/
def YdB (go : Bool) (Qf : Hp → Prop) : V → Hp → (Hp → Prop) → Prop := fun y H Nx => ∃ b, y = .bl b ∧ (if b = go then Nx H else Qf H)
abbrev RG (Y : Cx) (σ0 : L2.St) (Qt : Hp → Prop) : GenEnd := fun n s₀ r s₁ => ((r = .ok (.ret .none) ∨ r = .ok .next) ∧ (∃ H, Inv Y [] σ0 H s₁ ∧ Qt H)) ∨ ∃ e, r = .error e ∧ False
abbrev YG (Y : Cx) (go : Bool) (Qf : Hp → Prop) : Protocol := fun n s₀ v s kap => ∃ b H σ2, v = .bool b ∧ Inv Y [] σ2 H s ∧ (b ≠ go → Qf H) ∧ (b = go → ∀ s', Woke s s' → kap (.send .none) s')
section
variable {X : Cx} {A' B : Around} {s4 : Shared} {H4 : Hp} {cenv : Env} {fp : List Addr} {pn : List (Addr × Obj)} {it : Addr} {tn : Nat → Heap → Prop} {J : It} {elt tg iter : Expr} {ifs : List Expr} {scope : Scope} {pos : Pos} {g : TG} {tt : TT} {te : TE} {vs : List Nat} {σ0 : L2.St} {W : Nat → Nat → Hp → Prop} {Qt Qf : Hp → Prop} {go : Bool}
theorem seg_gx (hA : B.over (.compLoop (.GeneratorExp elt [⟨tg, iter, ifs, 0⟩] scope pos) 0 (.ref it) .none cenv) [] = A') (hc : X.calm = true) (hco : cenv.scope.isCoroutine = false) (T : Turn X.prog X.w X.K tg J fp it tn)
    (hst : ∀ H : Hp, (∀ b ∈ fp, H b = none) → ∀ b ∈ fp, FpOk (gcx X A' s4 H4 cenv fp pn) [] H b) (hσ : wipe σ0 vs = σ0)
    (hg : PG (gcx X A' s4 H4 cenv fp pn) tg g) (ht : PTs (gcx X A' s4 H4 cenv fp pn) ifs tt) (he : PE (gcx X A' s4 H4 cenv fp pn) elt te) (hturn : Turns J g tt te vs σ0 W Qt (YdB go Qf)) :
    ∀ (m n i : Nat) (H : Hp) (s₀ s : Shared), m + 1 ≤ n → Inv (gcx X A' s4 H4 cenv fp pn) [] σ0 H s → tn i s.heap → (∀ b ∈ fp, H b = none) → W i m H →
      Seg (model X.prog X.w) B (RG (gcx X A' s4 H4 cenv fp pn) σ0 Qt) (YG (gcx X A' s4 H4 cenv fp pn) go Qf) n s₀ (.compLoop (.GeneratorExp elt [⟨tg, iter, ifs, 0⟩] scope pos) 0 (.ref it) .none cenv)
        ((model X.prog X.w).den (.compLoop (.GeneratorExp elt [⟨tg, iter, ifs, 0⟩] scope pos) 0 (.ref it) .none cenv)) [] s := by
  intro m
  induction m using Nat.strongRecOn with
  | _ m ih =>
  intro n i H s₀ s hmn I st fr w
  show Seg _ B _ _ _ s₀ _ ((compTurn (.GeneratorExp elt [⟨tg, iter, ifs, 0⟩] scope pos) 0 (.ref it) .none cenv).onRaise (leaving cenv)) [] s
  rw [compTurn_gen, Sem.onRaise_eq_wrap]
  refine seg_bind_wrap (wpAny_standAt ?_)
  rcases hturn i m H w with ⟨stop, qn⟩ | ⟨goes, Nx, hN, step⟩
  · refine seg_bind_wrap ?_
    rw [hA]
    refine wpAny_mono (T.done (gcx X A' s4 H4 cenv fp pn) rfl rfl rfl hc i [] s σ0 H _ I (hst H fr) st stop) (fun r s1 hr => ?_) fun _ _ e => e
    obtain ⟨rfl, I1⟩ := hr
    exact seg_end (.ok .next) (.inl ⟨.inr rfl, H, I1, qn⟩)
  · refine seg_bind_wrap ?_
    rw [hA]
    refine wpAny_mono (T.item (gcx X A' s4 H4 cenv fp pn) rfl rfl rfl hc i [] s σ0 H _ I (hst H fr) st goes) (fun r s1 hr => ?_) fun _ _ e => e
    obtain ⟨u, rfl, h1⟩ := hr
    refine seg_bind_wrap ?_
    rw [hA]
    refine wpAny_mono h1 (fun _ s2 h2 => ?_) fun _ _ e => e
    obtain ⟨x, H2, I2, rx, yl, st2, fr2⟩ := h2
    have I2' := I2.pinned (hst H2 fr2) (T.obj _ _ st2)
    refine seg_bind_wrap ?_
    rw [hA]
    refine wpAny_mono (hg.run _ s2 σ0 H2 x u _ I2' rx (step x H2 yl)) (fun _ s3 h3 => ?_) fun _ _ e => e.elim
    obtain ⟨σ3, H3, I3, hw3, q3⟩ := h3
    -- the records of the iterator stand
    have keeps : ∀ {σ' : L2.St} {H' : Hp} {s' : Shared}, Inv (gcx X A' s4 H4 cenv fp pn) ([] ++ pinsAt fp s2.heap) σ' H' s' → tn (i + 1) s'.heap ∧ ∀ b ∈ fp, H' b = none := fun {σ' H' s'} I' =>
      ⟨T.keep _ _ _ st2 fun b hb o e => (I'.pin (b, o) (List.mem_append_right _ (List.mem_append_right _ (mem_pinsAt hb e)))).1, fun b hb => by
        obtain ⟨o, e, _⟩ := T.obj _ _ st2 b hb
        exact (I'.pin (b, o) (List.mem_append_right _ (List.mem_append_right _ (mem_pinsAt hb e)))).2.1⟩
    have back : ∀ {H' : Hp} {s' : Shared}, Inv (gcx X A' s4 H4 cenv fp pn) ([] ++ pinsAt fp s2.heap) σ3 H' s' → Inv (gcx X A' s4 H4 cenv fp pn) [] σ0 H' s' := fun {H' s'} I' => by
      refine I'.unpinned.weak ?_ fun j v e => ?_
      · rw [← hw3, wipe_length]
      · rw [← hw3] at e
        exact (wipe_some e).1
    refine seg_bind_wrap ?_
    rw [hA]
    refine wpAny_mono (ht.run _ s3 σ3 H3 _ I3 q3) (fun b s5 h5 => ?_) fun _ _ e => e.elim
    obtain ⟨H5, I5, q5⟩ := h5
    cases b with
    | false =>
      simp only [Bool.false_eq_true, if_false]
      obtain ⟨m', hm, w'⟩ := hN H5 q5
      obtain ⟨k1, k2⟩ := keeps I5
      exact seg_again rfl (ih m' hm n (i + 1) H5 s₀ s5 (by omega) (back I5) k1 k2 w')
    | true =>
      simp only [if_true]
      have hy : ∀ v, yieldOut cenv v = yieldValue v := fun v => by simp only [yieldOut, hco, Bool.false_eq_true, if_false]
      simp only [hy]
      rw [Sem.bind_eq_wrap', Sem.bind_eq_wrap', Sem.wrap_wrap, Sem.wrap_wrap]
      refine seg_wrap ?_
      rw [hA]
      refine wpAny_mono (he.run _ s5 σ3 H5 _ I5 q5) (fun v s6 h6 => ?_) fun _ _ e => e.elim
      obtain ⟨y, H6, I6, ry, b, rfl, q6⟩ := h6
      have ev : v = .bool b := ry
      subst ev
      obtain ⟨n', rfl⟩ : ∃ n', n = n' + 1 := ⟨n - 1, by omega⟩
      refine seg_at (seg_yield rfl rfl rfl ⟨b, H6, σ3, rfl, I6.unpinned, fun hb => ?_, fun hb s' wk => ?_⟩)
      · rw [if_neg hb] at q6; exact q6
      · rw [if_pos hb] at q6
        obtain ⟨m', hm, w'⟩ := hN H6 q6
        obtain ⟨k1, k2⟩ := keeps I6
        exact seg_again rfl (ih m' hm n' (i + 1) H6 s' s' (by omega) (inv_woke (back I6) wk.heap wk.os wk.bare) (by rw [wk.heap]; exact k1) k2 w')
/-- from its start -/
theorem seg_gx0 (hA : B.over (.compLoop (.GeneratorExp elt [⟨tg, iter, ifs, 0⟩] scope pos) 0 (.ref it) .none cenv) [] = A') (hc : X.calm = true) (hco : cenv.scope.isCoroutine = false) (T : Turn X.prog X.w X.K tg J fp it tn)
    (hst : ∀ H : Hp, (∀ b ∈ fp, H b = none) → ∀ b ∈ fp, FpOk (gcx X A' s4 H4 cenv fp pn) [] H b) (hσ : wipe σ0 vs = σ0)
    (hg : PG (gcx X A' s4 H4 cenv fp pn) tg g) (ht : PTs (gcx X A' s4 H4 cenv fp pn) ifs tt) (he : PE (gcx X A' s4 H4 cenv fp pn) elt te) (hturn : Turns J g tt te vs σ0 W Qt (YdB go Qf))
    (m : Nat) (H : Hp) (s₀ s : Shared) (I : Inv (gcx X A' s4 H4 cenv fp pn) [] σ0 H s) (st : tn 0 s.heap) (fr : ∀ b ∈ fp, H b = none) (w : W 0 m H) :
      Seg (model X.prog X.w) B (RG (gcx X A' s4 H4 cenv fp pn) σ0 Qt) (YG (gcx X A' s4 H4 cenv fp pn) go Qf) (m + 1) s₀ (.compStart (.GeneratorExp elt [⟨tg, iter, ifs, 0⟩] scope pos) 0 (.ref it) .none cenv)
        ((model X.prog X.w).den (.compStart (.GeneratorExp elt [⟨tg, iter, ifs, 0⟩] scope pos) 0 (.ref it) .none cenv)) [] s := by
  have loop := seg_gx hA hc hco T hst hσ hg ht he hturn m (m + 1) 0 H s₀ s (Nat.le_refl _) I st fr w
  show Seg _ B _ _ _ s₀ _ ((compStart (.GeneratorExp elt [⟨tg, iter, ifs, 0⟩] scope pos) 0 (.ref it) .none cenv).onRaise (leaving cenv)) [] s
  unfold compStart
  rw [Sem.onRaise_eq_wrap]
  show Seg _ B _ _ _ s₀ _ ((ask >>= _).wrap _ _ _ _) [] s
  refine seg_bind_wrap (wpAny_askSetting ?_)
  split
  · exact seg_again rfl loop
  · first
      | exact seg_bind_wrap (wpAny_rule (seg_bind_wrap (wpAny_standAt (seg_bind_wrap (T.self _ 0 s _ _ st (seg_again rfl loop))))))
      | (refine seg_bind_wrap (wpAny_rule ?_); show Seg _ B _ _ _ s₀ _ ((standAt iter.pos >>= _).wrap _ _ _ _) [] s; exact seg_bind_wrap (wpAny_standAt (seg_bind_wrap (T.self _ 0 s _ _ st (seg_again rfl loop)))))
end
/-! ### the consumer -/
section
variable {P : Program} {w : World} {Y : Cx} {σ0 : L2.St} {Qt Qf : Hp → Prop} {A : Around} {R : Result → Shared → Prop} {a : Addr} {g : Nat} {gobj : Obj}
theorem all_loop (hY : Y.prog = P ∧ Y.w = w) (hh : A.handled = none) (hd : A.depth < recursionLimit) (hp : (a, gobj) ∈ Y.pn) (hgo : ∀ s : Shared, s.heap.get? a = some gobj → s.heap.IsGen a g)
    (hT : ∀ s₁ H s', Inv Y [] σ0 H s₁ → Qt H → (∀ b o, s₁.heap.get? b = some o → s'.heap.get? b = some o) → s'.os = s₁.os → AllBare s'.gens → R (.ok (.ret (.bool true))) s')
    (hF : ∀ s₁ H σ2 s', Inv Y [] σ2 H s₁ → Qf H → (∀ b o, s₁.heap.get? b = some o → s'.heap.get? b = some o) → s'.os = s₁.os → AllBare s'.gens → R (.ok (.ret (.bool false))) s') :
    ∀ (n : Nat) (s : Shared), s.heap.IsGen a g → s.heap.NoLimit → (∃ gs, s.gens[g]? = some gs ∧ gs.Goes (model P w) A.in1.in1 (RG Y σ0 Qt) (YG Y true Qf) n (.send .none) (s.setGen g .running)) →
      codeAny (model P w) A (.builtin "all.loop" ⟨[.ref a], []⟩) R s := by
  intro n
  induction n with
  | zero =>
    intro s hg hl ⟨gs, hgs, hgoes⟩
    refine codeAny_builtin F.entry_all_loop ?_
    rw [Around.under_plainId F.plain_all_loop _]
    show wpAny _ A.in1 (pyNext (.ref a) >>= _) _ _ s
    refine wpAny_bind (next_genG (A := A.in1) hh hl hd hg hgs hgoes (fun v s₁ gs' hbare hv => ?_) (fun s₁ hq h' hk => ?_) fun e s₁ he => he.elim)
    · obtain ⟨b, H, σ2, rfl, I, h1, h2⟩ := hv
      cases b with
      | true => exact (h2 rfl _ ⟨rfl, rfl, I.bare⟩).elim
      | false =>
        refine wpAny_bind (wpAny_holding (wpAny_truthy_bool ?_))
        refine wpAny_bind (wpAny_letGo ?_)
        simp only [Bool.false_eq_true, if_false]
        refine wpAny_bind (wpAny_rule (wpAny_pure ?_))
        exact hF s₁ H σ2 _ I (h1 (by decide)) (fun _ _ e => e) rfl (allBare_setGen I.bare hbare)
    · obtain ⟨H, I, q⟩ := hq
      refine wpAny_bind (wpAny_rule (wpAny_pure ?_))
      exact hT s₁ H _ I q hk rfl (allBare_setGen I.bare rfl)
  | succ n ih =>
    intro s hg hl ⟨gs, hgs, hgoes⟩
    have hgl : g < s.gens.size := (Array.getElem?_eq_some_iff.mp hgs).1
    refine codeAny_builtin F.entry_all_loop ?_
    rw [Around.under_plainId F.plain_all_loop _]
    show wpAny _ A.in1 (pyNext (.ref a) >>= _) _ _ s
    refine wpAny_bind (wpAny_gsz (n := g + 1) hgl (next_genG (A := A.in1) hh hl hd hg hgs hgoes (fun v s₁ gs' hbare hv => ?_) (fun s₁ hq h' hk => ?_) fun e s₁ he => he.elim))
    · intro hsz
      obtain ⟨b, H, σ2, rfl, I, h1, h2⟩ := hv
      have hsz1 : g < s₁.gens.size := by
        have q : (s₁.setGen g gs').gens.size = s₁.gens.size := setGen_size _ _ _
        have hsz' : g + 1 ≤ (s₁.setGen g gs').gens.size := hsz
        omega
      refine wpAny_bind (wpAny_holding (wpAny_truthy_bool ?_))
      refine wpAny_bind (wpAny_letGo ?_)
      cases b with
      | true =>
        simp only [if_true]
        refine wpAny_pure ⟨plainId_quiet F.plain_all_loop _, ih (s₁.setGen g gs') (hgo _ (I.pin (a, gobj) (List.mem_append_left _ hp)).1) I.nolimit ⟨gs', setGen_at hsz1, ?_⟩⟩
        exact h2 rfl _ ⟨rfl, rfl, allBare_setGen (s := s₁.setGen g gs') (allBare_setGen I.bare hbare) rfl⟩
      | false =>
        simp only [Bool.false_eq_true, if_false]
        refine wpAny_bind (wpAny_rule (wpAny_pure ?_))
        exact hF s₁ H σ2 _ I (h1 (by decide)) (fun _ _ e => e) rfl (allBare_setGen I.bare hbare)
    · intro hsz
      obtain ⟨H, I, q⟩ := hq
      refine wpAny_bind (wpAny_rule (wpAny_pure ?_))
      exact hT s₁ H _ I q hk rfl (allBare_setGen I.bare rfl)
end
end Gx

set_option Elab.async false
set_option linter.all false
set_option maxRecDepth 100000
set_option maxHeartbeats 2000000
namespace Gx
open PySem PySem.Spec PyProof.Rows L2 GenW GxR
/-- a generator expression's own scope -/
structure GenOk (env : Env) (N : List Str) (scope : Scope) (own : List (Str × Nat)) : Prop where
  blk : BlkOk N env.scope scope own
  co : scope.isCoroutine = false
  cell : ∀ y ∈ scope.names, y.2 ≠ .cell
  dot : scope.names.lookup (".0" : Str) = some NameKind.local
section
variable {X : Cx} {pins : List (Addr × Obj)} {σ : L2.St} {H : Hp} {s : Shared}
theorem wipe_wipe (σ : L2.St) : ∀ vs : List Nat, wipe (wipe σ vs) vs = wipe σ vs := fun vs => by
  apply List.ext_getElem?
  intro i
  by_cases h : i ∈ vs
  · have z : ∀ σ' : L2.St, ∀ ws : List Nat, i ∈ ws → (wipe σ' ws)[i]? = if i < σ'.length then some none else none := fun σ' ws => by
      induction ws with
      | nil => intro h; cases h
      | cons w ws ih =>
        intro h
        show ((wipe σ' ws).set w none)[i]? = _
        rw [List.getElem?_set]
        by_cases e : w = i
        · rw [if_pos e, wipe_length, e]
        · rw [if_neg e]
          rcases List.mem_cons.mp h with h | h
          · exact absurd h.symm e
          · exact ih h
    rw [z _ _ h, z _ _ h, wipe_length]
  · rw [wipe_out h]
theorem room_gen {k : Nat} {A : Around} {elt tg iter : Expr} {ifs : List Expr} {scope : Scope} {pos : Pos} {it : Value} {cenv : Env} (hr : Room (k + 1) A) : Room k (A.in1.in1.over (.compLoop (.GeneratorExp elt [⟨tg, iter, ifs, 0⟩] scope pos) 0 it .none cenv) []) :=
  ⟨hr.hd, by have := hr.dp; show A.depth + 1 + 3 * k + 5 < _; omega, by have := hr.un; show A.units + 1 + 1 + 3 + 16 * k + 200 < _; omega⟩
theorem gen_ready {c P : Addr} {elt tg iter : Expr} {ifs : List Expr} {scope : Scope} {own : List (Str × Nat)} {gpos : Pos} {wi : TI} {g : TG} {tt : TT} {te : TE} {k : Nat} {Q' : Value → Shared → Prop} {Qt Qf : Hp → Prop} {go : Bool}
    (hc : X.calm = true) (hr : Room (k + 1) X.A) (hN : X.N.Nodup) (TB : TabB X.base X.mg c P) (hcode : X.env.code = .ref c) (S : GenOk X.env X.N scope own) (hi : PI X tg iter wi)
    (hg : ∀ (A' : Around) (s : Shared) (H : Hp) (cl : List (Str × Addr)) (C : Addr) (code : Value) (fp : List Addr) (pn : List (Addr × Obj)), Room k A' → PG (gcx X A' s H (genEnv scope cl C code builtinsNs X.env) fp pn) tg g)
    (ht : ∀ (A' : Around) (s : Shared) (H : Hp) (cl : List (Str × Addr)) (C : Addr) (code : Value) (fp : List Addr) (pn : List (Addr × Obj)), Room k A' → PTs (gcx X A' s H (genEnv scope cl C code builtinsNs X.env) fp pn) ifs tt)
    (he : ∀ (A' : Around) (s : Shared) (H : Hp) (cl : List (Str × Addr)) (C : Addr) (code : Value) (fp : List Addr) (pn : List (Addr × Obj)), Room k A' → PE (gcx X A' s H (genEnv scope cl C code builtinsNs X.env) fp pn) elt te)
    (hs : ∀ v, genFold iter X.env v = pure v) (I : Inv X pins σ H s)
    (h : wi σ H fun J H1 => TabX H1 P ∧ ∀ H2, TabbedX P H1 H2 → ∃ W : Nat → Nat → Hp → Prop, (∃ m, W 0 m H2) ∧ Turns J g tt te (own.map (·.2)) (wipe σ (own.map (·.2))) W Qt (YdB go Qf))
    (hQ : ∀ (a : Addr) (gi n : Nat) (s5 : Shared) (Y : Cx) (gobj : Obj), Y.prog = X.prog ∧ Y.w = X.w → (a, gobj) ∈ Y.pn → (∀ s : Shared, s.heap.get? a = some gobj → s.heap.IsGen a gi) → s5.heap.IsGen a gi → s5.heap.NoLimit →
      (∃ gs, s5.gens[gi]? = some gs ∧ gs.Goes (model X.prog X.w) X.A.in1.in1 (RG Y (wipe σ (own.map (·.2))) Qt) (YG Y go Qf) n (.send .none) (s5.setGen gi .running)) →
      (∀ s₁ H σ2 s', Inv Y [] σ2 H s₁ → (∀ b o, s₁.heap.get? b = some o → s'.heap.get? b = some o) → s'.os = s₁.os → AllBare s'.gens → Inv X pins σ H s') → Q' (.ref a) s5) :
    wpAny (model X.prog X.w) X.A (eval (.GeneratorExp elt [⟨tg, iter, ifs, 0⟩] scope gpos) X.env) Q' X.xe s := by
  have hfree : ∀ y ∈ scope.names, y.2 = .free → ∃ c, X.env.cells.lookup y.1 = some c := fun y hy e => by
    rcases S.blk.free y hy e with k | k
    · exact I.ok.has _ (.inl k)
    · exact I.ok.has _ (.inr k)
  refine wpAny_GeneratorExp_make S.co (closure_ok hfree) S.cell S.dot S.blk.kind (by have := hr.dp; omega) ?_ hs
  refine thn (hi.run pins s σ H _ I h) fun v s1 h1 => thn h1 fun itv s2 h2 => ?_
  obtain ⟨it, fp, tn, J, H1, rfl, I1, T, st1, f1, ⟨ps, hP, htr, hall⟩, q1⟩ := h2
  have hPs : s2.heap.get? P = some { cls := .none, data := .fields ps } := I1.hok P _ hP
  have cd : PySem.W.CodeHd s2.heap c P := TB.code.keeps fun b u e => I1.bk b u e
  refine ⟨I1.nolimit, ?_⟩
  have nfP : ∀ b ∈ fp, b ≠ P := fun b hb z => by
    have := (f1 b hb).1
    rw [z, hP] at this
    cases this
  have cont : ∀ (code : Value) (h3 : Heap) (tk : Nat) (H2 : Hp), Heap.ExtBut P s2.heap h3 → s2.heap.objs.size ≤ h3.objs.size → Inv X pins σ H2 { s2 with heap := h3, toks := tk } → TabbedX P H1 H2 → (∀ b, b < s2.heap.objs.size → b ≠ P → H2 b = H1 b) →
      wpAny (model X.prog X.w) X.A (builtinsFor X.env.globals X.env.builtins) (fun bi s₄ =>
        ∀ h', h'.Ns s₄.heap.objs.size (fun y => if y = ".0" then some (.ref it) else none) → Heap.SameBut s₄.heap.objs.size (s₄.heap.push { cls := .type "frame", data := .dict #[] }) h' →
          Q' (.ref h'.objs.size) { s₄ with
            gens := s₄.gens.push (.fresh (.compStart (.GeneratorExp elt [⟨tg, iter, ifs, 0⟩] scope gpos) 0 (.ref it) .none (genEnv scope (cloFrom X.env.cells scope.names []) s₄.heap.objs.size code bi X.env))),
            toks := s₄.toks + 1 + 1 + 1,
            heap := h'.push { cls := .type "generator", data := .fields #[.int s₄.gens.size 0, .str "<genexpr>" (s₄.toks + 1), .str (X.env.qual ++ "<genexpr>") (s₄.toks + 1 + 1)] } }) X.xe { s2 with heap := h3, toks := tk } := by
    intro code h3 tk H2 hx hsz J2 hTb hEq
    obtain ⟨bm, ob, e1, e2, e3, e4, e5, e6, e7, e8⟩ := TB.bm
    refine wpAny_builtinsFor (m := X.mg) (by rw [I1.ok.glob]; exact (I1.mod.glob.keeps I1.bk).extBut hx TB.gP) e1 e2 (hx _ _ e4 (I1.bk _ _ e5)) e6 e7 e8 ?_
    intro h' hns hsb
    obtain ⟨W, ⟨m, w0⟩, hturn⟩ := q1 H2 hTb
    -- the new objects
    have szp : (h3.push { cls := .type "frame", data := .dict #[] }).objs.size = h3.objs.size + 1 := Heap.size_push ..
    have sz' : h'.objs.size = h3.objs.size + 1 := by rw [← szp]; exact hsb.1
    have kp : ∀ b o, h3.get? b = some o → (h'.push { cls := .type "generator", data := .fields #[.int s2.gens.size 0, .str "<genexpr>" (tk + 1), .str (X.env.qual ++ "<genexpr>") (tk + 1 + 1)] }).get? b = some o := fun b o e =>
      Heap.get?_push_of_some _ ((hsb.2 b (Nat.ne_of_lt (Heap.lt_size e))).trans (Heap.get?_push_of_some _ e))
    have f2 : ∀ b ∈ fp, FpOk X pins H2 b ∧ b < h3.objs.size := fun b hb => by
      obtain ⟨o, e, _⟩ := T.obj _ _ st1 b hb
      refine ⟨⟨by rw [hEq b (Heap.lt_size e) (nfP b hb)]; exact (f1 b hb).1, (f1 b hb).2⟩, Nat.lt_of_lt_of_le (Heap.lt_size e) hsz⟩
    have st3 : tn 0 h3 := T.keep _ _ _ st1 fun b hb o e => hx b o (nfP b hb) e
    obtain ⟨A', hA'⟩ : ∃ A', X.A.in1.in1.over (.compLoop (.GeneratorExp elt [⟨tg, iter, ifs, 0⟩] scope gpos) 0 (.ref it) .none (genEnv scope (cloFrom X.env.cells scope.names []) h3.objs.size code builtinsNs X.env)) [] = A' := ⟨_, rfl⟩
    have hroom : Room k A' := by rw [← hA']; exact room_gen hr
    have hfrm : A'.frames = some (genEnv scope (cloFrom X.env.cells scope.names []) h3.objs.size code builtinsNs X.env :: X.stack) := by
      have e : X.A.frames = some X.stack := I1.ok.frames
      rw [← hA']
      unfold Around.over
      dsimp only
      rw [e]
      rfl
    have start : ∀ gens' : Array GenState, AllBare gens' → ∀ tk', Inv (gcx X A' { s2 with heap := h3, toks := tk } H2 (genEnv scope (cloFrom X.env.cells scope.names []) h3.objs.size code builtinsNs X.env) fp [(h'.objs.size, _)]) [] (wipe σ (own.map (·.2))) H2
        { s2 with gens := gens', toks := tk', heap := h'.push { cls := .type "generator", data := .fields #[.int s2.gens.size 0, .str "<genexpr>" (tk + 1), .str (X.env.qual ++ "<genexpr>") (tk + 1 + 1)] } } := fun gens' hb tk' =>
      gen_start (code := code) J2 S.blk hN S.cell f2 hroom.hd rfl hfrm rfl hb kp (Heap.Ns.keeps hns fun b o e => Heap.get?_push_of_some _ e) (fun p hp => by
        rw [List.mem_singleton.mp hp]
        exact ⟨Heap.get?_push_size _ rfl, by show h3.objs.size < h'.objs.size; rw [sz']; exact Nat.lt_succ_self _, fun v z => by cases z⟩)
    have hgen : ∀ s : Shared, s.heap.get? h'.objs.size = some { cls := .type "generator", data := .fields #[.int s2.gens.size 0, .str "<genexpr>" (tk + 1), .str (X.env.qual ++ "<genexpr>") (tk + 1 + 1)] } → s.heap.IsGen h'.objs.size s2.gens.size := fun s e => ⟨_, _, _, e, rfl, rfl, rfl⟩
    refine hQ h'.objs.size s2.gens.size (m + 1) _ (gcx X A' { s2 with heap := h3, toks := tk } H2 (genEnv scope (cloFrom X.env.cells scope.names []) h3.objs.size code builtinsNs X.env) fp [(h'.objs.size, _)]) _ ⟨rfl, rfl⟩ (List.mem_singleton.mpr rfl) hgen (hgen _ (Heap.get?_push_size _ rfl)) (start #[] (fun _ z => by simp at z) 0).nolimit ⟨_, Array.getElem?_push_size, rfl, ?_⟩ fun s₁ Hz σ2 s' Iz ext hos hbz => ?_
    · have bare5 : AllBare (s2.gens.push (.fresh (.compStart (.GeneratorExp elt [⟨tg, iter, ifs, 0⟩] scope gpos) 0 (.ref it) .none (genEnv scope (cloFrom X.env.cells scope.names []) h3.objs.size code builtinsNs X.env)))) := I1.bare.push rfl
      have hst : ∀ H : Hp, (∀ b ∈ fp, H b = none) → ∀ b ∈ fp, FpOk (gcx X A' { s2 with heap := h3, toks := tk } H2 (genEnv scope (cloFrom X.env.cells scope.names []) h3.objs.size code builtinsNs X.env) fp [(h'.objs.size, _)]) [] H b := fun Hq hq b hb => by
        have ok := (start s2.gens I1.bare 0).ok
        refine ⟨hq b hb, (ok.exf b hb).1, ok.exfs b hb, .inl hb, (ok.exf b hb).2, fun p hp => ?_⟩
        rw [List.append_nil] at hp
        rw [List.mem_singleton.mp hp]
        show h'.objs.size ≠ b
        have := (f2 b hb).2
        rw [sz']
        exact Nat.ne_of_gt (Nat.lt_succ_of_lt this)
      have wf : wipe (wipe σ (own.map (·.2))) (own.map (·.2)) = wipe σ (own.map (·.2)) := wipe_wipe _ _
      exact seg_gx0 hA' hc S.co T hst wf (hg _ _ _ _ _ _ _ _ hroom) (ht _ _ _ _ _ _ _ _ hroom) (he _ _ _ _ _ _ _ _ hroom) hturn m _ _ _ (start _ (allBare_setGen (s := { s2 with gens := _ }) bare5 rfl) _) (T.keep _ _ _ st3 fun b hb o e => kp b o e) (fun b hb => (f2 b hb).1.1) w0
    · have u : Un (frs X.stack) fp H2 Hz h3 s'.heap := Iz.base.trans (Un.kept ext)
      refine J2.call' (s' := s') (hos.trans Iz.os) u (Iz.hok.kept ext) hbz fun b hb => ?_
      obtain ⟨⟨_, a1, _, a3, a4, a5⟩, _⟩ := f2 b hb
      exact ⟨a3, a1, a4, a5⟩
  cases hf : codeAmong gpos ps.toList with
  | none =>
    refine wpAny_genexprCodeX hcode (cd.code hPs htr) (cd.tab hPs) hf fun c' h' tk hx hge hlt hco' hrec htab' _ => ?_
    obtain ⟨c2, oc, vs, t, e2, hoc, hd, hv⟩ := hrec
    cases e2
    have I3 := LamX.inv_table (t' := tk) (more := #[rawInt gpos.line, rawInt gpos.col, .ref c']) I1 hP (fun b u hb e => hx b u hb e) htab'.2 hge ⟨oc, vs, t, hoc, hd, hv⟩
    exact cont _ h' tk _ hx (Nat.le_trans hge (Nat.le_of_lt hlt)) I3 (tabX_new hP htr hall (I1.hok.fresh hge)) fun b hb hp => by rw [upd_ne (Nat.ne_of_lt (Nat.lt_of_lt_of_le hb hge)), upd_ne hp]
  | some cv =>
    refine wpAny_genexprCode_hit hcode (cd.code hPs htr) hf ?_
    exact cont cv s2.heap s2.toks H1 (Heap.ExtBut.refl _ _) (Nat.le_refl _) I1 (TabbedX.same ⟨ps, hP, htr, hall⟩) fun _ _ _ => rfl
end
end Gx

set_option Elab.async false
set_option linter.all false
set_option maxRecDepth 100000
set_option maxHeartbeats 2000000
namespace Gx
open PySem PySem.Spec PyProof.Rows L2 GenW GxR
/-- all(e for x in ..) (go true), any(..) (go false) -/
def tGen (P : Addr) (go : Bool) (wi : TI) (g : TG) (tt : TT) (te : TE) (vs : List Nat) : TE := fun σ H Q => wi σ H fun J H1 => TabX H1 P ∧ ∀ H2, TabbedX P H1 H2 →
  ∃ W : Nat → Nat → Hp → Prop, (∃ m, W 0 m H2) ∧ Turns J g tt te vs (wipe σ vs) W (fun H => Q (.bl go) H) (YdB go fun H => Q (.bl (!go)) H)
section
variable {X : Cx} {c P : Addr} {elt tg iter : Expr} {ifs : List Expr} {scope : Scope} {own : List (Str × Nat)} {p pos gpos : Pos} {wi : TI} {g : TG} {tt : TT} {te : TE} {k : Nat}
theorem pe_allG (hc : X.calm = true) (hr : Room (k + 1) X.A) (hN : X.N.Nodup) (hgl : Gl X "all") (hm : X.mg "all" = none) (hb : bootBuiltins "all" = some (.builtin "all")) (TB : TabB X.base X.mg c P) (hcode : X.env.code = .ref c) (S : GenOk X.env X.N scope own) (hi : PI X tg iter wi)
    (hg : ∀ (A' : Around) (s : Shared) (H : Hp) (cl : List (Str × Addr)) (C : Addr) (code : Value) (fp : List Addr) (pn : List (Addr × Obj)), Room k A' → PG (gcx X A' s H (genEnv scope cl C code builtinsNs X.env) fp pn) tg g)
    (ht : ∀ (A' : Around) (s : Shared) (H : Hp) (cl : List (Str × Addr)) (C : Addr) (code : Value) (fp : List Addr) (pn : List (Addr × Obj)), Room k A' → PTs (gcx X A' s H (genEnv scope cl C code builtinsNs X.env) fp pn) ifs tt)
    (he : ∀ (A' : Around) (s : Shared) (H : Hp) (cl : List (Str × Addr)) (C : Addr) (code : Value) (fp : List Addr) (pn : List (Addr × Obj)), Room k A' → PE (gcx X A' s H (genEnv scope cl C code builtinsNs X.env) fp pn) elt te)
    (hs : ∀ v, genFold iter X.env v = pure v := by intro _; rfl)
    (hst : starEach [.GeneratorExp elt [⟨tg, iter, ifs, 0⟩] scope gpos] X.env = (false, eval (.GeneratorExp elt [⟨tg, iter, ifs, 0⟩] scope gpos) X.env) :: starEach [] X.env := by rfl) :
    PE X (.Call (.Name "all" p) [.GeneratorExp elt [⟨tg, iter, ifs, 0⟩] scope gpos] [] pos) (tGen P true wi g tt te (own.map (·.2))) := by
  refine ⟨fun pins s σ H Q I h => ?_⟩
  refine wpAny_Call_Name_kw (ld_blt I hgl hm hb ?_)
  refine PyProof.Rows.callWith_builtin1 ?_ hst (by rfl)
  rw [hst]
  show wpAny _ _ (spliced ((false, eval (.GeneratorExp elt [⟨tg, iter, ifs, 0⟩] scope gpos) X.env) :: backTo pos (starEach [] X.env))) _ _ s
  refine Calls.spliced_cons (gen_ready hc hr hN TB hcode S hi hg ht he hs I h fun a gi n s5 Y gobj hY hpn hgo hg5 hl5 hgoes back => ?_)
  refine Calls.spliced_nil ?_
  refine call_function_tree F.kind_all F.plain_all F.entry_all (F.args_all1 _) ?_
  unfold Builtin.«all»
  refine wpAny_bind (m := oneArg "all" _) (wpAny_pure ?_)
  refine wpAny_bind (wpAny_pyIter_gen hg5 ?_)
  exact wpAny_pure ⟨plainId_quiet F.plain_all_loop _, all_loop hY hr.hd hr.depth hpn hgo (fun s₁ Hz s' Iz q ext hos hb => ⟨.bl true, Hz, back s₁ Hz _ s' Iz ext hos hb, rfl, q⟩) (fun s₁ Hz σ2 s' Iz q ext hos hb => ⟨.bl false, Hz, back s₁ Hz σ2 s' Iz ext hos hb, rfl, q⟩) n s5 hg5 hl5 hgoes⟩
end
end Gx

set_option Elab.async false
set_option linter.all false
set_option maxRecDepth 100000
/-! dicts whose keys are tuples within tuples -/
namespace Gn
open PySem PySem.Spec PyProof.Rows L2
/-- keys, where they lie, values -/
abbrev NE := NestedKey × Addr × V
def RelN (p : NE) (q : NestedKey × Addr × Value) : Prop := p.1 = q.1 ∧ p.2.1 = q.2.1 ∧ RelV p.2.2 q.2.2
def Lies (w : World) (l : Addr) (kvs : List NE) (h : Heap) : Prop := kvs.length ≤ sizeLine ∧ (l == sysModules) = false ∧ ∃ xs : List (NestedKey × Addr × Value), Paired RelN kvs xs ∧
  ∃ o es ep, h.get? l = some o ∧ o.ExactDict ∧ o.data = .dict es ep ∧ es.toList = xs.map (fun x => (⟨x.1.hash w, .ref x.2.1, x.2.2⟩ : DictEntry)) ∧ (xs.map (·.1)).Nodup
def NO (w : World) (l : Addr) (kvs : List NE) : HO := .ext (Lies w l kvs)
theorem noCode (w : World) (l : Addr) (kvs : List NE) (q : Str) : NO w l kvs ≠ LamX.CodeO l q := fun z => by
  unfold NO LamX.CodeO at z
  injection z with z
  have h0 := congrFun z ⟨Array.replicate (l + 1) { cls := .none, data := .fields #[.none, .str q default] }, {}⟩
  have g : (⟨Array.replicate (l + 1) { cls := .none, data := .fields #[.none, .str q default] }, {}⟩ : Heap).get? l = some { cls := .none, data := .fields #[.none, .str q default] } := by
    unfold Heap.get?
    simp
  have h1 : Lies w l kvs ⟨Array.replicate (l + 1) { cls := .none, data := .fields #[.none, .str q default] }, {}⟩ := by
    rw [h0]
    exact ⟨_, _, _, g, rfl, rfl⟩
  obtain ⟨_, _, xs, _, o, es, ep, e1, _, e2, _⟩ := h1
  rw [g] at e1
  cases e1
  cases e2
/-- a value that is the key k -/
inductive NK (K : PySem.W.Frag) (H : Hp) : NestedKey → V → Prop
  | none : NK K H .none .non
  | int (i : Int) : NK K H (.num i) (.int i)
  | str (x : Str) : NK K H (.text x) (.str x)
  | tup {a xs ks} : SqT K H a xs → xs.length = ks.length → (∀ (i : Nat) x k, xs[i]? = some x → ks[i]? = some k → NK K H k x) → NK K H (.tup ks) (.ref a)
def getN (kvs : List NE) (k : NestedKey) : Option V := (kvs.find? fun p => decide (p.1 = k)).map (·.2.2)
def putN (kvs : List NE) (k : NestedKey) (b : Addr) (v : V) : List NE := if (kvs.any fun p => decide (p.1 = k)) = true then kvs.map (fun p => if p.1 = k then (p.1, p.2.1, v) else p) else kvs ++ [(k, b, v)]
theorem putN_len (kvs : List NE) (k : NestedKey) (b : Addr) (v : V) : (putN kvs k b v).length ≤ kvs.length + 1 := by
  unfold putN
  split
  · rw [List.length_map]; omega
  · rw [List.length_append]; exact Nat.le_refl _
theorem all_of {h : Heap} : ∀ {ks : List NestedKey} {us : List Value}, us.length = ks.length → (∀ (i : Nat) u k, us[i]? = some u → ks[i]? = some k → NestedIs h k u) → NestedAll h ks us
  | [], [], _, _ => .nil
  | k :: ks, u :: us, e, f => .cons (f 0 u k rfl rfl) (all_of (by simpa using e) fun i u' k' h1 h2 => f (i + 1) u' k' (by simpa using h1) (by simpa using h2))
  | [], _ :: _, e, _ => by simp at e
  | _ :: _, [], e, _ => by simp at e
section
variable {X : Cx} {pins : List (Addr × Obj)} {σ : L2.St} {H : Hp} {s : Shared}
theorem NK.is (I : Inv X pins σ H s) {k : NestedKey} {v : V} (h : NK X.K H k v) : ∀ {u : Value}, RelV v u → NestedIs s.heap k u := by
  induction h with
  | none =>
    intro u r
    obtain rfl : u = Value.none := r
    exact .none
  | int i =>
    intro u r
    obtain ⟨t, rfl⟩ : ∃ t, u = Value.int i t := r
    exact .int _ _
  | str x =>
    intro u r
    obtain ⟨t, rfl⟩ : ∃ t, u = Value.str x t := r
    exact .text _ _
  | @tup a xs ks hs hl hx ih =>
    intro u r
    obtain rfl : u = Value.ref a := r
    obtain ⟨its, r1, ⟨o, h1, h2, n, h3⟩, _⟩ := I.tuple hs
    refine .tup h1 h2 h3 ?_
    refine all_of (by rw [← hl, r1.length]) fun i u' k' e1 e2 => ?_
    have hi : i < xs.length := by
      have := (List.getElem?_eq_some_iff.mp e1).1
      rw [r1.length]
      simpa using this
    obtain ⟨w2, e3, r3⟩ := r1.get (List.getElem?_eq_getElem hi)
    have e1 : its[i]? = some u' := by simpa using e1
    rw [e3] at e1
    cases e1
    exact ih i _ k' (List.getElem?_eq_getElem hi) e2 r3
end
theorem rel_get {kvs : List NE} {xs : List (NestedKey × Addr × Value)} (r : Paired RelN kvs xs) (k : NestedKey) : RelO (getN kvs k) ((atKey xs k).map (·.2)) := by
  induction r with
  | nil => exact True.intro
  | @cons p q ps qs h t ih =>
    obtain ⟨h1, _, h2⟩ := h
    by_cases e : p.1 = k
    · have e' : q.1 = k := h1.symm.trans e
      have b : atKey (q :: qs) k = some q.2 := by simp [atKey, List.find?_cons, e']
      have c : getN (p :: ps) k = some p.2.2 := by simp [getN, List.find?_cons, e]
      rw [c, b]; exact h2
    · have e' : ¬ q.1 = k := fun z => e (h1.trans z)
      have b : atKey (q :: qs) k = atKey qs k := by simp [atKey, List.find?_cons, e']
      have c : getN (p :: ps) k = getN ps k := by simp [getN, List.find?_cons, e]
      rw [c, b]; exact ih
theorem any_get (k : NestedKey) : ∀ kvs : List NE, (kvs.any fun p => decide (p.1 = k)) = (getN kvs k).isSome
  | [] => rfl
  | p :: ps => by
    rw [List.any_cons, any_get k ps]
    by_cases e : p.1 = k
    · simp [getN, List.find?_cons, e]
    · simp [getN, List.find?_cons, e]
theorem rel_put {kvs : List NE} {xs : List (NestedKey × Addr × Value)} (r : Paired RelN kvs xs) (k : NestedKey) (b : Addr) {v : V} {u : Value} (rv : RelV v u) : Paired RelN (putN kvs k b v) (storedH xs k b u) := by
  have e : (kvs.any fun p => decide (p.1 = k)) = (atKey xs k).isSome := by
    rw [any_get, (rel_get r k).isSome_eq, Option.isSome_map]
  unfold putN storedH
  rw [e]
  by_cases q : (atKey xs k).isSome = true
  · rw [if_pos q, if_pos q]
    clear e q
    induction r with
    | nil => exact .nil
    | @cons p q ps qs h t ih =>
      rw [List.map_cons, List.map_cons]
      refine .cons ?_ ih
      obtain ⟨h1, h2, h3⟩ := h
      unfold putAt
      by_cases e : p.1 = k
      · rw [if_pos e, if_pos (h1.symm.trans e)]; exact ⟨h1, h2, rv⟩
      · rw [if_neg e, if_neg (fun z => e (h1.trans z))]; exact ⟨h1, h2, h3⟩
  · rw [if_neg q, if_neg q]; exact Paired.snoc r ⟨rfl, rfl, rv⟩
/-- the keys of the dict are keys in the heap -/
def Keys (K : PySem.W.Frag) (H : Hp) (kvs : List NE) : Prop := ∀ p ∈ kvs, NK K H p.1 (.ref p.2.1) ∧ p.1.depth ≤ 8
section
variable {X : Cx} {pins : List (Addr × Obj)} {σ : L2.St} {H : Hp} {s : Shared} {a : Addr} {kvs : List NE}
theorem lies (I : Inv X pins σ H s) (e : Rd H a (NO X.w a kvs)) (hk : Keys X.K H kvs) : kvs.length ≤ sizeLine ∧ (a == sysModules) = false ∧ ∃ xs, Paired RelN kvs xs ∧ s.heap.DictOfH (nestedKind X.prog X.w) a xs := by
  obtain ⟨⟨z, y, xs, r, o, es, ep, h1, h2, h3, h4, h5⟩, _, _⟩ := (show ObjOk X.prog X.w H s.heap a (NO X.w a kvs) from e.ok I.hok)
  refine ⟨z, y, xs, r, o, es, ep, h1, h2, h3, h4, fun x hx => ?_, h5⟩
  have all : ∀ {l : List NE} {m : List (NestedKey × Addr × Value)}, Paired RelN l m → Keys X.K H l → ∀ x ∈ m, (nestedKind X.prog X.w).is s.heap x.1 x.2.1 := by
    intro l m r
    induction r with
    | nil => intro _ x hx; exact nomatch hx
    | @cons p q ps qs h t ih =>
      intro hk x hx
      rcases List.mem_cons.mp hx with e | hx
      · subst e
        obtain ⟨k1, k2⟩ := hk p (List.mem_cons_self ..)
        rw [← h.1, ← h.2.1]
        exact ⟨k1.is I rfl, k2⟩
      · exact ih (fun p hp => hk p (List.mem_cons_of_mem _ hp)) x hx
  exact all r hk x hx
theorem laid {P : Program} {w : World} {H' : Hp} {h' : Heap} {xs : List (NestedKey × Addr × Value)} (z : kvs.length ≤ sizeLine) (hd : (a == sysModules) = false) (r : Paired RelN kvs xs) (dd : h'.DictOfH (nestedKind P w) a xs) : ObjOk P w H' h' a (NO w a kvs) := by
  obtain ⟨q, es, ep, hq, h2, h3, h4, _, h5⟩ := dd
  refine ⟨⟨z, hd, xs, r, q, es, ep, hq, h2, h3, h4, h5⟩, ⟨q, hq⟩, fun h1 h2 ⟨z, y, xs, r, o, es, ep, g1, g2⟩ k => ⟨z, y, xs, r, o, es, ep, k o g1, g2⟩⟩
end
/-! ### readings -/
def tGet (w : World) (K : PySem.W.Frag) (td ty : TE) : TE := fun σ H Q => td σ H fun x H1 => ty σ H1 fun y H2 => ∃ a b kvs k v, x = .ref a ∧ y = .ref b ∧ Rd H2 a (NO w a kvs) ∧ Keys K H2 kvs ∧ NK K H2 k y ∧ k.depth ≤ 8 ∧ getN kvs k = some v ∧ Q v H2
def tIn (w : World) (K : PySem.W.Frag) (neg : Bool) (ty td : TE) : TE := fun σ H Q => ty σ H fun y H1 => td σ H1 fun x H2 => ∃ a b kvs k, x = .ref a ∧ y = .ref b ∧ Rd H2 a (NO w a kvs) ∧ Keys K H2 kvs ∧ NK K H2 k y ∧ k.depth ≤ 8 ∧ Q (.bl (neg != (getN kvs k).isSome)) H2
def sPut (w : World) (K : PySem.W.Frag) (td ty tv : TE) : TS := fun D σ H => tv σ H fun v H1 => td σ H1 fun x H2 => ty σ H2 fun y H3 => ∃ a b kvs k, x = .ref a ∧ y = .ref b ∧ H3 a = some (NO w a kvs) ∧ Keys K H3 kvs ∧ NK K H3 k y ∧ k.depth ≤ 8 ∧ kvs.length < sizeLine ∧ D.nx σ (upd H3 a (NO w a (putN kvs k b v)))
def tNew (w : World) : TE := fun _ H Q => ∀ p, H p = none → Q (.ref p) (upd H p (NO w p []))
section
variable {X : Cx} {K : PySem.W.Frag} {w : World} {o i e value : Expr} {pos pos' tpos : Pos} {td ty tv : TE}
theorem room_of {P : Program} {A : Around} (hu : A.units + 9 < cLine) : (nestedKind P w).room A.in1 := by show A.units + 1 + 8 < cLine; omega
theorem pe_get (hK : X.K = K) (hw : X.w = w) (hu : X.A.units + 9 < cLine) (ho : PE X o td) (hi : PE X i ty) (hs : NoSl i) : PE X (.Subscript o i pos) (tGet w K td ty) := by
  subst hK hw
  refine ⟨fun pins s σ H Q I h => ?_⟩
  refine subD_of PySem.F.slot_dict_getitem.lookup hs (thn (ho.run pins s σ H _ I h) fun u s1 ⟨x, H1, I1, rx, q1⟩ => thn (hi.run pins s1 σ H1 _ I1 q1) fun iv s2 ⟨y, H2, I2, ry, a, b, kvs, k, v, ex, ey, g, gk, hk, hkd, l, q2⟩ => ?_)
  subst ex ey
  obtain rfl : u = Value.ref a := rx
  obtain rfl : iv = Value.ref b := ry
  obtain ⟨z, hd, xs, rel, dd⟩ := lies I2 g gk
  obtain ⟨w', hw, rw'⟩ := RelO.some_of (v := v) (o := (atKey xs k).map (·.2)) (by rw [← l]; exact rel_get rel k)
  obtain ⟨p, hp, hp2⟩ := Option.map_eq_some_iff.mp hw
  refine ⟨dd.typeIs, wpAny_getItem_heap (room_of hu) ⟨hk.is I2 rfl, hkd⟩ dd hp ?_⟩
  rw [hp2]
  exact ⟨v, H2, I2.tok _, rw', q2⟩
theorem pc_in (hK : X.K = K) (hw : X.w = w) (hu : X.A.units + 9 < cLine) (hi : PE X i ty) (ho : PE X o td) : PC X .In i o (tIn w K false ty td) := by
  subst hK hw
  refine ⟨fun pins s σ H Q I h => ?_⟩
  refine thn (hi.run pins s σ H _ I h) fun iv s1 ⟨y, H1, I1, ry, q1⟩ => thn (ho.run pins s1 σ H1 _ I1 q1) fun u s2 ⟨x, H2, I2, rx, a, b, kvs, k, ex, ey, g, gk, hk, hkd, q2⟩ => ?_
  subst ex ey
  obtain rfl : u = Value.ref a := rx
  obtain rfl : iv = Value.ref b := ry
  obtain ⟨z, hd, xs, rel, dd⟩ := lies I2 g gk
  refine wpAny_in_heap (room_of hu) ⟨hk.is I2 rfl, hkd⟩ hd dd ?_
  have q := (rel_get rel k).isSome_eq
  rw [Option.isSome_map] at q
  rw [← q]
  rw [show (false != (getN kvs k).isSome) = (getN kvs k).isSome from Bool.false_bne _] at q2
  exact ⟨.bl (getN kvs k).isSome, H2, I2.tok _, rfl, q2⟩
theorem pc_notin (hK : X.K = K) (hw : X.w = w) (hu : X.A.units + 9 < cLine) (hi : PE X i ty) (ho : PE X o td) : PC X .NotIn i o (tIn w K true ty td) := by
  subst hK hw
  refine ⟨fun pins s σ H Q I h => ?_⟩
  refine thn (hi.run pins s σ H _ I h) fun iv s1 ⟨y, H1, I1, ry, q1⟩ => thn (ho.run pins s1 σ H1 _ I1 q1) fun u s2 ⟨x, H2, I2, rx, a, b, kvs, k, ex, ey, g, gk, hk, hkd, q2⟩ => ?_
  subst ex ey
  obtain rfl : u = Value.ref a := rx
  obtain rfl : iv = Value.ref b := ry
  obtain ⟨z, hd, xs, rel, dd⟩ := lies I2 g gk
  refine wpAny_notIn_heap (room_of hu) ⟨hk.is I2 rfl, hkd⟩ hd dd ?_
  have q := (rel_get rel k).isSome_eq
  rw [Option.isSome_map] at q
  rw [← q]
  rw [show (true != (getN kvs k).isSome) = !(getN kvs k).isSome from Bool.true_bne _] at q2
  exact ⟨.bl (!(getN kvs k).isSome), H2, I2.tok _, rfl, q2⟩
theorem ps_put (hK : X.K = K) (hw : X.w = w) (hu : X.A.units + 9 < cLine) (ho : PE X o td) (hi : PE X i ty) (hv : PE X value tv) (hs : swapsWith value (some (.Subscript o i pos')) pos.line X.env = pure false) :
    PS X (.Assign [.Subscript o i pos'] value pos) (sPut w K td ty tv) := by
  subst hK hw
  refine ⟨fun pins s σ H D I h => ?_⟩
  refine wpAny_Assign_Subscript (thn (hv.run pins s σ H _ I h) fun r s1 ⟨v, H1, I1, rv, q1⟩ => thn (ho.run pins s1 σ H1 _ I1 q1) fun u s2 ⟨x, H2, I2, rx, q2⟩ => thn (hi.run pins s2 σ H2 _ I2 q2) fun iv s3 ⟨y, H3, I3, ry, a, b, kvs, k, ex, ey, g, gk, hk, hkd, hz, q3⟩ => ?_) hs
  subst ex ey
  obtain rfl : u = Value.ref a := rx
  obtain rfl : iv = Value.ref b := ry
  obtain ⟨z, hd, xs, rel, dd⟩ := lies I3 (.inl g) gk
  have hz2 : xs.length ≤ sizeLine := by rw [← Paired.length rel]; exact z
  have hl : (putN kvs k b v).length ≤ sizeLine := by have := putN_len kvs k b v; omega
  refine wpAny_setItem_heap (hsz := hz2) (room_of hu) ⟨hk.is I3 rfl, hkd⟩ dd fun h' dd' hs => ⟨σ, _, d_write I3 (by rw [g]; exact True.intro) hs (let ⟨q, _, _, hq, _⟩ := dd'; ⟨q, hq⟩) (laid hl hd (rel_put rel k b rv) dd'), q3⟩
theorem pe_new (hw : X.w = w) : PE X (.Dict [] [] pos) (tNew w) := by
  subst hw
  exact ⟨fun pins s σ H Q I h =>
    wpAny_Dict_empty ⟨.ref s.heap.objs.size, _, I.laid (a := s.heap.objs.size) (o := NO X.w s.heap.objs.size []) (t' := s.toks) (fun _ _ q => Heap.get?_push_of_some _ q) (Nat.le_refl _) (laid (P := X.prog) (Nat.zero_le _) (beq_eq_false_iff_ne.mpr (Ne.symm (Nat.ne_of_lt I.big))) .nil (Heap.DictOfH.new s.heap)), rfl, h _ (I.hok.fresh (Nat.le_refl _))⟩⟩
end
end Gn
namespace Gn
open PySem PySem.Spec PyProof.Rows L2
/-- the keys, one by one -/
theorem src {P : Program} {w : World} {d : Addr} {es : Array DictEntry} {ep : Nat} {xs : List (NestedKey × Addr × Value)} (lo : (d == sysModules) = false) (hx : ∀ i (hi : i < es.size), ∃ y, xs[i]? = some y ∧ es[i].key = .ref y.2.1 ∧ es[i].val = y.2.2) :
    PySem.W.KdlSrc P w "dict" d d es.size (fun i v => ∃ y, xs[i]? = some y ∧ v = .ref y.2.1) (fun h => h.DictRaw d es ep) where
  type := fun _ hm => hm.typeIs
  there := fun _ hm => let ⟨o, ho, _⟩ := hm; ⟨Heap.lt_size ho, Heap.lt_size ho⟩
  keep := fun _ _ hm hk => hm.at fun o e => hk d (.inl rfl) o e
  notList := by decide
  notTuple := by decide
  hint := fun _ _ _ _ hm hq => PySem.W.kdl_hint_dict hm.typeIs hq
  iter := fun _ s hh hm => ⟨_, _, (fun _ _ hq => wpAny_pyIter_dict_raw lo hm hq), Walks.keysH hh _ d (Nat.ne_of_lt (let ⟨_, ho, _⟩ := hm; Heap.lt_size ho)) es ep hx, ⟨⟨_, Heap.get?_push_size _ rfl, rfl, rfl⟩, hm.at fun o e => Heap.get?_push_of_some _ e⟩⟩
theorem rel_keys {kvs : List NE} {xs : List (NestedKey × Addr × Value)} (r : Paired RelN kvs xs) : xs.map (·.2.1) = kvs.map (·.2.1) := by
  induction r with
  | nil => rfl
  | cons h _ ih => rw [List.map_cons, List.map_cons, ih, h.2.1]
def refsV (kvs : List NE) : List V := kvs.map fun p => V.ref p.2.1
theorem vals_refs : ∀ {as : List Addr}, Vals (as.map V.ref) (as.map Value.ref)
  | [] => .nil
  | _ :: as => .cons rfl vals_refs
/-- list(d) -/
def rListN (w : World) (K : PySem.W.Frag) : List V → Hp → VK → Prop := fun xs H Q => ∃ a kvs, xs = [.ref a] ∧ Rd H a (NO w a kvs) ∧ Keys K H kvs ∧ ∀ q, H q = none → Q (.ref q) (upd H q (.lst (refsV kvs)))
section
variable {X : Cx}
theorem items_of {kvs : List NE} {xs : List (NestedKey × Addr × Value)} {acc : Array Value} (r : Paired RelN kvs xs) (h : ItemsOf (fun i v => ∃ y, xs[i]? = some y ∧ v = Value.ref y.2.1) acc xs.length) : acc.toList = (kvs.map (·.2.1)).map Value.ref := by
  apply List.ext_getElem?
  intro i
  have hl : acc.toList.length = xs.length := by rw [Array.length_toList]; exact h.1
  have hk : kvs.length = xs.length := Paired.length r
  rcases Nat.lt_or_ge i xs.length with z | z
  · obtain ⟨y, hy, e⟩ := h.2 i acc.toList[i] (by rw [← Array.getElem?_toList, List.getElem?_eq_getElem (by omega)])
    rw [List.getElem?_eq_getElem (show i < acc.toList.length by omega), e, List.getElem?_map, ← rel_keys r, List.getElem?_map, hy]
    rfl
  · rw [List.getElem?_eq_none (by omega), List.getElem?_eq_none (by rw [List.length_map, List.length_map]; omega)]
theorem call_list {K : PySem.W.Frag} {w : World} (hK : X.K = K) (hw : X.w = w) (hc : X.calm = true) : CallR X (.type "list") (rListN w K) := by
  subst hK hw
  intro pins s σ H xs us Q I r h
  obtain ⟨p, kvs, e, hk, hks, q⟩ := h
  subst e
  obtain ⟨u, eu, rx⟩ := vals1 r
  subst eu
  obtain rfl : u = Value.ref p := rx
  obtain ⟨z, lo, xs, rel, dd⟩ := lies I hk hks
  obtain ⟨es, ep, raw, hsz, hx⟩ := dd.raw
  have hl : kvs.length = xs.length := Paired.length rel
  refine PySem.W.kdl_call (src lo fun i hi => let ⟨y, h1, h2, h3, _⟩ := hx i hi; ⟨y, h1, h2, h3⟩) (I.ok.hd hc) raw (by rw [hsz, ← hl]; exact z) fun h' tk acc' c' hkeep hS hacc => ?_
  rw [hsz] at hacc
  have e1 := items_of rel hacc
  refine ⟨.ref s.heap.objs.size, upd H s.heap.objs.size (.lst (refsV kvs)), I.laid hkeep (Nat.le_refl _) (show ObjOk X.prog X.w _ _ _ (.lst (refsV kvs)) from ⟨?_, acc'.toList, c', ?_, ?_⟩), rfl, q _ (I.hok.fresh (Nat.le_refl _))⟩
  · unfold refsV; rw [List.length_map]; exact z
  · rw [e1, show refsV kvs = (kvs.map (·.2.1)).map V.ref from by unfold refsV; rw [List.map_map]; rfl]
    exact vals_refs
  · rw [Array.toArray_toList]; exact hS
end
end Gn

set_option Elab.async false
set_option linter.all false
set_option maxRecDepth 100000
/-! Data layer: what readings ask, said of data (PyData) and of a list of slots. -/
namespace Dl
open PySem PySem.Spec PyProof.Rows L2

/-! ### data stand where the heap only grows -/
theorem rd_mono {G G' : Hp} (e : Same G G') {a : Addr} {u : HO} (h : Rd G a u) : Rd G' a u := by
  rcases h with h | ⟨o, h⟩
  · exact .inl (e _ _ h)
  · exact .inr ⟨o, e _ _ h⟩
theorem sqT_mono {K : PySem.W.Frag} {G G' : Hp} (e : Same G G') {a : Addr} {xs : List V} (h : SqT K G a xs) : SqT K G' a xs := by
  rcases h with h | h
  · exact .inl (rd_mono e h)
  · exact .inr h
theorem sqL_mono {K : PySem.W.Frag} {G G' : Hp} (e : Same G G') {a : Addr} {xs : List V} (h : SqL K G a xs) : SqL K G' a xs := e.seq h
mutual
theorem dp_mono {K : PySem.W.Frag} {G G' : Hp} (e : Same G G') : ∀ (d : PyData) (v : V), Dp K G v d → Dp K G' v d
  | .none, _, h => by cases h; exact .non
  | .bool b, _, h => by cases h; exact .bl b
  | .int i, _, h => by cases h; exact .int i
  | .str x, _, h => by cases h; exact .str x
  | .list ds, _, h => by
    cases h with
    | lst hs ha => exact .lst (sqL_mono e hs) (dpa_mono e ds _ ha)
  | .tuple ds, _, h => by
    cases h with
    | tup hs ha => exact .tup (sqT_mono e hs) (dpa_mono e ds _ ha)
  | .dict _, _, h => by cases h
theorem dpa_mono {K : PySem.W.Frag} {G G' : Hp} (e : Same G G') : ∀ (ds : List PyData) (vs : List V), DpAll K G vs ds → DpAll K G' vs ds
  | [], _, h => by cases h; exact .nil
  | d :: ds, _, h => by
    cases h with
    | cons h1 h2 => exact .cons (dp_mono e d _ h1) (dpa_mono e ds _ h2)
end
theorem dpa_len {K : PySem.W.Frag} {G : Hp} : ∀ {vs : List V} {ds : List PyData}, DpAll K G vs ds → vs.length = ds.length
  | _, _, .nil => rfl
  | _, _, .cons _ h => by rw [List.length_cons, List.length_cons, dpa_len h]
theorem dpa_get {K : PySem.W.Frag} {G : Hp} : ∀ {vs : List V} {ds : List PyData} {i : Nat} {d : PyData}, DpAll K G vs ds → ds[i]? = some d → ∃ v, vs[i]? = some v ∧ Dp K G v d
  | _, _, _, _, .nil, e => by simp at e
  | _, _, 0, _, .cons (v := v) h _, e => by
    have e' := Option.some.inj e
    subst e'
    exact ⟨v, rfl, h⟩
  | _, _, i + 1, d, .cons _ t, e => dpa_get (i := i) (d := d) t e
theorem dpa_getV {K : PySem.W.Frag} {G : Hp} : ∀ {vs : List V} {ds : List PyData} {i : Nat} {v : V}, DpAll K G vs ds → vs[i]? = some v → ∃ d, ds[i]? = some d ∧ Dp K G v d
  | _, _, _, _, .nil, e => by simp at e
  | _, _, 0, _, .cons (d := d) h _, e => by
    have e' := Option.some.inj e
    subst e'
    exact ⟨d, rfl, h⟩
  | _, _, i + 1, v, .cons _ t, e => dpa_getV (i := i) (v := v) t e
theorem dpa_app {K : PySem.W.Frag} {G : Hp} : ∀ {vs ws : List V} {ds es : List PyData}, DpAll K G vs ds → DpAll K G ws es → DpAll K G (vs ++ ws) (ds ++ es)
  | _, _, _, _, .nil, h => h
  | _, _, _, _, .cons h t, h' => .cons h (dpa_app t h')
theorem dpa_take {K : PySem.W.Frag} {G : Hp} : ∀ (n : Nat) {vs : List V} {ds : List PyData}, DpAll K G vs ds → DpAll K G (vs.take n) (ds.take n)
  | 0, _, _, _ => .nil
  | _ + 1, _, _, .nil => .nil
  | n + 1, _, _, .cons h t => .cons h (dpa_take n t)
theorem dpa_drop {K : PySem.W.Frag} {G : Hp} : ∀ (n : Nat) {vs : List V} {ds : List PyData}, DpAll K G vs ds → DpAll K G (vs.drop n) (ds.drop n)
  | 0, _, _, h => h
  | _ + 1, _, _, .nil => .nil
  | n + 1, _, _, .cons _ t => dpa_drop n t
theorem dpa_set {K : PySem.W.Frag} {G : Hp} {v : V} {d : PyData} (hd : Dp K G v d) : ∀ (n : Nat) {vs : List V} {ds : List PyData}, DpAll K G vs ds → DpAll K G (vs.set n v) (ds.set n d)
  | _, _, _, .nil => .nil
  | 0, _, _, .cons _ t => .cons hd t
  | n + 1, _, _, .cons h t => .cons h (dpa_set hd n t)

/-! ### the pen, the spring -/
inductive PK where
  | pen (c : Addr) (n : Nat)
  | spr
structure Pn where
  a : Addr
  k : PK
def Pn.on (p : Pn) (a : Addr) : Prop := a = p.a ∨ ∃ c n, p.k = .pen c n ∧ a = c
def PkOk (H : Hp) (a : Addr) : PK → Prop
  | .pen c n => ∃ (cells : List Int) (at_ rest : Int), H a = some (.lst [.ref c, .int at_, .int rest]) ∧ H c = some (.lst (cells.map V.int)) ∧ 0 ≤ at_ ∧ 0 ≤ rest ∧ cells.length = n
  | .spr => ∃ z : Int, H a = some (.lst [.int z])
def PenOk (p : Pn) (H : Hp) : Prop := PkOk H p.a p.k
def isExt : HO → Bool
  | .ext _ => true
  | _ => false
/-- no code object stands there -/
theorem code_ne {H : Hp} {D : Addr} {o : HO} (h : H D = some o) (he : isExt o = false) : ∀ q, H D ≠ some (LamX.CodeO D q) := fun q z => by
  rw [h] at z
  rw [Option.some.inj z] at he
  unfold LamX.CodeO at he
  cases he
theorem tabX_upd {H : Hp} {P D : Addr} {o : HO} (h : _root_.Gx.TabX H P) (hp : P ≠ D) (hk : ∀ q, H D ≠ some (LamX.CodeO D q)) : _root_.Gx.TabX (upd H D o) P := by
  obtain ⟨ps, e, t, a⟩ := h
  refine ⟨ps, by rw [upd_ne hp]; exact e, t, fun pos cv hc => ?_⟩
  obtain ⟨c, q, e1, e2⟩ := a pos cv hc
  refine ⟨c, q, e1, ?_⟩
  rw [upd_ne (fun z => hk q (by rw [← z]; exact e2))]
  exact e2
/-- what may change: the pen, the tables of code objects -/
structure Pc where
  pen : Option Pn
  ts : List Addr
def POk (c : Pc) (H : Hp) : Prop := (∀ p, c.pen = some p → PenOk p H) ∧ ∀ P ∈ c.ts, _root_.Gx.TabX H P
/-- a is the pen's own list or a table -/
def IsPn (c : Pc) (a : Addr) : Prop := (∃ p, c.pen = some p ∧ a = p.a) ∨ a ∈ c.ts
theorem PenOk.mono {p : Pn} {H H' : Hp} (h : PenOk p H) (k : ∀ a o, p.on a → H a = some o → H' a = some o) : PenOk p H' := by
  obtain ⟨a, kk⟩ := p
  cases kk with
  | pen c n =>
    obtain ⟨cells, at_, rest, h1, h2, h3⟩ := h
    exact ⟨cells, at_, rest, k _ _ (.inl rfl) h1, k _ _ (.inr ⟨c, n, rfl, rfl⟩) h2, h3⟩
  | spr =>
    obtain ⟨z, h1⟩ := h
    exact ⟨z, k _ _ (.inl rfl) h1⟩
theorem PenOk.lst {p : Pn} {H : Hp} (h : PenOk p H) {a : Addr} (o : p.on a) : ∃ xs, H a = some (.lst xs) := by
  obtain ⟨b, kk⟩ := p
  cases kk with
  | pen c n =>
    obtain ⟨cells, at_, rest, h1, h2, h3⟩ := h
    rcases o with rfl | ⟨c', n', e, rfl⟩
    · exact ⟨_, h1⟩
    · cases e; exact ⟨_, h2⟩
  | spr =>
    obtain ⟨z, h1⟩ := h
    rcases o with rfl | ⟨c', n', e, rfl⟩
    · exact ⟨_, h1⟩
    · cases e
theorem POk.keep {pen : Pc} {H H' : Hp} (h : POk pen H) (k : ∀ a o, H a = some o → H' a = some o) : POk pen H' := by
  exact ⟨fun p hp => (h.1 p hp).mono fun a o _ e => k a o e, fun P hP => (h.2 P hP).keep k⟩
/-- tables and the pen stand apart -/
theorem POk.apart {pen : Pc} {H : Hp} (h : POk pen H) {p : Pn} (hp : pen.pen = some p) {P : Addr} (hP : P ∈ pen.ts) : ¬ p.on P := fun z => by
  obtain ⟨xs, h1⟩ := (h.1 p hp).lst z
  obtain ⟨ps, e, t⟩ := h.2 P hP
  rw [h1] at e; cases e

structure Vw (pen : Pc) (G H : Hp) : Prop where
  vw : Same G H
  no : ∀ a, IsPn pen a → G a = none
  ok : POk pen H
structure Go (pen : Pc) (G H G' H' : Hp) : Prop where
  gg : Same G G'
  nw : ∀ a, H a ≠ none → G' a = G a
  od : ∀ a o, ¬ IsPn pen a → H a = some o → H' a = some o
  vw : Vw pen G' H'
theorem POk.there {pen : Pc} {H : Hp} {a : Addr} (h : POk pen H) (p : IsPn pen a) : H a ≠ none := by
  rcases p with ⟨q, hq, rfl⟩ | hP
  · obtain ⟨xs, h1⟩ := (h.1 q hq).lst (.inl rfl)
    rw [h1]
    exact fun z => by cases z
  · obtain ⟨ps, e, t⟩ := h.2 a hP
    rw [e]
    exact fun z => by cases z
theorem Go.dom {pen : Pc} {G H G' H' : Hp} (g : Go pen G H G' H') {a : Addr} (h : H a ≠ none) : H' a ≠ none := by
  by_cases p : IsPn pen a
  · exact g.vw.ok.there p
  · cases e : H a with
    | none => exact absurd e h
    | some o =>
      rw [g.od a o p e]
      exact fun z => by cases z
theorem Go.refl {pen : Pc} {G H : Hp} (v : Vw pen G H) : Go pen G H G H := ⟨Same.refl _, fun _ _ => rfl, fun _ _ _ e => e, v⟩
theorem Go.trans {pen : Pc} {G H G1 H1 G2 H2 : Hp} (a : Go pen G H G1 H1) (b : Go pen G1 H1 G2 H2) : Go pen G H G2 H2 :=
  ⟨a.gg.trans b.gg, fun x h => (b.nw x (a.dom h)).trans (a.nw x h), fun x o p e => b.od x o p (a.od x o p e), b.vw⟩
/-- a new object that never changes -/
theorem Go.new {pen : Pc} {G H : Hp} (v : Vw pen G H) {p : Addr} {o : HO} (h : H p = none) : Go pen G H (upd G p o) (upd H p o) := by
  have np : ∀ a, IsPn pen a → a ≠ p := fun a q e => v.ok.there q (e ▸ h)
  have kH : ∀ a u, H a = some u → upd H p o a = some u := fun a u e => by rw [upd_ne (ne_of_none e h)]; exact e
  refine ⟨fun a u e => ?_, fun a e => ?_, fun a u _ e => kH a u e, ⟨fun a u e => ?_, fun a q => ?_, v.ok.keep kH⟩⟩
  · have h' : G p = none := by
      cases q : G p with
      | none => rfl
      | some u => rw [v.vw _ _ q] at h; cases h
    rw [upd_ne (ne_of_none e h')]; exact e
  · rw [upd_ne (fun (z : a = p) => e (by rw [z]; exact h))]
  · by_cases q : a = p
    · subst q; rw [upd_same] at e ⊢; exact e
    · rw [upd_ne q] at e ⊢; exact v.vw _ _ e
  · rw [upd_ne (np a q)]; exact v.no a q
/-- a new object that is not looked at as data -/
theorem Go.hid {pen : Pc} {G H : Hp} (v : Vw pen G H) {p : Addr} {o : HO} (h : H p = none) : Go pen G H G (upd H p o) := by
  have kH : ∀ a u, H a = some u → upd H p o a = some u := fun a u e => by rw [upd_ne (ne_of_none e h)]; exact e
  exact ⟨Same.refl _, fun _ _ => rfl, fun a u _ e => kH a u e, ⟨fun a u e => kH a u (v.vw a u e), v.no, v.ok.keep kH⟩⟩
/-- what a def without the pen does, seen by one who has it -/
theorem Go.lift {pn : Option Pn} {ts : List Addr} {G H G' H' : Hp} (v : Vw ⟨pn, ts⟩ G H) (g : Go ⟨none, ts⟩ G H G' H') : Go ⟨pn, ts⟩ G H G' H' := by
  have k : ∀ a o, a ∉ ts → H a = some o → H' a = some o := fun a o n e => g.od a o (fun z => by
    rcases z with ⟨p, z, _⟩ | z
    · cases z
    · exact n z) e
  refine ⟨g.gg, g.nw, fun a o n e => k a o (fun z => n (.inr z)) e, ⟨g.vw.vw, fun a q => (g.nw a (v.ok.there q)).trans (v.no a q), fun p hp => ?_, g.vw.ok.2⟩⟩
  exact (v.ok.1 p hp).mono fun a o ho e => k a o (fun z => v.ok.apart hp z ho) e
theorem Vw.plain {pn : Option Pn} {ts : List Addr} {G H : Hp} (v : Vw ⟨pn, ts⟩ G H) : Vw ⟨none, ts⟩ G H := by
  refine ⟨v.vw, fun a q => ?_, fun p z => (nomatch z), v.ok.2⟩
  rcases q with ⟨p, z, _⟩ | z
  · cases z
  · exact v.no a (.inr z)

/-! ### objects of one's own -/
def isLO : HO → Bool
  | .lst _ => true
  | .frz _ (.tup _) => false
  | .frz _ _ => true
  | _ => false
def newL (H0 H : Hp) (a : Addr) : Option HO := match H0 a with
  | some _ => none
  | none => match H a with
    | some (.lst xs) => some (.lst xs)
    | _ => none
/-- all that may be looked at: data, and the new lists -/
def vmax (H0 G H : Hp) : Hp := fun a => match G a with
  | some o => some o
  | none => newL H0 H a
/-- the new lists alone -/
def vnew (H0 G H : Hp) : Hp := fun a => match G a with
  | some o => if isLO o then none else some o
  | none => newL H0 H a
theorem newL_some {H0 H : Hp} {a : Addr} {o : HO} (h : newL H0 H a = some o) : H0 a = none ∧ H a = some o ∧ ∃ xs, o = .lst xs := by
  unfold newL at h
  cases h0 : H0 a with
  | some u => rw [h0] at h; cases h
  | none =>
    rw [h0] at h
    cases h1 : H a with
    | none => rw [h1] at h; cases h
    | some u =>
      rw [h1] at h
      cases u with
      | lst xs => cases h; exact ⟨rfl, rfl, xs, rfl⟩
      | _ => cases h
theorem newL_of {H0 H : Hp} {a : Addr} {xs : List V} (h0 : H0 a = none) (h : H a = some (.lst xs)) : newL H0 H a = some (.lst xs) := by
  unfold newL
  rw [h0, h]
theorem vmax_G {H0 G H : Hp} {a : Addr} {o : HO} (h : G a = some o) : vmax H0 G H a = some o := by
  unfold vmax; rw [h]
theorem vmax_new {H0 G H : Hp} {a : Addr} (h : G a = none) : vmax H0 G H a = newL H0 H a := by
  unfold vmax; rw [h]
theorem vmax_cases {H0 G H : Hp} {a : Addr} {o : HO} (h : vmax H0 G H a = some o) : G a = some o ∨ (G a = none ∧ H0 a = none ∧ H a = some o ∧ ∃ xs, o = .lst xs) := by
  cases g : G a with
  | some u => rw [vmax_G g] at h; exact .inl h
  | none => rw [vmax_new g] at h; exact .inr ⟨rfl, newL_some h⟩
theorem vnew_cases {H0 G H : Hp} {a : Addr} {o : HO} (h : vnew H0 G H a = some o) : (G a = some o ∧ isLO o = false) ∨ (G a = none ∧ H0 a = none ∧ H a = some o ∧ ∃ xs, o = .lst xs) := by
  unfold vnew at h
  cases g : G a with
  | some u =>
    rw [g] at h
    have h : (if isLO u = true then none else some u) = some o := h
    by_cases z : isLO u = true
    · rw [show (if isLO u = true then none else some u) = none from if_pos z] at h; cases h
    · rw [show (if isLO u = true then none else some u) = some u from if_neg z] at h
      cases h
      exact .inl ⟨rfl, by simpa using z⟩
  | none => rw [g] at h; exact .inr ⟨rfl, newL_some h⟩
theorem vnew_max {H0 G H : Hp} : Same (vnew H0 G H) (vmax H0 G H) := fun a o h => by
  rcases vnew_cases h with ⟨g, _⟩ | ⟨g, h0, h1, xs, rfl⟩
  · exact vmax_G g
  · rw [vmax_new g, newL_of h0 h1]
theorem vnew_of {H0 G H : Hp} {a : Addr} {xs : List V} (g : G a = none) (h0 : H0 a = none) (h : H a = some (.lst xs)) : vnew H0 G H a = some (.lst xs) := by
  unfold vnew; rw [g]; exact newL_of h0 h
theorem vnew_G {H0 G H : Hp} {a : Addr} {o : HO} (g : G a = some o) (h : isLO o = false) : vnew H0 G H a = some o := by
  unfold vnew; rw [g]; simp [h]
theorem vw_max {pen : Pc} {H0 G H : Hp} (v : Vw pen G H) (h0 : POk pen H0) : Vw pen (vmax H0 G H) H := by
  refine ⟨fun a o h => ?_, fun a p => ?_, v.ok⟩
  · rcases vmax_cases h with g | ⟨_, _, h1, _⟩
    · exact v.vw _ _ g
    · exact h1
  · rw [vmax_new (v.no a p)]
    cases e : newL H0 H a with
    | none => rfl
    | some o => exact absurd (newL_some e).1 (h0.there p)
mutual
/-- without a list -/
def noL : PyData → Bool
  | .list _ => false
  | .dict _ => false
  | .tuple ds => noLs ds
  | _ => true
def noLs : List PyData → Bool
  | [] => true
  | d :: ds => noL d && noLs ds
end
mutual
/-- new data: each list of it stands in W by itself -/
inductive Nd (K : PySem.W.Frag) (W : Hp) : V → PyData → Prop
  | non : Nd K W .non .none
  | bl (b : Bool) : Nd K W (.bl b) (.bool b)
  | int (i : Int) : Nd K W (.int i) (.int i)
  | str (x : Str) : Nd K W (.str x) (.str x)
  | lst {a : Addr} {xs : List V} {ds : List PyData} : W a = some (.lst xs) → NdAll K W xs ds → Nd K W (.ref a) (.list ds)
  | tup {a : Addr} {xs : List V} {ds : List PyData} : SqT K W a xs → NdAll K W xs ds → Nd K W (.ref a) (.tuple ds)
inductive NdAll (K : PySem.W.Frag) (W : Hp) : List V → List PyData → Prop
  | nil : NdAll K W [] []
  | cons {v : V} {vs : List V} {d : PyData} {ds : List PyData} : Nd K W v d → NdAll K W vs ds → NdAll K W (v :: vs) (d :: ds)
end
mutual
theorem nd_dp {K : PySem.W.Frag} {W : Hp} : ∀ (d : PyData) (v : V), Nd K W v d → Dp K W v d
  | .none, _, h => by cases h; exact .non
  | .bool b, _, h => by cases h; exact .bl b
  | .int i, _, h => by cases h; exact .int i
  | .str x, _, h => by cases h; exact .str x
  | .list ds, _, h => by
    cases h with
    | lst hs ha => exact .lst (.inl (.inl hs)) (nda_dpa ds _ ha)
  | .tuple ds, _, h => by
    cases h with
    | tup hs ha => exact .tup hs (nda_dpa ds _ ha)
  | .dict _, _, h => by cases h
theorem nda_dpa {K : PySem.W.Frag} {W : Hp} : ∀ (ds : List PyData) (vs : List V), NdAll K W vs ds → DpAll K W vs ds
  | [], _, h => by cases h; exact .nil
  | d :: ds, _, h => by
    cases h with
    | cons h1 h2 => exact .cons (nd_dp d _ h1) (nda_dpa ds _ h2)
end
mutual
theorem nd_mono {K : PySem.W.Frag} {G G' : Hp} (e : Same G G') : ∀ (d : PyData) (v : V), Nd K G v d → Nd K G' v d
  | .none, _, h => by cases h; exact .non
  | .bool b, _, h => by cases h; exact .bl b
  | .int i, _, h => by cases h; exact .int i
  | .str x, _, h => by cases h; exact .str x
  | .list ds, _, h => by
    cases h with
    | lst hs ha => exact .lst (e _ _ hs) (nda_mono e ds _ ha)
  | .tuple ds, _, h => by
    cases h with
    | tup hs ha => exact .tup (sqT_mono e hs) (nda_mono e ds _ ha)
  | .dict _, _, h => by cases h
theorem nda_mono {K : PySem.W.Frag} {G G' : Hp} (e : Same G G') : ∀ (ds : List PyData) (vs : List V), NdAll K G vs ds → NdAll K G' vs ds
  | [], _, h => by cases h; exact .nil
  | d :: ds, _, h => by
    cases h with
    | cons h1 h2 => exact .cons (nd_mono e d _ h1) (nda_mono e ds _ h2)
end
mutual
/-- data without a list, in a view that has the same tuples -/
theorem dp_nol {K : PySem.W.Frag} {G G' : Hp} (k : ∀ a xs, Rd G a (.tup xs) → Rd G' a (.tup xs)) : ∀ (d : PyData) (v : V), noL d = true → Dp K G v d → Dp K G' v d
  | .none, _, _, h => by cases h; exact .non
  | .bool b, _, _, h => by cases h; exact .bl b
  | .int i, _, _, h => by cases h; exact .int i
  | .str x, _, _, h => by cases h; exact .str x
  | .list ds, _, n, h => by rw [noL] at n; cases n
  | .tuple ds, _, n, h => by
    rw [noL] at n
    cases h with
    | tup hs ha =>
      refine .tup ?_ (dpa_nol k ds _ n ha)
      rcases hs with hs | hs
      · exact .inl (k _ _ hs)
      · exact .inr hs
  | .dict _, _, _, h => by cases h
theorem dpa_nol {K : PySem.W.Frag} {G G' : Hp} (k : ∀ a xs, Rd G a (.tup xs) → Rd G' a (.tup xs)) : ∀ (ds : List PyData) (vs : List V), noLs ds = true → DpAll K G vs ds → DpAll K G' vs ds
  | [], _, _, h => by cases h; exact .nil
  | d :: ds, _, n, h => by
    rw [noLs, Bool.and_eq_true] at n
    cases h with
    | cons h1 h2 => exact .cons (dp_nol k d _ n.1 h1) (dpa_nol k ds _ n.2 h2)
end
mutual
theorem dp_nd {K : PySem.W.Frag} {G : Hp} : ∀ (d : PyData) (v : V), noL d = true → Dp K G v d → Nd K G v d
  | .none, _, _, h => by cases h; exact .non
  | .bool b, _, _, h => by cases h; exact .bl b
  | .int i, _, _, h => by cases h; exact .int i
  | .str x, _, _, h => by cases h; exact .str x
  | .list ds, _, n, h => by rw [noL] at n; cases n
  | .tuple ds, _, n, h => by
    rw [noL] at n
    cases h with
    | tup hs ha => exact .tup hs (dpa_nda ds _ n ha)
  | .dict _, _, _, h => by cases h
theorem dpa_nda {K : PySem.W.Frag} {G : Hp} : ∀ (ds : List PyData) (vs : List V), noLs ds = true → DpAll K G vs ds → NdAll K G vs ds
  | [], _, _, h => by cases h; exact .nil
  | d :: ds, _, n, h => by
    rw [noLs, Bool.and_eq_true] at n
    cases h with
    | cons h1 h2 => exact .cons (dp_nd d _ n.1 h1) (dpa_nda ds _ n.2 h2)
end
inductive OO where
  | lst (ds : List PyData)
  | dK (m : List (Key × PyData))
  | dN (w : World) (m : List (NestedKey × PyData))
  | dF (a : Addr) (w : World) (m : List (NestedKey × PyData))
def KvOk {κ : Type} (K : PySem.W.Frag) (G : Hp) (kvs : List (κ × V)) (m : List (κ × PyData)) : Prop := Paired (fun (kv : κ × V) (xd : κ × PyData) => kv.1 = xd.1 ∧ Dp K G kv.2 xd.2) kvs m
def NvOk (K : PySem.W.Frag) (G : Hp) (kvs : List Gn.NE) (m : List (NestedKey × PyData)) : Prop := Paired (fun (p : Gn.NE) (q : NestedKey × PyData) => p.1 = q.1 ∧ p.1.depth ≤ 8 ∧ Dp K G (.ref p.2.1) p.1.data ∧ Dp K G p.2.2 q.2) kvs m
def OwnOk (K : PySem.W.Frag) (G : Hp) (l : Addr) : HO → OO → Prop
  | .lst vs, .lst ds => DpAll K G vs ds
  | .dK kvs, .dK m => KvOk K G kvs m
  | .ext φ, .dN w m => ∃ kvs, HO.ext φ = Gn.NO w l kvs ∧ NvOk K G kvs m
  | .frz _ u, .dF a w m => ∃ kvs, (l = a ∧ u = Gn.NO w l kvs) ∧ NvOk K G kvs m
  | _, _ => False
theorem NvOk.mono {K : PySem.W.Frag} {G G' : Hp} (e : Same G G') {kvs : List Gn.NE} {m : List (NestedKey × PyData)} (h : NvOk K G kvs m) : NvOk K G' kvs m := Paired.mapP h fun _ _ z => ⟨z.1, z.2.1, dp_mono e _ _ z.2.2.1, dp_mono e _ _ z.2.2.2⟩
theorem KvOk.mono {κ : Type} {K : PySem.W.Frag} {G G' : Hp} (e : Same G G') {kvs : List (κ × V)} {m : List (κ × PyData)} (h : KvOk K G kvs m) : KvOk K G' kvs m := Paired.mapP h fun _ _ z => ⟨z.1, dp_mono e _ _ z.2⟩
theorem OwnOk.mono {K : PySem.W.Frag} {G G' : Hp} (e : Same G G') {l : Addr} {ho : HO} {o : OO} (h : OwnOk K G l ho o) : OwnOk K G' l ho o := by
  cases ho <;> cases o <;> first | exact h.elim | exact dpa_mono e _ _ h | exact KvOk.mono e h | exact let ⟨vs, e1, h⟩ := h; ⟨vs, e1, NvOk.mono e h⟩
theorem OwnOk.noCode {K : PySem.W.Frag} {G : Hp} {l : Addr} {ho : HO} {o : OO} (h : OwnOk K G l ho o) (q : Str) : ho ≠ LamX.CodeO l q := by
  cases ho <;> cases o <;> first | exact h.elim | (intro z; unfold LamX.CodeO at z; cases z; done) | exact let ⟨vs, e1, h⟩ := h; fun z => Gn.noCode _ l vs q (e1.symm.trans z)
theorem OwnOk.lst {K : PySem.W.Frag} {G : Hp} {l : Addr} {ho : HO} {ds : List PyData} (h : OwnOk K G l ho (.lst ds)) : ∃ vs, ho = .lst vs ∧ DpAll K G vs ds := by
  cases ho <;> first | exact h.elim | exact ⟨_, rfl, h⟩
theorem OwnOk.dK {K : PySem.W.Frag} {G : Hp} {l : Addr} {ho : HO} {m : List (Key × PyData)} (h : OwnOk K G l ho (.dK m)) : ∃ vs, ho = .dK vs ∧ KvOk K G vs m := by
  cases ho <;> first | exact h.elim | exact ⟨_, rfl, h⟩
theorem OwnOk.dN {K : PySem.W.Frag} {G : Hp} {l : Addr} {ho : HO} {w : World} {m : List (NestedKey × PyData)} (h : OwnOk K G l ho (.dN w m)) : ∃ vs, ho = Gn.NO w l vs ∧ NvOk K G vs m := by
  cases ho <;> first | exact h.elim | exact h
theorem OwnOk.dF {K : PySem.W.Frag} {G : Hp} {a l : Addr} {ho : HO} {w : World} {m : List (NestedKey × PyData)} (h : OwnOk K G l ho (.dF a w m)) : ∃ od vs, l = a ∧ ho = .frz od (Gn.NO w l vs) ∧ NvOk K G vs m := by
  cases ho <;> first | exact h.elim | exact let ⟨vs, ⟨e0, e⟩, h⟩ := h; ⟨_, vs, e0, by rw [e], h⟩
theorem OwnOk.ofF {K : PySem.W.Frag} {G : Hp} {l : Addr} {w : World} {od : Obj} {kvs : List Gn.NE} {m : List (NestedKey × PyData)} (h : NvOk K G kvs m) : OwnOk K G l (.frz od (Gn.NO w l kvs)) (.dF l w m) := ⟨kvs, ⟨rfl, rfl⟩, h⟩
theorem OwnOk.ofN {K : PySem.W.Frag} {G : Hp} {l : Addr} {w : World} {kvs : List Gn.NE} {m : List (NestedKey × PyData)} (h : NvOk K G kvs m) : OwnOk K G l (Gn.NO w l kvs) (.dN w m) := ⟨kvs, rfl, h⟩

/-! ### slots -/
inductive AV where
  | d (x : PyData)
  | pen
  | own (o : OO)
  | bor (o : OO)
  | fr (x : PyData)
abbrev Lv := List (Option AV)
def AvOk (K : PySem.W.Frag) (pen : Pc) (H0 G H : Hp) (v : V) : AV → Prop
  | .d x => Dp K G v x
  | .pen => ∃ p, pen.pen = some p ∧ v = .ref p.a
  | .own o => ∃ l ho, v = .ref l ∧ H l = some ho ∧ H0 l = none ∧ G l = none ∧ OwnOk K G l ho o
  | .bor o => ∃ l ho, v = .ref l ∧ H l = some ho ∧ H0 l = some ho ∧ ¬ IsPn pen l ∧ OwnOk K G l ho o
  | .fr x => Nd K (vnew H0 G H) v x
theorem vnew_go {pen : Pc} {H0 G H G' H' : Hp} (h0 : POk pen H0) (g : Go pen G H G' H') (vw : Same G H) : Same (vnew H0 G H) (vnew H0 G' H') := fun a o h => by
  rcases vnew_cases h with ⟨k, z⟩ | ⟨k, k0, k1, xs, rfl⟩
  · exact vnew_G (g.gg _ _ k) z
  · exact vnew_of ((g.nw a (by rw [k1]; exact fun z => by cases z)).trans k) k0 (g.od _ _ (fun q => h0.there q k0) k1)
structure Ev (K : PySem.W.Frag) (pen : Pc) (H0 G H : Hp) (σ : L2.St) (L : Lv) : Prop where
  vw : Vw pen G H
  h0 : POk pen H0
  dom : ∀ a, H0 a ≠ none → H a ≠ none
  len : σ.length = L.length
  sl : ∀ (i : Nat) av, L[i]? = some (some av) → ∃ v, σ[i]? = some (some v) ∧ AvOk K pen H0 G H v av
  ow : ∀ (i j : Nat) (ds es : OO) l, L[i]? = some (some (.own ds)) → L[j]? = some (some (.own es)) → σ[i]? = some (some (.ref l)) → σ[j]? = some (some (.ref l)) → i = j
section
variable {K : PySem.W.Frag} {pen : Pc} {H0 G H G' H' : Hp} {σ : L2.St} {L : Lv}
theorem AvOk.go {v : V} {av : AV} (h : AvOk K pen H0 G H v av) (h0 : POk pen H0) (vw : Same G H) (g : Go pen G H G' H') : AvOk K pen H0 G' H' v av := by
  cases av with
  | d x => exact dp_mono g.gg _ _ h
  | pen => exact h
  | own ds =>
    obtain ⟨l, vs, e, h1, h2, h3, h4⟩ := h
    have np : ¬ IsPn pen l := fun q => h0.there q h2
    refine ⟨l, vs, e, g.od _ _ np h1, h2, ?_, h4.mono g.gg⟩
    rw [g.nw l (by rw [h1]; exact fun z => by cases z)]
    exact h3
  | bor ds =>
    obtain ⟨l, vs, e, h1, h2, h3, h4⟩ := h
    exact ⟨l, vs, e, g.od _ _ h3 h1, h2, h3, h4.mono g.gg⟩
  | fr x => exact nd_mono (vnew_go h0 g vw) _ _ h
theorem Ev.go (e : Ev K pen H0 G H σ L) (g : Go pen G H G' H') : Ev K pen H0 G' H' σ L :=
  ⟨g.vw, e.h0, fun a h => g.dom (e.dom a h), e.len, fun i av h => by
    obtain ⟨v, h1, h2⟩ := e.sl i av h
    exact ⟨v, h1, h2.go e.h0 e.vw.vw g⟩, e.ow⟩
/-- a slot stored with data -/
theorem Ev.set (e : Ev K pen H0 G H σ L) {i : Nat} {v : V} {x : PyData} (h : Dp K G v x) : Ev K pen H0 G H (σ.set i (some v)) (L.set i (some (.d x))) := by
  refine ⟨e.vw, e.h0, e.dom, by rw [List.length_set, List.length_set]; exact e.len, fun j av hj => ?_, fun j k ds es l h1 h2 h3 h4 => ?_⟩
  · by_cases q : i = j
    · subst q
      have hl : i < L.length := by
        have := (List.getElem?_eq_some_iff.mp hj).1
        rw [List.length_set] at this; exact this
      rw [List.getElem?_set_self hl] at hj
      have := Option.some.inj (Option.some.inj hj)
      subst this
      exact ⟨v, List.getElem?_set_self (by rw [e.len]; exact hl), h⟩
    · rw [List.getElem?_set_ne q] at hj
      obtain ⟨w, h1, h2⟩ := e.sl j av hj
      exact ⟨w, by rw [List.getElem?_set_ne q]; exact h1, h2⟩
  · have nj : ∀ (j : Nat) (ds : OO), (L.set i (some (.d x)))[j]? = some (some (.own ds)) → i ≠ j := fun j ds hj q => by
      subst q
      have hl : i < L.length := by
        have := (List.getElem?_eq_some_iff.mp hj).1
        rw [List.length_set] at this; exact this
      rw [List.getElem?_set_self hl] at hj
      cases hj
    have q1 := nj j ds h1
    have q2 := nj k es h2
    rw [List.getElem?_set_ne q1] at h1 h3
    rw [List.getElem?_set_ne q2] at h2 h4
    exact e.ow j k ds es l h1 h2 h3 h4
end

/-! ### expressions -/
section
variable (K : PySem.W.Frag) (pen : Pc) (H0 : Hp)
def E (te : TE) (L : Lv) (P : PyData → Prop) : Prop := ∀ (σ : L2.St) (G H : Hp), Ev K pen H0 G H σ L → ∀ Q : VK, (∀ v d G' H', Go pen G H G' H' → Dp K G' v d → P d → Q v H') → te σ H Q
def EA (ta : TA) (L : Lv) (P : List PyData → Prop) : Prop := ∀ (σ : L2.St) (G H : Hp), Ev K pen H0 G H σ L → ∀ Q : List V → Hp → Prop, (∀ vs ds G' H', Go pen G H G' H' → DpAll K G' vs ds → P ds → Q vs H') → ta σ H Q
def ET (tt : TT) (L : Lv) (P : Bool → Prop) : Prop := ∀ (σ : L2.St) (G H : Hp), Ev K pen H0 G H σ L → ∀ Q : Bool → Hp → Prop, (∀ b G' H', Go pen G H G' H' → P b → Q b H') → tt σ H Q
def EO (to : TO) (L : Lv) (P : Option Int → Prop) : Prop := ∀ (σ : L2.St) (G H : Hp), Ev K pen H0 G H σ L → ∀ Q : Option Int → Hp → Prop, (∀ b G' H', Go pen G H G' H' → P b → Q b H') → to σ H Q
/-- an operation by values -/
def R2d (r : R2) (a b : PyData) (P : PyData → Prop) : Prop := ∀ (x y : V) (G H : Hp), Vw pen G H → Dp K G x a → Dp K G y b → ∀ Q : VK, (∀ v d G' H', Go pen G H G' H' → Dp K G' v d → P d → Q v H') → r x y H Q
def RCd (r : List V → Hp → VK → Prop) (ds : List PyData) (P : PyData → Prop) : Prop := ∀ (vs : List V) (G H : Hp), Vw pen G H → DpAll K G vs ds → ∀ Q : VK, (∀ v d G' H', Go pen G H G' H' → Dp K G' v d → P d → Q v H') → r vs H Q
def RSd (r : V → Option Int → Option Int → Hp → VK → Prop) (a : PyData) (lo hi : Option Int) (P : PyData → Prop) : Prop := ∀ (x : V) (G H : Hp), Vw pen G H → Dp K G x a → ∀ Q : VK, (∀ v d G' H', Go pen G H G' H' → Dp K G' v d → P d → Q v H') → r x lo hi H Q
def RUd (r : V → Hp → VK → Prop) (a : PyData) (P : PyData → Prop) : Prop := ∀ (x : V) (G H : Hp), Vw pen G H → Dp K G x a → ∀ Q : VK, (∀ v d G' H', Go pen G H G' H' → Dp K G' v d → P d → Q v H') → r x H Q
end
section
variable {K : PySem.W.Frag} {pen : Pc} {H0 : Hp} {L : Lv} {P P' : PyData → Prop} {ta tb tc te : TE} {tl tr : TA} {t u : TT} {Pb : Bool → Prop}
theorem E.mono (h : E K pen H0 te L P) (k : ∀ d, P d → P' d) : E K pen H0 te L P' := fun σ G H e Q q => h σ G H e Q fun v d G' H' g hd p => q v d G' H' g hd (k d p)
theorem ET.mono {Pb' : Bool → Prop} (h : ET K pen H0 t L Pb) (k : ∀ d, Pb d → Pb' d) : ET K pen H0 t L Pb' := fun σ G H e Q q => h σ G H e Q fun v G' H' g p => q v G' H' g (k v p)
theorem e_var {i : Nat} {x : PyData} (h : L[i]? = some (some (.d x))) (p : P x) : E K pen H0 (tVar i) L P := fun σ G H e Q q => by
  obtain ⟨v, h1, h2⟩ := e.sl i _ h
  exact ⟨v, h1, q v x G H (.refl e.vw) h2 p⟩
theorem e_int {i : Int} (p : P (.int i)) : E K pen H0 (tC (.int i)) L P := fun σ G H e Q q => q _ _ G H (.refl e.vw) (.int i) p
theorem e_str {i : Str} (p : P (.str i)) : E K pen H0 (tC (.str i)) L P := fun σ G H e Q q => q _ _ G H (.refl e.vw) (.str i) p
theorem e_bl {i : Bool} (p : P (.bool i)) : E K pen H0 (tC (.bl i)) L P := fun σ G H e Q q => q _ _ G H (.refl e.vw) (.bl i) p
theorem e_non (p : P .none) : E K pen H0 (tC .non) L P := fun σ G H e Q q => q _ _ G H (.refl e.vw) .non p
theorem e_op {r : R2} (h : E K pen H0 ta L fun a => E K pen H0 tb L fun b => R2d K pen r a b P) : E K pen H0 (tOp r ta tb) L P := fun σ G H e Q q =>
  h σ G H e _ fun v a G1 H1 g1 d1 h1 => h1 σ G1 H1 (e.go g1) _ fun w b G2 H2 g2 d2 h2 =>
    h2 v w G2 H2 g2.vw (dp_mono g2.gg _ _ d1) d2 Q fun z c G3 H3 g3 d3 p => q z c G3 H3 ((g1.trans g2).trans g3) d3 p
theorem e_un {r : V → Hp → VK → Prop} (h : E K pen H0 ta L fun a => RUd K pen r a P) : E K pen H0 (tUn r ta) L P := fun σ G H e Q q =>
  h σ G H e _ fun v a G1 H1 g1 d1 h1 => h1 v G1 H1 g1.vw d1 Q fun z c G3 H3 g3 d3 p => q z c G3 H3 (g1.trans g3) d3 p
theorem ea_nil {Pl : List PyData → Prop} (p : Pl []) : EA K pen H0 tNil L Pl := fun σ G H e Q q => q [] [] G H (.refl e.vw) .nil p
theorem ea_cons {Pl : List PyData → Prop} (h : E K pen H0 ta L fun a => EA K pen H0 tr L fun ds => Pl (a :: ds)) : EA K pen H0 (tCons ta tr) L Pl := fun σ G H e Q q =>
  h σ G H e _ fun v a G1 H1 g1 d1 h1 => h1 σ G1 H1 (e.go g1) _ fun vs ds G2 H2 g2 d2 p => q _ _ G2 H2 (g1.trans g2) (.cons (dp_mono g2.gg _ _ d1) d2) p
theorem e_tup (h : EA K pen H0 tl L fun ds => ds.length ≤ 100000 ∧ P (.tuple ds)) : E K pen H0 (tTup tl) L P := fun σ G H e Q q =>
  h σ G H e _ fun vs ds G1 H1 g1 d1 h1 => ⟨Nat.le_trans (by rw [dpa_len d1]; exact h1.1) (by decide : 100000 ≤ sizeLine), fun p hp => by
    have g2 := Go.new g1.vw (o := .tup vs) hp
    exact q _ _ _ _ (g1.trans g2) (.tup (.inl (.inl upd_same)) (dpa_mono g2.gg _ _ d1)) h1.2⟩
theorem e_lst (h : EA K pen H0 tl L fun ds => ds.length ≤ 100000 ∧ P (.list ds)) : E K pen H0 (tLst tl) L P := fun σ G H e Q q =>
  h σ G H e _ fun vs ds G1 H1 g1 d1 h1 => ⟨Nat.le_trans (by rw [dpa_len d1]; exact h1.1) (by decide : 100000 ≤ sizeLine), fun p hp => by
    have g2 := Go.new g1.vw (o := .lst vs) hp
    exact q _ _ _ _ (g1.trans g2) (.lst (.inl (.inl upd_same)) (dpa_mono g2.gg _ _ d1)) h1.2⟩
theorem e_cb {r : List V → Hp → VK → Prop} (h : EA K pen H0 tl L fun ds => RCd K pen r ds P) : E K pen H0 (tCB r tl) L P := fun σ G H e Q q =>
  h σ G H e _ fun vs ds G1 H1 g1 d1 h1 => h1 vs G1 H1 g1.vw d1 Q fun z c G3 H3 g3 d3 p => q z c G3 H3 (g1.trans g3) d3 p
theorem e_sl {r : V → Option Int → Option Int → Hp → VK → Prop} {to th : TO} (h : E K pen H0 te L fun a => EO K pen H0 to L fun lo => EO K pen H0 th L fun hi => RSd K pen r a lo hi P) : E K pen H0 (tSl r te to th) L P := fun σ G H e Q q =>
  h σ G H e _ fun v a G1 H1 g1 d1 h1 => h1 σ G1 H1 (e.go g1) _ fun lo G2 H2 g2 h2 => h2 σ G2 H2 (e.go (g1.trans g2)) _ fun hi G3 H3 g3 h3 =>
    h3 v G3 H3 g3.vw (dp_mono (g2.gg.trans g3.gg) _ _ d1) Q fun z c G4 H4 g4 d4 p => q z c G4 H4 (((g1.trans g2).trans g3).trans g4) d4 p
theorem eo_none {Po : Option Int → Prop} (p : Po none) : EO K pen H0 tNoPart L Po := fun σ G H e Q q => q _ G H (.refl e.vw) p
theorem eo_some {Po : Option Int → Prop} (h : E K pen H0 te L fun d => ∃ i, d = .int i ∧ Po (some i)) : EO K pen H0 (tPart te) L Po := fun σ G H e Q q =>
  h σ G H e _ fun v d G1 H1 g1 d1 ⟨i, hi, p⟩ => by
    subst hi
    cases d1
    exact ⟨i, rfl, q _ G1 H1 g1 p⟩
/-! tests -/
theorem et_test (h : E K pen H0 te L fun d => ∃ b, d = .bool b ∧ Pb b) : ET K pen H0 (tTest te) L Pb := fun σ G H e Q q =>
  h σ G H e _ fun v d G1 H1 g1 d1 ⟨b, hb, p⟩ => by
    subst hb
    cases d1
    exact ⟨b, rfl, q _ G1 H1 g1 p⟩
theorem et_B (h : E K pen H0 te L fun d => ∃ b, d = .bool b ∧ Pb b) : ET K pen H0 (tB te) L Pb := fun σ G H e Q q =>
  h σ G H e _ fun v d G1 H1 g1 d1 ⟨b, hb, p⟩ => by
    subst hb
    cases d1
    exact ⟨b, rfl, q _ G1 H1 g1 p⟩
theorem et_and (h : ET K pen H0 t L fun a => (a = true → ET K pen H0 u L Pb) ∧ (a = false → Pb false)) : ET K pen H0 (tAnd t u) L Pb := fun σ G H e Q q =>
  h σ G H e _ fun a G1 H1 g1 h1 => by
    cases a with
    | true => exact h1.1 rfl σ G1 H1 (e.go g1) Q fun b G2 H2 g2 p => q b G2 H2 (g1.trans g2) p
    | false => exact q false G1 H1 g1 (h1.2 rfl)
theorem et_or (h : ET K pen H0 t L fun a => (a = true → Pb true) ∧ (a = false → ET K pen H0 u L Pb)) : ET K pen H0 (tOr t u) L Pb := fun σ G H e Q q =>
  h σ G H e _ fun a G1 H1 g1 h1 => by
    cases a with
    | false => exact h1.2 rfl σ G1 H1 (e.go g1) Q fun b G2 H2 g2 p => q b G2 H2 (g1.trans g2) p
    | true => exact q true G1 H1 g1 (h1.1 rfl)
theorem et_not (h : ET K pen H0 t L fun a => Pb (!a)) : ET K pen H0 (tNot t) L Pb := fun σ G H e Q q => h σ G H e _ fun a G1 H1 g1 h1 => q (!a) G1 H1 g1 h1
theorem e_andV (h : E K pen H0 ta L fun d => ∃ a, d = .bool a ∧ (a = true → E K pen H0 tb L P) ∧ (a = false → P (.bool false))) : E K pen H0 (tAndV ta tb) L P := fun σ G H e Q q =>
  h σ G H e _ fun v d G1 H1 g1 d1 ⟨a, ha, h1, h2⟩ => by
    subst ha
    cases d1
    refine ⟨a, rfl, ?_⟩
    cases a with
    | true => exact h1 rfl σ G1 H1 (e.go g1) Q fun w b G2 H2 g2 d2 p => q w b G2 H2 (g1.trans g2) d2 p
    | false => exact q _ _ G1 H1 g1 (.bl false) (h2 rfl)
theorem e_orV (h : E K pen H0 ta L fun d => ∃ a, d = .bool a ∧ (a = true → P (.bool true)) ∧ (a = false → E K pen H0 tb L P)) : E K pen H0 (tOrV ta tb) L P := fun σ G H e Q q =>
  h σ G H e _ fun v d G1 H1 g1 d1 ⟨a, ha, h1, h2⟩ => by
    subst ha
    cases d1
    refine ⟨a, rfl, ?_⟩
    cases a with
    | false => exact h2 rfl σ G1 H1 (e.go g1) Q fun w b G2 H2 g2 d2 p => q w b G2 H2 (g1.trans g2) d2 p
    | true => exact q _ _ G1 H1 g1 (.bl true) (h1 rfl)
theorem e_notV (h : E K pen H0 ta L fun d => ∃ a, d = .bool a ∧ P (.bool (!a))) : E K pen H0 (tNotV ta) L P := fun σ G H e Q q =>
  h σ G H e _ fun v d G1 H1 g1 d1 ⟨a, ha, h1⟩ => by
    subst ha
    cases d1
    exact ⟨a, rfl, q _ _ G1 H1 g1 (.bl _) h1⟩
theorem e_if (h : ET K pen H0 t L fun a => (a = true → E K pen H0 ta L P) ∧ (a = false → E K pen H0 tb L P)) : E K pen H0 (tIf t ta tb) L P := fun σ G H e Q q =>
  h σ G H e _ fun a G1 H1 g1 h1 => by
    cases a with
    | true => exact h1.1 rfl σ G1 H1 (e.go g1) Q fun w b G2 H2 g2 d2 p => q w b G2 H2 (g1.trans g2) d2 p
    | false => exact h1.2 rfl σ G1 H1 (e.go g1) Q fun w b G2 H2 g2 d2 p => q w b G2 H2 (g1.trans g2) d2 p
theorem e_chain {r r' : R2} (h : E K pen H0 ta L fun a => E K pen H0 tb L fun b => R2d K pen r a b fun z => ∃ k, z = .bool k ∧ (k = true → E K pen H0 tc L fun c => R2d K pen r' b c P) ∧ (k = false → P (.bool false))) : E K pen H0 (tChain r r' ta tb tc) L P := fun σ G H e Q q =>
  h σ G H e _ fun v a G1 H1 g1 d1 h1 => h1 σ G1 H1 (e.go g1) _ fun w b G2 H2 g2 d2 h2 =>
    h2 v w G2 H2 g2.vw (dp_mono g2.gg _ _ d1) d2 _ fun z c G3 H3 g3 d3 ⟨k, hk, p1, p2⟩ => by
      subst hk
      cases d3
      refine ⟨k, rfl, ?_⟩
      cases k with
      | true =>
        exact p1 rfl σ G3 H3 (e.go ((g1.trans g2).trans g3)) _ fun y c G4 H4 g4 d4 p => p w y G4 H4 g4.vw (dp_mono (g3.gg.trans g4.gg) _ _ d2) d4 Q fun z c G5 H5 g5 d5 p' =>
          q z c G5 H5 ((((g1.trans g2).trans g3).trans g4).trans g5) d5 p'
      | false => exact q _ _ G3 H3 ((g1.trans g2).trans g3) (.bl false) (p2 rfl)
/-! operators by values -/
theorem r_I0 {g : Int → Int → V} {f : Int → Int → PyData} {i j : Int} (hg : ∀ G, Dp K G (g i j) (f i j)) (p : P (f i j)) : R2d K pen (rI0 g) (.int i) (.int j) P := fun x y G H v hx hy Q q => by
  cases hx
  cases hy
  exact ⟨i, j, rfl, rfl, q _ _ G H (.refl v) (hg G) p⟩
theorem r_I {C : Int → Int → Prop} {g : Int → Int → V} {f : Int → Int → PyData} {i j : Int} (hg : ∀ G, Dp K G (g i j) (f i j)) (hc : C i j) (p : P (f i j)) : R2d K pen (rI C g) (.int i) (.int j) P := fun x y G H v hx hy Q q => by
  cases hx
  cases hy
  exact ⟨i, j, rfl, rfl, hc, q _ _ G H (.refl v) (hg G) p⟩
theorem r_add {i j : Int} (p : P (.int (i + j))) : R2d K pen (rI0 fun i j => .int (i + j)) (.int i) (.int j) P := r_I0 (f := fun i j => .int (i + j)) (fun _ => .int _) p
theorem r_sub {i j : Int} (p : P (.int (i - j))) : R2d K pen (rI0 fun i j => .int (i - j)) (.int i) (.int j) P := r_I0 (f := fun i j => .int (i - j)) (fun _ => .int _) p
theorem r_mul {i j : Int} (hc : CMul i j) (p : P (.int (i * j))) : R2d K pen (rI CMul fun i j => .int (i * j)) (.int i) (.int j) P := r_I (f := fun i j => .int (i * j)) (fun _ => .int _) hc p
theorem r_mod {i j : Int} (hc : 0 < j) (p : P (.int (i % j))) : R2d K pen (rI (fun _ j => 0 < j) fun i j => .int (i % j)) (.int i) (.int j) P := r_I (f := fun i j => .int (i % j)) (fun _ => .int _) hc p
theorem r_lt {i j : Int} (p : P (.bool (decide (i < j)))) : R2d K pen (rI0 fun i j => .bl (decide (i < j))) (.int i) (.int j) P := r_I0 (f := fun i j => .bool (decide (i < j))) (fun _ => .bl _) p
theorem r_le {i j : Int} (p : P (.bool (decide (i ≤ j)))) : R2d K pen (rI0 fun i j => .bl (decide (i ≤ j))) (.int i) (.int j) P := r_I0 (f := fun i j => .bool (decide (i ≤ j))) (fun _ => .bl _) p
theorem r_gt {i j : Int} (p : P (.bool (decide (j < i)))) : R2d K pen (rI0 fun i j => .bl (decide (j < i))) (.int i) (.int j) P := r_I0 (f := fun i j => .bool (decide (j < i))) (fun _ => .bl _) p
theorem r_ge {i j : Int} (p : P (.bool (decide (j ≤ i)))) : R2d K pen (rI0 fun i j => .bl (decide (j ≤ i))) (.int i) (.int j) P := r_I0 (f := fun i j => .bool (decide (j ≤ i))) (fun _ => .bl _) p
theorem r_eqI {i j : Int} (p : P (.bool (decide (i = j)))) : R2d K pen rEq (.int i) (.int j) P := fun x y G H v hx hy Q q => by
  cases hx
  cases hy
  refine ⟨rfl, ?_⟩
  rw [show decide (V.int i = V.int j) = decide (i = j) by rw [dec_int]; exact Bool.beq_eq_decide_eq i j]
  exact q _ _ G H (.refl v) (.bl _) p
theorem r_neI {i j : Int} (p : P (.bool (!decide (i = j)))) : R2d K pen rNe (.int i) (.int j) P := fun x y G H v hx hy Q q => by
  cases hx
  cases hy
  refine ⟨rfl, ?_⟩
  rw [show decide (V.int i = V.int j) = decide (i = j) by rw [dec_int]; exact Bool.beq_eq_decide_eq i j]
  exact q _ _ G H (.refl v) (.bl _) p
theorem r_eqB {i j : Bool} (p : P (.bool (decide (i = j)))) : R2d K pen rEq (.bool i) (.bool j) P := fun x y G H v hx hy Q q => by
  cases hx
  cases hy
  refine ⟨rfl, ?_⟩
  rw [show decide (V.bl i = V.bl j) = decide (i = j) by rw [dec_bl]; exact Bool.beq_eq_decide_eq i j]
  exact q _ _ G H (.refl v) (.bl _) p
theorem r_eqS {i j : Str} (p : P (.bool (decide (i = j)))) : R2d K pen rEq (.str i) (.str j) P := fun x y G H v hx hy Q q => by
  cases hx
  cases hy
  refine ⟨rfl, ?_⟩
  rw [show decide (V.str i = V.str j) = decide (i = j) by rw [dec_str]; exact Bool.beq_eq_decide_eq i j]
  exact q _ _ G H (.refl v) (.bl _) p
theorem r_eqD {a b : PyData} (ha : SeqAt.shaped a = true) (hb : SeqAt.shaped b = true) (p : P (.bool (PyData.eqv a b))) : R2d K pen (rEqD K) a b P := fun x y G H v hx hy Q q =>
  ⟨a, b, dp_mono v.vw _ _ hx, dp_mono v.vw _ _ hy, ha, hb, q _ _ G H (.refl v) (.bl _) p⟩
theorem r_neD {a b : PyData} (ha : SeqAt.shaped a = true) (hb : SeqAt.shaped b = true) (p : P (.bool (!PyData.eqv a b))) : R2d K pen (rNeD K) a b P := fun x y G H v hx hy Q q =>
  ⟨a, b, dp_mono v.vw _ _ hx, dp_mono v.vw _ _ hy, ha, hb, q _ _ G H (.refl v) (.bl _) p⟩
theorem r_isN {a : PyData} (p : P (.bool (match a with | .none => true | _ => false))) : R2d K pen (fun x y H Q => y = .non ∧ Q (.bl (decide (x = .non))) H) a .none P := fun x y G H v hx hy Q q => by
  cases hy
  refine ⟨rfl, q _ _ G H (.refl v) ?_ p⟩
  cases hx <;> exact .bl _
theorem r_ixT {ds : List PyData} {i : Int} {d : PyData} (h : atI ds i = some d) (p : P d) : R2d K pen (rIxT K) (.tuple ds) (.int i) P := fun x y G H v hx hy Q q => by
  cases hy
  cases hx with
  | tup hs ha =>
    rename_i a xs
    unfold atI at h
    cases hj : ixN ds.length i with
    | none => rw [hj] at h; cases h
    | some j =>
      rw [hj] at h
      obtain ⟨w, h1, h2⟩ := dpa_get ha (show ds[j]? = some d from h)
      refine ⟨_, xs, i, w, rfl, rfl, sqT_mono v.vw hs, ?_, q w d G H (.refl v) h2 p⟩
      unfold atI
      rw [dpa_len ha, hj]
      exact h1
theorem r_ixL {ds : List PyData} {i : Int} {d : PyData} (h : atI ds i = some d) (p : P d) : R2d K pen (rIxL K) (.list ds) (.int i) P := fun x y G H v hx hy Q q => by
  cases hy
  cases hx with
  | lst hs ha =>
    rename_i a xs
    unfold atI at h
    cases hj : ixN ds.length i with
    | none => rw [hj] at h; cases h
    | some j =>
      rw [hj] at h
      obtain ⟨w, h1, h2⟩ := dpa_get ha (show ds[j]? = some d from h)
      refine ⟨_, xs, i, w, rfl, rfl, sqL_mono v.vw hs, ?_, q w d G H (.refl v) h2 p⟩
      unfold atI
      rw [dpa_len ha, hj]
      exact h1
/-- len -/
theorem c_len {ds es : List PyData} (h : ds = [.tuple es] ∨ ds = [.list es]) (p : P (.int es.length)) : RCd K pen (fun xs H Q => ∃ p ys, xs = [.ref p] ∧ (SqL K H p ys ∨ SqT K H p ys) ∧ Q (.int ys.length) H) ds P := fun vs G H v hv Q q => by
  rcases h with rfl | rfl
  · cases hv with
    | cons h1 h2 =>
      cases h2
      cases h1 with
      | tup hs ha =>
        refine ⟨_, _, rfl, .inr (sqT_mono v.vw hs), ?_⟩
        rw [dpa_len ha]
        exact q _ _ G H (.refl v) (.int _) p
  · cases hv with
    | cons h1 h2 =>
      cases h2
      cases h1 with
      | lst hs ha =>
        refine ⟨_, _, rfl, .inl (sqL_mono v.vw hs), ?_⟩
        rw [dpa_len ha]
        exact q _ _ G H (.refl v) (.int _) p
/-- list(xs) -/
theorem c_list {ds es : List PyData} (h : ds = [.tuple es] ∨ ds = [.list es]) (p : P (.list es)) : RCd K pen (fun xs H Q => ∃ p ys, xs = [.ref p] ∧ (SqL K H p ys ∨ SqT K H p ys) ∧ ∀ l, H l = none → Q (.ref l) (upd H l (.lst ys))) ds P := fun vs G H v hv Q q => by
  rcases h with rfl | rfl
  · cases hv with
    | cons h1 h2 =>
      cases h2
      cases h1 with
      | tup hs ha =>
        refine ⟨_, _, rfl, .inr (sqT_mono v.vw hs), fun l hl => ?_⟩
        rename_i xs
        have g := Go.new v (o := .lst xs) hl
        exact q _ _ _ _ g (.lst (.inl (.inl upd_same)) (dpa_mono g.gg _ _ ha)) p
  · cases hv with
    | cons h1 h2 =>
      cases h2
      cases h1 with
      | lst hs ha =>
        refine ⟨_, _, rfl, .inl (sqL_mono v.vw hs), fun l hl => ?_⟩
        rename_i xs
        have g := Go.new v (o := .lst xs) hl
        exact q _ _ _ _ g (.lst (.inl (.inl upd_same)) (dpa_mono g.gg _ _ ha)) p
/-- tuple(xs) -/
theorem c_tuple {ds es : List PyData} (h : ds = [.tuple es] ∨ ds = [.list es]) (p : P (.tuple es)) : RCd K pen (fun xs H Q => ∃ p ys, xs = [.ref p] ∧ ((SqL K H p ys ∧ ∀ l, H l = none → Q (.ref l) (upd H l (.tup ys))) ∨ (SqT K H p ys ∧ Q (.ref p) H))) ds P := fun vs G H v hv Q q => by
  rcases h with rfl | rfl
  · cases hv with
    | cons h1 h2 =>
      cases h2
      cases h1 with
      | tup hs ha => exact ⟨_, _, rfl, .inr ⟨sqT_mono v.vw hs, q _ _ G H (.refl v) (.tup hs ha) p⟩⟩
  · cases hv with
    | cons h1 h2 =>
      cases h2
      cases h1 with
      | lst hs ha =>
        refine ⟨_, _, rfl, .inl ⟨sqL_mono v.vw hs, fun l hl => ?_⟩⟩
        rename_i xs
        have g := Go.new v (o := .tup xs) hl
        exact q _ _ _ _ g (.tup (.inl (.inl upd_same)) (dpa_mono g.gg _ _ ha)) p
theorem c_min2 {i j : Int} (p : P (.int (if j < i then j else i))) : RCd K pen (fun xs H Q => ∃ i j, xs = [.int i, .int j] ∧ Q (.int (if j < i then j else i)) H) [.int i, .int j] P := fun vs G H v hv Q q => by
  cases hv with
  | cons h1 h2 =>
    cases h2 with
    | cons h3 h4 =>
      cases h4
      cases h1
      cases h3
      exact ⟨i, j, rfl, q _ _ G H (.refl v) (.int _) p⟩
theorem c_max2 {i j : Int} (p : P (.int (if j > i then j else i))) : RCd K pen (fun xs H Q => ∃ i j, xs = [.int i, .int j] ∧ Q (.int (if j > i then j else i)) H) [.int i, .int j] P := fun vs G H v hv Q q => by
  cases hv with
  | cons h1 h2 =>
    cases h2 with
    | cons h3 h4 =>
      cases h4
      cases h1
      cases h3
      exact ⟨i, j, rfl, q _ _ G H (.refl v) (.int _) p⟩
theorem c_intB {b : Bool} (p : P (.int (if b then 1 else 0))) : RCd K pen (fun xs H Q => (∃ i, xs = [.int i] ∧ Q (.int i) H) ∨ ∃ k, xs = [.bl k] ∧ Q (.int (if k then 1 else 0)) H) [.bool b] P := fun vs G H v hv Q q => by
  cases hv with
  | cons h1 h2 =>
    cases h2
    cases h1
    exact .inr ⟨b, rfl, q _ _ G H (.refl v) (.int _) p⟩
end
end Dl

set_option Elab.async false
set_option linter.all false
set_option maxRecDepth 100000
namespace Dl
open PySem PySem.Spec PyProof.Rows L2

/-! ### statements -/
structure Dn where
  nx : Lv → Prop
  rt : PyData → Prop
  bk : Lv → Prop := fun _ => False
  ct : Lv → Prop := fun _ => False
  rn : PyData → Prop := fun _ => False
  ro : OO → Prop := fun _ => False
structure Gx (pen : Pc) (H0 G H G' H' : Hp) : Prop where
  gg : Same G G'
  nw : ∀ a, H0 a ≠ none → G' a = G a
  od : ∀ a o, ¬ IsPn pen a → H0 a ≠ none → H a = some o → H' a = some o
theorem Gx.refl {pen : Pc} {H0 G H : Hp} : Gx pen H0 G H G H := ⟨Same.refl _, fun _ _ => rfl, fun _ _ _ _ e => e⟩
theorem Gx.trans {pen : Pc} {H0 G H G1 H1 G2 H2 : Hp} (a : Gx pen H0 G H G1 H1) (b : Gx pen H0 G1 H1 G2 H2) : Gx pen H0 G H G2 H2 :=
  ⟨a.gg.trans b.gg, fun x h => (b.nw x h).trans (a.nw x h), fun x o p h e => b.od x o p h (a.od x o p h e)⟩
section
variable {K : PySem.W.Frag} {pen : Pc} {H0 G H G' H' : Hp} {σ : L2.St} {L : Lv}
theorem Ev.gx (e : Ev K pen H0 G H σ L) (g : Go pen G H G' H') : Gx pen H0 G H G' H' := ⟨g.gg, fun a h => g.nw a (e.dom a h), fun a o p _ q => g.od a o p q⟩
/-- a slot forgotten -/
theorem Ev.unset (e : Ev K pen H0 G H σ L) (i : Nat) : Ev K pen H0 G H (σ.set i none) (L.set i none) := by
  have nj : ∀ (j : Nat) (av : AV), (L.set i none)[j]? = some (some av) → i ≠ j := fun j av hj q => by
    subst q
    have hl : i < L.length := by
      have := (List.getElem?_eq_some_iff.mp hj).1
      rw [List.length_set] at this; exact this
    rw [List.getElem?_set_self hl] at hj
    cases hj
  refine ⟨e.vw, e.h0, e.dom, by rw [List.length_set, List.length_set]; exact e.len, fun j av hj => ?_, fun j k ds es l h1 h2 h3 h4 => ?_⟩
  · have q := nj j av hj
    rw [List.getElem?_set_ne q] at hj
    obtain ⟨w, h1, h2⟩ := e.sl j av hj
    exact ⟨w, by rw [List.getElem?_set_ne q]; exact h1, h2⟩
  · have q1 := nj j _ h1
    have q2 := nj k _ h2
    rw [List.getElem?_set_ne q1] at h1 h3
    rw [List.getElem?_set_ne q2] at h2 h4
    exact e.ow j k ds es l h1 h2 h3 h4
end
section
variable (K : PySem.W.Frag) (pen : Pc) (H0 : Hp)
def S (t : TS) (L : Lv) (D : Dn) : Prop := ∀ (σ : L2.St) (G H : Hp) (N : Ends), Ev K pen H0 G H σ L →
  (∀ σ' G' H' L', Gx pen H0 G H G' H' → Ev K pen H0 G' H' σ' L' → D.nx L' → N.nx σ' H') →
  (∀ v d G' H', Gx pen H0 G H G' H' → Vw pen G' H' → Dp K G' v d → D.rt d → N.rt v H') →
  (∀ σ' G' H' L', Gx pen H0 G H G' H' → Ev K pen H0 G' H' σ' L' → D.bk L' → N.bk σ' H') →
  (∀ σ' G' H' L', Gx pen H0 G H G' H' → Ev K pen H0 G' H' σ' L' → D.ct L' → N.ct σ' H') →
  (∀ v d G' H', Gx pen H0 G H G' H' → Vw pen G' H' → Nd K (vnew H0 G' H') v d → D.rn d → N.rt v H') →
  (∀ l ho o G' H', Gx pen H0 G H G' H' → Vw pen G' H' → H' l = some ho → H0 l = none → G' l = none → OwnOk K G' l ho o → D.ro o → N.rt (.ref l) H') → t N σ H
def GT (g : TG) (d : PyData) (L : Lv) (P : Lv → Prop) : Prop := ∀ (σ : L2.St) (G H : Hp) (v : V), Ev K pen H0 G H σ L → Dp K G v d → ∀ R : L2.St → Hp → Prop, (∀ σ' L', Ev K pen H0 G H σ' L' → P L' → R σ' H) → g v σ H R
def GTs (g : TGs) (ds : List PyData) (L : Lv) (P : Lv → Prop) : Prop := ∀ (σ : L2.St) (G H : Hp) (vs : List V), Ev K pen H0 G H σ L → DpAll K G vs ds → ∀ R : L2.St → Hp → Prop, (∀ σ' L', Ev K pen H0 G H σ' L' → P L' → R σ' H) → g vs σ H R
end
section
variable {K : PySem.W.Frag} {pen : Pc} {H0 : Hp} {L : Lv} {P P' : PyData → Prop} {ta tb tc te ti : TE} {tl tr : TA} {tt : TT} {t u : TS} {Pb : Bool → Prop} {D : Dn} {g : TG} {gs : TGs}
theorem g_name {i : Nat} {d : PyData} {P : Lv → Prop} (h : P (L.set i (some (.d d)))) : GT K pen H0 (gName i) d L P := fun σ G H v e hd R r => r _ _ (e.set hd) h
theorem g_tup {n : Nat} {ds : List PyData} {P : Lv → Prop} (hn : ds.length = n) (h : GTs K pen H0 gs ds L P) : GT K pen H0 (gTup K n gs) (.tuple ds) L P := fun σ G H v e hd R r => by
  cases hd with
  | tup hs ha => exact ⟨_, _, rfl, sqT_mono e.vw.vw hs, (dpa_len ha).trans hn, h σ G H _ e ha R r⟩
theorem gs_nil {P : Lv → Prop} (h : P L) : GTs K pen H0 gNil [] L P := fun σ G H vs e hd R r => by
  cases hd
  exact ⟨rfl, r _ _ e h⟩
theorem gs_cons {d : PyData} {ds : List PyData} {P : Lv → Prop} (h : GT K pen H0 g d L fun L' => GTs K pen H0 gs ds L' P) : GTs K pen H0 (gCons g gs) (d :: ds) L P := fun σ G H vs e hd R r => by
  cases hd with
  | cons h1 h2 =>
    refine ⟨_, _, rfl, h σ G H _ e h1 _ fun σ' L' e' h' => ?_⟩
    exact h' σ' G H _ e' h2 R r
theorem s_seq (h : S K pen H0 t L { D with nx := fun L' => S K pen H0 u L' D }) : S K pen H0 (tSeq t u) L D := fun σ G H N e n1 n2 n3 n4 n5 n6 =>
  h σ G H _ e (fun σ' G' H' L' x e' h' => h' σ' G' H' N e' (fun σ2 G2 H2 L2 x2 e2 q => n1 σ2 G2 H2 L2 (x.trans x2) e2 q) (fun v d G2 H2 x2 vw hd q => n2 v d G2 H2 (x.trans x2) vw hd q)
    (fun σ2 G2 H2 L2 x2 e2 q => n3 σ2 G2 H2 L2 (x.trans x2) e2 q) (fun σ2 G2 H2 L2 x2 e2 q => n4 σ2 G2 H2 L2 (x.trans x2) e2 q) (fun v d G2 H2 x2 vw hd q => n5 v d G2 H2 (x.trans x2) vw hd q) (fun l ho o G2 H2 x2 vw h1 h2 h3 h4 q => n6 l ho o G2 H2 (x.trans x2) vw h1 h2 h3 h4 q)) n2 n3 n4 n5 n6
theorem s_next (h : D.nx L) : S K pen H0 tNext L D := fun σ G H N e n1 _ _ _ _ _ => n1 σ G H L .refl e h
theorem s_ret (h : E K pen H0 te L D.rt) : S K pen H0 (tRet te) L D := fun σ G H N e _ n2 _ _ _ _ => h σ G H e _ fun v d G' H' g hd p => n2 v d G' H' (e.gx g) g.vw hd p
theorem s_asg {i : Nat} (h : E K pen H0 te L fun d => D.nx (L.set i (some (.d d)))) : S K pen H0 (tAsg te (gName i)) L D := fun σ G H N e n1 _ _ _ _ _ =>
  h σ G H e _ fun v d G' H' g hd p => n1 _ G' H' _ (e.gx g) ((e.go g).set hd) p
theorem s_asgG (h : E K pen H0 te L fun d => GT K pen H0 g d L D.nx) : S K pen H0 (tAsg te g) L D := fun σ G H N e n1 _ _ _ _ _ =>
  h σ G H e _ fun v d G' H' go hd p => p σ G' H' v (e.go go) hd _ fun σ' L' e' p' => n1 σ' G' H' L' (e.gx go) e' p'
theorem s_if (h : ET K pen H0 tt L fun b => (b = true → S K pen H0 t L D) ∧ (b = false → S K pen H0 u L D)) : S K pen H0 (tIfS tt t u) L D := fun σ G H N e n1 n2 n3 n4 n5 n6 =>
  h σ G H e _ fun b G' H' go p => by
    have x := e.gx go
    have go2 : ∀ {t : TS}, S K pen H0 t L D → t N σ H' := fun {t} h => h σ G' H' N (e.go go) (fun σ2 G2 H2 L2 x2 e2 q => n1 σ2 G2 H2 L2 (x.trans x2) e2 q) (fun v d G2 H2 x2 vw hd q => n2 v d G2 H2 (x.trans x2) vw hd q)
      (fun σ2 G2 H2 L2 x2 e2 q => n3 σ2 G2 H2 L2 (x.trans x2) e2 q) (fun σ2 G2 H2 L2 x2 e2 q => n4 σ2 G2 H2 L2 (x.trans x2) e2 q) (fun v d G2 H2 x2 vw hd q => n5 v d G2 H2 (x.trans x2) vw hd q) (fun l ho o G2 H2 x2 vw h1 h2 h3 h4 q => n6 l ho o G2 H2 (x.trans x2) vw h1 h2 h3 h4 q)
    cases b with
    | true => exact go2 (p.1 rfl)
    | false => exact go2 (p.2 rfl)
theorem S.mono {D' : Dn} (h : S K pen H0 t L D) (h1 : ∀ L, D.nx L → D'.nx L) (h2 : ∀ d, D.rt d → D'.rt d) (h3 : ∀ L, D.bk L → D'.bk L) (h4 : ∀ L, D.ct L → D'.ct L) (h5 : ∀ d, D.rn d → D'.rn d := by intro _ h; exact h) (h6 : ∀ d, D.ro d → D'.ro d := by intro _ h; exact h) : S K pen H0 t L D' := fun σ G H N e n1 n2 n3 n4 n5 n6 =>
  h σ G H N e (fun σ' G' H' L' x e' q => n1 σ' G' H' L' x e' (h1 _ q)) (fun v d G' H' x vw hd q => n2 v d G' H' x vw hd (h2 _ q)) (fun σ' G' H' L' x e' q => n3 σ' G' H' L' x e' (h3 _ q)) (fun σ' G' H' L' x e' q => n4 σ' G' H' L' x e' (h4 _ q)) (fun v d G' H' x vw hd q => n5 v d G' H' x vw hd (h5 _ q)) (fun l ho o G' H' x vw h1 h2 h3 h4 q => n6 l ho o G' H' x vw h1 h2 h3 h4 (h6 _ q))
/-! loops -/
theorem s_while (I : Nat → Lv → Prop) (h0 : ∃ m, I m L) (h : ∀ m L', I m L' → ET K pen H0 tt L' fun b => (b = true → S K pen H0 t L' { D with nx := fun L2 => ∃ m', m' < m ∧ I m' L2, ct := fun L2 => ∃ m', m' < m ∧ I m' L2, bk := D.nx }) ∧ (b = false → D.nx L')) :
    S K pen H0 (tWhile tt t) L D := fun σ G H N e n1 n2 n3 n4 n5 n6 => by
  obtain ⟨m0, i0⟩ := h0
  refine ⟨fun m σ' H' => ∃ G' L', Gx pen H0 G H G' H' ∧ Ev K pen H0 G' H' σ' L' ∧ I m L', ⟨m0, G, L, .refl, e, i0⟩, ?_⟩
  rintro m σ1 H1 ⟨G1, L1, x1, e1, q1⟩
  refine h m L1 q1 σ1 G1 H1 e1 _ fun b G2 H2 go p => ?_
  have x2 := x1.trans (e1.gx go)
  cases b with
  | false => exact n1 σ1 G2 H2 L1 x2 (e1.go go) (p.2 rfl)
  | true =>
    refine ⟨fun σ' H' => ∃ G' L' m', m' < m ∧ Gx pen H0 G H G' H' ∧ Ev K pen H0 G' H' σ' L' ∧ I m' L', fun σ' H' ⟨G', L', m', hm, r⟩ => ⟨m', hm, G', L', r⟩, ?_⟩
    exact p.1 rfl σ1 G2 H2 _ (e1.go go) (fun σ3 G3 H3 L3 x3 e3 ⟨m', hm, q3⟩ => ⟨G3, L3, m', hm, x2.trans x3, e3, q3⟩) (fun v d G3 H3 x3 vw hd q3 => n2 v d G3 H3 (x2.trans x3) vw hd q3)
      (fun σ3 G3 H3 L3 x3 e3 q3 => n1 σ3 G3 H3 L3 (x2.trans x3) e3 q3) (fun σ3 G3 H3 L3 x3 e3 ⟨m', hm, q3⟩ => ⟨G3, L3, m', hm, x2.trans x3, e3, q3⟩) (fun v d G3 H3 x3 vw hd q3 => n5 v d G3 H3 (x2.trans x3) vw hd q3) (fun l ho o G3 H3 x3 vw h1 h2 h3 h4 q3 => n6 l ho o G3 H3 (x2.trans x3) vw h1 h2 h3 h4 q3)
/-- x op= e -/
theorem s_aug {i : Nat} {x : PyData} {r : TIp} (hi : L[i]? = some (some (.d x))) (h : E K pen H0 te L fun y => R2d K pen r x y fun d => D.nx (L.set i (some (.d d)))) : S K pen H0 (tAug i te r) L D := fun σ G H N e n1 _ _ _ _ _ => by
  obtain ⟨v, h1, h2⟩ := e.sl i _ hi
  refine ⟨v, h1, h σ G H e _ fun w y G1 H1 g1 d1 p => ?_⟩
  exact p v w G1 H1 g1.vw (dp_mono g1.gg _ _ h2) d1 _ fun z d G2 H2 g2 d2 q => n1 _ G2 H2 _ ((e.gx g1).trans ((e.go g1).gx g2)) (((e.go g1).go g2).set d2) q
/-! calls -/
def SpX {α : Type} (K : PySem.W.Frag) (ts : List Addr) (Wf : α → Prop) (enc : α → List PyData) (res : α → PyData → Prop) : Sp := fun vs H Q _ => ∃ (x : α) (G : Hp), Vw ⟨none, ts⟩ G H ∧ DpAll K G vs (enc x) ∧ Wf x ∧ ∀ v d G' H', Go ⟨none, ts⟩ G H G' H' → Dp K G' v d → res x d → Q v H'
def PK.Is : Bool → PK → Prop
  | false, .pen _ _ => True
  | true, .spr => True
  | _, _ => False
def SpXk {α : Type} (b : Bool) (K : PySem.W.Frag) (ts : List Addr) (Wf : α → Prop) (enc : α → List PyData) (res : α → PyData → Prop) : Sp := fun vs H Q _ => ∃ (x : α) (p : Pn) (G : Hp) (us : List V), PK.Is b p.k ∧ vs = .ref p.a :: us ∧ Vw ⟨some p, ts⟩ G H ∧ DpAll K G us (enc x) ∧ Wf x ∧ ∀ v d G' H', Go ⟨some p, ts⟩ G H G' H' → Dp K G' v d → res x d → Q v H'
def SpXF {α : Type} (K : PySem.W.Frag) (ts : List Addr) (Wf : α → Prop) (enc : α → List PyData) (res : α → PyData → Prop) : Sp := fun vs H Q _ => ∃ (x : α) (G : Hp), Vw ⟨none, ts⟩ G H ∧ DpAll K G vs (enc x) ∧ Wf x ∧ ∀ v d G' H', Go ⟨none, ts⟩ G H G' H' → Nd K (vnew H G' H') v d → res x d → Q v H'
/-- told, seen as data -/
theorem Go.see {pen : Pc} {G H G' H' : Hp} (vw : Vw pen G H) (g : Go pen G H G' H') : Go pen G H (vmax H G' H') H' := by
  have v := vw_max (H0 := H) g.vw vw.ok
  refine ⟨fun a o e => vmax_G (g.gg _ _ e), fun a h => ?_, g.od, v⟩
  rw [← g.nw a h]
  cases e : G' a with
  | some o => exact vmax_G e
  | none =>
    rw [vmax_new e]
    cases z : newL H H' a with
    | none => rfl
    | some o => exact absurd (newL_some z).1 h
theorem e_callXF {α : Type} {pn : Option Pn} {ts : List Addr} {Wf : α → Prop} {enc : α → List PyData} {res : α → PyData → Prop} {X : XK} (h : EA K ⟨pn, ts⟩ H0 tl L fun ds => ∃ x, ds = enc x ∧ Wf x ∧ ∀ d, res x d → P d) : E K ⟨pn, ts⟩ H0 (tCall (SpXF K ts Wf enc res) [] X tl) L P := fun σ G H e Q q =>
  h σ G H e _ fun vs ds G1 H1 go hd ⟨x, hx, h1, h2⟩ => ⟨x, G1, go.vw.plain, by rw [List.append_nil, ← hx]; exact hd, h1, fun v d G' H' go2 hd2 p => by
    have g3 := Go.see go.vw (go2.lift go.vw)
    exact q v d _ H' (go.trans g3) (dp_mono vnew_max _ _ (nd_dp _ _ hd2)) (h2 d p)⟩
theorem e_callX {α : Type} {pn : Option Pn} {ts : List Addr} {Wf : α → Prop} {enc : α → List PyData} {res : α → PyData → Prop} {X : XK} (h : EA K ⟨pn, ts⟩ H0 tl L fun ds => ∃ x, ds = enc x ∧ Wf x ∧ ∀ d, res x d → P d) : E K ⟨pn, ts⟩ H0 (tCall (SpX K ts Wf enc res) [] X tl) L P := fun σ G H e Q q =>
  h σ G H e _ fun vs ds G1 H1 go hd ⟨x, hx, h1, h2⟩ => ⟨x, G1, go.vw.plain, by rw [List.append_nil, ← hx]; exact hd, h1, fun v d G' H' go2 hd2 p => q v d G' H' (go.trans (go2.lift go.vw)) hd2 (h2 d p)⟩
theorem e_callXP {α : Type} {b : Bool} {p : Pn} {ts : List Addr} {Wf : α → Prop} {enc : α → List PyData} {res : α → PyData → Prop} {X : XK} {i : Nat} (hi : L[i]? = some (some .pen)) (h : EA K ⟨some p, ts⟩ H0 tl L fun ds => ∃ x, ds = enc x ∧ Wf x ∧ ∀ d, res x d → P d) (hk : PK.Is b p.k := by exact trivial) : E K ⟨some p, ts⟩ H0 (tCall (SpXk b K ts Wf enc res) [] X (tCons (tVar i) tl)) L P := fun σ G H e Q q => by
  obtain ⟨v, hv, p', hp, rfl⟩ := e.sl i _ hi
  refine ⟨_, hv, h σ G H e _ fun vs ds G1 H1 go hd ⟨x, hx, h1, h2⟩ => ?_⟩
  cases hp
  exact ⟨x, p, G1, vs, hk, by rw [List.append_nil], go.vw, by rw [← hx]; exact hd, h1, fun v d G' H' go2 hd2 p => q v d G' H' (go.trans go2) hd2 (h2 d p)⟩
/-! defs -/
def st0 (N : List Str) (ds : List PyData) : Lv := ds.map (fun d => some (.d d)) ++ List.replicate (N.length - ds.length) none
theorem start_get {N : List Str} {vs : List V} {ds : List PyData} {G : Hp} (h : DpAll K G vs ds) : ∀ (i : Nat) av, (st0 N ds)[i]? = some (some av) → ∃ v d, av = .d d ∧ (start N vs)[i]? = some (some v) ∧ Dp K G v d := fun i av hi => by
  unfold st0 at hi
  unfold L2.start
  by_cases q : i < ds.length
  · rw [List.getElem?_append_left (by rw [List.length_map]; exact q), List.getElem?_map] at hi
    cases hd : ds[i]? with
    | none => rw [hd] at hi; cases hi
    | some d =>
      rw [hd] at hi
      obtain ⟨v, h1, h2⟩ := dpa_get h hd
      refine ⟨v, d, (Option.some.inj (Option.some.inj hi)).symm, ?_, h2⟩
      rw [List.getElem?_append_left (by rw [List.length_map, dpa_len h]; exact q), List.getElem?_map, h1]
      rfl
  · rw [List.getElem?_append_right (by rw [List.length_map]; omega)] at hi
    have z := List.mem_of_getElem? hi
    have z2 := (List.mem_replicate.mp z).2
    cases z2
theorem ev_start {ts : List Addr} {N : List Str} {vs : List V} {ds : List PyData} {G H : Hp} (h : DpAll K G vs ds) (v : Vw ⟨none, ts⟩ G H) : Ev K ⟨none, ts⟩ H G H (start N vs) (st0 N ds) := by
  refine ⟨v, v.ok, fun _ h => h, ?_, fun i av hi => ?_, fun i j ds' es l h1 _ _ _ => ?_⟩
  · unfold L2.start st0
    rw [List.length_append, List.length_append, List.length_map, List.length_map, List.length_replicate, List.length_replicate, dpa_len h]
  · obtain ⟨v, d, rfl, h1, h2⟩ := start_get h i av hi
    exact ⟨v, h1, h2⟩
  · obtain ⟨v, d, e, _⟩ := start_get h i _ h1
    cases e
end
section
variable {P : Program} {w : World} {K : PySem.W.Frag} {mg : Str → Option Value} {base : Heap}
/-- a def without the pen -/
theorem fnX {α : Type} {x qual : Str} {st : Stmt} {f : Addr} {fd : FuncData} {N ps : List Str} {k : Nat} {ts : List Addr} {Wf : α → Prop} {enc : α → List PyData} {res : α → PyData → Prop} (F : Fun K x qual st f fd) (S0 : FnScope N ps (defScope st)) (hl : ∀ x, Wf x → (enc x).length = ps.length)
    (hbody : ∀ (cdv : Value) (A : Around) (outer : List Env) (s : Shared) (H : Hp) (E : XK), Room k (A.deeper (envOfC qual (defScope st) s.heap.objs.size f cdv)) →
      ∃ t, PSs (cxOf CX0 P w K mg base N qual (defScope st) f cdv A outer s H E).nox (defBody st) t ∧ ∀ x, Wf x → S K ⟨none, ts⟩ H t (st0 N (enc x)) { nx := fun _ => res x .none, rt := res x }) : FnOk P w K mg base CX0 (k + 1) f fd ps (SpX K ts Wf enc res) := by
  refine F.ok S0 (fun vs H Q E h => ?_) (fun cdv A outer s H vs Q E hr h => ?_)
  · obtain ⟨x, G, _, h1, h2, _⟩ := h
    rw [dpa_len h1]
    exact hl x h2
  · obtain ⟨x, G, v, h1, h2, q⟩ := h
    obtain ⟨t, ht, hS⟩ := hbody cdv A outer s H E hr
    refine ⟨t, ht, hS x h2 (L2.start N vs) G H _ (ev_start h1 v) (fun σ' G' H' L' x e' p => ?_) (fun v d G' H' x vw hd p => ?_) (fun _ _ _ _ _ _ z => z.elim) (fun _ _ _ _ _ _ z => z.elim) (fun _ _ _ _ _ _ _ z => z.elim) (fun _ _ _ _ _ _ _ _ _ _ _ z => z.elim)⟩
    · exact q .non .none G' H' ⟨x.gg, x.nw, fun a o hp e => x.od a o hp (by rw [e]; exact fun z => by cases z) e, e'.vw⟩ .non p
    · exact q v d G' H' ⟨x.gg, x.nw, fun a o hp e => x.od a o hp (by rw [e]; exact fun z => by cases z) e, vw⟩ hd p
end
end Dl

set_option Elab.async false
set_option linter.all false
set_option maxRecDepth 100000
namespace Dl
open PySem PySem.Spec PyProof.Rows L2
section
variable {K : PySem.W.Frag} {pen : Pc} {H0 : Hp} {L : Lv} {P P' : PyData → Prop} {ta tb tc te ti : TE} {tl tr : TA} {tt : TT} {t u : TS} {Pb : Bool → Prop} {D : Dn} {g : TG} {gs : TGs}
/-! ### a new list -/
def EL (K : PySem.W.Frag) (pen : Pc) (H0 : Hp) (te : TE) (L : Lv) (Pl : List PyData → Prop) : Prop := ∀ (σ : L2.St) (G H : Hp), Ev K pen H0 G H σ L → ∀ Q : VK, (∀ l vs ds G' H', Go pen G H G' H' → H' l = some (.lst vs) → G' l = none → H l = none → DpAll K G' vs ds → Pl ds → Q (.ref l) H') → te σ H Q
/-- G with a list that is not yet data -/
theorem Go.list {G H G' H' : Hp} {l : Addr} {vs : List V} (vw : Vw pen G H) (g : Go pen G H G' H') (h1 : H' l = some (.lst vs)) (h2 : G' l = none) (h3 : H l = none) : Go pen G H (upd G' l (.lst vs)) H' ∧ Same G' (upd G' l (.lst vs)) := by
  have s : Same G' (upd G' l (.lst vs)) := fun a o e => by
    rw [upd_ne (ne_of_none e h2)]
    exact e
  refine ⟨⟨g.gg.trans s, fun a h => ?_, g.od, ⟨fun a o e => ?_, fun a p => ?_, g.vw.ok⟩⟩, s⟩
  · rw [upd_ne (fun z => h (by rw [z]; exact h3))]
    exact g.nw a h
  · by_cases z : a = l
    · subst z
      rw [upd_same] at e
      rw [h1]; exact e
    · rw [upd_ne z] at e
      exact g.vw.vw a o e
  · rw [upd_ne (fun z => vw.ok.there p (by rw [z]; exact h3))]
    exact g.vw.no a p
theorem e_ofL (h : EL K pen H0 te L fun ds => P (.list ds)) : E K pen H0 te L P := fun σ G H e Q q => h σ G H e Q fun l vs ds G' H' g h1 h2 h3 h4 p => by
  obtain ⟨g2, s⟩ := Go.list e.vw g h1 h2 h3
  exact q _ _ _ _ g2 (.lst (.inl (.inl upd_same)) (dpa_mono s _ _ h4)) p
theorem EL.mono {Pl Pl' : List PyData → Prop} (h : EL K pen H0 te L Pl) (k : ∀ d, Pl d → Pl' d) : EL K pen H0 te L Pl' := fun σ G H e Q q => h σ G H e Q fun l vs ds G' H' g h1 h2 h3 h4 p => q l vs ds G' H' g h1 h2 h3 h4 (k ds p)
/-! ### comprehensions -/
/-- POk behind a write elsewhere -/
theorem POk.upd {H H1 : Hp} {D : Addr} {o : HO} (h : POk pen H) (h1 : POk pen H1) (hD : H1 D = none) (hk : ∀ q, H D ≠ some (LamX.CodeO D q)) : POk pen (L2.upd H D o) := by
  refine ⟨fun p hp => (h.1 p hp).mono fun a u ho e => ?_, fun P hP => ?_⟩
  · obtain ⟨xs, k⟩ := (h1.1 p hp).lst ho
    rw [upd_ne (ne_of_none k hD)]
    exact e
  · exact tabX_upd (h.2 P hP) (fun z => h1.there (.inr hP) (by rw [z]; exact hD)) hk
/-- an object that was new at H1 and is not data changes -/
theorem Go.mut {G H1 G' H' : Hp} {D : Addr} {o : HO} (v1 : Vw pen G H1) (hD : H1 D = none) (gd : G' D = none) (hk : ∀ q, H' D ≠ some (LamX.CodeO D q)) (g : Go pen G H1 G' H') : Go pen G H1 G' (upd H' D o) := by
  refine ⟨g.gg, g.nw, fun a o hp e => ?_, ⟨fun a o e => ?_, g.vw.no, ?_⟩⟩
  · rw [upd_ne (ne_of_none e hD)]
    exact g.od a o hp e
  · rw [upd_ne (fun z => by rw [z, gd] at e; cases e)]
    exact g.vw.vw a o e
  · exact g.vw.ok.upd v1.ok hD hk
def LcI (K : PySem.W.Frag) (pen : Pc) (G H1 : Hp) (D : Addr) (J : Nat → List PyData → Prop) (i : Nat) (H' : Hp) : Prop :=
  ∃ G' vs acc, Go pen G H1 G' H' ∧ H' D = some (.lst vs) ∧ G' D = none ∧ DpAll K G' vs acc ∧ J i acc ∧ acc.length ≤ i
theorem lc_start {G H1 : Hp} {D : Addr} {J : Nat → List PyData → Prop} (v : Vw pen G H1) (hD : H1 D = none) (j0 : J 0 []) : LcI K pen G H1 D J 0 (upd H1 D (.lst [])) := by
  refine ⟨G, [], [], Go.hid v hD, upd_same, ?_, .nil, j0, Nat.le_refl _⟩
  cases q : G D with
  | none => rfl
  | some o => rw [v.vw _ _ q] at hD; cases hD
theorem lc_end {G H G1 H1 H' : Hp} {D : Addr} {J : Nat → List PyData → Prop} {n : Nat} {Q : VK} {Pl : List PyData → Prop} (go : Go pen G H G1 H1) (hD : H1 D = none) (I : LcI K pen G1 H1 D J n H') (j1 : ∀ acc, J n acc → Pl acc)
    (q : ∀ l vs ds G' H', Go pen G H G' H' → H' l = some (.lst vs) → G' l = none → H l = none → DpAll K G' vs ds → Pl ds → Q (.ref l) H') : Q (.ref D) H' := by
  obtain ⟨G', vs, acc, g, h1, h2, h3, h4, _⟩ := I
  refine q D vs acc G' H' (go.trans g) h1 h2 ?_ h3 (j1 acc h4)
  cases z : H D with
  | none => rfl
  | some o => exact absurd hD (go.dom (by rw [z]; exact fun z => by cases z))
theorem lc_turn {G H1 G' H' : Hp} {D : Addr} {J : Nat → List PyData → Prop} {i : Nat} {vs : List V} {acc : List PyData} {σ2 : L2.St} {L2 : Lv} (v1 : Vw pen G H1) (hD : H1 D = none) (hi : i < 100000) (go : Go pen G H1 G' H') (h1 : H' D = some (.lst vs)) (h2 : G' D = none) (h3 : DpAll K G' vs acc) (h5 : acc.length ≤ i)
    (e2 : Ev K pen H0 G' H' σ2 L2) (h : ET K pen H0 tt L2 fun b => (b = true → E K pen H0 te L2 fun d => J (i + 1) (acc ++ [d])) ∧ (b = false → J (i + 1) acc)) :
    tt σ2 H' fun b H3 => if b = true then te σ2 H3 fun y H4 => ∃ acc, H4 D = some (.lst acc) ∧ acc.length < sizeLine ∧ LcI K pen G H1 D J (i + 1) (upd H4 D (.lst (acc ++ [y]))) else LcI K pen G H1 D J (i + 1) H3 := by
  have np : ¬ IsPn pen D := fun p => v1.ok.there p hD
  have hz : H' D ≠ none := by rw [h1]; exact fun z => by cases z
  refine h σ2 G' H' e2 _ fun b G3 H3 g3 p => ?_
  have k1 : H3 D = some (.lst vs) := g3.od D _ np h1
  have k2 : G3 D = none := (g3.nw D hz).trans h2
  cases b with
  | true =>
    show te σ2 H3 _
    refine p.1 rfl σ2 G3 H3 (e2.go g3) _ fun y d G4 H4 g4 d4 p4 => ?_
    have m1 : H4 D = some (.lst vs) := g4.od D _ np k1
    have m2 : G4 D = none := (g4.nw D (by rw [k1]; exact fun z => by cases z)).trans k2
    have m3 := dpa_mono (g3.gg.trans g4.gg) _ _ h3
    refine ⟨vs, m1, Nat.lt_of_lt_of_le (Nat.lt_of_le_of_lt (by rw [dpa_len h3]; exact h5) hi) (by decide : 100000 ≤ sizeLine), G4, vs ++ [y], acc ++ [d], Go.mut v1 hD m2 (code_ne m1 rfl) ((go.trans g3).trans g4), upd_same, m2, dpa_app m3 (.cons d4 .nil), p4, ?_⟩
    rw [List.length_append]
    show acc.length + 1 ≤ i + 1
    omega
  | false =>
    show LcI K pen G H1 D J (i + 1) H3
    exact ⟨G3, vs, acc, go.trans g3, k1, k2, dpa_mono g3.gg _ _ h3, p.2 rfl, by omega⟩
theorem wipe1 (σ : L2.St) (j : Nat) (x : Option V) : wipe ((wipe σ [j]).set j x) [j] = wipe σ [j] := by
  show ((σ.set j none).set j x).set j none = σ.set j none
  rw [List.set_set, List.set_set]
theorem ev_wipe1 {G H : Hp} {σ : L2.St} (e : Ev K pen H0 G H σ L) (j : Nat) : Ev K pen H0 G H (wipe σ [j]) (L.set j none) := e.unset j
/-- one turn, by data -/
abbrev LcT (K : PySem.W.Frag) (pen : Pc) (H0 : Hp) (tt : TT) (te : TE) (L2 : Lv) (acc : List PyData) (Jn : List PyData → Prop) : Prop :=
  ET K pen H0 tt L2 fun b => (b = true → E K pen H0 te L2 fun d => Jn (acc ++ [d])) ∧ (b = false → Jn acc)
theorem et_yes (h : Pb true) : ET K pen H0 tYes L Pb := fun σ G H e Q q => q true G H (.refl e.vw) h
/-! ### slices, sums of tuples and lists -/
def cutD (xs : List PyData) (lo hi : Option Int) : List PyData := (xs.drop (HT.sIx xs.length 0 lo)).take (HT.sIx xs.length xs.length hi - HT.sIx xs.length 0 lo)
theorem dpa_cut {G : Hp} {vs : List V} {ds : List PyData} (h : DpAll K G vs ds) (lo hi : Option Int) : DpAll K G (cutV vs lo hi) (cutD ds lo hi) := by
  unfold cutV cutD
  rw [dpa_len h]
  exact dpa_take _ (dpa_drop _ h)
theorem r_slT {ds : List PyData} {lo hi : Option Int} (p : P (.tuple (cutD ds lo hi))) : RSd K pen (rSlA K) (.tuple ds) lo hi P := fun x G H v hx Q q => by
  cases hx with
  | tup hs ha =>
    rename_i a xs
    refine ⟨a, xs, rfl, sqT_mono v.vw hs, fun ⟨w1, w2⟩ => ?_, fun _ p' hp => ?_⟩
    · have e : cutD ds lo hi = ds := by
        unfold cutD
        rw [← dpa_len ha, w1, w2, dpa_len ha]
        show ds.take (ds.length - 0) = ds
        rw [Nat.sub_zero, List.take_length]
      rw [e] at p
      exact q _ _ G H (.refl v) (.tup hs ha) p
    · have g := Go.new v (o := .tup (cutV xs lo hi)) hp
      exact q _ _ _ _ g (.tup (.inl (.inl upd_same)) (dpa_mono g.gg _ _ (dpa_cut ha lo hi))) p
theorem r_slL {ds : List PyData} {lo hi : Option Int} (p : P (.list (cutD ds lo hi))) : RSd K pen (rSlL K) (.list ds) lo hi P := fun x G H v hx Q q => by
  cases hx with
  | lst hs ha =>
    rename_i a xs
    refine ⟨a, xs, rfl, sqL_mono v.vw hs, fun p' hp => ?_⟩
    have g := Go.new v (o := .lst (cutV xs lo hi)) hp
    exact q _ _ _ _ g (.lst (.inl (.inl upd_same)) (dpa_mono g.gg _ _ (dpa_cut ha lo hi))) p
theorem r_catT {as bs : List PyData} (hl : as.length + bs.length ≤ 100000) (p : P (.tuple (as ++ bs))) : R2d K pen (rCatA K) (.tuple as) (.tuple bs) P := fun x y G H v hx hy Q q => by
  cases hx with
  | tup hs ha =>
    cases hy with
    | tup hs' ha' =>
      rename_i a xs a' ys
      refine ⟨a, a', xs, ys, rfl, rfl, sqT_mono v.vw hs, sqT_mono v.vw hs', Nat.le_trans (by rw [dpa_len ha, dpa_len ha']; exact hl) (by decide : 100000 ≤ sizeLine), fun e => ?_, fun _ e => ?_, fun _ _ p' hp => ?_⟩
      · subst e
        cases ha
        exact q _ _ G H (.refl v) (.tup hs' ha') p
      · subst e
        cases ha'
        rw [List.append_nil] at p
        exact q _ _ G H (.refl v) (.tup hs ha) p
      · have g := Go.new v (o := .tup (xs ++ ys)) hp
        exact q _ _ _ _ g (.tup (.inl (.inl upd_same)) (dpa_mono g.gg _ _ (dpa_app ha ha'))) p
/-! ### isinstance -/
def tyD : PyData → String
  | .none => "NoneType"
  | .bool _ => "bool"
  | .int _ => "int"
  | .str _ => "str"
  | .list _ => "list"
  | .tuple _ => "tuple"
  | .dict _ => "dict"
theorem tyx_of {G H : Hp} (s : Same G H) : ∀ {v : V} {d : PyData}, Dp K G v d → TyX K H v (.type (tyD d))
  | _, _, .non => .base .non
  | _, _, .bl b => .base (.bl b)
  | _, _, .int i => .base (.int i)
  | _, _, .str x => .base (.str x)
  | _, _, .lst hs _ => by
    rcases hs with (h | ⟨o, h⟩) | ⟨o, its, n, h, hc, _⟩
    · exact .base (.lst (s _ _ h))
    · exact .base (.frz (s _ _ h))
    · exact .kList h hc
  | _, _, .tup hs _ => by
    rcases hs with (h | ⟨o, h⟩) | ⟨o, its, n, h, hc, _⟩
    · exact .base (.tup (s _ _ h))
    · exact .fTuple (s _ _ h)
    · exact .kTuple h hc
def isS (a T : String) : Bool := a == T || (a == "bool" && T == "int")
def isD (d : PyData) (T : String) : Bool := isS (tyD d) T
theorem kit_isS (a T : String) (ha : a = "NoneType" ∨ a = "bool" ∨ a = "int" ∨ a = "str" ∨ a = "list" ∨ a = "tuple") (hT : T = "int" ∨ T = "bool" ∨ T = "str" ∨ T = "tuple" ∨ T = "list") : kitB a T = some (isS a T) := by
  rcases ha with rfl | rfl | rfl | rfl | rfl | rfl <;> rcases hT with rfl | rfl | rfl | rfl | rfl <;> decide +kernel
theorem kit_isD (d : PyData) (T : String) (hT : T = "int" ∨ T = "bool" ∨ T = "str" ∨ T = "tuple" ∨ T = "list") (hd : ∀ x, d ≠ .dict x) : kitB (tyD d) T = some (isD d T) := by
  refine kit_isS _ _ ?_ hT
  cases d with
  | dict x => exact absurd rfl (hd x)
  | none => exact .inl rfl
  | bool _ => exact .inr (.inl rfl)
  | int _ => exact .inr (.inr (.inl rfl))
  | str _ => exact .inr (.inr (.inr (.inl rfl)))
  | list _ => exact .inr (.inr (.inr (.inr (.inl rfl))))
  | tuple _ => exact .inr (.inr (.inr (.inr (.inr rfl))))
theorem e_isi {T : String} (hT : T = "int" ∨ T = "bool" ∨ T = "str" ∨ T = "tuple" ∨ T = "list") (h : E K pen H0 ta L fun d => P (.bool (isD d T))) : E K pen H0 (tCB (rIsi K) (tCons ta (tCons (tC (.ty T)) tNil))) L P := fun σ G H e Q q =>
  h σ G H e _ fun v d G1 H1 go hd p => by
    refine ⟨v, .ty T, .type (tyD d), .type T, isD d T, rfl, .ty T, tyx_of go.vw.vw hd, kit_ty (kit_isD d T hT fun x z => ?_), q _ _ G1 H1 go (.bl _) p⟩
    subst z
    cases hd
end
end Dl

set_option Elab.async false
set_option linter.all false
set_option maxRecDepth 100000
namespace Dl
open PySem PySem.Spec PyProof.Rows L2
section
variable {K : PySem.W.Frag} {pen : Pc} {H0 : Hp} {L : Lv} {P P' : PyData → Prop} {ta tb tc te ti : TE} {tl tr : TA} {tt : TT} {t u : TS} {Pb : Bool → Prop} {D : Dn} {g : TG} {gs : TGs}
/-! ### objects of one's own, that change -/
theorem Ev.setOwn {G H : Hp} {σ : L2.St} (e : Ev K pen H0 G H σ L) {i : Nat} {l : Addr} {ho : HO} {o : OO} (hl : H l = some ho) (h0l : H0 l = none) (gl : G l = none) (old : ∀ (j : Nat) (es : OO), i ≠ j → L[j]? = some (some (.own es)) → σ[j]? ≠ some (some (.ref l))) (h : OwnOk K G l ho o) : Ev K pen H0 G H (σ.set i (some (.ref l))) (L.set i (some (.own o))) := by
  have here : ∀ (j : Nat) (av : AV), (L.set i (some (.own o)))[j]? = some (some av) → i = j → av = .own o ∧ (σ.set i (some (.ref l)))[j]? = some (some (.ref l)) := fun j av hj q => by
    subst q
    have hl : i < L.length := by
      have := (List.getElem?_eq_some_iff.mp hj).1
      rw [List.length_set] at this; exact this
    rw [List.getElem?_set_self hl] at hj
    exact ⟨(Option.some.inj (Option.some.inj hj)).symm, List.getElem?_set_self (by rw [e.len]; exact hl)⟩
  refine ⟨e.vw, e.h0, e.dom, by rw [List.length_set, List.length_set]; exact e.len, fun j av hj => ?_, fun j k ds' es l' h1 h2 h3 h4 => ?_⟩
  · by_cases q : i = j
    · obtain ⟨rfl, k⟩ := here j av hj q
      exact ⟨_, k, l, ho, rfl, hl, h0l, gl, h⟩
    · rw [List.getElem?_set_ne q] at hj
      obtain ⟨w, k1, k2⟩ := e.sl j av hj
      exact ⟨w, by rw [List.getElem?_set_ne q]; exact k1, k2⟩
  · by_cases q1 : i = j
    · by_cases q2 : i = k
      · exact q1.symm.trans q2
      · have k1 := (here j _ h1 q1).2
        rw [h3] at k1
        have z : l' = l := V.ref.inj (Option.some.inj (Option.some.inj k1))
        rw [List.getElem?_set_ne q2] at h2 h4
        exact absurd (z ▸ h4) (old k es q2 h2)
    · rw [List.getElem?_set_ne q1] at h1 h3
      by_cases q2 : i = k
      · have k1 := (here k _ h2 q2).2
        rw [h4] at k1
        have z : l' = l := V.ref.inj (Option.some.inj (Option.some.inj k1))
        exact absurd (z ▸ h3) (old j ds' q1 h1)
      · rw [List.getElem?_set_ne q2] at h2 h4
        exact e.ow j k ds' es l' h1 h2 h3 h4
theorem Ev.h0none {G H : Hp} {σ : L2.St} (e : Ev K pen H0 G H σ L) {l : Addr} (hl : H l = none) : H0 l = none := by
  cases q : H0 l with
  | none => rfl
  | some o => exact absurd hl (e.dom l (by rw [q]; exact fun z => by cases z))
theorem Ev.gnone {G H : Hp} {σ : L2.St} (e : Ev K pen H0 G H σ L) {l : Addr} (hl : H l = none) : G l = none := by
  cases q : G l with
  | none => rfl
  | some o => rw [e.vw.vw _ _ q] at hl; cases hl
/-- no own slot holds a place that was free -/
theorem Ev.oldOwn {G H : Hp} {σ : L2.St} (e : Ev K pen H0 G H σ L) {l : Addr} (hl : H l = none) : ∀ (j : Nat) (es : OO), L[j]? = some (some (.own es)) → σ[j]? ≠ some (some (.ref l)) := fun j es h1 h2 => by
  obtain ⟨v, k1, l2, ws, k2, k3, _⟩ := e.sl j _ h1
  rw [h2] at k1
  have := Option.some.inj (Option.some.inj k1)
  rw [← this] at k2
  cases k2
  rw [hl] at k3
  cases k3
/-- a new object goes to slot i -/
theorem Ev.newOwn {G H : Hp} {σ : L2.St} (e : Ev K pen H0 G H σ L) {i : Nat} {l : Addr} {ho : HO} {o : OO} (hl : H l = none) (h : OwnOk K G l ho o) : Ev K pen H0 G (upd H l ho) (σ.set i (some (.ref l))) (L.set i (some (.own o))) :=
  (e.go (Go.hid e.vw (o := ho) hl)).setOwn upd_same (e.h0none hl) (e.gnone hl) (fun j es _ h1 => e.oldOwn hl j es h1) h
def noFr : Lv → Bool
  | [] => true
  | some (.fr _) :: _ => false
  | _ :: L => noFr L
theorem noFr_get : ∀ {L : Lv} {i : Nat} {x : PyData}, noFr L = true → L[i]? = some (some (.fr x)) → False
  | [], _, _, _, h => by simp at h
  | a :: L, 0, x, n, h => by
    have := Option.some.inj h
    subst this
    cases n
  | a :: L, i + 1, x, n, h => by
    have n' : noFr L = true := by
      cases a with
      | none => exact n
      | some av => cases av <;> first | exact n | cases n
    exact noFr_get (L := L) (i := i) n' h
/-- the own object in slot j is written -/
theorem Ev.putOwn {G H : Hp} {σ : L2.St} (e : Ev K pen H0 G H σ L) (nf : noFr L = true) {j : Nat} {l : Addr} {o o' : OO} {ho : HO} (hj : L[j]? = some (some (.own o))) (hs : σ[j]? = some (some (.ref l))) (h : OwnOk K G l ho o') :
    Ev K pen H0 G (upd H l ho) σ (L.set j (some (.own o'))) ∧ Gx pen H0 G H G (upd H l ho) := by
  obtain ⟨v, k1, l2, vs, k2, k3, k4, k5, k6⟩ := e.sl j _ hj
  rw [hs] at k1
  have := Option.some.inj (Option.some.inj k1)
  rw [← this] at k2
  cases k2
  have n0 : ∀ a, H0 a ≠ none → a ≠ l := fun a h z => h (by rw [z]; exact k4)
  have ng : ∀ a o, G a = some o → a ≠ l := fun a o q z => by rw [z, k5] at q; cases q
  have vw : Vw pen G (upd H l ho) := by
    refine ⟨fun a o q => by rw [upd_ne (ng a o q)]; exact e.vw.vw a o q, e.vw.no, ?_⟩
    exact e.vw.ok.upd e.h0 k4 (fun q z => k6.noCode q (Option.some.inj (k3.symm.trans z)))
  have jl : j < L.length := (List.getElem?_eq_some_iff.mp hj).1
  refine ⟨⟨vw, e.h0, fun a h => ?_, by rw [List.length_set]; exact e.len, fun i av hi => ?_, fun i k ds' es' l' h1 h2 h3 h4 => ?_⟩, Same.refl _, fun _ _ => rfl, fun a o _ h q => by rw [upd_ne (n0 a h)]; exact q⟩
  · rw [upd_ne (n0 a h)]; exact e.dom a h
  · by_cases q : j = i
    · subst q
      rw [List.getElem?_set_self jl] at hi
      have := Option.some.inj (Option.some.inj hi)
      subst this
      exact ⟨_, hs, l, ho, rfl, upd_same, k4, k5, h⟩
    · rw [List.getElem?_set_ne q] at hi
      obtain ⟨w, m1, m2⟩ := e.sl i av hi
      refine ⟨w, m1, ?_⟩
      cases av with
      | d x => exact m2
      | pen => exact m2
      | own ds2 =>
        obtain ⟨l3, vs3, rfl, m3, m4, m5, m6⟩ := m2
        refine ⟨l3, vs3, rfl, ?_, m4, m5, m6⟩
        rw [upd_ne (fun z => q (e.ow j i o ds2 l hj hi hs (by rw [← z]; exact m1)))]
        exact m3
      | bor ds2 =>
        obtain ⟨l3, vs3, rfl, m3, m4, m5, m6⟩ := m2
        refine ⟨l3, vs3, rfl, ?_, m4, m5, m6⟩
        rw [upd_ne (n0 l3 (by rw [m4]; exact fun z => by cases z))]
        exact m3
      | fr x => exact (noFr_get nf hi).elim
  · have was : ∀ (i : Nat) (ds' : OO), (L.set j (some (.own o')))[i]? = some (some (.own ds')) → ∃ ds2, L[i]? = some (some (.own ds2)) := fun i ds' hi => by
      by_cases q : j = i
      · subst q; exact ⟨o, hj⟩
      · rw [List.getElem?_set_ne q] at hi; exact ⟨ds', hi⟩
    obtain ⟨a1, b1⟩ := was i ds' h1
    obtain ⟨a2, b2⟩ := was k es' h2
    exact e.ow i k a1 a2 l' b1 b2 h3 h4
/-- the own object's place and content -/
theorem Ev.own {G H : Hp} {σ : L2.St} (e : Ev K pen H0 G H σ L) {j : Nat} {o : OO} (hj : L[j]? = some (some (.own o))) : ∃ l ho, σ[j]? = some (some (.ref l)) ∧ H l = some ho ∧ OwnOk K G l ho o := by
  obtain ⟨x, k1, l, vs, rfl, k3, k4, k5, k6⟩ := e.sl j _ hj
  exact ⟨l, vs, k1, k3, k6⟩
theorem Ev.ownAt {G H : Hp} {σ : L2.St} (e : Ev K pen H0 G H σ L) {j : Nat} {o : OO} {l : Addr} (hj : L[j]? = some (some (.own o))) (hs : σ[j]? = some (some (.ref l))) : ∃ ho, H l = some ho ∧ OwnOk K G l ho o := by
  obtain ⟨l', ho, k1, k2, k3⟩ := e.own hj
  rw [hs] at k1
  cases k1
  exact ⟨ho, k2, k3⟩
/-- an object that is read: own, or borrowed -/
def RdO (L : Lv) (j : Nat) (o : OO) : Prop := L[j]? = some (some (.own o)) ∨ L[j]? = some (some (.bor o))
theorem Ev.rd {G H : Hp} {σ : L2.St} (e : Ev K pen H0 G H σ L) {j : Nat} {o : OO} (hj : RdO L j o) : ∃ l ho, σ[j]? = some (some (.ref l)) ∧ H l = some ho ∧ OwnOk K G l ho o := by
  rcases hj with hj | hj
  · exact e.own hj
  · obtain ⟨x, k1, l, vs, rfl, k3, k4, k5, k6⟩ := e.sl j _ hj
    exact ⟨l, vs, k1, k3, k6⟩
/-- x = a new list -/
theorem s_ownL {i : Nat} (h : EL K pen H0 te L fun es => D.nx (L.set i (some (.own (.lst es))))) : S K pen H0 (tAsg te (gName i)) L D := fun σ G H N e n1 _ _ _ _ _ =>
  h σ G H e _ fun l vs ds G' H' g h1 h2 h3 h4 p => by
    have e1 := e.go g
    exact n1 _ G' H' _ (e.gx g) (e1.setOwn h1 (e.h0none h3) h2 (fun j es _ hj => e.oldOwn h3 j es hj) (o := .lst ds) h4) p
theorem el_list (h : E K pen H0 te L fun d => ∃ es, (d = .tuple es ∨ d = .list es) ∧ P (.list es)) :
    EL K pen H0 (tCB (fun xs H Q => ∃ p ys, xs = [.ref p] ∧ (SqL K H p ys ∨ SqT K H p ys) ∧ ∀ l, H l = none → Q (.ref l) (upd H l (.lst ys))) (tCons te tNil)) L fun es => P (.list es) := fun σ G H e Q q =>
  h σ G H e _ fun v d G1 H1 go hd ⟨es, hes, p⟩ => by
    have fin : ∀ (ys : List V) (l : Addr), DpAll K G1 ys es → H1 l = none → Q (.ref l) (upd H1 l (.lst ys)) := fun ys l hy hl => by
      have e1 := e.go go
      have g2 := Go.hid e1.vw (o := .lst ys) hl
      refine q l ys es G1 _ (go.trans g2) upd_same (e1.gnone hl) ?_ hy p
      cases z : H l with
      | none => rfl
      | some o => exact absurd hl (go.dom (by rw [z]; exact fun z => by cases z))
    rcases hes with rfl | rfl
    · cases hd with
      | tup hs ha => exact ⟨_, _, rfl, .inr (sqT_mono go.vw.vw hs), fun l hl => fin _ l ha hl⟩
    · cases hd with
      | lst hs ha => exact ⟨_, _, rfl, .inl (sqL_mono go.vw.vw hs), fun l hl => fin _ l ha hl⟩
theorem el_lst {Pl : List PyData → Prop} (h : EA K pen H0 tl L fun ds => ds.length ≤ 100000 ∧ Pl ds) : EL K pen H0 (tLst tl) L Pl := fun σ G H e Q q =>
  h σ G H e _ fun vs ds G1 H1 g1 d1 h1 => ⟨Nat.le_trans (by rw [dpa_len d1]; exact h1.1) (by decide : 100000 ≤ sizeLine), fun l hl => by
    have e1 := e.go g1
    have g2 := Go.hid e1.vw (o := .lst vs) hl
    refine q l vs ds G1 _ (g1.trans g2) upd_same (e1.gnone hl) ?_ d1 h1.2
    cases z : H l with
    | none => rfl
    | some o => exact absurd hl (g1.dom (by rw [z]; exact fun z => by cases z))⟩
/-- x = list(e) -/
theorem s_ownList {i : Nat} (h : E K pen H0 te L fun d => ∃ es, (d = .tuple es ∨ d = .list es) ∧ D.nx (L.set i (some (.own (.lst es))))) :
    S K pen H0 (tAsg (tCB (fun xs H Q => ∃ p ys, xs = [.ref p] ∧ (SqL K H p ys ∨ SqT K H p ys) ∧ ∀ l, H l = none → Q (.ref l) (upd H l (.lst ys))) (tCons te tNil)) (gName i)) L D :=
  s_ownL ((el_list (P := fun d => ∃ es, d = .list es ∧ D.nx (L.set i (some (.own (.lst es))))) (h.mono fun d ⟨es, e, p⟩ => ⟨es, e, es, rfl, p⟩)).mono fun ds ⟨es, e, p⟩ => by cases e; exact p)
/-- x = [] -/
theorem s_ownNil {i : Nat} (h : D.nx (L.set i (some (.own (.lst []))))) : S K pen H0 (tAsg (tLst tNil) (gName i)) L D := s_ownL (el_lst (ea_nil ⟨Nat.zero_le _, h⟩))
/-- x[k] = e -/
theorem s_putOwn {j : Nat} {ds : List PyData} (hj : L[j]? = some (some (.own (.lst ds)))) (h : E K pen H0 te L fun d => E K pen H0 ti L fun k => ∃ m : Nat, k = .int m ∧ m < ds.length ∧ D.nx (L.set j (some (.own (.lst (ds.set m d)))))) (nf : noFr L = true := by rfl) :
    S K pen H0 (tAsg te (gSub (tVar j) ti rSetL)) L D := fun σ G H N e n1 _ _ _ _ _ =>
  h σ G H e _ fun v d G1 H1 g1 d1 h1 => by
    have e1 := e.go g1
    obtain ⟨l, ho, k1, k3, k6⟩ := e1.own hj
    refine ⟨_, k1, h1 σ G1 H1 e1 _ fun w k G2 H2 g2 d2 ⟨m, hm, hl, p⟩ => ?_⟩
    subst hm
    cases d2
    have e2 := e1.go g2
    obtain ⟨ho2, q3, q6⟩ := e2.ownAt hj k1
    obtain ⟨vs2, rfl, q6⟩ := q6.lst
    obtain ⟨r1, r2⟩ := e2.putOwn nf hj k1 (o' := .lst (ds.set m d)) (ho := .lst (vs2.set m v)) (dpa_set (dp_mono g2.gg _ _ d1) m q6)
    refine ⟨l, vs2, (m : Int), m, rfl, rfl, q3, ?_, n1 σ G2 _ _ (((e.gx g1).trans (e1.gx g2)).trans r2) r1 p⟩
    rw [dpa_len q6]
    unfold ixN
    rw [if_pos (by omega), if_pos (by omega)]
    simp
/-- x.append(e) -/
theorem s_appOwn {j : Nat} {ds : List PyData} (hj : L[j]? = some (some (.own (.lst ds)))) (hz : ds.length < 100000) (h : E K pen H0 te L fun d => D.nx (L.set j (some (.own (.lst (ds ++ [d])))))) (nf : noFr L = true := by rfl) :
    S K pen H0 (tDrop (tBM K "list" rAppend (tVar j) (tCons te tNil))) L D := fun σ G H N e n1 _ _ _ _ _ => by
  obtain ⟨l, ho, k1, k3, k6⟩ := e.own hj
  obtain ⟨vs, rfl, k6⟩ := k6.lst
  refine ⟨_, k1, .inl ⟨rfl, vs, .inl (.inl k3)⟩, h σ G H e _ fun v d G1 H1 g1 d1 p => ?_⟩
  have e1 := e.go g1
  obtain ⟨ho2, q3, q6⟩ := e1.ownAt hj k1
  obtain ⟨vs2, rfl, q6⟩ := q6.lst
  obtain ⟨r1, r2⟩ := e1.putOwn nf hj k1 (o' := .lst (ds ++ [d])) (ho := .lst (vs2 ++ [v])) (dpa_app q6 (.cons d1 .nil))
  exact ⟨l, vs2, v, rfl, rfl, q3, Nat.lt_of_lt_of_le (by rw [dpa_len q6]; exact hz) (by decide : 100000 ≤ sizeLine), n1 σ G1 _ _ ((e.gx g1).trans r2) r1 p⟩
theorem dpa_erase {G : Hp} : ∀ (n : Nat) {vs : List V} {ds : List PyData}, DpAll K G vs ds → DpAll K G (vs.eraseIdx n) (ds.eraseIdx n)
  | _, _, _, .nil => .nil
  | 0, _, _, .cons _ t => t
  | n + 1, _, _, .cons h t => .cons h (dpa_erase n t)
/-- tuple(x), x one's own list -/
theorem e_tupRd {j : Nat} {ds : List PyData} (hj : RdO L j (.lst ds)) (p : P (.tuple ds)) :
    E K pen H0 (tCB (fun xs H Q => ∃ p ys, xs = [.ref p] ∧ ((SqL K H p ys ∧ ∀ l, H l = none → Q (.ref l) (upd H l (.tup ys))) ∨ (SqT K H p ys ∧ Q (.ref p) H))) (tCons (tVar j) tNil)) L P := fun σ G H e Q q => by
  obtain ⟨l, ho, k1, k3, k6⟩ := e.rd hj
  obtain ⟨vs, rfl, k6⟩ := k6.lst
  refine ⟨_, k1, l, vs, rfl, .inl ⟨.inl (.inl k3), fun l' hl => ?_⟩⟩
  have g := Go.new e.vw (o := .tup vs) hl
  exact q _ _ _ _ g (.tup (.inl (.inl upd_same)) (dpa_mono g.gg _ _ k6)) p
/-- len(x), x one's own list -/
theorem e_lenRd {j : Nat} {ds : List PyData} (hj : RdO L j (.lst ds)) (p : P (.int ds.length)) :
    E K pen H0 (tCB (fun xs H Q => ∃ p ys, xs = [.ref p] ∧ (SqL K H p ys ∨ SqT K H p ys) ∧ Q (.int ys.length) H) (tCons (tVar j) tNil)) L P := fun σ G H e Q q => by
  obtain ⟨l, ho, k1, k3, k6⟩ := e.rd hj
  obtain ⟨vs, rfl, k6⟩ := k6.lst
  refine ⟨_, k1, l, vs, rfl, .inl (.inl (.inl k3)), ?_⟩
  rw [dpa_len k6]
  exact q _ _ G H (.refl e.vw) (.int _) p
theorem e_tupOwn {j : Nat} {ds : List PyData} (hj : L[j]? = some (some (.own (.lst ds)))) (p : P (.tuple ds)) :
    E K pen H0 (tCB (fun xs H Q => ∃ p ys, xs = [.ref p] ∧ ((SqL K H p ys ∧ ∀ l, H l = none → Q (.ref l) (upd H l (.tup ys))) ∨ (SqT K H p ys ∧ Q (.ref p) H))) (tCons (tVar j) tNil)) L P := e_tupRd (.inl hj) p
theorem e_lenOwn {j : Nat} {ds : List PyData} (hj : L[j]? = some (some (.own (.lst ds)))) (p : P (.int ds.length)) :
    E K pen H0 (tCB (fun xs H Q => ∃ p ys, xs = [.ref p] ∧ (SqL K H p ys ∨ SqT K H p ys) ∧ Q (.int ys.length) H) (tCons (tVar j) tNil)) L P := e_lenRd (.inl hj) p
/-! ### looking at what is one's own as data -/
def lookA : Option AV → Option AV
  | some (.own (.lst ds)) => some (.d (.list ds))
  | some (.fr d) => some (.d d)
  | a => a
def lookL (L : Lv) : Lv := L.map lookA
theorem lookL_get {L : Lv} {i : Nat} {av : AV} (h : (lookL L)[i]? = some (some av)) : ∃ a, L[i]? = some (some a) ∧ lookA (some a) = some av := by
  unfold lookL at h
  rw [List.getElem?_map] at h
  cases e : L[i]? with
  | none => rw [e] at h; cases h
  | some a =>
    rw [e] at h
    have h := Option.some.inj h
    cases a with
    | none => cases h
    | some a => exact ⟨a, rfl, h⟩
theorem same_max {G H : Hp} : Same G (vmax H0 G H) := fun _ _ h => vmax_G h
/-- the own dicts and borrowed ones stay as they are -/
theorem Ev.look {G H : Hp} {σ : L2.St} (e : Ev K pen H0 G H σ L) : Ev K pen H0 (vmax H0 G H) H σ (lookL L) := by
  refine ⟨vw_max e.vw e.h0, e.h0, e.dom, by rw [lookL, List.length_map]; exact e.len, fun i av hi => ?_, fun i j ds es l h1 h2 => ?_⟩
  · obtain ⟨a, ha, hl⟩ := lookL_get hi
    obtain ⟨v, k1, k2⟩ := e.sl i a ha
    refine ⟨v, k1, ?_⟩
    cases a with
    | d x => cases hl; exact dp_mono same_max _ _ k2
    | pen => cases hl; exact k2
    | bor o => cases hl; obtain ⟨l, ho, q1, q2, q3, q4, q5⟩ := k2; exact ⟨l, ho, q1, q2, q3, q4, q5.mono same_max⟩
    | fr x => cases hl; exact dp_mono vnew_max _ _ (nd_dp _ _ k2)
    | own o =>
      obtain ⟨l, ho, rfl, q2, q3, q4, q5⟩ := k2
      cases o with
      | lst ds =>
        cases hl
        obtain ⟨vs, rfl, q5⟩ := q5.lst
        exact .lst (.inl (.inl (by rw [vmax_new q4]; exact newL_of q3 q2))) (dpa_mono same_max _ _ q5)
      | dK m =>
        cases hl
        obtain ⟨kvs, rfl, q6⟩ := q5.dK
        refine ⟨l, _, rfl, q2, q3, ?_, q5.mono same_max⟩
        rw [vmax_new q4]
        unfold newL
        rw [q3, q2]
      | dN w m =>
        cases hl
        obtain ⟨kvs, rfl, q6⟩ := q5.dN
        refine ⟨l, _, rfl, q2, q3, ?_, q5.mono same_max⟩
        rw [vmax_new q4]
        unfold newL
        rw [q3, q2]
        rfl
      | dF a w m =>
        cases hl
        obtain ⟨od, kvs, rfl, rfl, q6⟩ := q5.dF
        refine ⟨l, _, rfl, q2, q3, ?_, q5.mono same_max⟩
        rw [vmax_new q4]
        unfold newL
        rw [q3, q2]
  · obtain ⟨a, ha, hl⟩ := lookL_get h1
    obtain ⟨b, hb, hl2⟩ := lookL_get h2
    have own : ∀ (a : AV) (o : OO), lookA (some a) = some (.own o) → ∃ o', a = .own o' := fun a o h => by
      cases a with
      | own o' => exact ⟨o', rfl⟩
      | _ => cases h
    obtain ⟨o1, rfl⟩ := own a _ hl
    obtain ⟨o2, rfl⟩ := own b _ hl2
    exact e.ow i j o1 o2 l ha hb
/-- back to the data alone: what is without a list stays -/
def bakV (G H Gu : Hp) : Hp := fun a => match G a with
  | some o => some o
  | none => match H a with
    | some _ => none
    | none => Gu a
theorem bak_G {G H Gu : Hp} {a : Addr} {o : HO} (h : G a = some o) : bakV G H Gu a = some o := by unfold bakV; rw [h]
theorem bak_H {G H Gu : Hp} {a : Addr} (h : G a = none) (h2 : H a ≠ none) : bakV G H Gu a = none := by
  unfold bakV; rw [h]
  cases e : H a with
  | none => exact absurd e h2
  | some o => rfl
theorem bak_N {G H Gu : Hp} {a : Addr} (h : G a = none) (h2 : H a = none) : bakV G H Gu a = Gu a := by unfold bakV; rw [h, h2]
theorem look_back {G H Gu' H' : Hp} (vw : Vw pen G H) (h0 : POk pen H0) (g : Go pen (vmax H0 G H) H Gu' H') : ∃ G', Go pen G H G' H' ∧ (∀ a xs, Rd Gu' a (.tup xs) → Rd G' a (.tup xs)) ∧ ∀ a, H a = none → Gu' a = none → G' a = none := by
  have hN : ∀ a, H a = none → G a = none := fun a h => by
    cases e : G a with
    | none => rfl
    | some o => rw [vw.vw _ _ e] at h; cases h
  refine ⟨bakV G H Gu', ⟨fun a o e => bak_G e, fun a h => ?_, g.od, ⟨fun a o e => ?_, fun a p => bak_H (vw.no a p) (vw.ok.there p), g.vw.ok⟩⟩, fun a xs r => ?_, fun a h1 h2 => ?_⟩
  · cases e : G a with
    | some o => exact bak_G e
    | none => exact bak_H e h
  · cases e1 : G a with
    | some u =>
      rw [bak_G e1] at e
      cases e
      exact g.vw.vw _ _ (g.gg _ _ (vmax_G e1))
    | none =>
      by_cases e2 : H a = none
      · rw [bak_N e1 e2] at e
        exact g.vw.vw _ _ e
      · rw [bak_H e1 e2] at e; cases e
  · have one : ∀ u, (∀ ys, u ≠ HO.lst ys) → Gu' a = some u → bakV G H Gu' a = some u := fun u nu e => by
      by_cases e2 : H a = none
      · rw [bak_N (hN a e2) e2]; exact e
      · have e3 := g.nw a e2
        rw [e] at e3
        rcases vmax_cases e3.symm with k | ⟨_, _, _, ys, z⟩
        · exact bak_G k
        · exact absurd z (nu ys)
    rcases r with r | ⟨o, r⟩
    · exact .inl (one _ (fun _ z => by cases z) r)
    · exact .inr ⟨o, one _ (fun _ z => by cases z) r⟩
  · rw [bak_N (hN a h1) h1]; exact h2
theorem e_look (h : E K pen H0 te (lookL L) fun d => noL d = true ∧ P d) : E K pen H0 te L P := fun σ G H e Q q =>
  h σ _ H e.look Q fun v d G' H' g hd ⟨n, p⟩ => by
    obtain ⟨G1, g1, k, k0⟩ := look_back e.vw e.h0 g
    exact q v d G1 H' g1 (dp_nol k d v n hd) p
theorem et_look (h : ET K pen H0 tt (lookL L) Pb) : ET K pen H0 tt L Pb := fun σ G H e Q q =>
  h σ _ H e.look Q fun b G' H' g p => by
    obtain ⟨G1, g1, k, k0⟩ := look_back e.vw e.h0 g
    exact q b G1 H' g1 p
theorem ea_look {Pl : List PyData → Prop} (h : EA K pen H0 tl (lookL L) fun ds => noLs ds = true ∧ Pl ds) : EA K pen H0 tl L Pl := fun σ G H e Q q =>
  h σ _ H e.look Q fun v d G' H' g hd ⟨n, p⟩ => by
    obtain ⟨G1, g1, k, k0⟩ := look_back e.vw e.h0 g
    exact q v d G1 H' g1 (dpa_nol k d v n hd) p
/-- a new list, made while looking: its items without a list -/
theorem el_look {Pl : List PyData → Prop} (h : EL K pen H0 te (lookL L) fun ds => noLs ds = true ∧ Pl ds) : EL K pen H0 te L Pl := fun σ G H e Q q =>
  h σ _ H e.look Q fun l vs ds G' H' g h1 h2 h3 hd ⟨n, p⟩ => by
    obtain ⟨G1, g1, k, k0⟩ := look_back e.vw e.h0 g
    exact q l vs ds G1 H' g1 h1 (k0 l h3 h2) h3 (dpa_nol k ds vs n hd) p
/-- return, looking -/
theorem s_retL (h : E K pen H0 te (lookL L) D.rt) : S K pen H0 (tRet te) L D := fun σ G H N e _ n2 _ _ _ _ => h σ _ H e.look _ fun v d G' H' g hd p => by
  have x := e.look.gx g
  refine n2 v d G' H' ⟨same_max.trans x.gg, fun a ha => ?_, x.od⟩ g.vw hd p
  rw [x.nw a ha]
  cases e1 : G a with
  | some o => exact vmax_G e1
  | none =>
    rw [vmax_new e1]
    cases z : newL H0 H a with
    | none => rfl
    | some o => exact absurd (newL_some z).1 ha
/-! ### told as new -/
def EN (K : PySem.W.Frag) (pen : Pc) (H0 : Hp) (te : TE) (L : Lv) (P : PyData → Prop) : Prop := ∀ (σ : L2.St) (G H : Hp), Ev K pen H0 G H σ L → ∀ Q : VK, (∀ v d G' H', Go pen G H G' H' → Nd K (vnew H0 G' H') v d → P d → Q v H') → te σ H Q
def ENA (K : PySem.W.Frag) (pen : Pc) (H0 : Hp) (tl : TA) (L : Lv) (P : List PyData → Prop) : Prop := ∀ (σ : L2.St) (G H : Hp), Ev K pen H0 G H σ L → ∀ Q : List V → Hp → Prop, (∀ v d G' H', Go pen G H G' H' → NdAll K (vnew H0 G' H') v d → P d → Q v H') → tl σ H Q
theorem nd_of {G H : Hp} {v : V} {d : PyData} (n : noL d = true) (h : Dp K G v d) : Nd K (vnew H0 G H) v d := by
  refine dp_nd d v n (dp_nol (fun a xs r => ?_) d v n h)
  rcases r with r | ⟨o, r⟩
  · exact .inl (vnew_G r rfl)
  · exact .inr ⟨o, vnew_G r rfl⟩
theorem nda_of {G H : Hp} {v : List V} {d : List PyData} (n : noLs d = true) (h : DpAll K G v d) : NdAll K (vnew H0 G H) v d := by
  refine dpa_nda d v n (dpa_nol (fun a xs r => ?_) d v n h)
  rcases r with r | ⟨o, r⟩
  · exact .inl (vnew_G r rfl)
  · exact .inr ⟨o, vnew_G r rfl⟩
theorem en_e (h : E K pen H0 te L fun d => noL d = true ∧ P d) : EN K pen H0 te L P := fun σ G H e Q q => h σ G H e Q fun v d G' H' g hd ⟨n, p⟩ => q v d G' H' g (nd_of n hd) p
theorem en_el (h : EL K pen H0 te L fun ds => noLs ds = true ∧ P (.list ds)) : EN K pen H0 te L P := fun σ G H e Q q => h σ G H e Q fun l vs ds G' H' g h1 h2 h3 hd ⟨n, p⟩ =>
  q _ _ G' H' g (.lst (vnew_of h2 (e.h0none h3) h1) (nda_of n hd)) p
theorem ena_nil {Pl : List PyData → Prop} (p : Pl []) : ENA K pen H0 tNil L Pl := fun σ G H e Q q => q [] [] G H (.refl e.vw) .nil p
theorem ena_cons {Pl : List PyData → Prop} (h : EN K pen H0 ta L fun a => ENA K pen H0 tr L fun ds => Pl (a :: ds)) : ENA K pen H0 (tCons ta tr) L Pl := fun σ G H e Q q =>
  h σ G H e _ fun v a G1 H1 g1 d1 h1 => h1 σ G1 H1 (e.go g1) _ fun vs ds G2 H2 g2 d2 p => q _ _ G2 H2 (g1.trans g2) (.cons (nd_mono (vnew_go e.h0 g2 g1.vw.vw) _ _ d1) d2) p
theorem nda_len {W : Hp} : ∀ {vs : List V} {ds : List PyData}, NdAll K W vs ds → vs.length = ds.length
  | _, _, .nil => rfl
  | _, _, .cons _ h => by rw [List.length_cons, List.length_cons, nda_len h]
theorem en_tup (h : ENA K pen H0 tl L fun ds => ds.length ≤ 100000 ∧ P (.tuple ds)) : EN K pen H0 (tTup tl) L P := fun σ G H e Q q =>
  h σ G H e _ fun vs ds G1 H1 g1 d1 h1 => ⟨Nat.le_trans (by rw [nda_len d1]; exact h1.1) (by decide : 100000 ≤ sizeLine), fun p hp => by
    have g2 := Go.new g1.vw (o := .tup vs) hp
    exact q _ _ _ _ (g1.trans g2) (.tup (.inl (.inl (vnew_G upd_same rfl))) (nda_mono (vnew_go e.h0 g2 g1.vw.vw) _ _ d1)) h1.2⟩
/-- a call that tells what is new, seen from a frame: lists new at the call are new in the frame -/
theorem vnew_call {G1 H1 G' H' : Hp} (dom : ∀ a, H0 a ≠ none → H1 a ≠ none) : Same (vnew H1 G' H') (vnew H0 G' H') := fun a o h => by
  rcases vnew_cases h with ⟨k, z⟩ | ⟨k, k0, k1, xs, rfl⟩
  · exact vnew_G k z
  · refine vnew_of k ?_ k1
    cases z : H0 a with
    | none => rfl
    | some u => exact absurd k0 (dom a (by rw [z]; exact fun z => by cases z))
theorem s_retN (h : EN K pen H0 te L D.rn) : S K pen H0 (tRet te) L D := fun σ G H N e _ _ _ _ n5 _ => h σ G H e _ fun v d G' H' g hd p => n5 v d G' H' (e.gx g) g.vw hd p
theorem r_neB {i j : Bool} (p : P (.bool (!decide (i = j)))) : R2d K pen rNe (.bool i) (.bool j) P := fun x y G H v hx hy Q q => by
  cases hx
  cases hy
  refine ⟨rfl, ?_⟩
  rw [show decide (V.bl i = V.bl j) = decide (i = j) by rw [dec_bl]; exact Bool.beq_eq_decide_eq i j]
  exact q _ _ G H (.refl v) (.bl _) p
end
/-! ### the pen's own def -/
section
variable {K : PySem.W.Frag} {p : Pn} {pa pc : Addr} {pn : Nat} {ts : List Addr} {H0 : Hp} {L : Lv} {P P' : PyData → Prop} {ta tb tc te ti : TE} {D : Dn}
theorem Ev.pen {G H : Hp} {σ : L2.St} (e : Ev K ⟨some p, ts⟩ H0 G H σ L) {i : Nat} (hi : L[i]? = some (some .pen)) : σ[i]? = some (some (.ref p.a)) := by
  obtain ⟨v, hv, q, hq, rfl⟩ := e.sl i _ hi
  cases hq
  exact hv
/-- the pen is written -/
theorem Ev.putPen {G H : Hp} {σ : L2.St} (e : Ev K ⟨some p, ts⟩ H0 G H σ L) {o : HO} (h : PenOk p (upd H p.a o)) : Ev K ⟨some p, ts⟩ H0 G (upd H p.a o) σ L ∧ Gx ⟨some p, ts⟩ H0 G H G (upd H p.a o) := by
  have h0 : H0 p.a ≠ none := e.h0.there (.inl ⟨p, rfl, rfl⟩)
  have ga : G p.a = none := e.vw.no _ (.inl ⟨p, rfl, rfl⟩)
  refine ⟨⟨⟨fun b o q => ?_, e.vw.no, fun p' hp' => by cases hp'; exact h, fun P hP => tabX_upd (e.vw.ok.2 P hP) (fun z => e.vw.ok.apart (p := p) rfl hP (.inl z)) (let ⟨_, hx⟩ := (e.vw.ok.1 p rfl).lst (.inl rfl); code_ne hx rfl)⟩, e.h0, fun b hb => ?_, e.len, fun j av hj => ?_, e.ow⟩, Same.refl _, fun _ _ => rfl, fun b o hb _ q => ?_⟩
  · rw [upd_ne (fun w => by rw [w, ga] at q; cases q)]; exact e.vw.vw b o q
  · by_cases w : b = p.a
    · rw [w, upd_same]; exact fun z => by cases z
    · rw [upd_ne w]; exact e.dom b hb
  · obtain ⟨x, q1, q2⟩ := e.sl j av hj
    refine ⟨x, q1, ?_⟩
    cases av with
    | d x => exact q2
    | pen => exact q2
    | own ds =>
      obtain ⟨l, vs, rfl, k3, k4, k5⟩ := q2
      exact ⟨l, vs, rfl, by rw [upd_ne (fun w => h0 (by rw [← w]; exact k4))]; exact k3, k4, k5⟩
    | bor ds =>
      obtain ⟨l, vs, rfl, k3, k4, k5, k6⟩ := q2
      exact ⟨l, vs, rfl, by rw [upd_ne (fun w => k5 (.inl ⟨p, rfl, w⟩))]; exact k3, k4, k5, k6⟩
    | fr x =>
      refine nd_mono (fun a o h => ?_) _ _ q2
      rcases vnew_cases h with ⟨k, z⟩ | ⟨k, k0, k1, xs, rfl⟩
      · exact vnew_G k z
      · exact vnew_of k k0 (by rw [upd_ne (fun w => h0 (by rw [← w]; exact k0))]; exact k1)
  · rw [upd_ne (fun w => hb (.inl ⟨p, rfl, w⟩))]; exact q
theorem e_pen {i : Nat} {k : Int} (hi : L[i]? = some (some .pen)) (hk : k = 1 ∨ k = 2) (h : ∀ z : Int, 0 ≤ z → P (.int z)) : E K ⟨some ⟨pa, .pen pc pn⟩, ts⟩ H0 (tOp (rIxL K) (tVar i) (tC (.int k))) L P := fun σ G H e Q q => by
  obtain ⟨cells, at_, rest, m1, m2, m3, m4, m5⟩ := e.vw.ok.1 _ rfl
  refine ⟨_, e.pen hi, pa, _, k, .int (if k = 1 then at_ else rest), rfl, rfl, .inl (.inl m1), ?_, q _ _ G H (.refl e.vw) (.int _) (h _ ?_)⟩
  · rcases hk with rfl | rfl
    · rfl
    · rfl
  · split <;> assumption
theorem e_penLen {i : Nat} (hi : L[i]? = some (some .pen)) (h : P (.int pn)) : E K ⟨some ⟨pa, .pen pc pn⟩, ts⟩ H0 (tCB (fun xs H Q => ∃ p ys, xs = [.ref p] ∧ (SqL K H p ys ∨ SqT K H p ys) ∧ Q (.int ys.length) H) (tCons (tOp (rIxL K) (tVar i) (tC (.int 0))) tNil)) L P := fun σ G H e Q q => by
  obtain ⟨cells, at_, rest, m1, m2, m3, m4, m5⟩ := e.vw.ok.1 _ rfl
  refine ⟨_, e.pen hi, pa, _, 0, .ref pc, rfl, rfl, .inl (.inl m1), rfl, pc, _, rfl, .inl (.inl (.inl m2)), ?_⟩
  rw [List.length_map, m5]
  exact q _ _ G H (.refl e.vw) (.int _) h
theorem e_penIx {i : Nat} (hi : L[i]? = some (some .pen)) (h : E K ⟨some ⟨pa, .pen pc pn⟩, ts⟩ H0 ti L fun k => ∃ m : Nat, k = .int m ∧ m < pn ∧ ∀ z : Int, P (.int z)) : E K ⟨some ⟨pa, .pen pc pn⟩, ts⟩ H0 (tOp (rIxL K) (tOp (rIxL K) (tVar i) (tC (.int 0))) ti) L P := fun σ G H e Q q => by
  obtain ⟨cells, at_, rest, m1, m2, m3, m4, m5⟩ := e.vw.ok.1 _ rfl
  refine ⟨_, e.pen hi, pa, _, 0, .ref pc, rfl, rfl, .inl (.inl m1), rfl, h σ G H e _ fun v k G1 H1 go hd ⟨m, hm, hl, hp⟩ => ?_⟩
  subst hm
  cases hd
  have m2' : H1 pc = some (.lst (cells.map V.int)) := go.od _ _ (fun z => by
    rcases z with ⟨q, z, w⟩ | z
    · cases z
      have w : pc = pa := w
      rw [w, m1] at m2
      cases cells with
      | nil => cases m2
      | cons x r => cases m2
    · exact e.vw.ok.apart (p := ⟨pa, .pen pc pn⟩) rfl z (.inr ⟨_, _, rfl, rfl⟩)) m2
  refine ⟨pc, _, (m : Int), .int cells[m], rfl, rfl, .inl (.inl m2'), ?_, q _ _ G1 H1 go (.int _) (hp _)⟩
  refine atI_nat ?_
  rw [List.getElem?_map, List.getElem?_eq_getElem (by rw [m5]; exact hl)]
  rfl
theorem s_pen {i : Nat} {k : Int} (hi : L[i]? = some (some .pen)) (hk : k = 1 ∨ k = 2) (h : E K ⟨some ⟨pa, .pen pc pn⟩, ts⟩ H0 te L fun d => ∃ z, d = .int z ∧ 0 ≤ z ∧ D.nx L) : S K ⟨some ⟨pa, .pen pc pn⟩, ts⟩ H0 (tAsg te (gSub (tVar i) (tC (.int k)) rSetL)) L D := fun σ G H N e n1 _ _ _ _ _ =>
  h σ G H e _ fun v d G1 H1 g1 d1 ⟨z, hz, z0, hp⟩ => by
    subst hz
    cases d1
    have e1 := e.go g1
    obtain ⟨cells, at_, rest, m1, m2, m3, m4, m5⟩ := e1.vw.ok.1 _ rfl
    have ne : pc ≠ pa := fun w => by
      have m1 : H1 pa = _ := m1
      rw [w, m1] at m2
      cases cells with
      | nil => cases m2
      | cons x r => cases m2
    have put : ∀ (a r : Int), 0 ≤ a → 0 ≤ r → N.nx σ (upd H1 pa (.lst [.ref pc, .int a, .int r])) := fun a r ha hr => by
      obtain ⟨r1, r2⟩ := e1.putPen (p := ⟨pa, .pen pc pn⟩) (o := .lst [.ref pc, .int a, .int r]) ⟨cells, a, r, upd_same, by show upd H1 pa _ pc = _; rw [upd_ne ne]; exact m2, ha, hr, m5⟩
      exact n1 σ G1 _ L ((e.gx g1).trans r2) r1 hp
    rcases hk with rfl | rfl
    · exact ⟨_, e1.pen hi, pa, _, 1, 1, rfl, rfl, m1, rfl, put z rest z0 m4⟩
    · exact ⟨_, e1.pen hi, pa, _, 2, 2, rfl, rfl, m1, rfl, put at_ z m3 z0⟩
/-- the spring -/
theorem e_spr {i : Nat} (hi : L[i]? = some (some .pen)) (h : ∀ z : Int, P (.int z)) : E K ⟨some ⟨pa, .spr⟩, ts⟩ H0 (tOp (rIxL K) (tVar i) (tC (.int 0))) L P := fun σ G H e Q q => by
  obtain ⟨z, m1⟩ := e.vw.ok.1 _ rfl
  exact ⟨_, e.pen hi, pa, _, 0, .int z, rfl, rfl, .inl (.inl m1), rfl, q _ _ G H (.refl e.vw) (.int _) (h _)⟩
theorem s_spr {i : Nat} (hi : L[i]? = some (some .pen)) (h : E K ⟨some ⟨pa, .spr⟩, ts⟩ H0 te L fun d => ∃ z, d = .int z ∧ D.nx L) : S K ⟨some ⟨pa, .spr⟩, ts⟩ H0 (tAsg te (gSub (tVar i) (tC (.int 0)) rSetL)) L D := fun σ G H N e n1 _ _ _ _ _ =>
  h σ G H e _ fun v d G1 H1 g1 d1 ⟨z, hz, hp⟩ => by
    subst hz
    cases d1
    have e1 := e.go g1
    obtain ⟨z0, m1⟩ := e1.vw.ok.1 _ rfl
    obtain ⟨r1, r2⟩ := e1.putPen (p := ⟨pa, .spr⟩) (o := .lst [.int z]) ⟨z, upd_same⟩
    exact ⟨_, e1.pen hi, pa, _, 0, 0, rfl, rfl, m1, rfl, n1 σ G1 _ L ((e.gx g1).trans r2) r1 hp⟩
end
def WfTake (m : Int) : Prop := 0 < m ∧ m ≤ 10 ^ 60
def resTake (m : Int) (d : PyData) : Prop := ∃ z : Nat, d = .int (z : Int) ∧ (z : Int) < m
theorem take_all {m : Int} {P : PyData → Prop} (h : ∀ k : Nat, (k : Int) < m → P (.int (k : Int))) : ∀ d, resTake m d → P d := fun d ⟨k, e, hk⟩ => by rw [e]; exact h k hk
section
variable {K : PySem.W.Frag} {pen : Pc} {H0 : Hp} {P P' : PyData → Prop}
theorem r_modAny {i j : Int} (hc : 0 < j) (p : ∀ z, 0 ≤ z → z < j → P (.int z)) : R2d K pen (rI (fun _ j => 0 < j) fun i j => .int (i % j)) (.int i) (.int j) P := r_mod hc (p _ (Int.emod_nonneg _ (by omega)) (Int.emod_lt_of_pos _ hc))
theorem r_fdivW {i j : Int} (hc : CDivW i j) (p : P (.int (i / j))) : R2d K pen (rI CDivW fun i j => .int (i / j)) (.int i) (.int j) P := r_I (f := fun i j => .int (i / j)) (fun _ => .int _) hc p
theorem r_pow {i j : Int} (hc : CPow i j) (p : P (.int (i ^ j.toNat))) : R2d K pen (rI CPow fun i j => .int (i ^ j.toNat)) (.int i) (.int j) P := r_I (f := fun i j => .int (i ^ j.toNat)) (fun _ => .int _) hc p
end
end Dl
namespace Dl
open PySem PySem.Spec PyProof.Rows L2
theorem nox_K {CX : CXT} {P : Program} {w : World} {K : PySem.W.Frag} {mg : Str → Option Value} {base : Heap} {N : List Str} {qual : Str} {scope : Scope} {f : Addr} {cd : Value} {A : Around} {outer : List Env} {s : Shared} {H : Hp} {E : XK} : (cxOf CX P w K mg base N qual scope f cd A outer s H E).nox.K = K := rfl
theorem cx_K {CX : CXT} {P : Program} {w : World} {K : PySem.W.Frag} {mg : Str → Option Value} {base : Heap} {N : List Str} {qual : Str} {scope : Scope} {f : Addr} {cd : Value} {A : Around} {outer : List Env} {s : Shared} {H : Hp} {E : XK} : (cxOf CX P w K mg base N qual scope f cd A outer s H E).K = K := rfl
theorem blk_K {X : Cx} {s : Shared} {H : Hp} {sc : Scope} {env : Env} {fp : List Addr} : (X.blk s H sc env fp).K = X.K := rfl
end Dl
namespace Dl
open PySem PySem.Spec PyProof.Rows L2
section
variable {X : Cx} (K : PySem.W.Frag)
theorem kx_ixT (h : X.K = K) : IxR X (rIxT K) := by subst h; exact ix_tup
theorem kx_ixL (h : X.K = K) : IxR X (rIxL K) := by subst h; exact ix_list
theorem kx_slT (h : X.K = K) : SlR X (rSlA K) := by subst h; exact sl_tupA
theorem kx_slL (h : X.K = K) : SlR X (rSlL K) := by subst h; exact sl_list
theorem kx_catT (h : X.K = K) : OpR X (binaryOp .Add) (rCatA K) := by subst h; exact op_catA
theorem kx_in (h : X.K = K) : OpR X (compareOp .In) (rIn K false) := by subst h; exact op_in_seq
theorem kx_notIn (h : X.K = K) : OpR X (compareOp .NotIn) (rIn K true) := by subst h; exact op_notIn_seq
theorem kx_eqD (h : X.K = K) (hu : X.A.units + 64 < cLine) : OpR X (compareOp .Eq) (rEqD K) := by subst h; exact op_eqD hu
theorem kx_neD (h : X.K = K) (hu : X.A.units + 64 < cLine) : OpR X (compareOp .NotEq) (rNeD K) := by subst h; exact op_neD hu
theorem kx_len (h : X.K = K) : CallR X (.builtin "len") (fun xs H Q => ∃ p ys, xs = [.ref p] ∧ (SqL K H p ys ∨ SqT K H p ys) ∧ Q (.int ys.length) H) := by subst h; exact call_len_seq
theorem kx_list (h : X.K = K) : CallR X (.type "list") (fun xs H Q => ∃ p ys, xs = [.ref p] ∧ (SqL K H p ys ∨ SqT K H p ys) ∧ ∀ l, H l = none → Q (.ref l) (upd H l (.lst ys))) := by subst h; exact call_list_of
theorem kx_tuple (h : X.K = K) : CallR X (.type "tuple") (fun xs H Q => ∃ p ys, xs = [.ref p] ∧ ((SqL K H p ys ∧ ∀ l, H l = none → Q (.ref l) (upd H l (.tup ys))) ∨ (SqT K H p ys ∧ Q (.ref p) H))) := by subst h; exact call_tuple_of
theorem kx_isi (h : X.K = K) : CallR X (.builtin "isinstance") (rIsi K) := by subst h; exact call_isi
variable {l tg : Expr} {tl : TE}
theorem kx_piL (h : X.K = K) (hl : PE X l tl) : PI X tg l (iList K tl) := by subst h; exact pi_list hl
theorem kx_piT (h : X.K = K) (hl : PE X l tl) : PI X tg l (iTup K tl) := by subst h; exact pi_tup hl
theorem kx_zip {e e2 : Expr} {ta : TA} {p pos tpos : Pos} {elts : List Expr} {kk : Nat} (h : X.K = K) (hg : Gl X "zip") (hm : X.mg "zip" = none) (ha : PA X [e, e2] ta)
    (hs : starEach [e, e2] X.env = (false, eval e X.env) :: starEach [e2] X.env := by rfl) (hpl : (backTo pos (starEach [e2] X.env)).any (·.1) = false := by rfl) :
    PI X (.Tuple elts kk tpos) (.Call (.Name "zip" p) [e, e2] [] pos) (RZ.iZipA K ta) := by subst h; exact RZ.pi_zipA hg hm ha hs hpl
theorem kx_pgT {es : List Expr} {k : Nat} {t : TGs} {n : Nat} {pos : Pos} (h : X.K = K) (hc : X.calm = true) (hp : PGs X es t)
    (hn : (assignEach es X.env).length = n := by rfl) (hst : (assignEach es X.env).findIdx? (·.1) = none := by rfl) : PG X (.Tuple es k pos) (gTup K n t) := by subst h; exact pg_tup hc hp hn hst
end
end Dl
namespace Dl
open PySem PySem.Spec PyProof.Rows L2
inductive Ty where
  | int | bool | str | tuple | list
def Ty.s : Ty → String
  | .int => "int"
  | .bool => "bool"
  | .str => "str"
  | .tuple => "tuple"
  | .list => "list"
def isT : PyData → Ty → Bool
  | .bool _, .int => true
  | .bool _, .bool => true
  | .int _, .int => true
  | .str _, .str => true
  | .tuple _, .tuple => true
  | .list _, .list => true
  | _, _ => false
theorem isT_eq (d : PyData) (t : Ty) : isD d t.s = isT d t := by
  cases d with
  | none => cases t <;> (show isS "NoneType" _ = _) <;> decide +kernel
  | bool b => cases t <;> (show isS "bool" _ = _) <;> (first | (show _ = true; decide +kernel) | (show _ = false; decide +kernel))
  | int b => cases t <;> (show isS "int" _ = _) <;> (first | (show _ = true; decide +kernel) | (show _ = false; decide +kernel))
  | str b => cases t <;> (show isS "str" _ = _) <;> (first | (show _ = true; decide +kernel) | (show _ = false; decide +kernel))
  | list b => cases t <;> (show isS "list" _ = _) <;> (first | (show _ = true; decide +kernel) | (show _ = false; decide +kernel))
  | tuple b => cases t <;> (show isS "tuple" _ = _) <;> (first | (show _ = true; decide +kernel) | (show _ = false; decide +kernel))
  | dict b => cases t <;> (show isS "dict" _ = _) <;> (first | (show _ = true; decide +kernel) | (show _ = false; decide +kernel))
section
variable {K : PySem.W.Frag} {pen : Pc} {H0 : Hp} {L : Lv} {P : PyData → Prop} {ta : TE}
theorem e_isT (t : Ty) (h : E K pen H0 ta L fun d => P (.bool (isT d t))) : E K pen H0 (tCB (rIsi K) (tCons ta (tCons (tC (.ty t.s)) tNil))) L P :=
  e_isi (by cases t <;> simp [Ty.s]) (h.mono fun d p => by rw [isT_eq]; exact p)
theorem e_isI (h : E K pen H0 ta L fun d => P (.bool (isT d .int))) : E K pen H0 (tCB (rIsi K) (tCons ta (tCons (tC (.ty "int")) tNil))) L P := e_isT .int h
theorem e_isB (h : E K pen H0 ta L fun d => P (.bool (isT d .bool))) : E K pen H0 (tCB (rIsi K) (tCons ta (tCons (tC (.ty "bool")) tNil))) L P := e_isT .bool h
theorem e_isS (h : E K pen H0 ta L fun d => P (.bool (isT d .str))) : E K pen H0 (tCB (rIsi K) (tCons ta (tCons (tC (.ty "str")) tNil))) L P := e_isT .str h
theorem e_isTu (h : E K pen H0 ta L fun d => P (.bool (isT d .tuple))) : E K pen H0 (tCB (rIsi K) (tCons ta (tCons (tC (.ty "tuple")) tNil))) L P := e_isT .tuple h
theorem e_isL (h : E K pen H0 ta L fun d => P (.bool (isT d .list))) : E K pen H0 (tCB (rIsi K) (tCons ta (tCons (tC (.ty "list")) tNil))) L P := e_isT .list h
def isNone : PyData → Bool
  | .none => true
  | _ => false
theorem r_isNone {a : PyData} (p : P (.bool (isNone a))) : R2d K pen (fun x y H Q => y = .non ∧ Q (.bl (decide (x = .non))) H) a .none P := r_isN (by cases a <;> exact p)
end
end Dl

set_option Elab.async false
set_option linter.all false
set_option maxRecDepth 100000
/-! programs, stands, ticks as plain data -/
namespace Wm
open PySem Dl
inductive Row where
  | set (p v : Nat) | add (p q : Nat) | jump (p k : Nat) | say (p : Nat) | take (p : Nat) | fin
def Row.D : Row → PyData
  | .set p v => .tuple [.str "set", .int p, .int v]
  | .add p q => .tuple [.str "add", .int p, .int q]
  | .jump p k => .tuple [.str "jump", .int p, .int k]
  | .say p => .tuple [.str "say", .int p]
  | .take p => .tuple [.str "take", .int p]
  | .fin => .tuple [.str "end"]
def Row.Ok (n w many : Nat) : Row → Prop
  | .set p v => p < n ∧ v < w
  | .add p q => p < n ∧ q < n
  | .jump p k => p < n ∧ k < many
  | .say p => p < n
  | .take p => p < n
  | .fin => True
structure Prog where
  n : Nat
  w : Nat
  rows : List Row
structure Prog.Ok (x : Prog) : Prop where
  n1 : 1 ≤ x.n
  n2 : x.n ≤ 12
  w1 : 2 ≤ x.w
  w2 : x.w ≤ 100
  r1 : 1 ≤ x.rows.length
  r2 : x.rows.length ≤ 20
  rs : ∀ r ∈ x.rows, r.Ok x.n x.w x.rows.length
structure Stand where
  at_ : Nat
  sh : List Nat
structure Stand.Ok (x : Prog) (s : Stand) : Prop where
  a1 : s.at_ ≤ x.rows.length
  s1 : s.sh.length = x.n
  s2 : ∀ v ∈ s.sh, v < x.w
abbrev natD (v : Nat) : PyData := .int (v : Int)
def natsD (l : List Nat) : List PyData := l.map natD
structure Told where
  st : Stand
  word : Str
  num : Option Nat
  reads : List Nat
  writes : List Nat
def numD : Option Nat → PyData
  | none => .none
  | some v => .int v
def rise (p q : Nat) : List Nat := if p = q then [p] else [min p q, max p q]
theorem natsD_len (l : List Nat) : (natsD l).length = l.length := List.length_map _
theorem cut_from (xs : List PyData) (p : Nat) : cutD xs (some (p : Int)) none = xs.drop p := by
  unfold cutD
  rw [HT.sIx_none, HT.sIx_nat]
  by_cases h : p ≤ xs.length
  · rw [Nat.min_eq_left h, List.take_of_length_le]
    rw [List.length_drop]; omega
  · rw [Nat.min_eq_right (by omega), Nat.sub_self, List.take_zero, List.drop_eq_nil_of_le (by omega)]
end Wm

set_option Elab.async false
set_option linter.all false
set_option maxRecDepth 100000
namespace Dl
open PySem PySem.Spec PyProof.Rows L2
/-! ### forgetting slots -/
def Sub (L' L : Lv) : Prop := L'.length = L.length ∧ ∀ (i : Nat) av, L'[i]? = some (some av) → L[i]? = some (some av)
theorem Sub.refl (L : Lv) : Sub L L := ⟨rfl, fun _ _ h => h⟩
theorem Sub.trans {A B C : Lv} (h : Sub A B) (k : Sub B C) : Sub A C := ⟨h.1.trans k.1, fun i av q => k.2 i av (h.2 i av q)⟩
theorem Sub.nil : Sub [] [] := Sub.refl _
theorem Sub.keep {x : Option AV} {L' L : Lv} (h : Sub L' L) : Sub (x :: L') (x :: L) := by
  refine ⟨by rw [List.length_cons, List.length_cons, h.1], fun i av q => ?_⟩
  cases i with
  | zero => exact q
  | succ i => exact h.2 i av q
theorem Sub.drop {x : Option AV} {L' L : Lv} (h : Sub L' L) : Sub (none :: L') (x :: L) := by
  refine ⟨by rw [List.length_cons, List.length_cons, h.1], fun i av q => ?_⟩
  cases i with
  | zero => cases q
  | succ i => exact h.2 i av q
section
variable {K : PySem.W.Frag} {pen : Pc} {H0 : Hp} {L L' : Lv} {P P' : PyData → Prop} {ta tb tc te ti : TE} {tl tr : TA} {tt : TT} {t u : TS} {Pb : Bool → Prop} {D : Dn} {g : TG} {gs : TGs}
theorem Ev.sub {G H : Hp} {σ : L2.St} (e : Ev K pen H0 G H σ L) (s : Sub L' L) : Ev K pen H0 G H σ L' :=
  ⟨e.vw, e.h0, e.dom, e.len.trans s.1.symm, fun i av h => e.sl i av (s.2 i av h), fun i j ds es l h1 h2 => e.ow i j ds es l (s.2 _ _ h1) (s.2 _ _ h2)⟩
theorem S.sub (h : S K pen H0 t L' D) (s : Sub L' L) : S K pen H0 t L D := fun σ G H N e => h σ G H N (e.sub s)
theorem E.sub (h : E K pen H0 te L' P) (s : Sub L' L) : E K pen H0 te L P := fun σ G H e => h σ G H (e.sub s)
theorem GT.sub {d : PyData} {Q : Lv → Prop} (h : GT K pen H0 g d L' Q) (s : Sub L' L) : GT K pen H0 g d L Q := fun σ G H v e => h σ G H v (e.sub s)
/-- what a loop keeps, with slots forgotten -/
abbrev Wk (I : Nat → Lv → Prop) (i : Nat) (L : Lv) : Prop := ∃ L3, Sub L3 L ∧ I i L3
/-! ### the law's beginning -/
end
section
variable {P : Program} {w : World} {K : PySem.W.Frag} {mg : Str → Option Value} {base : Heap}
end
end Dl

set_option Elab.async false
set_option linter.all false
set_option maxRecDepth 100000
namespace Dl
open PySem PySem.Spec PyProof.Rows L2 _root_.Gx GxR
/-! ### a def whose code object is known -/
structure FunC (K : PySem.W.Frag) (x qual : Str) (st : Stmt) (f : Addr) (fd : FuncData) (c : Addr) : Prop where
  ex : ∃ (oc : Value) (od : Option Addr) (kV doc pm : Value) (an : Option Addr) (ct : Value) (osl : Array (Option Value)),
    fd = PySem.W.fnOf x qual (defArgs st) (defBody st) (defScope st) .none kV doc pm an (.ref c) ct ∧ K.lookup f = some ⟨oc, od, .func fd, osl⟩ ∧ PySem.W.codeIn K (.ref c) qual = true
  kp : PySem.W.keepIn K (.ref f) = true
section
variable {P : Program} {w : World} {K : PySem.W.Frag} {mg : Str → Option Value} {base : Heap}
theorem FunC.plain {x qual : Str} {st : Stmt} {f c : Addr} {fd : FuncData} (F : FunC K x qual st f fd c) : Fun K x qual st f fd := by
  obtain ⟨oc, od, kV, doc, pm, an, ct, osl, e, l, h⟩ := F.ex
  exact ⟨⟨oc, od, kV, doc, pm, an, .ref c, ct, osl, e, l, h⟩, F.kp⟩
theorem funC_mk {x qual : Str} {st : Stmt} {f c : Addr} {oc : Value} {od an : Option Addr} {osl : Array (Option Value)} {kV doc pm ct : Value} (l : K.lookup f = some ⟨oc, od, .func (PySem.W.fnOf x qual (defArgs st) (defBody st) (defScope st) .none kV doc pm an (.ref c) ct), osl⟩)
    (h : PySem.W.codeIn K (.ref c) qual = true) (k : PySem.W.keepIn K (.ref f) = true) : FunC K x qual st f (PySem.W.fnOf x qual (defArgs st) (defBody st) (defScope st) .none kV doc pm an (.ref c) ct) c := ⟨⟨oc, od, kV, doc, pm, an, ct, osl, rfl, l, h⟩, k⟩
theorem FunC.ok {x qual : Str} {st : Stmt} {f c : Addr} {fd : FuncData} {N ps : List Str} {k : Nat} {sp : Sp} (F : FunC K x qual st f fd c) (S : FnScope N ps (defScope st)) (len : ∀ vs H Q E, sp vs H Q E → vs.length = ps.length)
    (hbody : ∀ (A : Around) (outer : List Env) (s : Shared) (H : Hp) (vs : List V) (Q : VK) (E : XK), Room k (A.deeper (envOfC qual (defScope st) s.heap.objs.size f (.ref c))) → sp vs H Q E →
      ∃ t, PSs (cxOf CX0 P w K mg base N qual (defScope st) f (.ref c) A outer s H E).nox (defBody st) t ∧ t { nx := fun _ H' => Q .non H', rt := Q } (L2.start N vs) H) : FnOk P w K mg base CX0 (k + 1) f fd ps sp := by
  obtain ⟨oc, od, kV, doc, pm, an, ct, osl, rfl, lk, hcd⟩ := F.ex
  refine fn_of lk hcd S len fun A outer s H vs Q E hr hsp => ?_
  obtain ⟨t, h, q⟩ := hbody A outer s H vs Q E hr hsp
  exact ⟨t, h.nox, q⟩
/-- a def without the pen, its code object known -/
theorem fnXc {α : Type} {x qual : Str} {st : Stmt} {f c : Addr} {fd : FuncData} {N ps : List Str} {k : Nat} {ts : List Addr} {Wf : α → Prop} {enc : α → List PyData} {res : α → PyData → Prop} (F : FunC K x qual st f fd c) (S0 : FnScope N ps (defScope st)) (hl : ∀ x, Wf x → (enc x).length = ps.length)
    (hbody : ∀ (A : Around) (outer : List Env) (s : Shared) (H : Hp) (E : XK), Room k (A.deeper (envOfC qual (defScope st) s.heap.objs.size f (.ref c))) →
      ∃ t, PSs (cxOf CX0 P w K mg base N qual (defScope st) f (.ref c) A outer s H E).nox (defBody st) t ∧ ∀ x, Wf x → S K ⟨none, ts⟩ H t (st0 N (enc x)) { nx := fun _ => res x .none, rt := res x }) : FnOk P w K mg base CX0 (k + 1) f fd ps (SpX K ts Wf enc res) := by
  refine F.ok S0 (fun vs H Q E h => ?_) (fun A outer s H vs Q E hr h => ?_)
  · obtain ⟨x, G, _, h1, h2, _⟩ := h
    rw [dpa_len h1]
    exact hl x h2
  · obtain ⟨x, G, v, h1, h2, q⟩ := h
    obtain ⟨t, ht, hS⟩ := hbody A outer s H E hr
    refine ⟨t, ht, hS x h2 (L2.start N vs) G H _ (ev_start h1 v) (fun σ' G' H' L' x e' p => ?_) (fun v d G' H' x vw hd p => ?_) (fun _ _ _ _ _ _ z => z.elim) (fun _ _ _ _ _ _ z => z.elim) (fun _ _ _ _ _ _ _ z => z.elim) (fun _ _ _ _ _ _ _ _ _ _ _ z => z.elim)⟩
    · exact q .non .none G' H' ⟨x.gg, x.nw, fun a o hp e => x.od a o hp (by rw [e]; exact fun z => by cases z) e, e'.vw⟩ .non p
    · exact q v d G' H' ⟨x.gg, x.nw, fun a o hp e => x.od a o hp (by rw [e]; exact fun z => by cases z) e, vw⟩ hd p
end
/-! ### all(..), any(..) by data -/
section
variable {K : PySem.W.Frag} {pn : Option Pn} {ts : List Addr} {H0 : Hp} {L : Lv} {P P' : PyData → Prop} {ta tb tc te ti : TE} {tl tr : TA} {tt : TT} {Tb : Addr} {go : Bool}
/-- the table has grown -/
theorem Go.tab {c : Pc} {G H H' : Hp} (v : Vw c G H) (hT : Tb ∈ c.ts) (h : TabbedX Tb H H') : Go c G H G H' := by
  refine ⟨Same.refl _, fun _ _ => rfl, fun a o n e => ?_, ⟨fun a o e => ?_, v.no, fun p hp => ?_, fun P hP => ?_⟩⟩
  · exact h.2 a o (fun z => n (.inr (by rw [z]; exact hT))) e
  · exact h.2 a o (fun z => by rw [z, v.no _ (.inr hT)] at e; cases e) (v.vw a o e)
  · exact (v.ok.1 p hp).mono fun a o ho e => h.2 a o (fun z => v.ok.apart hp hT (z ▸ ho)) e
  · exact (v.ok.2 P hP).other h (v.ok.2 Tb hT)
/-- one turn of the element, by data: J is kept, or it ends -/
abbrev GnT (K : PySem.W.Frag) (c : Pc) (H0 : Hp) (go : Bool) (tt : TT) (te : TE) (L2 : Lv) (Jn : Prop) (P : PyData → Prop) : Prop :=
  ET K c H0 tt L2 fun b => (b = true → E K c H0 te L2 fun d => ∃ k, d = .bool k ∧ (k = go → Jn) ∧ (k = !go → P (.bool (!go)))) ∧ (b = false → Jn)
theorem gn_turn {c : Pc} {G1 H1 G' H' : Hp} {σ2 : L2.St} {L2 : Lv} {Jn : Prop} {Nx : Hp → Prop} {Q : VK} (g : Go c G1 H1 G' H') (e2 : Ev K c H0 G' H' σ2 L2) (h : GnT K c H0 go tt te L2 Jn P)
    (hN : ∀ G3 H3, Go c G1 H1 G3 H3 → Jn → Nx H3) (q : ∀ v d G' H', Go c G1 H1 G' H' → Dp K G' v d → P d → Q v H') :
    tt σ2 H' fun b H3 => if b = true then te σ2 H3 fun y H4 => YdB go (fun H => Q (.bl (!go)) H) y H4 Nx else Nx H3 := by
  refine h σ2 G' H' e2 _ fun b G3 H3 g3 p => ?_
  cases b with
  | false => exact hN G3 H3 (g.trans g3) (p.2 rfl)
  | true =>
    show te σ2 H3 _
    refine p.1 rfl σ2 G3 H3 (e2.go g3) _ fun y d G4 H4 g4 d4 ⟨k, hk, p1, p2⟩ => ?_
    subst hk
    cases d4
    refine ⟨k, rfl, ?_⟩
    by_cases z : k = go
    · rw [if_pos z]
      exact hN G4 H4 ((g.trans g3).trans g4) (p1 z)
    · rw [if_neg z]
      exact q _ _ G4 H4 ((g.trans g3).trans g4) (.bl _) (p2 (by cases k <;> cases go <;> simp_all))
theorem e_genT {j : Nat} (hT : Tb ∈ ts) (h : E K ⟨pn, ts⟩ H0 ta L fun d => ∃ ds, d = .tuple ds ∧ ∃ J : Nat → Prop, J 0 ∧
    (∀ (i : Nat) x, ds[i]? = some x → J i → GnT K ⟨pn, ts⟩ H0 go tt te ((L.set j none).set j (some (.d x))) (J (i + 1)) P) ∧ (J ds.length → P (.bool go))) :
    E K ⟨pn, ts⟩ H0 (tGen Tb go (iTup K ta) (gName j) tt te [j]) L P := fun σ G H e Q q => h σ G H e _ fun v d G1 H1 gg hd ⟨ds, hds, J, j0, js, je⟩ => by
  subst hds
  cases hd with
  | tup hs ha =>
    rename_i a xs
    refine ⟨a, rfl, ⟨xs, sqT_mono gg.vw.vw hs⟩, gg.vw.ok.2 Tb hT, fun H2 htab => ?_⟩
    have g2 := Go.tab gg.vw hT htab
    refine ⟨fun i m H' => m = ds.length - i ∧ i ≤ ds.length ∧ J i ∧ ∃ G', Go ⟨pn, ts⟩ G1 H2 G' H', ⟨ds.length, rfl, Nat.zero_le _, j0, G1, .refl g2.vw⟩, ?_⟩
    rintro i m H' ⟨rfl, hi, hJ, G', g⟩
    have z1 : SqT K H' a xs := sqT_mono (g.gg.trans g.vw.vw) hs
    have q' : ∀ v d G' H', Go ⟨pn, ts⟩ G1 H2 G' H' → Dp K G' v d → P d → Q v H' := fun v d G' H' g hd p => q v d G' H' ((gg.trans g2).trans g) hd p
    by_cases hlt : i < ds.length
    · obtain ⟨x, hx, dx⟩ := dpa_get ha (List.getElem?_eq_getElem hlt)
      refine .inr ⟨⟨xs, x, z1, hx⟩, fun H3 => J (i + 1) ∧ ∃ G', Go ⟨pn, ts⟩ G1 H2 G' H3, fun H3 ⟨k1, k2⟩ => ⟨ds.length - (i + 1), by omega, rfl, hlt, k1, k2⟩, fun y H3 hy => ?_⟩
      obtain ⟨rfl, hy⟩ := hy
      have e1 : y = x := Option.some.inj ((hy _ z1).symm.trans hx)
      subst e1
      refine ⟨wipe1 _ _ _, ?_⟩
      exact gn_turn g ((ev_wipe1 (((e.go gg).go g2).go g) j).set (dp_mono g.gg _ _ dx)) (js i _ (List.getElem?_eq_getElem hlt) hJ) (fun G3 H3 g3 k => ⟨k, G3, g3⟩) q'
    · have e1 : i = ds.length := by omega
      subst e1
      exact .inl ⟨⟨xs, z1, by rw [dpa_len ha]; exact Nat.le_refl _⟩, q' _ _ G' H' g (.bl _) (je hJ)⟩
end
end Dl

set_option Elab.async false
set_option linter.all false
set_option maxRecDepth 100000
namespace Dl
open PySem PySem.Spec PyProof.Rows L2
/-! ### dicts with text keys, made and read -/
def DictOk (K : PySem.W.Frag) (G : Hp) (kvs : List (Key × V)) (m : List (Str × PyData)) : Prop := Paired (fun (kv : Key × V) (xd : Str × PyData) => kv.1 = Sum.inr xd.1 ∧ Dp K G kv.2 xd.2) kvs m
theorem dictOk_mono {K : PySem.W.Frag} {G G' : Hp} (e : Same G G') {kvs : List (Key × V)} {m : List (Str × PyData)} (h : DictOk K G kvs m) : DictOk K G' kvs m := Paired.mapP h fun _ _ z => ⟨z.1, dp_mono e _ _ z.2⟩
section
variable (K : PySem.W.Frag) (pen : Pc) (H0 : Hp)
def ED (te : TE) (L : Lv) (P : List (Str × PyData) → Prop) : Prop := ∀ (σ : L2.St) (G H : Hp), Ev K pen H0 G H σ L → ∀ Q : VK, (∀ p kvs m G' H', Go pen G H G' H' → G' p = some (.dK kvs) → DictOk K G' kvs m → P m → Q (.ref p) H') → te σ H Q
def EPs (trs : List (TE × TE)) (L : Lv) (P : List (Str × PyData) → Prop) : Prop := ∀ (σ : L2.St) (G H : Hp), Ev K pen H0 G H σ L → ∀ Q : List (V × V) → Hp → Prop, (∀ ps kvs m G' H', Go pen G H G' H' → ps = kvs.map (fun kv => (kV kv.1, kv.2)) → DictOk K G' kvs m → P m → Q ps H') → tPairs trs σ H Q
end
section
variable {K : PySem.W.Frag} {pen : Pc} {H0 : Hp} {L : Lv} {P : PyData → Prop} {Pm : List (Str × PyData) → Prop} {td ty tk tv : TE} {tl : TA} {trs : List (TE × TE)}
theorem eps_nil (h : Pm []) : EPs K pen H0 [] L Pm := fun σ G H e Q q => q [] [] [] G H (.refl e.vw) rfl .nil h
theorem eps_cons (h : E K pen H0 tk L fun k => ∃ x : Str, k = .str x ∧ E K pen H0 tv L fun d => EPs K pen H0 trs L fun m => Pm ((x, d) :: m)) : EPs K pen H0 ((tk, tv) :: trs) L Pm := fun σ G H e Q q =>
  h σ G H e _ fun v k G1 H1 g1 d1 ⟨x, hx, h1⟩ => by
    subst hx
    cases d1
    refine h1 σ G1 H1 (e.go g1) _ fun u d G2 H2 g2 d2 h2 => ?_
    refine h2 σ G2 H2 (e.go (g1.trans g2)) _ fun ps kvs m G3 H3 g3 hps hm p => ?_
    subst hps
    exact q _ ((Sum.inr x, u) :: kvs) ((x, d) :: m) G3 H3 ((g1.trans g2).trans g3) rfl (.cons ⟨rfl, dp_mono g3.gg _ _ d2⟩ hm) p
theorem dict_val {G : Hp} (x : Str) : ∀ {kvs : List (Key × V)} {m : List (Str × PyData)}, DictOk K G kvs m → Dp K G ((valV kvs (Sum.inr x)).getD .non) ((m.lookup x).getD .none)
  | _, _, .nil => .non
  | kv :: kvs, (y, d) :: m, .cons h t => by
    obtain ⟨h1, h2⟩ := h
    unfold valV
    rw [List.find?_cons, List.lookup_cons]
    by_cases z : x = y
    · subst z
      rw [h1, decide_eq_true rfl, beq_self_eq_true]
      exact h2
    · have e1 : decide (kv.1 = Sum.inr x) = false := decide_eq_false (by rw [h1]; exact fun q => z (Sum.inr.inj q).symm)
      have e2 : (x == y) = false := beq_eq_false_iff_ne.mpr z
      rw [e1, e2]
      exact dict_val x t
theorem e_dget1 (h : ED K pen H0 td L fun m => E K pen H0 ty L fun k => ∃ x : Str, k = .str x ∧ P ((m.lookup x).getD .none)) : E K pen H0 (tDGet1 td ty) L P := fun σ G H e Q q =>
  h σ G H e _ fun p kvs m G1 H1 g1 hp hm h1 => ⟨p, rfl, .inl ⟨kvs, .inl (g1.vw.vw _ _ hp)⟩, h1 σ G1 H1 (e.go g1) _ fun v k G2 H2 g2 d2 ⟨x, hx, pp⟩ => by
    subst hx
    cases d2
    exact ⟨_, DGet.k (k := Sum.inr x) (g2.vw.vw _ _ (g2.gg _ _ hp)), q _ _ G2 H2 (g1.trans g2) (dict_val x (dictOk_mono g2.gg hm)) pp⟩⟩
/-! defs that tell a dict -/
def SpXD {α : Type} (K : PySem.W.Frag) (ts : List Addr) (Wf : α → Prop) (enc : α → List PyData) (res : α → List (Str × PyData)) : Sp := fun vs H Q _ => ∃ (x : α) (G : Hp), Vw ⟨none, ts⟩ G H ∧ DpAll K G vs (enc x) ∧ Wf x ∧ ∀ p kvs G' H', Go ⟨none, ts⟩ G H G' H' → G' p = some (.dK kvs) → DictOk K G' kvs (res x) → Q (.ref p) H'
theorem ed_callX {α : Type} {pn : Option Pn} {ts : List Addr} {Wf : α → Prop} {enc : α → List PyData} {res : α → List (Str × PyData)} {X : XK} (h : EA K ⟨pn, ts⟩ H0 tl L fun ds => ∃ x, ds = enc x ∧ Wf x ∧ Pm (res x)) : ED K ⟨pn, ts⟩ H0 (tCall (SpXD K ts Wf enc res) [] X tl) L Pm := fun σ G H e Q q =>
  h σ G H e _ fun vs ds G1 H1 go hd ⟨x, hx, h1, h2⟩ => ⟨x, G1, go.vw.plain, by rw [List.append_nil, ← hx]; exact hd, h1, fun p kvs G' H' go2 hp hm => q p kvs _ G' H' (go.trans (go2.lift go.vw)) hp hm h2⟩
end
section
variable {P : Program} {w : World} {K : PySem.W.Frag} {mg : Str → Option Value} {base : Heap}
end
end Dl

set_option Elab.async false
set_option linter.all false
set_option maxRecDepth 100000
set_option maxHeartbeats 4000000
namespace Dl
open PySem PySem.Spec PyProof.Rows L2
/-! ### xs + ys of lists that are read -/
def rCatL (K : PySem.W.Frag) : R2 := fun x y H Q => ∃ l b xs zs, x = .ref l ∧ y = .ref b ∧ SqL K H l xs ∧ SqL K H b zs ∧ xs.length + zs.length ≤ sizeLine ∧ ∀ p, H p = none → Q (.ref p) (upd H p (.lst (xs ++ zs)))
section
variable {X : Cx}
theorem op_catL : OpR X (binaryOp .Add) (rCatL X.K) := by
  intro pins s σ H x y v u Q I rx ry h
  obtain ⟨l, b, xs, zs, rfl, rfl, hH, hB, hz, q⟩ := h
  cases rx
  cases ry
  obtain ⟨its, r, ⟨⟨cls, dd, data, sl⟩, n, ho, hc, hdd, hd⟩, z⟩ := I.list hH
  obtain ⟨its2, r2, ⟨⟨cls2, dd2, data2, sl2⟩, n2, ho2, hc2, hdd2, hd2⟩, z2⟩ := I.list hB
  simp only at hc hd hc2 hd2
  subst hc hd hc2 hd2
  have hl := r.length
  have hl2 := r2.length
  have ea : its.toArray ++ its2.toArray = (its ++ its2).toArray := by simp
  refine concat_meets ⟨_, ho, rfl⟩ ⟨_, ho2, rfl⟩ noFill_list_add seq_list_add PySem.F.slot_list_add PySem.F.entry_list_add (PySem.F.args_list_add_2 _ _) (list_addW l b its.toArray its2.toArray n n2 dd dd2 sl sl2 (by rw [List.size_toArray, List.size_toArray]; omega)) ⟨ho, ho2, ?_⟩
  rw [ea]
  exact ⟨.ref _, _, I.lnew (t' := s.toks) (r.append r2) (by rw [List.length_append]; omega), rfl, q _ I.fresh⟩
/-! ### a tuple once -/
theorem tuple_mul1 (l : Addr) (items : Array Value) (n : Nat) (dd : Option Addr) (sl : Array (Option Value)) (u : Tok) :
    Meets (Builtin.«tuple.__mul__» ⟨[.ref l, .int 1 u], []⟩) (fun _ R s => s.heap.get? l = some { cls := .type "tuple", dict := dd, data := .seq items n, slots := sl } ∧ R (.ok (.ret (Value.ref l))) s) :=
  .of_wp fun prog w A R s h => by
    obtain ⟨hp, g, d, tk, os⟩ := s
    obtain ⟨hl, h⟩ := h
    have f1 := AutoSeq1.idx_int
    have c0 : (decide ((1 : Int) < -(2 ^ 63)) || decide ((1 : Int) ≥ 2 ^ 63)) = false := by decide
    have c1 : (items.isEmpty || (1 : Int) == 1) = true := by rw [Bool.or_eq_true]; exact .inr rfl
    wp_walk using wpAny_loadPart' hl
    repeat (first
      | (refine wpAny_ite_false (decide_eq_false (by rw [c0]; exact Bool.false_ne_true)) ?_; wp_walk using wpAny_loadPart' hl)
      | (refine wpAny_ite_true (decide_eq_true c1) ?_; wp_walk using wpAny_loadPart' hl))
    exact ⟨_, rfl, h⟩
def rRepA (K : PySem.W.Frag) : R2 := fun x y H Q => ∃ l k xs, x = .ref l ∧ y = .int k ∧ SqT K H l xs ∧ xs ≠ [] ∧ 1 ≤ k ∧ k ≤ 1000 ∧ xs.length ≤ 1000 ∧ (k = 1 → Q (.ref l) H) ∧ (2 ≤ k → ∀ p, H p = none → Q (.ref p) (upd H p (.tup (List.replicate k.toNat xs).flatten)))
theorem op_repA : OpR X (binaryOp .Mult) (rRepA X.K) := by
  intro pins s σ H x y v u Q I rx ry h
  obtain ⟨l, k, xs, rfl, rfl, hT, hne, h1, h2, hz, q1, q2⟩ := h
  by_cases e : k = 1
  · subst e
    cases rx
    obtain ⟨t, rfl⟩ := ry
    obtain ⟨its, r, ⟨⟨cls, dd, data, sl⟩, ho, hc, n, hd⟩, hs⟩ := I.tuple hT
    simp only at hc hd
    subst hc hd
    refine wpAny_binaryOp_repeat_ref (T := "tuple") (U := "int") (by decide) ⟨_, ho, rfl⟩ (fun s' => typeIs_int s' 1 t) noFill_tuple_mul F.fills_int_mul F.slot_int_rmul repeat_tuple F.slot_int_index.lookup
      (call_meets F.slot_int_rmul (typeIs_int s 1 t) F.entry_int_rmul (F.args_int_rmul_2 _ _) (int_rmul_tuple 1 t l its.toArray n dd sl)
        ⟨ho, rfl, ⟨_, ho, rfl⟩, call_meets F.slot_tuple_mul ⟨_, ho, rfl⟩ F.entry_tuple_mul (F.args_tuple_mul_2 _ _) (tuple_mul1 l its.toArray n dd sl t) ⟨ho, ?_⟩⟩)
    exact ⟨.ref l, H, I, rfl, q1 rfl⟩
  · exact op_repT pins s σ H _ _ v u Q I rx ry ⟨l, k, xs, rfl, rfl, hT, hne, by omega, h2, hz, q2 (by omega)⟩
theorem kx_catL {K : PySem.W.Frag} (h : X.K = K) : OpR X (binaryOp .Add) (rCatL K) := by subst h; exact op_catL
theorem kx_repA {K : PySem.W.Frag} (h : X.K = K) : OpR X (binaryOp .Mult) (rRepA K) := by subst h; exact op_repA
end
section
variable {K : PySem.W.Frag} {pen : Pc} {H0 : Hp} {L : Lv} {P : PyData → Prop} {ta te : TE} {tl : TA}
theorem r_catL {as bs : List PyData} (hl : as.length + bs.length ≤ 100000) (p : P (.list (as ++ bs))) : R2d K pen (rCatL K) (.list as) (.list bs) P := fun x y G H v hx hy Q q => by
  cases hx with
  | lst hs ha =>
    cases hy with
    | lst hs' ha' =>
      rename_i a xs a' ys
      refine ⟨a, a', xs, ys, rfl, rfl, sqL_mono v.vw hs, sqL_mono v.vw hs', Nat.le_trans (by rw [dpa_len ha, dpa_len ha']; exact hl) (by decide : 100000 ≤ sizeLine), fun p' hp => ?_⟩
      have g := Go.new v (o := .lst (xs ++ ys)) hp
      exact q _ _ _ _ g (.lst (.inl (.inl upd_same)) (dpa_mono g.gg _ _ (dpa_app ha ha'))) p
theorem dpa_rep {G : Hp} {vs : List V} {ds : List PyData} (h : DpAll K G vs ds) : ∀ n : Nat, DpAll K G (List.replicate n vs).flatten (List.replicate n ds).flatten
  | 0 => .nil
  | n + 1 => by
    rw [List.replicate_succ, List.replicate_succ, List.flatten_cons, List.flatten_cons]
    exact dpa_app h (dpa_rep h n)
theorem r_repA {ds : List PyData} {k : Nat} (h0 : ds ≠ []) (h1 : 1 ≤ k) (h2 : k ≤ 1000) (h3 : ds.length ≤ 1000) (p : P (.tuple (List.replicate k ds).flatten)) : R2d K pen (rRepA K) (.tuple ds) (.int k) P := fun x y G H v hx hy Q q => by
  cases hx with
  | tup hs ha =>
    cases hy
    rename_i a xs
    have hl := dpa_len ha
    refine ⟨a, k, xs, rfl, rfl, sqT_mono v.vw hs, fun z => h0 ?_, by omega, by omega, by omega, fun e => ?_, fun _ p' hp => ?_⟩
    · rw [z] at hl
      exact List.eq_nil_of_length_eq_zero hl.symm
    · have e : k = 1 := by omega
      subst e
      have e1 : (List.replicate 1 ds).flatten = ds := by rw [List.replicate_one, List.flatten_singleton]
      rw [e1] at p
      exact q _ _ G H (.refl v) (.tup hs ha) p
    · have g := Go.new v (o := .tup (List.replicate ((k : Int)).toNat xs).flatten) hp
      exact q _ _ _ _ g (.tup (.inl (.inl upd_same)) (dpa_mono g.gg _ _ (dpa_rep ha k))) p
theorem r_notBl {i j : Bool} (p : P (.bool (!decide (i = j)))) : R2d K pen rNotB (.bool i) (.bool j) P := fun x y G H v hx hy Q q => by
  cases hx
  cases hy
  exact ⟨i, j, rfl, rfl, q _ _ G H (.refl v) (.bl _) p⟩
/-! ### all(f(x) for x in xs) -/
theorem e_allT {pn : Option Pn} {ts : List Addr} {Tb : Addr} {j : Nat} (f : PyData → Bool) (hT : Tb ∈ ts) (h : E K ⟨pn, ts⟩ H0 ta L fun d => ∃ ds, d = .tuple ds ∧ (∀ x ∈ ds, E K ⟨pn, ts⟩ H0 te ((L.set j none).set j (some (.d x))) fun d => d = .bool (f x)) ∧ P (.bool (ds.all f))) :
    E K ⟨pn, ts⟩ H0 (_root_.Gx.tGen Tb true (iTup K ta) (gName j) tYes te [j]) L P := by
  refine e_genT hT (h.mono fun d ⟨ds, e, hx, hp⟩ => ⟨ds, e, fun i => ds.all f = (ds.drop i).all f, rfl, fun i x hi hJ => et_yes ⟨fun _ => (hx x (List.mem_of_getElem? hi)).mono fun d e2 => ⟨f x, e2, fun hk => ?_, fun hk => ?_⟩, fun z => by cases z⟩, fun hJ => ?_⟩)
  · obtain ⟨hlt, hg⟩ := List.getElem?_eq_some_iff.mp hi
    rw [hJ, List.drop_eq_getElem_cons hlt, List.all_cons, hg, hk, Bool.true_and]
  · obtain ⟨hlt, hg⟩ := List.getElem?_eq_some_iff.mp hi
    rw [hJ, List.drop_eq_getElem_cons hlt, List.all_cons, hg, hk] at hp
    exact hp
  · rw [hJ, List.drop_eq_nil_of_le (Nat.le_refl _)] at hp
    exact hp
/-! ### [f(x) for x in xs] -/
end
/-! ### the end with tables -/
theorem tabB_of {base : Heap} {mg : Str → Option Value} {c P : Addr} (h : LamX.TabB base mg c P) : GxR.TabB base mg c P := ⟨h.code, h.bm, h.gP⟩
theorem tabG_nil {H : Hp} {P : Addr} (h : H P = some (.tbl #[])) : _root_.Gx.TabX H P := _root_.Gx.tabX_nil h
/-- the tables of all defs of the top are empty -/
def AllTabs (q : Program) (K : PySem.W.Frag) (mg : Str → Option Value) (h : Heap) : Prop := ∀ (x : Str) (fa c P : Addr) (o : Obj) (fd : FuncData) (e : Value) (dd : Option Addr) (vs : Array Value) (sl : Array (Option Value)), ((recsOf q).any fun e => e.name == x) = true → mg x = some (.ref fa) →
  K.lookup fa = some o → o.data = .func fd → fd.code = .ref c → K.lookup c = some ⟨e, dd, .fields vs, sl⟩ → vs[11]? = some (.ref P) → h.get? P = some { cls := .none, data := .fields #[] }
end Dl

set_option Elab.async false
set_option linter.all false
set_option maxRecDepth 100000
/-! what is a program, what is a stand, over plain data -/
namespace Wm
open PySem Dl
def whole : PyData → Bool
  | .int _ => true
  | _ => false
def wholeIn (d : PyData) (lo hi : Int) : Bool := match d with
  | .int i => decide (lo ≤ i) && decide (i ≤ hi)
  | _ => false
def tupOf (d : PyData) (m : Int) : Bool := match d with
  | .tuple ds => decide ((ds.length : Int) = m)
  | _ => false
end Wm

set_option Elab.async false
set_option linter.all false
set_option maxRecDepth 100000
namespace Dl
open PySem PySem.Spec PyProof.Rows L2
/-! ### the law's beginning, with tables -/
def spLawT (K : PySem.W.Frag) (ts : List Addr) : Sp := fun vs H Q _ => ∃ (a : Addr) (ns : List Int), vs = [.ref a] ∧ SqL K H a (ns.map V.int) ∧ ns.length ≤ 63 ∧ (∀ P ∈ ts, _root_.Gx.TabX H P) ∧ ∀ H', Q (.bl true) H'
end Dl

set_option Elab.async false
set_option linter.all false
set_option maxRecDepth 100000
set_option maxHeartbeats 4000000
namespace Dl
open PySem PySem.Spec PyProof.Rows L2
/-! ### sorted(set(t)), t a tuple of ints -/
def rSetI (K : PySem.W.Frag) (w : World) : List V → Hp → VK → Prop := fun xs H Q => ∃ (l : Addr) (ns : List Int), xs = [V.ref l] ∧ SqT K H l (ns.map V.int) ∧ ns.length ≤ 1000 ∧ ∀ p c, H p = none → c ≤ ns.length → Q (.ref p) (upd H p (SetO w p (fun j => decide (j ∈ ns)) c))
section
variable {X : Cx}
theorem cr_setI (hc : X.calm = true) : CallR X (.type "set") (rSetI X.K X.w) := by
  intro pins s σ H xs us Q I r h
  obtain ⟨l, ns, rfl, hl, hz, q⟩ := h
  rw [Vals.ref1 r]
  obtain ⟨its, rv, pt, _⟩ := I.tuple hl
  have hb : (2000 : Nat) < scanBound := by decide +kernel
  refine call_set_tupI (P := X.prog) (w := X.w) ns (I.ok.hd hc) (show s.heap.IsTuple l its.toArray from pt) (by simpa using rv.ints) (by omega) fun h' tk c R hcl kp => ?_
  exact ⟨.ref s.heap.objs.size, _, I.laid (t' := tk) kp (Nat.le_refl _) (setO_new R), rfl, q _ c I.fresh hcl⟩
theorem kx_setI {K : PySem.W.Frag} {w : World} (h : X.K = K) (hw : X.w = w) (hc : X.calm = true) : CallR X (.type "set") (rSetI K w) := by subst h; subst hw; exact cr_setI hc
theorem kx_sortedSet {w : World} (hw : X.w = w) (hc : X.calm = true) : CallR X (.builtin "sorted") (rSortedSet w) := by subst hw; exact cr_sortedSet hc
end
def intsL (l : List Int) : List PyData := l.map .int
theorem dpa_ints {K : PySem.W.Frag} {G : Hp} : ∀ {vs : List V} {ns : List Int}, DpAll K G vs (intsL ns) → vs = ns.map V.int
  | _, [], h => by cases h; rfl
  | _, n :: ns, h => by
    cases h with
    | cons h1 h2 =>
      cases h1
      rw [dpa_ints h2]
      rfl
theorem ints_dpa {K : PySem.W.Frag} {G : Hp} : ∀ ns : List Int, DpAll K G (ns.map V.int) (intsL ns)
  | [] => .nil
  | n :: ns => .cons (.int n) (ints_dpa ns)
section
variable {K : PySem.W.Frag} {pen : Pc} {H0 : Hp} {L : Lv} {P : PyData → Prop} {ta te : TE} {tl : TA} {w : World}
theorem e_sortSet (h : E K pen H0 ta L fun d => ∃ ns : List Int, d = .tuple (intsL ns) ∧ ns.length < 64 ∧ ∀ ms : List Int, ms.Pairwise (· < ·) → (∀ k, k ∈ ms ↔ k ∈ ns) → P (.list (intsL ms))) :
    E K pen H0 (tCB (rSortedSet w) (tCons (tCB (rSetI K w) (tCons ta tNil)) tNil)) L P := fun σ G H e Q q => h σ G H e _ fun v d G1 H1 go hd ⟨ns, hds, hz, hp⟩ => by
  subst hds
  cases hd with
  | tup hs ha =>
    rename_i a xs
    have ex := dpa_ints ha
    subst ex
    refine ⟨a, ns, rfl, sqT_mono go.vw.vw hs, by omega, fun p c hpn hc => ?_⟩
    refine ⟨p, _, c, rfl, upd_same, by omega, fun ms r hm1 hm2 hm3 hr => ?_⟩
    have g2 := Go.hid go.vw (o := SetO w p (fun j => decide (j ∈ ns)) c) hpn
    have g3 := Go.new g2.vw (o := .lst (ms.map V.int)) hr
    exact q _ _ _ _ ((go.trans g2).trans g3) (.lst (.inl (.inl upd_same)) (ints_dpa ms)) (hp ms hm1 fun k => by rw [hm2 k, decide_eq_true_eq])
/-! ### k in t, k not in t, t a tuple of ints -/
theorem inV_ints (k : Int) (ns : List Int) : inV (.int k) (ns.map V.int) = decide (k ∈ ns) := by
  unfold inV
  rw [List.any_map]
  have e : ((fun y => eqV y (V.int k)) ∘ V.int) = fun n : Int => decide (n = k) := by
    funext n
    rfl
  rw [e]
  by_cases h : k ∈ ns
  · rw [decide_eq_true h, List.any_eq_true]
    exact ⟨k, h, decide_eq_true rfl⟩
  · rw [decide_eq_false h, List.any_eq_false]
    intro n hn z
    exact h (of_decide_eq_true z ▸ hn)
theorem r_inI {k : Int} {ns : List Int} (p : P (.bool (decide (k ∈ ns)))) : R2d K pen (rIn K false) (.int k) (.tuple (intsL ns)) P := fun x y G H v hx hy Q q => by
  cases hx
  cases hy with
  | tup hs ha =>
    rename_i a xs
    have ex := dpa_ints ha
    subst ex
    refine ⟨a, _, rfl, .inr (sqT_mono v.vw hs), rfl, ?_, ?_⟩
    · rw [List.all_eq_true]
      intro z hz
      obtain ⟨n, _, rfl⟩ := List.mem_map.mp hz
      rfl
    · rw [if_neg Bool.false_ne_true, inV_ints]
      exact q _ _ G H (.refl v) (.bl _) p
theorem r_notInI {k : Int} {ns : List Int} (p : P (.bool (!decide (k ∈ ns)))) : R2d K pen (rIn K true) (.int k) (.tuple (intsL ns)) P := fun x y G H v hx hy Q q => by
  cases hx
  cases hy with
  | tup hs ha =>
    rename_i a xs
    have ex := dpa_ints ha
    subst ex
    refine ⟨a, _, rfl, .inr (sqT_mono v.vw hs), rfl, ?_, ?_⟩
    · rw [List.all_eq_true]
      intro z hz
      obtain ⟨n, _, rfl⟩ := List.mem_map.mp hz
      rfl
    · rw [if_pos rfl, inV_ints]
      exact q _ _ G H (.refl v) (.bl _) p
end
end Dl

set_option Elab.async false
set_option linter.all false
set_option maxRecDepth 100000
set_option maxHeartbeats 4000000
namespace Dl
open PySem PySem.Spec PyProof.Rows L2
/-! ### t == () -/
section
variable {X : Cx}
end
section
variable {K : PySem.W.Frag} {pen : Pc} {H0 : Hp} {L : Lv} {P : PyData → Prop} {td ty ta te : TE} {tl : TA}
/-! ### d[k] -/
/-! ### texts -/
theorem r_neg {i : Int} (p : P (.int (-i))) : RUd K pen (rU fun i => .int (-i)) (.int i) P := fun x G H v hx Q q => by
  cases hx
  exact ⟨i, rfl, q _ _ G H (.refl v) (.int _) p⟩
end
end Dl

set_option Elab.async false
set_option linter.all false
set_option maxRecDepth 100000
set_option maxHeartbeats 4000000
namespace Dl
open PySem PySem.Spec PyProof.Rows L2
/-! ### what is walked, by its items -/
def Wlk (K : PySem.W.Frag) (pen : Pc) (J : It) (G1 : Hp) (xs : List PyData) : Prop := ∀ G' H', Same G1 G' → Vw pen G' H' →
  (∀ (i : Nat) x, xs[i]? = some x → J.go i H' ∧ ∀ v H2, J.yld i H' v H2 → ∃ G2, Go pen G' H' G2 H2 ∧ Dp K G2 v x) ∧ J.stop xs.length H'
def IT (K : PySem.W.Frag) (pen : Pc) (H0 : Hp) (ti : TI) (L : Lv) (P : List PyData → Prop) : Prop := ∀ (σ : L2.St) (G H : Hp), Ev K pen H0 G H σ L → ∀ R : It → Hp → Prop, (∀ J G1 H1 xs, Go pen G H G1 H1 → Wlk K pen J G1 xs → P xs → R J H1) → ti σ H R
section
variable {K : PySem.W.Frag} {pen : Pc} {H0 : Hp} {L : Lv} {P : List PyData → Prop} {Pd : PyData → Prop} {te ta : TE} {tl : TA} {ti : TI} {tt : TT} {t : TS} {D : Dn} {g : TG} {gs : TGs}
theorem IT.mono {P' : List PyData → Prop} (h : IT K pen H0 ti L P) (k : ∀ d, P d → P' d) : IT K pen H0 ti L P' := fun σ G H e R r => h σ G H e R fun J G1 H1 xs g w p => r J G1 H1 xs g w (k xs p)
theorem it_list (h : E K pen H0 te L fun d => ∃ ds, d = .list ds ∧ P ds) : IT K pen H0 (iList K te) L P := fun σ G H e R r => h σ G H e _ fun v d G1 H1 go hd ⟨ds, hds, p⟩ => by
  subst hds
  cases hd with
  | lst hs ha =>
    rename_i a xs
    refine ⟨a, rfl, ⟨xs, sqL_mono go.vw.vw hs⟩, r _ G1 H1 ds go (fun G' H' s v => ⟨fun i x hx => ?_, ?_⟩) p⟩
    · have z := sqL_mono (s.trans v.vw) hs
      obtain ⟨y, hy, dy⟩ := dpa_get ha hx
      refine ⟨⟨xs, y, z, hy⟩, fun w H2 hw => ?_⟩
      obtain ⟨rfl, f⟩ := hw
      have e1 : w = y := Option.some.inj ((f _ z).symm.trans hy)
      subst e1
      exact ⟨G', .refl v, dp_mono s _ _ dy⟩
    · exact ⟨xs, sqL_mono (s.trans v.vw) hs, by rw [dpa_len ha]; exact Nat.le_refl _⟩
theorem it_tup (h : E K pen H0 te L fun d => ∃ ds, d = .tuple ds ∧ P ds) : IT K pen H0 (iTup K te) L P := fun σ G H e R r => h σ G H e _ fun v d G1 H1 go hd ⟨ds, hds, p⟩ => by
  subst hds
  cases hd with
  | tup hs ha =>
    rename_i a xs
    refine ⟨a, rfl, ⟨xs, sqT_mono go.vw.vw hs⟩, r _ G1 H1 ds go (fun G' H' s v => ⟨fun i x hx => ?_, ?_⟩) p⟩
    · have z := sqT_mono (s.trans v.vw) hs
      obtain ⟨y, hy, dy⟩ := dpa_get ha hx
      refine ⟨⟨xs, y, z, hy⟩, fun w H2 hw => ?_⟩
      obtain ⟨rfl, f⟩ := hw
      have e1 : w = y := Option.some.inj ((f _ z).symm.trans hy)
      subst e1
      exact ⟨G', .refl v, dp_mono s _ _ dy⟩
    · exact ⟨xs, sqT_mono (s.trans v.vw) hs, by rw [dpa_len ha]; exact Nat.le_refl _⟩
/-- lo, lo + 1, .., n of them -/
def rngL (lo : Int) (n : Nat) : List PyData := (List.range n).map fun i => .int (lo + (i : Nat))
theorem rngL_len (lo : Int) (n : Nat) : (rngL lo n).length = n := by unfold rngL; rw [List.length_map, List.length_range]
theorem rngL_get {lo : Int} {n i : Nat} {x : PyData} (h : (rngL lo n)[i]? = some x) : i < n ∧ x = .int (lo + i) := by
  have hi : i < n := by
    have := (List.getElem?_eq_some_iff.mp h).1
    rw [rngL_len] at this; exact this
  refine ⟨hi, ?_⟩
  unfold rngL at h
  rw [List.getElem?_map, List.getElem?_range hi] at h
  exact (Option.some.inj h).symm
theorem wlk_rng (lo : Int) (n : Nat) (G : Hp) : Wlk K pen (Itr lo n) G (rngL lo n) := fun G' H' s v => ⟨fun i x hx => by
    obtain ⟨hi, rfl⟩ := rngL_get hx
    refine ⟨hi, fun w H2 hw => ?_⟩
    obtain ⟨rfl, rfl⟩ := hw
    exact ⟨G', .refl v, .int _⟩, by rw [rngL_len]; exact Nat.le_refl _⟩
theorem it_rng (h : EA K pen H0 tl L fun ds => ∃ j : Int, ds = [.int j] ∧ -(2 ^ 62) ≤ j ∧ j < 2 ^ 62 ∧ P (rngL 0 j.toNat)) : IT K pen H0 (iRng1 tl) L P := fun σ G H e R r => h σ G H e _ fun vs ds G1 H1 go hd ⟨j, hds, h1, h2, p⟩ => by
  subst hds
  cases hd with
  | cons hd hd2 =>
    cases hd2
    cases hd
    exact ⟨j, rfl, h1, h2, r _ G1 H1 _ go (wlk_rng _ _ _) p⟩
/-- enumerate(list) -/
def enumL (ds : List PyData) : List PyData := ds.mapIdx fun i x => .tuple [.int (i : Nat), x]
theorem enumL_get {ds : List PyData} {i : Nat} {x : PyData} (h : (enumL ds)[i]? = some x) : ∃ y, ds[i]? = some y ∧ x = .tuple [.int (i : Nat), y] := by
  unfold enumL at h
  rw [List.getElem?_mapIdx] at h
  cases e : ds[i]? with
  | none => rw [e] at h; cases h
  | some y => rw [e] at h; exact ⟨y, rfl, (Option.some.inj h).symm⟩
theorem enumL_len (ds : List PyData) : (enumL ds).length = ds.length := by unfold enumL; rw [List.length_mapIdx]
theorem it_enum (h : EA K pen H0 tl L fun es => ∃ ds, es = [.list ds] ∧ P (enumL ds)) : IT K pen H0 (iEnum K tl) L P := fun σ G H e R r => h σ G H e _ fun vs es G1 H1 go hd ⟨ds, hds, p⟩ => by
  subst hds
  cases hd with
  | cons hd hd2 =>
    cases hd2
    cases hd with
    | lst hs ha =>
      rename_i a xs
      refine ⟨a, xs, rfl, sqL_mono go.vw.vw hs, r _ G1 H1 _ go (fun G' H' s v => ⟨fun i x hx => ?_, ?_⟩) p⟩
      · have z := sqL_mono (s.trans v.vw) hs
        obtain ⟨y', hy', rfl⟩ := enumL_get hx
        obtain ⟨y, hy, dy⟩ := dpa_get ha hy'
        refine ⟨⟨xs, y, z, hy⟩, fun w H2 hw => ?_⟩
        obtain ⟨T, u, rfl, hT, rfl, f⟩ := hw
        have e1 : u = y := Option.some.inj ((f _ z).symm.trans hy)
        subst e1
        have g2 := Go.new v (o := .tup [.int (i : Nat), u]) hT
        exact ⟨_, g2, .tup (.inl (.inl upd_same)) (.cons (.int _) (.cons (dp_mono (s.trans g2.gg) _ _ dy) .nil))⟩
      · exact ⟨xs, sqL_mono (s.trans v.vw) hs, by rw [dpa_len ha, enumL_len]; exact Nat.le_refl _⟩
/-- zip -/
def zipL (as bs : List PyData) : List PyData := (as.zip bs).map fun p => .tuple [p.1, p.2]
theorem zipL_len (as bs : List PyData) : (zipL as bs).length = min as.length bs.length := by unfold zipL; rw [List.length_map, List.length_zip]
theorem zipL_get {as bs : List PyData} {i : Nat} {x : PyData} (h : (zipL as bs)[i]? = some x) : ∃ a b, as[i]? = some a ∧ bs[i]? = some b ∧ x = .tuple [a, b] := by
  unfold zipL at h
  rw [List.getElem?_map] at h
  cases e : (as.zip bs)[i]? with
  | none => rw [e] at h; cases h
  | some y =>
    rw [e] at h
    obtain ⟨h1, h2⟩ := List.getElem?_zip_eq_some.mp e
    exact ⟨y.1, y.2, h1, h2, (Option.some.inj h).symm⟩
theorem it_zip (h : EA K pen H0 tl L fun es => ∃ as bs, (es = [.tuple as, .tuple bs] ∨ es = [.list as, .list bs]) ∧ P (zipL as bs)) : IT K pen H0 (RZ.iZipA K tl) L P := fun σ G H e R r => h σ G H e _ fun vs es G1 H1 go hd ⟨as, bs, hds, p⟩ => by
  rcases hds with rfl | rfl
  · cases hd with
    | cons hd hd2 =>
      cases hd2 with
      | cons hd3 hd4 =>
        cases hd4
        cases hd with
        | tup hs ha =>
          cases hd3 with
          | tup hs' ha' =>
            rename_i a xs a' ys
            refine ⟨a, a', xs, ys, rfl, .inr ⟨sqT_mono go.vw.vw hs, sqT_mono go.vw.vw hs', r _ G1 H1 _ go (fun G' H' s v => ⟨fun i x hx => ?_, ?_⟩) p⟩⟩
            · have z := sqT_mono (s.trans v.vw) hs
              have z' := sqT_mono (s.trans v.vw) hs'
              obtain ⟨x1, x2, hx1, hx2, rfl⟩ := zipL_get hx
              obtain ⟨y1, hy1, dy1⟩ := dpa_get ha hx1
              obtain ⟨y2, hy2, dy2⟩ := dpa_get ha' hx2
              refine ⟨⟨xs, ys, y1, y2, z, z', hy1, hy2⟩, fun w H2 hw => ?_⟩
              obtain ⟨T, u1, u2, rfl, hT, rfl, f1, f2⟩ := hw
              have e1 : u1 = y1 := Option.some.inj ((f1 _ z).symm.trans hy1)
              have e2 : u2 = y2 := Option.some.inj ((f2 _ z').symm.trans hy2)
              subst e1 e2
              have g2 := Go.new v (o := .tup [u1, u2]) hT
              exact ⟨_, g2, .tup (.inl (.inl upd_same)) (.cons (dp_mono (s.trans g2.gg) _ _ dy1) (.cons (dp_mono (s.trans g2.gg) _ _ dy2) .nil))⟩
            · refine ⟨xs, ys, sqT_mono (s.trans v.vw) hs, sqT_mono (s.trans v.vw) hs', ?_⟩
              rw [dpa_len ha, dpa_len ha', zipL_len]
              omega
  · cases hd with
    | cons hd hd2 =>
      cases hd2 with
      | cons hd3 hd4 =>
        cases hd4
        cases hd with
        | lst hs ha =>
          cases hd3 with
          | lst hs' ha' =>
            rename_i a xs a' ys
            refine ⟨a, a', xs, ys, rfl, .inl ⟨sqL_mono go.vw.vw hs, sqL_mono go.vw.vw hs', r _ G1 H1 _ go (fun G' H' s v => ⟨fun i x hx => ?_, ?_⟩) p⟩⟩
            · have z := sqL_mono (s.trans v.vw) hs
              have z' := sqL_mono (s.trans v.vw) hs'
              obtain ⟨x1, x2, hx1, hx2, rfl⟩ := zipL_get hx
              obtain ⟨y1, hy1, dy1⟩ := dpa_get ha hx1
              obtain ⟨y2, hy2, dy2⟩ := dpa_get ha' hx2
              refine ⟨⟨xs, ys, y1, y2, z, z', hy1, hy2⟩, fun w H2 hw => ?_⟩
              obtain ⟨T, u1, u2, rfl, hT, rfl, f1, f2⟩ := hw
              have e1 : u1 = y1 := Option.some.inj ((f1 _ z).symm.trans hy1)
              have e2 : u2 = y2 := Option.some.inj ((f2 _ z').symm.trans hy2)
              subst e1 e2
              have g2 := Go.new v (o := .tup [u1, u2]) hT
              exact ⟨_, g2, .tup (.inl (.inl upd_same)) (.cons (dp_mono (s.trans g2.gg) _ _ dy1) (.cons (dp_mono (s.trans g2.gg) _ _ dy2) .nil))⟩
            · refine ⟨xs, ys, sqL_mono (s.trans v.vw) hs, sqL_mono (s.trans v.vw) hs', ?_⟩
              rw [dpa_len ha, dpa_len ha', zipL_len]
              omega
/-! ### for, over anything that is walked -/
theorem s_forI (h : IT K pen H0 ti L fun xs => ∃ I : Nat → Lv → Prop, Wk I 0 L ∧ (∀ (i : Nat) x L', xs[i]? = some x → I i L' → GT K pen H0 g x L' fun L2 => S K pen H0 t L2 { D with nx := Wk I (i + 1), ct := Wk I (i + 1), bk := D.nx }) ∧ (∀ L', I xs.length L' → ∀ L4, Sub L' L4 → D.nx L4)) :
    S K pen H0 (tFor ti g t) L D := fun σ G H N e n1 n2 n3 n4 n5 n6 => h σ G H e _ fun J G1 H1 xs go w ⟨I, i0, is, id⟩ => by
  have x1 := e.gx go
  refine ⟨fun i m σ' H' => m = xs.length - i ∧ i ≤ xs.length ∧ ∃ G' L', Gx pen H0 G1 H1 G' H' ∧ Ev K pen H0 G' H' σ' L' ∧ I i L', ⟨xs.length, rfl, Nat.zero_le _, ?_⟩, ?_⟩
  · obtain ⟨L3, s, hI⟩ := i0
    exact ⟨G1, L3, .refl, (e.go go).sub s, hI⟩
  rintro i m σ1 H2 ⟨rfl, hi, G2, L2, x2, e2, q2⟩
  obtain ⟨w1, w2⟩ := w G2 H2 x2.gg e2.vw
  by_cases hlt : i < xs.length
  · obtain ⟨k1, k2⟩ := w1 i _ (List.getElem?_eq_getElem hlt)
    refine .inr ⟨k1, fun σ' H' => ∃ G' L', Gx pen H0 G1 H1 G' H' ∧ Ev K pen H0 G' H' σ' L' ∧ Wk I (i + 1) L', fun σ' H' ⟨G', L', a, b, L3, s, c⟩ => ⟨xs.length - (i + 1), by omega, rfl, hlt, G', L3, a, b.sub s, c⟩, fun v H3 hy => ?_⟩
    obtain ⟨G3, g3, d3⟩ := k2 v H3 hy
    have x3 := x2.trans (e2.gx g3)
    refine is i _ L2 (List.getElem?_eq_getElem hlt) q2 σ1 G3 H3 v (e2.go g3) d3 _ fun σ4 L4 e4 h4 => ?_
    exact h4 σ4 G3 H3 _ e4 (fun σ5 G5 H5 L5 x5 e5 q5 => ⟨G5, L5, x3.trans x5, e5, q5⟩) (fun v d G5 H5 x5 vw hd q5 => n2 v d G5 H5 (x1.trans (x3.trans x5)) vw hd q5)
      (fun σ5 G5 H5 L5 x5 e5 q5 => n1 σ5 G5 H5 L5 (x1.trans (x3.trans x5)) e5 q5) (fun σ5 G5 H5 L5 x5 e5 q5 => ⟨G5, L5, x3.trans x5, e5, q5⟩) (fun v d G5 H5 x5 vw hd q5 => n5 v d G5 H5 (x1.trans (x3.trans x5)) vw hd q5) (fun l ho o G5 H5 x5 vw h1 h2 h3 h4 q5 => n6 l ho o G5 H5 (x1.trans (x3.trans x5)) vw h1 h2 h3 h4 q5)
  · have e1 : i = xs.length := by omega
    subst e1
    exact .inl ⟨w2, n1 σ1 G2 H2 L2 (x1.trans x2) e2 (id L2 q2 L2 (Sub.refl _))⟩
/-! ### targets within a comprehension -/
def Agree (vs : List Nat) (σ σ' : L2.St) : Prop := σ'.length = σ.length ∧ ∀ j, j ∉ vs → σ'[j]? = σ[j]?
theorem wipe_get (σ : L2.St) : ∀ (vs : List Nat) (j : Nat), (wipe σ vs)[j]? = if j ∈ vs then (if j < σ.length then some none else none) else σ[j]?
  | [], j => by simp [wipe]
  | v :: vs, j => by
    unfold wipe
    rw [List.getElem?_set, wipe_get σ vs j, wipe_length]
    by_cases h : v = j
    · subst h
      simp
    · rw [if_neg h]
      have : (j ∈ v :: vs) = (j ∈ vs) := by rw [List.mem_cons]; exact propext ⟨fun z => z.resolve_left fun q => h q.symm, .inr⟩
      simp only [this]
theorem wipe_agree {vs : List Nat} {σ σ' : L2.St} (h : Agree vs (wipe σ vs) σ') : wipe σ' vs = wipe σ vs := by
  apply List.ext_getElem?
  intro j
  have hl := h.1
  rw [wipe_length] at hl
  rw [wipe_get, wipe_get, hl]
  by_cases hj : j ∈ vs
  · rw [if_pos hj, if_pos hj]
  · rw [if_neg hj, if_neg hj, h.2 j hj, wipe_get, if_neg hj]
def wipeL (L : Lv) : List Nat → Lv
  | [] => L
  | v :: vs => (wipeL L vs).set v none
theorem ev_wipe {G H : Hp} {σ : L2.St} (e : Ev K pen H0 G H σ L) : ∀ vs : List Nat, Ev K pen H0 G H (wipe σ vs) (wipeL L vs)
  | [] => e
  | v :: vs => (ev_wipe e vs).unset v
def GTw (K : PySem.W.Frag) (pen : Pc) (H0 : Hp) (vs : List Nat) (g : TG) (d : PyData) (L : Lv) (P : Lv → Prop) : Prop := ∀ (σ : L2.St) (G H : Hp) (v : V), Ev K pen H0 G H σ L → Dp K G v d → ∀ R : L2.St → Hp → Prop, (∀ σ' L', Agree vs σ σ' → Ev K pen H0 G H σ' L' → P L' → R σ' H) → g v σ H R
def GTws (K : PySem.W.Frag) (pen : Pc) (H0 : Hp) (vs : List Nat) (g : TGs) (ds : List PyData) (L : Lv) (P : Lv → Prop) : Prop := ∀ (σ : L2.St) (G H : Hp) (us : List V), Ev K pen H0 G H σ L → DpAll K G us ds → ∀ R : L2.St → Hp → Prop, (∀ σ' L', Agree vs σ σ' → Ev K pen H0 G H σ' L' → P L' → R σ' H) → g us σ H R
theorem gw_name {vs : List Nat} {i : Nat} {d : PyData} {P : Lv → Prop} (hi : i ∈ vs) (h : P (L.set i (some (.d d)))) : GTw K pen H0 vs (gName i) d L P := fun σ G H v e hd R r =>
  r _ _ ⟨List.length_set .., fun j hj => List.getElem?_set_ne fun (z : i = j) => hj (z ▸ hi)⟩ (e.set hd) h
theorem gw_tup {vs : List Nat} {n : Nat} {ds : List PyData} {P : Lv → Prop} (hn : ds.length = n) (h : GTws K pen H0 vs gs ds L P) : GTw K pen H0 vs (gTup K n gs) (.tuple ds) L P := fun σ G H v e hd R r => by
  cases hd with
  | tup hs ha => exact ⟨_, _, rfl, sqT_mono e.vw.vw hs, (dpa_len ha).trans hn, h σ G H _ e ha R r⟩
theorem gws_nil {vs : List Nat} {P : Lv → Prop} (h : P L) : GTws K pen H0 vs gNil [] L P := fun σ G H us e hd R r => by
  cases hd
  exact ⟨rfl, r _ _ ⟨rfl, fun _ _ => rfl⟩ e h⟩
theorem gws_cons {vs : List Nat} {d : PyData} {ds : List PyData} {P : Lv → Prop} (h : GTw K pen H0 vs g d L fun L' => GTws K pen H0 vs gs ds L' P) : GTws K pen H0 vs (gCons g gs) (d :: ds) L P := fun σ G H us e hd R r => by
  cases hd with
  | cons h1 h2 =>
    refine ⟨_, _, rfl, h σ G H _ e h1 _ fun σ' L' a e' h' => ?_⟩
    exact h' σ' G H _ e' h2 R fun σ2 L2 a2 e2 p2 => r σ2 L2 ⟨a2.1.trans a.1, fun j hj => (a2.2 j hj).trans (a.2 j hj)⟩ e2 p2
/-! ### a comprehension over anything that is walked -/
theorem el_lcI {vs : List Nat} {Pl : List PyData → Prop} (h : IT K pen H0 ti L fun xs => xs.length ≤ 100000 ∧ ∃ J : Nat → List PyData → Prop, J 0 [] ∧
    (∀ (i : Nat) x acc, xs[i]? = some x → J i acc → GTw K pen H0 vs g x (wipeL L vs) fun L2 => LcT K pen H0 tt te L2 acc (J (i + 1))) ∧ (∀ acc, J xs.length acc → Pl acc)) :
    EL K pen H0 (tLc ti g tt te vs) L Pl := fun σ G H e Q q => h σ G H e _ fun It G1 H1 xs go w ⟨hn, J, j0, js, je⟩ => fun Dl hD => by
  refine ⟨fun i m H' => m = xs.length - i ∧ i ≤ xs.length ∧ LcI K pen G1 H1 Dl J i H', ⟨xs.length, rfl, Nat.zero_le _, lc_start go.vw hD j0⟩, ?_⟩
  rintro i m H' ⟨rfl, hi, I⟩
  obtain ⟨G', us, acc, g1, h1, h2, h3, h4, h5⟩ := id I
  obtain ⟨w1, w2⟩ := w G' H' g1.gg g1.vw
  by_cases hlt : i < xs.length
  · obtain ⟨k1, k2⟩ := w1 i _ (List.getElem?_eq_getElem hlt)
    refine .inr ⟨k1, LcI K pen G1 H1 Dl J (i + 1), fun H2 I2 => ⟨xs.length - (i + 1), by omega, rfl, hlt, I2⟩, fun v H2 hv => ?_⟩
    obtain ⟨G2, g2, d2⟩ := k2 v H2 hv
    have np : ¬ IsPn pen Dl := fun p => go.vw.ok.there p hD
    have e2 := ev_wipe (((e.go go).go g1).go g2) vs
    refine js i _ acc (List.getElem?_eq_getElem hlt) h4 (wipe σ vs) G2 H2 v e2 d2 _ fun σ3 L3 ag e3 h6 => ⟨wipe_agree ag, ?_⟩
    exact lc_turn go.vw hD (by omega) (g1.trans g2) (g2.od Dl _ np h1) ((g2.nw Dl (by rw [h1]; exact fun z => by cases z)).trans h2) (dpa_mono g2.gg _ _ h3) h5 e3 h6
  · have e1 : i = xs.length := by omega
    subst e1
    exact .inl ⟨w2, lc_end go hD I je q⟩
theorem e_lcI {vs : List Nat} (h : IT K pen H0 ti L fun xs => xs.length ≤ 100000 ∧ ∃ J : Nat → List PyData → Prop, J 0 [] ∧
    (∀ (i : Nat) x acc, xs[i]? = some x → J i acc → GTw K pen H0 vs g x (wipeL L vs) fun L2 => LcT K pen H0 tt te L2 acc (J (i + 1))) ∧ (∀ acc, J xs.length acc → Pd (.list acc))) :
    E K pen H0 (tLc ti g tt te vs) L Pd := e_ofL (el_lcI h)
/-- the plain way: each item gives one, or none -/
theorem el_lcF {vs : List Nat} {Pl : List PyData → Prop} (f : Nat → PyData → Option PyData) (h : IT K pen H0 ti L fun xs => xs.length ≤ 100000 ∧
    (∀ (i : Nat) x, xs[i]? = some x → GTw K pen H0 vs g x (wipeL L vs) fun L2 => ET K pen H0 tt L2 fun b => (b = true → E K pen H0 te L2 fun d => f i x = some d) ∧ (b = false → f i x = none)) ∧ Pl ((xs.mapIdx f).filterMap id)) :
    EL K pen H0 (tLc ti g tt te vs) L Pl := by
  refine el_lcI (h.mono fun xs ⟨hn, hs, hp⟩ => ⟨hn, fun i acc => acc = ((xs.take i).mapIdx f).filterMap id, by simp, fun i x acc hx ha => ?_, fun acc ha => ?_⟩)
  · have key : ((xs.take (i + 1)).mapIdx f).filterMap id = ((xs.take i).mapIdx f).filterMap id ++ (f i x).toList := by
      obtain ⟨hlt, hg⟩ := List.getElem?_eq_some_iff.mp hx
      rw [List.take_succ_eq_append_getElem hlt, List.mapIdx_append, List.filterMap_append, hg]
      congr 1
      simp only [List.mapIdx_cons, List.mapIdx_nil, List.length_take]
      rw [Nat.min_eq_left (Nat.le_of_lt hlt)]
      simp only [Nat.zero_add]
      cases f i x <;> rfl
    intro σ G H v e hd R r
    refine hs i x hx σ G H v e hd R fun σ' L' ag e' p => r σ' L' ag e' (p.mono fun b pb => ⟨fun hb => (pb.1 hb).mono fun d hd => ?_, fun hb => ?_⟩)
    · show acc ++ [d] = _
      rw [ha, key, hd]; rfl
    · show acc = _
      rw [ha, key, pb.2 hb]; simp
  · have ha : acc = ((xs.take xs.length).mapIdx f).filterMap id := ha
    rw [List.take_length] at ha
    rw [ha]; exact hp
/-! ### all(..), any(..) over anything that is walked -/
theorem e_genI {pn : Option Pn} {ts : List Addr} {Tb : Addr} {go : Bool} {vs : List Nat} (hT : Tb ∈ ts) (h : IT K ⟨pn, ts⟩ H0 ti L fun xs => ∃ J : Nat → Prop, J 0 ∧
    (∀ (i : Nat) x, xs[i]? = some x → J i → GTw K ⟨pn, ts⟩ H0 vs g x (wipeL L vs) fun L2 => GnT K ⟨pn, ts⟩ H0 go tt te L2 (J (i + 1)) Pd) ∧ (J xs.length → Pd (.bool go))) :
    E K ⟨pn, ts⟩ H0 (_root_.Gx.tGen Tb go ti g tt te vs) L Pd := fun σ G H e Q q => h σ G H e _ fun It G1 H1 xs gg w ⟨J, j0, js, je⟩ => by
  refine ⟨gg.vw.ok.2 Tb hT, fun H2 htab => ?_⟩
  have g2 := Go.tab gg.vw hT htab
  refine ⟨fun i m H' => m = xs.length - i ∧ i ≤ xs.length ∧ J i ∧ ∃ G', Go ⟨pn, ts⟩ G1 H2 G' H', ⟨xs.length, rfl, Nat.zero_le _, j0, G1, .refl g2.vw⟩, ?_⟩
  rintro i m H' ⟨rfl, hi, hJ, G', g'⟩
  have q' : ∀ v d G' H', Go ⟨pn, ts⟩ G1 H2 G' H' → Dp K G' v d → Pd d → Q v H' := fun v d G' H' g hd p => q v d G' H' ((gg.trans g2).trans g) hd p
  obtain ⟨w1, w2⟩ := w G' H' g'.gg g'.vw
  by_cases hlt : i < xs.length
  · obtain ⟨k1, k2⟩ := w1 i _ (List.getElem?_eq_getElem hlt)
    refine .inr ⟨k1, fun H3 => J (i + 1) ∧ ∃ G', Go ⟨pn, ts⟩ G1 H2 G' H3, fun H3 ⟨k1, k2⟩ => ⟨xs.length - (i + 1), by omega, rfl, hlt, k1, k2⟩, fun y H3 hy => ?_⟩
    obtain ⟨G3, g3, d3⟩ := k2 y H3 hy
    refine js i _ (List.getElem?_eq_getElem hlt) hJ (wipe σ vs) G3 H3 y (ev_wipe ((((e.go gg).go g2).go g').go g3) vs) d3 _ fun σ4 L4 ag e4 h4 => ⟨wipe_agree ag, ?_⟩
    exact gn_turn (g'.trans g3) e4 h4 (fun G3 H3 g3 k => ⟨k, G3, g3⟩) q'
  · have e1 : i = xs.length := by omega
    subst e1
    exact .inl ⟨w2, q' _ _ G' H' g' (.bl _) (je hJ)⟩
/-- all(f(x) ..) -/
theorem e_allI {pn : Option Pn} {ts : List Addr} {Tb : Addr} {vs : List Nat} (f : PyData → Bool) (hT : Tb ∈ ts) (h : IT K ⟨pn, ts⟩ H0 ti L fun xs => (∀ x ∈ xs, GTw K ⟨pn, ts⟩ H0 vs g x (wipeL L vs) fun L2 => E K ⟨pn, ts⟩ H0 te L2 fun d => d = .bool (f x)) ∧ Pd (.bool (xs.all f))) :
    E K ⟨pn, ts⟩ H0 (_root_.Gx.tGen Tb true ti g tYes te vs) L Pd := by
  refine e_genI hT (h.mono fun xs ⟨hx, hp⟩ => ⟨fun i => xs.all f = (xs.drop i).all f, rfl, fun i x hi hJ => ?_, fun hJ => ?_⟩)
  · intro σ G H v e hd R r
    obtain ⟨hlt, hg⟩ := List.getElem?_eq_some_iff.mp hi
    refine hx x (List.mem_of_getElem? hi) σ G H v e hd R fun σ' L' ag e' p => r σ' L' ag e' (et_yes ⟨fun _ => p.mono fun d e2 => ⟨f x, e2, fun hk => ?_, fun hk => ?_⟩, fun z => by cases z⟩)
    · rw [hJ, List.drop_eq_getElem_cons hlt, List.all_cons, hg, hk, Bool.true_and]
    · rw [hJ, List.drop_eq_getElem_cons hlt, List.all_cons, hg, hk] at hp
      exact hp
  · rw [hJ, List.drop_eq_nil_of_le (Nat.le_refl _)] at hp
    exact hp
/-! ### own lists kept from now on -/
end
end Dl

set_option Elab.async false
set_option linter.all false
set_option maxRecDepth 100000
set_option maxHeartbeats 4000000
namespace Dl
open PySem PySem.Spec PyProof.Rows L2
/-! ### the law's beginning, the script as data -/
section
variable {K : PySem.W.Frag} {pen : Pc} {H0 : Hp} {L : Lv} {P : PyData → Prop} {te ta ti ty tx tv : TE} {tl : TA} {tt : TT} {t : TS} {D : Dn} {Pb : Bool → Prop} {Pl : List PyData → Prop}
theorem script_view {H : Hp} {a : Addr} {ns : List Int} (hS : SqL K H a (ns.map V.int)) (ok : POk pen H) (np : Rd H a (.lst (ns.map V.int)) → ∀ p, pen.pen = some p → p.a ≠ a) : ∃ G, Vw pen G H ∧ Dp K G (.ref a) (.list (intsL ns)) := by
  rcases hS with r | k
  · refine ⟨fun b => if b = a then H a else none, ⟨fun b o h => ?_, fun b q => ?_, ok⟩, .lst (.inl ?_) (ints_dpa ns)⟩
    · by_cases z : b = a
      · rw [show (if b = a then H a else none) = H a from if_pos z] at h; rw [z]; exact h
      · rw [show (if b = a then H a else none) = none from if_neg z] at h; cases h
    · refine if_neg fun z => ?_
      rcases q with ⟨p, hp, e⟩ | hP
      · exact np r p hp (e.symm.trans z)
      · obtain ⟨ps, e, _⟩ := ok.2 b hP
        rw [z] at e
        rcases r with r | ⟨o, r⟩
        · rw [r] at e; cases e
        · rw [r] at e; cases e
    · rcases r with r | ⟨o, r⟩
      · exact .inl ((if_pos rfl).trans r)
      · exact .inr ⟨o, (if_pos rfl).trans r⟩
  · exact ⟨fun _ => none, ⟨fun _ _ h => (nomatch h), fun _ _ => rfl, ok⟩, .lst (.inr k) (ints_dpa ns)⟩
theorem law_start {ts : List Addr} {N : Ends} {σ : L2.St} {H1 : Hp} {a : Addr} {ns : List Int} (hS : SqL K H1 a (ns.map V.int)) (hlen : σ.length = L.length)
    (hL : ∀ (i : Nat) av, L[i]? = some (some av) → av = .d (.list (intsL ns)) ∧ σ[i]? = some (some (.ref a))) (hts : ∀ P ∈ ts, _root_.Gx.TabX H1 P)
    (h : S K ⟨none, ts⟩ H1 t L { nx := fun _ => False, rt := fun d => d = .bool true }) (q : ∀ H', N.rt (.bl true) H') : t N σ H1 := by
  have ok : POk ⟨none, ts⟩ H1 := ⟨fun p' e => (by cases e), hts⟩
  obtain ⟨G, v, d⟩ := script_view hS ok (fun _ p' e => by cases e)
  refine h σ G H1 N ⟨v, ok, fun _ h => h, hlen, fun i av hi => ?_, fun i j ds es l h1 => ?_⟩ (fun _ _ _ _ _ _ z => z.elim) (fun v d G' H' _ _ hd e => ?_) (fun _ _ _ _ _ _ z => z.elim) (fun _ _ _ _ _ _ z => z.elim) (fun _ _ _ _ _ _ _ z => z.elim) (fun _ _ _ _ _ _ _ _ _ _ _ z => z.elim)
  · obtain ⟨rfl, e⟩ := hL i av hi
    exact ⟨_, e, d⟩
  · cases (hL i _ h1).1
  · subst e
    cases hd
    exact q H'
/-! ### a list of one int becomes the spring -/
/-! ### a list as a test -/
theorem kx_enum {X : Cx} {e : Expr} {p pos tpos : Pos} {elts : List Expr} {kk : Nat} (h : X.K = K) (hg : Gl X "enumerate") (hm : X.mg "enumerate" = none) (ha : PA X [e] tl) (hs : starEach [e] X.env = [(false, eval e X.env)] := by rfl) :
    PI X (.Tuple elts kk tpos) (.Call (.Name "enumerate" p) [e] [] pos) (iEnum K tl) := by subst h; exact pi_enum hg hm ha hs
/-! ### sorted(list of ints) -/
/-! ### dicts of one's own -/
section
variable {κ : Type} [DecidableEq κ]
def valD (m : List (κ × PyData)) (k : κ) : Option PyData := (m.find? fun kv => decide (kv.1 = k)).map (·.2)
def putD (m : List (κ × PyData)) (k : κ) (d : PyData) : List (κ × PyData) := if (m.any fun kv => decide (kv.1 = k)) = true then m.map (fun kv => if kv.1 = k then (kv.1, d) else kv) else m ++ [(k, d)]
end
theorem r_ipI {f : Int → Int → Int} {i j : Int} (p : P (.int (f i j))) : R2d K pen (ipI f) (.int i) (.int j) P := fun x y G H v hx hy Q q => by
  cases hx
  cases hy
  exact ⟨i, j, rfl, rfl, q _ _ G H (.refl v) (.int _) p⟩
theorem s_cut {u : TS} (M : Lv → Prop) (h : S K pen H0 t L { D with nx := M }) (h2 : ∀ L', M L' → S K pen H0 u L' D) : S K pen H0 (tSeq t u) L D :=
  s_seq (h.mono (fun L h => h2 L h) (fun _ h => h) (fun _ h => h) (fun _ h => h))
end
end Dl

set_option Elab.async false
set_option linter.all false
set_option maxRecDepth 100000
set_option maxHeartbeats 4000000
namespace Dl
open PySem PySem.Spec PyProof.Rows L2
/-! ### objects handed in and told -/
abbrev Ag := Sum PyData OO
def ArgOk (K : PySem.W.Frag) (c : Pc) (G H : Hp) (v : V) : Ag → Prop
  | .inl d => Dp K G v d
  | .inr o => ∃ l ho, v = .ref l ∧ H l = some ho ∧ ¬ IsPn c l ∧ OwnOk K G l ho o
def ArgsOk (K : PySem.W.Frag) (c : Pc) (G H : Hp) : List V → List Ag → Prop := Paired (ArgOk K c G H)
section
variable {K : PySem.W.Frag} {pen : Pc} {H0 : Hp} {L : Lv} {P : PyData → Prop} {te ta ti ty tx tv : TE} {tl tr : TA} {tt : TT} {t : TS} {D : Dn} {Pb : Bool → Prop} {Pl : List PyData → Prop} {Po : OO → Prop} {Pa : List Ag → Prop}
theorem ArgOk.go {G H G' H' : Hp} (g : Go pen G H G' H') {v : V} {a : Ag} (h : ArgOk K pen G H v a) : ArgOk K pen G' H' v a := by
  cases a with
  | inl d => exact dp_mono g.gg _ _ h
  | inr o =>
    obtain ⟨l, ho, e, h1, h2, h3⟩ := h
    exact ⟨l, ho, e, g.od _ _ h2 h1, h2, h3.mono g.gg⟩
/-- a new object, not yet data -/
def EK (K : PySem.W.Frag) (pen : Pc) (H0 : Hp) (te : TE) (L : Lv) (Po : OO → Prop) : Prop := ∀ (σ : L2.St) (G H : Hp), Ev K pen H0 G H σ L → ∀ Q : VK, (∀ l ho o G' H', Go pen G H G' H' → H' l = some ho → G' l = none → H l = none → OwnOk K G' l ho o → Po o → Q (.ref l) H') → te σ H Q
def EAO (K : PySem.W.Frag) (pen : Pc) (H0 : Hp) (tl : TA) (L : Lv) (Pa : List Ag → Prop) : Prop := ∀ (σ : L2.St) (G H : Hp), Ev K pen H0 G H σ L → ∀ Q : List V → Hp → Prop, (∀ vs es G' H', Go pen G H G' H' → ArgsOk K pen G' H' vs es → Pa es → Q vs H') → tl σ H Q
theorem eao_nil (p : Pa []) : EAO K pen H0 tNil L Pa := fun σ G H e Q q => q [] [] G H (.refl e.vw) .nil p
theorem eao_d (h : E K pen H0 ta L fun a => EAO K pen H0 tr L fun es => Pa (.inl a :: es)) : EAO K pen H0 (tCons ta tr) L Pa := fun σ G H e Q q =>
  h σ G H e _ fun v a G1 H1 g1 d1 h1 => h1 σ G1 H1 (e.go g1) _ fun vs es G2 H2 g2 d2 p => q _ _ G2 H2 (g1.trans g2) (.cons (show ArgOk K pen G2 H2 v (.inl a) from dp_mono g2.gg _ _ d1) d2) p
theorem eao_rd {j : Nat} {o : OO} (hj : RdO L j o) (h : EAO K pen H0 tr L fun es => Pa (.inr o :: es)) : EAO K pen H0 (tCons (tVar j) tr) L Pa := fun σ G H e Q q => by
  have key : ∃ l ho, σ[j]? = some (some (.ref l)) ∧ H l = some ho ∧ ¬ IsPn pen l ∧ OwnOk K G l ho o := by
    rcases hj with hj | hj
    · obtain ⟨x, k1, l, vs, rfl, k3, k4, k5, k6⟩ := e.sl j _ hj
      exact ⟨l, vs, k1, k3, fun z => e.h0.there z k4, k6⟩
    · obtain ⟨x, k1, l, vs, rfl, k3, k4, k5, k6⟩ := e.sl j _ hj
      exact ⟨l, vs, k1, k3, k5, k6⟩
  obtain ⟨l, ho, k1, k2, k3, k4⟩ := key
  refine ⟨_, k1, h σ G H e _ fun vs es G2 H2 g2 d2 p => ?_⟩
  exact q _ _ G2 H2 g2 (.cons (ArgOk.go g2 (a := .inr o) ⟨l, ho, rfl, k2, k3, k4⟩) d2) p
/-! defs that tell a new object -/
def SpXN {α : Type} (K : PySem.W.Frag) (ts : List Addr) (Wf : α → Prop) (enc : α → List PyData) (res : α → OO → Prop) : Sp := fun vs H Q _ => ∃ (x : α) (G : Hp), Vw ⟨none, ts⟩ G H ∧ DpAll K G vs (enc x) ∧ Wf x ∧ ∀ l ho o G' H', Go ⟨none, ts⟩ G H G' H' → H' l = some ho → G' l = none → H l = none → OwnOk K G' l ho o → res x o → Q (.ref l) H'
theorem ek_call {α : Type} {pn : Option Pn} {ts : List Addr} {Wf : α → Prop} {enc : α → List PyData} {res : α → OO → Prop} {X : XK} (h : EA K ⟨pn, ts⟩ H0 tl L fun ds => ∃ x, ds = enc x ∧ Wf x ∧ ∀ o, res x o → Po o) : EK K ⟨pn, ts⟩ H0 (tCall (SpXN K ts Wf enc res) [] X tl) L Po := fun σ G H e Q q =>
  h σ G H e _ fun vs ds G1 H1 go hd ⟨x, hx, h1, h2⟩ => ⟨x, G1, go.vw.plain, by rw [List.append_nil, ← hx]; exact hd, h1, fun l ho o G' H' go2 k1 k2 k3 k4 p => by
    refine q l ho o G' H' (go.trans (go2.lift go.vw)) k1 k2 ?_ k4 (h2 o p)
    cases z : H l with
    | none => rfl
    | some u => exact absurd k3 (go.dom (by rw [z]; exact fun z => by cases z))⟩
theorem s_asgK {i : Nat} (h : EK K pen H0 te L fun o => D.nx (L.set i (some (.own o)))) : S K pen H0 (tAsg te (gName i)) L D := fun σ G H N e n1 _ _ _ _ _ =>
  h σ G H e _ fun l ho o G' H' g h1 h2 h3 h4 p => by
    have e1 := e.go g
    exact n1 _ G' H' _ (e.gx g) (e1.setOwn h1 (e.h0none h3) h2 (fun j es _ hj => e.oldOwn h3 j es hj) h4) p
theorem s_retO {j : Nat} {o : OO} (hj : L[j]? = some (some (.own o))) (h : D.ro o) : S K pen H0 (tRet (tVar j)) L D := fun σ G H N e _ _ _ _ _ n6 => by
  obtain ⟨x, k1, l, vs, rfl, k3, k4, k5, k6⟩ := e.sl j _ hj
  exact ⟨_, k1, n6 l vs o G H .refl e.vw k3 k4 k5 k6 h⟩
/-! defs to which objects are handed -/
def SpXO {α : Type} (K : PySem.W.Frag) (ts : List Addr) (Wf : α → Prop) (enc : α → List Ag) (res : α → PyData → Prop) : Sp := fun vs H Q _ => ∃ (x : α) (G : Hp), Vw ⟨none, ts⟩ G H ∧ ArgsOk K ⟨none, ts⟩ G H vs (enc x) ∧ Wf x ∧ ∀ v d G' H', Go ⟨none, ts⟩ G H G' H' → Nd K (vnew H G' H') v d → res x d → Q v H'
theorem args_plain {pn : Option Pn} {ts : List Addr} {G H : Hp} {vs : List V} {es : List Ag} (h : ArgsOk K ⟨pn, ts⟩ G H vs es) : ArgsOk K ⟨none, ts⟩ G H vs es := Paired.mapP h fun v a z => by
  cases a with
  | inl d => exact z
  | inr o =>
    obtain ⟨l, ho, e, h1, h2, h3⟩ := z
    exact ⟨l, ho, e, h1, fun q => h2 (by rcases q with ⟨p, q, _⟩ | q; cases q; exact .inr q), h3⟩
theorem en_callO {α : Type} {pn : Option Pn} {ts : List Addr} {Wf : α → Prop} {enc : α → List Ag} {res : α → PyData → Prop} {X : XK} (h : EAO K ⟨pn, ts⟩ H0 tl L fun es => ∃ x, es = enc x ∧ Wf x ∧ ∀ d, res x d → P d) : EN K ⟨pn, ts⟩ H0 (tCall (SpXO K ts Wf enc res) [] X tl) L P := fun σ G H e Q q =>
  h σ G H e _ fun vs es G1 H1 go hd ⟨x, hx, h1, h2⟩ => ⟨x, G1, go.vw.plain, by rw [List.append_nil, ← hx]; exact args_plain hd, h1, fun v d G' H' go2 hd2 p =>
    q v d G' H' (go.trans (go2.lift go.vw)) (nd_mono (vnew_call (G1 := G1) (e.go go).dom) _ _ hd2) (h2 d p)⟩
def agA : Ag → AV
  | .inl d => .d d
  | .inr o => .bor o
def st0O (N : List Str) (es : List Ag) : Lv := es.map (fun a => some (agA a)) ++ List.replicate (N.length - es.length) none
theorem args_get {G H : Hp} : ∀ {vs : List V} {es : List Ag} {i : Nat} {a : Ag}, ArgsOk K pen G H vs es → es[i]? = some a → ∃ v, vs[i]? = some v ∧ ArgOk K pen G H v a
  | _, _, _, _, .nil, e => by simp at e
  | _, _, 0, _, .cons (a := v) h _, e => by
    have e' := Option.some.inj e
    subst e'
    exact ⟨v, rfl, h⟩
  | _, _, i + 1, a, .cons _ t, e => args_get (i := i) (a := a) t e
theorem args_len {G H : Hp} {vs : List V} {es : List Ag} (h : ArgsOk K pen G H vs es) : vs.length = es.length := Paired.length h
theorem ev_startO {ts : List Addr} {N : List Str} {vs : List V} {es : List Ag} {G H : Hp} (h : ArgsOk K ⟨none, ts⟩ G H vs es) (v : Vw ⟨none, ts⟩ G H) : Ev K ⟨none, ts⟩ H G H (start N vs) (st0O N es) := by
  have get : ∀ (i : Nat) av, (st0O N es)[i]? = some (some av) → ∃ u a, av = agA a ∧ (start N vs)[i]? = some (some u) ∧ ArgOk K ⟨none, ts⟩ G H u a := fun i av hi => by
    unfold st0O at hi
    unfold L2.start
    by_cases q : i < es.length
    · rw [List.getElem?_append_left (by rw [List.length_map]; exact q), List.getElem?_map] at hi
      cases hd : es[i]? with
      | none => rw [hd] at hi; cases hi
      | some a =>
        rw [hd] at hi
        obtain ⟨u, h1, h2⟩ := args_get h hd
        refine ⟨u, a, (Option.some.inj (Option.some.inj hi)).symm, ?_, h2⟩
        rw [List.getElem?_append_left (by rw [List.length_map, args_len h]; exact q), List.getElem?_map, h1]
        rfl
    · rw [List.getElem?_append_right (by rw [List.length_map]; omega)] at hi
      have z := List.mem_of_getElem? hi
      have z2 := (List.mem_replicate.mp z).2
      cases z2
  refine ⟨v, v.ok, fun _ h => h, ?_, fun i av hi => ?_, fun i j ds' es' l h1 _ _ _ => ?_⟩
  · unfold L2.start st0O
    rw [List.length_append, List.length_append, List.length_map, List.length_map, List.length_replicate, List.length_replicate, args_len h]
  · obtain ⟨u, a, rfl, h1, h2⟩ := get i av hi
    refine ⟨u, h1, ?_⟩
    cases a with
    | inl d => exact h2
    | inr o =>
      obtain ⟨l, ho, e, k1, k2, k3⟩ := h2
      exact ⟨l, ho, e, k1, k1, k2, k3⟩
  · obtain ⟨u, a, e, _⟩ := get i _ h1
    cases a <;> cases e
end
section
variable {P : Program} {w : World} {K : PySem.W.Frag} {mg : Str → Option Value} {base : Heap}
theorem fnXN {α : Type} {x qual : Str} {st : Stmt} {f : Addr} {fd : FuncData} {N ps : List Str} {k : Nat} {ts : List Addr} {Wf : α → Prop} {enc : α → List PyData} {res : α → OO → Prop} (F : Fun K x qual st f fd) (S0 : FnScope N ps (defScope st)) (hl : ∀ x, Wf x → (enc x).length = ps.length)
    (hbody : ∀ (cdv : Value) (A : Around) (outer : List Env) (s : Shared) (H : Hp) (E : XK), Room k (A.deeper (envOfC qual (defScope st) s.heap.objs.size f cdv)) →
      ∃ t, PSs (cxOf CX0 P w K mg base N qual (defScope st) f cdv A outer s H E).nox (defBody st) t ∧ ∀ x, Wf x → S K ⟨none, ts⟩ H t (st0 N (enc x)) { nx := fun _ => False, rt := fun _ => False, ro := res x }) : FnOk P w K mg base CX0 (k + 1) f fd ps (SpXN K ts Wf enc res) := by
  refine F.ok S0 (fun vs H Q E h => ?_) (fun cdv A outer s H vs Q E hr h => ?_)
  · obtain ⟨x, G, _, h1, h2, _⟩ := h
    rw [dpa_len h1]
    exact hl x h2
  · obtain ⟨x, G, v, h1, h2, q⟩ := h
    obtain ⟨t, ht, hS⟩ := hbody cdv A outer s H E hr
    refine ⟨t, ht, hS x h2 (L2.start N vs) G H _ (ev_start h1 v) (fun _ _ _ _ _ _ z => z.elim) (fun _ _ _ _ _ _ _ z => z.elim) (fun _ _ _ _ _ _ z => z.elim) (fun _ _ _ _ _ _ z => z.elim) (fun _ _ _ _ _ _ _ z => z.elim) (fun l ho o G' H' x vw k1 k2 k3 k4 p => ?_)⟩
    exact q l ho o G' H' ⟨x.gg, x.nw, fun a o hp e => x.od a o hp (by rw [e]; exact fun z => by cases z) e, vw⟩ k1 k3 k2 k4 p
theorem fnXO {α : Type} {x qual : Str} {st : Stmt} {f : Addr} {fd : FuncData} {N ps : List Str} {k : Nat} {ts : List Addr} {Wf : α → Prop} {enc : α → List Ag} {res : α → PyData → Prop} (F : Fun K x qual st f fd) (S0 : FnScope N ps (defScope st)) (hl : ∀ x, Wf x → (enc x).length = ps.length)
    (hbody : ∀ (cdv : Value) (A : Around) (outer : List Env) (s : Shared) (H : Hp) (E : XK), Room k (A.deeper (envOfC qual (defScope st) s.heap.objs.size f cdv)) →
      ∃ t, PSs (cxOf CX0 P w K mg base N qual (defScope st) f cdv A outer s H E).nox (defBody st) t ∧ ∀ x, Wf x → S K ⟨none, ts⟩ H t (st0O N (enc x)) { nx := fun _ => False, rt := fun _ => False, rn := res x }) : FnOk P w K mg base CX0 (k + 1) f fd ps (SpXO K ts Wf enc res) := by
  refine F.ok S0 (fun vs H Q E h => ?_) (fun cdv A outer s H vs Q E hr h => ?_)
  · obtain ⟨x, G, _, h1, h2, _⟩ := h
    rw [args_len h1]
    exact hl x h2
  · obtain ⟨x, G, v, h1, h2, q⟩ := h
    obtain ⟨t, ht, hS⟩ := hbody cdv A outer s H E hr
    refine ⟨t, ht, hS x h2 (L2.start N vs) G H _ (ev_startO h1 v) (fun _ _ _ _ _ _ z => z.elim) (fun _ _ _ _ _ _ _ z => z.elim) (fun _ _ _ _ _ _ z => z.elim) (fun _ _ _ _ _ _ z => z.elim) (fun v d G' H' x vw hd p => ?_) (fun _ _ _ _ _ _ _ _ _ _ _ z => z.elim)⟩
    exact q v d G' H' ⟨x.gg, x.nw, fun a o hp e => x.od a o hp (by rw [e]; exact fun z => by cases z) e, vw⟩ hd p
end
end Dl

set_option Elab.async false
set_option linter.all false
set_option maxRecDepth 100000
set_option maxHeartbeats 4000000
namespace Dl
open PySem PySem.Spec PyProof.Rows L2
/-! ### sorted(list of pairs of ints): the same pairs in some order -/
def rSortPS (K : PySem.W.Frag) : List V → Hp → VK → Prop := fun us H Q => ∃ b zs, us = [V.ref b] ∧ SqL K H b zs ∧ (∀ z ∈ zs, ∃ t i j, z = V.ref t ∧ SqT K H t [.int i, .int j]) ∧ ∀ ws r, ws.Perm zs → H r = none → Q (.ref r) (upd H r (.lst ws))
section
variable {X : Cx}
end
abbrev pairD (p : Int × Int) : PyData := .tuple [.int p.1, .int p.2]
def pairsL (ps : List (Int × Int)) : List PyData := ps.map pairD
section
variable {K : PySem.W.Frag} {pen : Pc} {H0 : Hp} {L : Lv} {P : PyData → Prop} {te ta tb ti ty tx tv : TE} {tl tr : TA} {tt : TT} {t : TS} {D : Dn} {Pb : Bool → Prop} {Pl : List PyData → Prop}
theorem dpa_perm {α : Type} {G : Hp} {f : α → PyData} {vs ws : List V} (h : ws.Perm vs) : ∀ {ps : List α}, DpAll K G vs (ps.map f) → ∃ qs : List α, qs.Perm ps ∧ DpAll K G ws (qs.map f) := by
  induction h with
  | nil => intro ps h; exact ⟨ps, .refl _, h⟩
  | cons x _ ih =>
    intro ps h
    cases ps with
    | nil => cases h
    | cons p ps =>
      cases h with
      | cons h1 h2 =>
        obtain ⟨qs, a, b⟩ := ih h2
        exact ⟨p :: qs, a.cons p, .cons h1 b⟩
  | swap x y l =>
    intro ps h
    rcases ps with _ | ⟨p, _ | ⟨q, ps⟩⟩
    · cases h
    · cases h with
      | cons h1 h2 => cases h2
    · cases h with
      | cons h1 h2 =>
        cases h2 with
        | cons h3 h4 => exact ⟨q :: p :: ps, .swap p q ps, .cons h3 (.cons h1 h4)⟩
  | trans _ _ ih1 ih2 =>
    intro ps h
    obtain ⟨qs, a, b⟩ := ih2 h
    obtain ⟨rs, c, d⟩ := ih1 b
    exact ⟨rs, c.trans a, d⟩
theorem EL.out {G H G1 H1 : Hp} {σ : L2.St} {l : Addr} (e : Ev K pen H0 G H σ L) (go : Go pen G H G1 H1) (hl : H1 l = none) : H l = none := by
  cases z : H l with
  | none => rfl
  | some o => exact absurd hl (go.dom (by rw [z]; exact fun z => by cases z))
theorem el_sortP (h : E K pen H0 te L fun d => ∃ ps : List (Int × Int), d = .list (pairsL ps) ∧ ∀ qs : List (Int × Int), qs.Perm ps → Pl (pairsL qs)) : EL K pen H0 (tCB (rSortPS K) (tCons te tNil)) L Pl := fun σ G H e Q q => h σ G H e _ fun v d G1 H1 go hd ⟨ps, hds, p⟩ => by
  subst hds
  cases hd with
  | lst hs ha =>
    rename_i a xs
    refine ⟨a, xs, rfl, sqL_mono go.vw.vw hs, fun x hx => ?_, fun ys r hp hr => ?_⟩
    · obtain ⟨i, hi, hg⟩ := List.mem_iff_getElem.mp hx
      obtain ⟨d, hd, dd⟩ := dpa_getV ha (show xs[i]? = some x by rw [List.getElem?_eq_getElem hi, hg])
      unfold pairsL at hd
      rw [List.getElem?_map] at hd
      cases hq : ps[i]? with
      | none => rw [hq] at hd; cases hd
      | some pr =>
        rw [hq] at hd
        cases hd
        cases dd with
        | tup k1 k2 =>
          cases k2 with
          | cons k3 k4 =>
            cases k4 with
            | cons k5 k6 =>
              cases k6
              cases k3
              cases k5
              exact ⟨_, _, _, rfl, sqT_mono go.vw.vw k1⟩
    · obtain ⟨qs, h1, h2⟩ := dpa_perm hp ha
      have e1 := e.go go
      have g2 := Go.hid e1.vw (o := .lst ys) hr
      exact q r ys _ G1 _ (go.trans g2) upd_same (e1.gnone hr) (EL.out e go hr) h2 (p qs h1)
/-! ### max(list of ints), all(list of truths) -/
/-! ### list * int, tuple(range(n)), list(range(n)) -/
/-- list + list, new -/
theorem el_catL (h : E K pen H0 ta L fun a => E K pen H0 tb L fun b => ∃ as bs, a = .list as ∧ b = .list bs ∧ as.length + bs.length ≤ 100000 ∧ Pl (as ++ bs)) : EL K pen H0 (tOp (rCatL K) ta tb) L Pl := fun σ G H e Q q =>
  h σ G H e _ fun v a G1 H1 g1 d1 h1 => h1 σ G1 H1 (e.go g1) _ fun w b G2 H2 g2 d2 ⟨as, bs, ea, eb, hz, p⟩ => by
    subst ea eb
    have d1 := dp_mono g2.gg _ _ d1
    cases d1 with
    | lst hs ha =>
      cases d2 with
      | lst hs' ha' =>
        rename_i a1 xs a2 ys
        refine ⟨a1, a2, xs, ys, rfl, rfl, sqL_mono g2.vw.vw hs, sqL_mono g2.vw.vw hs', Nat.le_trans (by rw [dpa_len ha, dpa_len ha']; exact hz) (by decide : 100000 ≤ sizeLine), fun r hr => ?_⟩
        have e2 := (e.go g1).go g2
        have g3 := Go.hid e2.vw (o := .lst (xs ++ ys)) hr
        exact q r _ _ G2 _ ((g1.trans g2).trans g3) upd_same (e2.gnone hr) (EL.out e (g1.trans g2) hr) (dpa_app ha ha') p
end
end Dl

set_option Elab.async false
set_option linter.all false
set_option maxRecDepth 100000
set_option maxHeartbeats 4000000
/-! ### enumerate(tuple) -/
namespace Dl
open PySem PySem.Spec PyProof.Rows L2
abbrev enO (a : Addr) : Obj := { cls := .type "enumerate", data := .fields #[.none, .bool false, .ref a, rawInt 0, .none, .none] }
abbrev tiO (t : Addr) : Obj := { cls := .type "tuple_iterator", data := .fields #[.ref t, .int 0 0] }
theorem enumNewOne {v : Value} {o : Obj} {Hh : Heap → Prop} (B : Begins v o Hh) : Meets (Builtin.«enumerate.__new__» ⟨[.type "enumerate", v], []⟩) (fun _ R s => Hh s.heap ∧ R (.ok (.ret (.ref (s.heap.push o).objs.size))) { s with heap := (s.heap.push o).push (enO s.heap.objs.size) }) :=
  .of_wp fun prog w A R s hyp => by
    obtain ⟨hp, gl, dd, tok, out⟩ := s
    obtain ⟨hB, hR⟩ := hyp
    have sb := sub_enumerate
    have first : ∀ {A' : Around} {E : Value → Shared → Prop} {Q : Value → Shared → Prop}, Q (.ref hp.objs.size) ⟨hp.push o, gl, dd, tok, out⟩ → wpAny (model prog w) A' (pyIter v) Q E ⟨hp, gl, dd, tok, out⟩ := fun q => B.iter prog w _ _ ⟨hp, gl, dd, tok, out⟩ _ hB q
    wp_walk using first
    refine wpAny_stack_any fun frames => wpAny_pure ?_
    split
    · rename_i cl _ _ _ _ _
      cases (cl == Value.type "enumerate") <;> (wp_walk using first; exact ⟨_, rfl, hR⟩)
    · wp_walk using first
      exact ⟨_, rfl, hR⟩
theorem callEnumT {prog : Program} {w : World} {A : Around} {E : Value → Shared → Prop} {s : Shared} {t : Addr} {items : Array Value} {Q : Value → Shared → Prop} (hT : s.heap.IsTuple t items)
    (hq : ∀ h', IsEnum h' (s.heap.objs.size + 1) s.heap.objs.size 0 .none → h'.IsTupleIter s.heap.objs.size t 0 → (∀ b u, s.heap.get? b = some u → h'.get? b = some u) → Q (.ref (s.heap.objs.size + 1)) { s with heap := h' }) :
    wpAny (model prog w) A (call (.type "enumerate") [.ref t]) Q E s := by
  refine callType_new F.called_enumerate (by decide) (F.typeCall_enumerate_1 _) (F.newCall_enumerate_1 _) (fun obj => F.args_object_init_2 obj _) F.entry_enumerate_new (enumNewOne (begins_tuple t items)) ⟨hT, ?_⟩
  have size1 : (s.heap.push (tiO t)).objs.size = s.heap.objs.size + 1 := Heap.size_push ..
  have isE : IsEnum ((s.heap.push (tiO t)).push (enO s.heap.objs.size)) (s.heap.objs.size + 1) s.heap.objs.size 0 .none := by
    have := Heap.get?_push_size (s.heap.push (tiO t)) (o := enO s.heap.objs.size) rfl
    rw [size1] at this
    exact this
  show _ ∧ _
  rw [size1]
  exact ⟨⟨_, isE, rfl⟩, hq _ isE ⟨_, Heap.get?_push_of_some _ (Heap.get?_push_size _ rfl), rfl, rfl⟩ fun b u e => Heap.get?_push_of_some _ (Heap.get?_push_of_some _ e)⟩
/-- the tuple at a, each item in a new pair -/
def ItEt (K : PySem.W.Frag) (a : Addr) : It :=
  ⟨fun i H => ∃ (xs : List V) (x : V), SqT K H a xs ∧ xs[i]? = some x, fun i H v H' => ∃ T x, v = .ref T ∧ H T = none ∧ H' = upd H T (.tup [.int (i : Nat), x]) ∧ ∀ xs, SqT K H a xs → xs[i]? = some x, fun i H => ∃ xs : List V, SqT K H a xs ∧ xs.length ≤ i⟩
theorem turn_enumT {P : Program} {w : World} {K : PySem.W.Frag} {elts : List Expr} {kk : Nat} {tpos : Pos} (a e it : Addr) (hne : e ≠ it) (hea : e ≠ a) (hia : a ≠ it) :
    Turn P w K (.Tuple elts kk tpos) (ItEt K a) [e, it] e (fun i h => (∃ old, IsEnum h e it ((i : Nat) : Int) old) ∧ h.IsTupleIter it a i) where
  mem := List.mem_cons_self ..
  obj := fun i h st b hb => by
    obtain ⟨⟨old, hE⟩, ⟨o, ho, hc, hd⟩⟩ := st
    rcases List.mem_cons.mp hb with rfl | hb
    · exact ⟨_, hE, fun v q => nomatch q⟩
    · rw [List.mem_singleton.mp hb]
      exact ⟨o, ho, fun v q => by rw [hd] at q; cases q⟩
  keep := fun i h h' st k => ⟨st.1.imp fun old hE => k e (List.mem_cons_self ..) _ hE, st.2.at fun o q => k it (List.mem_cons_of_mem _ (List.mem_cons_self ..)) o q⟩
  item := by
    intro X hP hw hK hc i pins s σ H E I hf st hg
    subst hP hw hK
    obtain ⟨⟨old, hE⟩, hI⟩ := st
    obtain ⟨xs, x, hq, hx⟩ := hg
    obtain ⟨its, rv, pt, hz⟩ := I.tuple hq
    obtain ⟨u, hu, ru⟩ := rv.get hx
    have le : e < s.heap.objs.size := Heap.lt_size hE
    have li : it < s.heap.objs.size := by obtain ⟨_, q, _⟩ := hI; exact Heap.lt_size q
    have hil : i < its.toArray.size := by
      have := (List.getElem?_eq_some_iff.mp hu).1
      simpa using this
    refine wpAny_pyNext_enum_itemD (Draws.tuple (A := X.A.in1) (I.ok.hd hc) it a hia its.toArray) hE ⟨hI, pt⟩ hil hne (by simp [hne, hea]) fun y h' tk hy out hst hT hsz hk => ?_
    have ey : y = u := by
      have h1 : its.toArray[i]? = some u := by simpa using hu
      exact Option.some.inj (hy.symm.trans h1)
    subst ey
    refine ⟨_, rfl, wpAny_letOwnedTupleGo_enum (s := { s with heap := h', toks := tk + 1 }) out fun h2 hE2 sb => ?_⟩
    have hT2 : h2.get? s.heap.objs.size = some { cls := .type "tuple", data := .seq #[.int i tk, y] } := (sb.2 _ (Nat.ne_of_gt le)).trans hT
    have okT : ObjOk X.prog X.w (upd H s.heap.objs.size (.tup [.int (i : Nat), x])) h2 s.heap.objs.size (.tup [.int (i : Nat), x]) :=
      ⟨by show 2 ≤ sizeLine; decide, [.int i tk, y], .cons ⟨_, rfl⟩ (.cons ru .nil), ⟨_, hT2, rfl, _, rfl⟩⟩
    have I1 : Inv X pins σ (upd H s.heap.objs.size (.tup [.int (i : Nat), x])) { s with heap := h2, toks := tk + 1 } :=
      I.turnedNew (ch := [e, it]) (fun b ob hb q => (sb.2 b (fun z => hb (z ▸ List.mem_cons_self ..))).trans (hk b ob (fun z => hb (z ▸ List.mem_cons_self ..)) (fun z => hb (z ▸ List.mem_cons_of_mem _ (List.mem_cons_self ..))) q)) hf (Nat.le_refl _) okT
    refine ⟨.ref s.heap.objs.size, _, I1, rfl, ⟨_, x, rfl, I.hok.fresh (Nat.le_refl _), rfl, fun ys hy2 => by rw [I.tuple_inj hy2 hq]; exact hx⟩, ⟨⟨y, ?_⟩, hst.1.at fun o q => (sb.2 it (Ne.symm hne)).trans q⟩, fun b hb => ?_⟩
    · rw [show ((i + 1 : Nat) : Int) = (i : Int) + 1 by omega]
      exact hE2
    · have lb : b < s.heap.objs.size := by
        rcases List.mem_cons.mp hb with rfl | hb
        · exact le
        · rw [List.mem_singleton.mp hb]; exact li
      rw [upd_ne (Nat.ne_of_lt lb)]
      exact (hf b hb).1
  done := by
    intro X hP hw hK hc i pins s σ H E I hf st hg
    subst hP hw hK
    obtain ⟨⟨old, hE⟩, hI⟩ := st
    obtain ⟨xs, hq, hx⟩ := hg
    obtain ⟨its, rv, pt, hz⟩ := I.tuple hq
    obtain ⟨f0, f1, f2, f3, f4, f5⟩ := hf it (List.mem_cons_of_mem _ (List.mem_cons_self ..))
    have hl := rv.length
    have none_ : its.toArray[i]? = none := by simp; omega
    have D0 : Draws X.prog X.w X.A.in1 it [it, a] i (fun _ _ => True) (fun j h => j = i ∧ h.IsTupleIter it a i ∧ h.IsTuple a its.toArray) :=
      { live := fun _ _ st => let ⟨o, ho, _⟩ := st.2.1; ⟨o, ho⟩
        frame := fun _ _ _ st hk => ⟨st.1, st.2.1.at fun o q => hk it (List.mem_cons_self ..) o q, st.2.2.at fun o q => hk a (List.mem_cons_of_mem _ (List.mem_cons_self ..)) o q⟩
        item := fun j s Q E hj st _ => absurd hj (by rw [st.1]; exact Nat.lt_irrefl _)
        done := fun s Q E st hE => wpAny_nextOf_tuple_end (A := X.A.in1) (I.ok.hd hc) st.2.1 st.2.2 none_ hE }
    exact wpAny_pyNext_enum_endD D0 hE ⟨rfl, hI, pt⟩ fun h' eb => ⟨rfl, I.turned (t' := s.toks) (fun b o hb q => eb b o hb q) f0 f1 f3 f4 f5⟩
  self := fun A i s Q E st hQ => let ⟨⟨_, hE⟩, _⟩ := st; wpAny_pyIter_enum hE hQ
def iEnumT (K : PySem.W.Frag) (ta : TA) : TI := fun σ H R => ta σ H fun vs H1 => ∃ a xs, vs = [.ref a] ∧ SqT K H1 a xs ∧ R (ItEt K a) H1
theorem pi_enumT {X : Cx} {e : Expr} {ta : TA} {p pos tpos : Pos} {elts : List Expr} {kk : Nat} (hg : Gl X "enumerate") (hm : X.mg "enumerate" = none) (ha : PA X [e] ta) (hs : starEach [e] X.env = [(false, eval e X.env)] := by rfl) :
    PI X (.Tuple elts kk tpos) (.Call (.Name "enumerate" p) [e] [] pos) (iEnumT X.K ta) := by
  refine ⟨fun pins s σ H R I hyp => ?_⟩
  refine Call_ (ld_blt I hg hm boot_enumerate (PyProof.Rows.callWith_type1 (thn (ha.run pos pins s σ H _ I hyp) fun us s1 ⟨vs, H1, I1, r1, q1⟩ => ?_) hs rfl))
  obtain ⟨a, xs, rfl, hq, q⟩ := q1
  rw [Vals.ref1 r1]
  obtain ⟨its, rv, pt, hz⟩ := I1.tuple hq
  have la : a < s1.heap.objs.size := by obtain ⟨_, q, _⟩ := pt; exact Heap.lt_size q
  refine callEnumT (items := its.toArray) pt fun h' hE hI hk => wpAny_pyIter_enum hE ?_
  have I2 : Inv X pins σ H1 { s1 with heap := h' } := I1.kept (t' := s1.toks) hk
  refine ⟨s1.heap.objs.size + 1, [s1.heap.objs.size + 1, s1.heap.objs.size], _, _, H1, rfl, I2, turn_enumT a (s1.heap.objs.size + 1) s1.heap.objs.size (Nat.succ_ne_self _) (Nat.ne_of_gt (Nat.lt_succ_of_lt la)) (Nat.ne_of_lt la), ⟨⟨.none, hE⟩, hI⟩, fun b hb => ?_, q⟩
  have ge : s1.heap.objs.size ≤ b := by
    rcases List.mem_cons.mp hb with rfl | hb
    · exact Nat.le_succ _
    · rw [List.mem_singleton.mp hb]; exact Nat.le_refl _
  exact I1.fpOk ge (I1.hok.fresh ge)
theorem kx_enumT {K : PySem.W.Frag} {tl : TA} {X : Cx} {e : Expr} {p pos tpos : Pos} {elts : List Expr} {kk : Nat} (h : X.K = K) (hg : Gl X "enumerate") (hm : X.mg "enumerate" = none) (ha : PA X [e] tl) (hs : starEach [e] X.env = [(false, eval e X.env)] := by rfl) :
    PI X (.Tuple elts kk tpos) (.Call (.Name "enumerate" p) [e] [] pos) (iEnumT K tl) := by subst h; exact pi_enumT hg hm ha hs
theorem it_enumT {K : PySem.W.Frag} {pen : Pc} {H0 : Hp} {L : Lv} {P : List PyData → Prop} {tl : TA} (h : EA K pen H0 tl L fun es => ∃ ds, es = [.tuple ds] ∧ P (enumL ds)) : IT K pen H0 (iEnumT K tl) L P := fun σ G H e R r => h σ G H e _ fun vs es G1 H1 go hd ⟨ds, hds, p⟩ => by
  subst hds
  cases hd with
  | cons hd hd2 =>
    cases hd2
    cases hd with
    | tup hs ha =>
      rename_i a xs
      refine ⟨a, xs, rfl, sqT_mono go.vw.vw hs, r _ G1 H1 _ go (fun G' H' s v => ⟨fun i x hx => ?_, ?_⟩) p⟩
      · have z := sqT_mono (s.trans v.vw) hs
        obtain ⟨y', hy', rfl⟩ := enumL_get hx
        obtain ⟨y, hy, dy⟩ := dpa_get ha hy'
        refine ⟨⟨xs, y, z, hy⟩, fun w H2 hw => ?_⟩
        obtain ⟨T, u, rfl, hT, rfl, f⟩ := hw
        have e1 : u = y := Option.some.inj ((f _ z).symm.trans hy)
        subst e1
        have g2 := Go.new v (o := .tup [.int (i : Nat), u]) hT
        exact ⟨_, g2, .tup (.inl (.inl upd_same)) (.cons (.int _) (.cons (dp_mono (s.trans g2.gg) _ _ dy) .nil))⟩
      · exact ⟨xs, sqT_mono (s.trans v.vw) hs, by rw [dpa_len ha, enumL_len]; exact Nat.le_refl _⟩
end Dl

set_option Elab.async false
set_option linter.all false
set_option maxRecDepth 100000
set_option maxHeartbeats 4000000
namespace Dl
open PySem PySem.Spec PyProof.Rows L2
section
variable {K : PySem.W.Frag} {pen : Pc} {H0 : Hp} {L : Lv} {D : Dn}
end
end Dl

set_option Elab.async false
set_option linter.all false
set_option maxRecDepth 100000
set_option maxHeartbeats 4000000
namespace Dl
open PySem PySem.Spec PyProof.Rows L2
/-! ### a tuple no time, once, more often -/
section
variable {X : Cx}
end
end Dl

set_option Elab.async false
set_option linter.all false
set_option maxRecDepth 100000
/-! a comprehension that pops from one's own list -/
namespace Dl
open PySem PySem.Spec PyProof.Rows L2
variable {K : PySem.W.Frag} {pen : Pc} {H0 : Hp} {L : Lv} {D : Dn}
/-! defs to which the pen is handed and that tell a new object -/
end Dl

set_option Elab.async false
set_option linter.all false
set_option maxRecDepth 100000
set_option maxHeartbeats 2000000
/-! sum(1 for .. in .. if ..) -/
namespace Gx
open PySem PySem.Spec PyProof.Rows L2 GenW GxR
/-- slept while the adder wrote its own list at Sa -/
structure WokeS (Sa : Addr) (s s' : Shared) : Prop where
  keep : ∀ b o, b ≠ Sa → s.heap.get? b = some o → s'.heap.get? b = some o
  at_ : ∃ o, s'.heap.get? Sa = some o ∧ ∀ v, o.data ≠ .cell v
  os : s'.os = s.os
  bare : AllBare s'.gens
section
variable {X : Cx} {A' B : Around} {s4 : Shared} {H4 : Hp} {cenv : Env} {fp : List Addr} {pn : List (Addr × Obj)} {it Sa : Addr} {tn : Nat → Heap → Prop} {J : It} {elt tg iter : Expr} {ifs : List Expr} {scope : Scope} {pos : Pos} {g : TG} {tt : TT} {te : TE} {vs : List Nat} {σ0 : L2.St} {W : Nat → Nat → Nat → Hp → Prop} {Qt : Nat → Hp → Prop}
end
end Gx

set_option Elab.async false
set_option linter.all false
set_option maxRecDepth 100000
set_option maxHeartbeats 2000000
namespace Gx
open PySem PySem.Spec PyProof.Rows L2 GenW GxR
section
variable {P : Program} {w : World} {Y : Cx} {σ0 : L2.St} {Qt : Nat → Hp → Prop} {A : Around} {R : Result → Shared → Prop} {a Sa : Addr} {g N : Nat} {gobj : Obj}
end
end Gx

set_option Elab.async false
set_option linter.all false
set_option maxRecDepth 100000
set_option maxHeartbeats 2000000
namespace Gx
open PySem PySem.Spec PyProof.Rows L2 GenW GxR
section
variable {X : Cx} {pins : List (Addr × Obj)} {σ : L2.St} {H : Hp} {s : Shared}
end
section
variable {X : Cx} {c P : Addr} {elt tg iter : Expr} {ifs : List Expr} {scope : Scope} {own : List (Str × Nat)} {p pos gpos : Pos} {wi : TI} {g : TG} {tt : TT} {te : TE} {k : Nat}
end
end Gx

set_option Elab.async false
set_option linter.all false
set_option maxRecDepth 100000
/-! sum(1 for x in .. if f(x)) -/
namespace Dl
open PySem PySem.Spec PyProof.Rows L2
variable {K : PySem.W.Frag} {pen : Pc} {H0 : Hp} {L : Lv} {D : Dn} {Pd : PyData → Prop} {ti : TI} {g : TG} {tt : TT} {te : TE}
end Dl

set_option Elab.async false
set_option linter.all false
set_option maxRecDepth 100000
/-! rulebooks as plain data -/
namespace Wm
open PySem Dl
end Wm

set_option Elab.async false
set_option linter.all false
set_option maxRecDepth 100000
/-! one's own list: pop at a place, insert; abs -/
namespace Dl
open PySem PySem.Spec PyProof.Rows L2
variable {K : PySem.W.Frag} {pen : Pc} {H0 : Hp} {L : Lv} {D : Dn} {te ta : TE} {P : PyData → Prop}
theorem s_popAtD {j : Nat} {ds : List PyData} (hj : L[j]? = some (some (.own (.lst ds)))) (h : E K pen H0 te L fun d => ∃ m : Nat, d = .int m ∧ m < ds.length ∧ m < 100000 ∧ D.nx (L.set j (some (.own (.lst (ds.eraseIdx m)))))) (nf : noFr L = true := by rfl) :
    S K pen H0 (tDrop (tBM K "list" rPopAt (tVar j) (tCons te tNil))) L D := fun σ G H N e n1 _ _ _ _ _ => by
  obtain ⟨l, ho, k1, k3, k6⟩ := e.own hj
  obtain ⟨vs, rfl, k6⟩ := k6.lst
  refine ⟨_, k1, .inl ⟨rfl, vs, .inl (.inl k3)⟩, h σ G H e _ fun v d G1 H1 g1 d1 ⟨m, hm, hml, hmz, p⟩ => ?_⟩
  subst hm
  cases d1
  have e1 := e.go g1
  obtain ⟨ho2, q3, q6⟩ := e1.ownAt hj k1
  obtain ⟨vs2, rfl, q6⟩ := q6.lst
  have hl := dpa_len q6
  obtain ⟨r1, r2⟩ := e1.putOwn nf hj k1 (o' := .lst (ds.eraseIdx m)) (ho := .lst (vs2.eraseIdx m)) (dpa_erase m q6)
  refine ⟨l, vs2, m, m, _, rfl, rfl, q3, by omega, by omega, ?_, List.getElem?_eq_getElem (by omega), n1 σ G1 _ _ ((e.gx g1).trans r2) r1 p⟩
  unfold seqIndex?
  simp
  omega
theorem s_insOwn {j : Nat} {ds : List PyData} (hj : L[j]? = some (some (.own (.lst ds)))) (hz : ds.length < 100000) (h : E K pen H0 ta L fun a => E K pen H0 te L fun d => ∃ m : Nat, a = .int m ∧ m < 100000 ∧ D.nx (L.set j (some (.own (.lst (ds.take m ++ [d] ++ ds.drop m)))))) (nf : noFr L = true := by rfl) :
    S K pen H0 (tDrop (tBM K "list" (fun x vs H Q => ∃ (l : Addr) (xs : List V) (i : Int) (y : V), x = .ref l ∧ vs = [.int i, y] ∧ H l = some (.lst xs) ∧ xs.length < sizeLine ∧ 0 ≤ i ∧ i < 2 ^ 63 ∧ Q .non (upd H l (.lst (xs.take i.toNat ++ [y] ++ xs.drop i.toNat)))) (tVar j) (tCons ta (tCons te tNil)))) L D := fun σ G H N e n1 _ _ _ _ _ => by
  obtain ⟨l, ho, k1, k3, k6⟩ := e.own hj
  obtain ⟨vs, rfl, k6⟩ := k6.lst
  refine ⟨_, k1, .inl ⟨rfl, vs, .inl (.inl k3)⟩, h σ G H e _ fun v a G1 H1 g1 d1 h1 => ?_⟩
  refine h1 σ G1 H1 (e.go g1) _ fun u d G2 H2 g2 d2 ⟨m, hm, hmz, p⟩ => ?_
  subst hm
  cases d1
  have e2 := (e.go g1).go g2
  obtain ⟨ho2, q3, q6⟩ := e2.ownAt hj k1
  obtain ⟨vs2, rfl, q6⟩ := q6.lst
  have hl := dpa_len q6
  obtain ⟨r1, r2⟩ := e2.putOwn nf hj k1 (o' := .lst (ds.take m ++ [d] ++ ds.drop m)) (ho := .lst (vs2.take m ++ [u] ++ vs2.drop m)) (dpa_app (dpa_app (dpa_take m q6) (.cons d2 .nil)) (dpa_drop m q6))
  exact ⟨l, vs2, m, u, rfl, rfl, q3, Nat.lt_of_lt_of_le (by omega) (by decide : 100000 ≤ sizeLine), by omega, by omega, n1 σ G2 _ _ (((e.gx g1).trans ((e.go g1).gx g2)).trans r2) r1 p⟩
theorem c_abs {i : Int} (p : P (.int (if i < 0 then -i else i))) : RCd K pen (fun xs H Q => ∃ i, xs = [.int i] ∧ Q (.int (if i < 0 then -i else i)) H) [.int i] P := fun vs G H v hv Q q => by
  cases hv with
  | cons h1 h2 =>
    cases h2
    cases h1
    exact ⟨i, rfl, q _ _ G H (.refl v) (.int _) p⟩
end Dl

set_option Elab.async false
set_option linter.all false
set_option maxRecDepth 100000
set_option maxHeartbeats 2000000
/-! max(d.values(), default=c) -/
namespace Gx
open PySem PySem.Spec PyProof.Rows L2
theorem paired_get {α β : Type} {F : α → β → Prop} : ∀ {l : List α} {m : List β} {i : Nat} {x : α}, Paired F l m → l[i]? = some x → ∃ y, m[i]? = some y ∧ F x y
  | _, _, _, _, .nil, h => by cases h
  | _, _, 0, _, .cons a _, h => by cases h; exact ⟨_, rfl, a⟩
  | _, _, i + 1, _, .cons _ t, h => paired_get (i := i) t h
section
variable {prog : Program} {w : World} {A : Around} {E : Value → Shared → Prop} {s : Shared} {T : String} {r d : Addr} {P : Nat → Value → Prop} {OK : Heap → Prop} {Q : Value → Shared → Prop} {dv : Value}
end
section
variable {X : Cx} {e : Expr} {td : TE} {p apos cpos pos kp kpos : Pos} {c : Int} {j : Nat}
end
end Gx

set_option Elab.async false
set_option linter.all false
set_option maxRecDepth 100000
set_option maxHeartbeats 4000000
/-! sorted(range(..), key=lambda p: ..): the sort's shell over any kept property, the lambda made and called -/
namespace Gx
open PySem PySem.Spec PyProof.Rows L2 GenW GxR
/-! ### a function of one expression is called, its code object bearing any name -/
section
variable {prog : Program} {w : World} {A : Around} {R : Result → Shared → Prop} {s : Shared}
end
/-! ### the shell of a sort by keys -/
section
variable {prog : Program} {w : World} {A : Around} {E : Value → Shared → Prop} {a kS : Addr} {vs : List Value} {kz : List Int} {e1 : Nat} {P : PySem.Fin → Shared → Prop} {J : Shared → Prop}
end
end Gx

set_option Elab.async false
set_option linter.all false
set_option maxRecDepth 100000
set_option maxHeartbeats 4000000
namespace Gx
open PySem PySem.Spec PyProof.Rows L2 GenW GxR
/-! ### the lambda -/
/-- one parameter p, else captured names and globals -/
structure LamP (sc scope : Scope) (p : Str) : Prop where
  kind : scope.kind = .function
  co : scope.isCoroutine = false
  gen : scope.isGenerator = false
  loc : scope.names.lookup p = some .local
  own : ∀ y ∈ scope.names, y.2 ≠ .cell ∧ (y.2 = .local → y.1 = p)
  free : ∀ y ∈ scope.names, y.2 = .free → sc.names.lookup y.1 = some .cell ∨ sc.names.lookup y.1 = some .free
theorem LamP.has {X : Cx} {scope : Scope} {p : Str} (L : LamP X.env.scope scope p) (ok : X.Ok) : ∀ y ∈ scope.names, y.2 = .free → ∃ c, X.env.cells.lookup y.1 = some c := fun y hy e => by
  rcases L.free y hy e with k | k
  · exact ok.has _ (.inl k)
  · exact ok.has _ (.inr k)
section
variable {X : Cx} {pins : List (Addr × Obj)} {σ : L2.St} {H : Hp} {s : Shared}
end
end Gx

set_option Elab.async false
set_option linter.all false
set_option maxRecDepth 100000
set_option maxHeartbeats 4000000
namespace Gx
open PySem PySem.Spec PyProof.Rows L2 GenW GxR
section
variable {X : Cx} {pins : List (Addr × Obj)} {σ : L2.St} {H : Hp} {s : Shared}
end
section
variable {X : Cx}
end
end Gx

set_option Elab.async false
set_option linter.all false
set_option maxRecDepth 100000
set_option maxHeartbeats 4000000
/-! a generator expression whose items are collected -/
namespace Gx
open PySem PySem.Spec PyProof.Rows L2 GenW GxR
section
variable {X : Cx} {A' B : Around} {s4 : Shared} {H4 : Hp} {cenv : Env} {fp : List Addr} {pn : List (Addr × Obj)} {it Sa a : Addr} {gi : Nat} {gobj : Obj} {E : XK} {tn : Nat → Heap → Prop} {J : It} {elt tg iter : Expr} {ifs : List Expr} {scope : Scope} {pos : Pos} {g : TG} {tt : TT} {te : TE} {vs : List Nat} {σ0 : L2.St} {W : Nat → Nat → List V → Hp → Prop} {Qt : List V → Hp → Prop}
end
section
variable {X : Cx} {c P : Addr} {elt tg iter : Expr} {ifs : List Expr} {scope : Scope} {own : List (Str × Nat)} {gpos : Pos} {wi : TI} {g : TG} {tt : TT} {te : TE} {k : Nat} {E : XK}
end
end Gx

set_option Elab.async false
set_option linter.all false
set_option maxRecDepth 100000
/-! max of a list of pairs, a list with another one spread in it -/
namespace Dl
open PySem PySem.Spec PyProof.Rows L2
section
variable {K : PySem.W.Frag} {pen : Pc} {H0 : Hp} {L : Lv} {P : PyData → Prop} {te : TE} {tr : TA} {Pl : List PyData → Prop}
end
end Dl

set_option Elab.async false
set_option linter.all false
set_option maxRecDepth 100000
/-! order of pairs, lists turned about, the greatest of a dict's values, sorted sets of pairs -/
namespace Dl
open PySem PySem.Spec PyProof.Rows L2
section
variable {X : Cx}
theorem kx_revL {K : PySem.W.Frag} {e : Expr} {te : TE} {k : Nat} {p1 p2 p3 pos : Pos} (h : X.K = K) (he : PE X e te) : PE X (.Subscript e (.Slice none none (some (.UnaryOp .USub (.Constant (.int 1) k p1) p2)) p3) pos) (tRevL K te) := by subst h; exact pe_revL he
end
section
variable {K : PySem.W.Frag} {pen : Pc} {H0 : Hp} {L : Lv} {P : PyData → Prop} {te : TE} {Pl : List PyData → Prop}
theorem dpa_rev {G : Hp} : ∀ {vs : List V} {ds : List PyData}, DpAll K G vs ds → DpAll K G vs.reverse ds.reverse
  | _, _, .nil => .nil
  | _, _, .cons h t => by rw [List.reverse_cons, List.reverse_cons]; exact dpa_app (dpa_rev t) (.cons h .nil)
theorem el_revL (h : E K pen H0 te L fun d => ∃ ds, d = .list ds ∧ Pl ds.reverse) : EL K pen H0 (tRevL K te) L Pl := fun σ G H e Q q =>
  h σ G H e _ fun v d G1 H1 go hd ⟨ds, hds, p⟩ => by
    subst hds
    cases hd with
    | lst hs ha =>
      rename_i a xs
      refine ⟨a, xs, rfl, sqL_mono go.vw.vw hs, fun r hr => ?_⟩
      have e1 := e.go go
      have g2 := Go.hid e1.vw (o := .lst xs.reverse) hr
      exact q r _ _ G1 _ (go.trans g2) upd_same (e1.gnone hr) (EL.out e go hr) (dpa_rev ha) p
theorem dp_intV {G : Hp} {v : V} {n : Int} (h : Dp K G v (.int n)) : v = .int n := by cases h; rfl
end
end Dl

set_option Elab.async false
set_option linter.all false
set_option maxRecDepth 100000
namespace Dl
open PySem PySem.Spec PyProof.Rows L2
section
variable {K : PySem.W.Frag} {pen : Pc} {H0 : Hp} {L : Lv} {te : TE} {Pl : List PyData → Prop} {P : Program} {w : World}
theorem dpa_two {G : Hp} {xs : List V} {a b : Int} (h : DpAll K G xs [.int a, .int b]) : xs = [.int a, .int b] := by
  cases h with
  | cons h1 t =>
    cases t with
    | cons h2 t2 =>
      cases t2
      rw [dp_intV h1, dp_intV h2]
theorem dpa_pairs {G : Hp} : ∀ {cs : List (Int × Int)} {vs : List V}, DpAll K G vs (pairsL cs) → ∃ ks : List (Addr × List Int), vs = ks.map (fun p => V.ref p.1) ∧ (∀ p ∈ ks, SqT K G p.1 (p.2.map V.int) ∧ p.2.length = 2) ∧ ks.length = cs.length
  | [], _, h => by cases h; exact ⟨[], rfl, fun p hp => (nomatch hp), rfl⟩
  | c :: cs, vs, h => by
    have h : DpAll K G vs (.tuple [.int c.1, .int c.2] :: pairsL cs) := h
    cases h with
    | cons h1 t =>
      obtain ⟨ks, e1, e2, e3⟩ := dpa_pairs t
      cases h1 with
      | tup hs ha =>
        rename_i a xs
        have := dpa_two ha
        subst this
        subst e1
        refine ⟨(a, [c.1, c.2]) :: ks, rfl, fun p hp => ?_, by rw [List.length_cons, List.length_cons, e3]⟩
        rcases List.mem_cons.mp hp with rfl | hp
        · exact ⟨hs, rfl⟩
        · exact e2 p hp
theorem dpa_back {G : Hp} : ∀ {ks : List (Addr × List Int)}, (∀ p ∈ ks, SqT K G p.1 (p.2.map V.int) ∧ p.2.length = 2) → ∃ cs : List (Int × Int), DpAll K G (ks.map fun p => V.ref p.1) (pairsL cs) ∧ cs.length = ks.length
  | [], _ => ⟨[], .nil, rfl⟩
  | k :: ks, h => by
    obtain ⟨cs, e1, e2⟩ := dpa_back fun p hp => h p (List.mem_cons_of_mem _ hp)
    obtain ⟨h1, h2⟩ := h k (List.mem_cons_self ..)
    obtain ⟨a, l⟩ := k
    dsimp only at h1 h2
    match l, h2, h1 with
    | [x, y], _, h1 => exact ⟨(x, y) :: cs, .cons (.tup h1 (.cons (.int _) (.cons (.int _) .nil))) e1, by rw [List.length_cons, List.length_cons, e2]⟩
end
def rSortSetP (K : PySem.W.Frag) (P : Program) (w : World) : List V → Hp → VK → Prop := fun us H Q => ∃ (b : Addr) (M : List (Addr × List Int)), us = [V.ref b] ∧ H b = some (SetTO P w b M) ∧ (∀ p ∈ M, SqT K H p.1 (p.2.map V.int) ∧ p.2.length = 2) ∧
  ∀ (N : List (Addr × List Int)) (r : Addr), (∀ p ∈ N, p ∈ M) → N.length < 64 → H r = none → Q (.ref r) (upd H r (.lst (N.map fun p => V.ref p.1)))
section
variable {X : Cx}
end
section
variable {K : PySem.W.Frag} {pen : Pc} {H0 : Hp} {L : Lv} {te : TE} {Pl : List PyData → Prop} {P : Program} {w : World}
theorem el_sortSetP (h : E K pen H0 te L fun d => ∃ cs : List (Int × Int), d = .list (pairsL cs) ∧ cs.length < 64 ∧ ∀ cs' : List (Int × Int), cs'.length < 64 → Pl (pairsL cs')) :
    EL K pen H0 (tCB (rSortSetP K P w) (tCons (tCB (rSetOfT K P w) (tCons te tNil)) tNil)) L Pl := fun σ G H e Q q =>
  h σ G H e _ fun v d G1 H1 go hd ⟨cs, hcs, hl, p⟩ => by
    subst hcs
    cases hd with
    | lst hs ha =>
      rename_i a vs
      obtain ⟨ks, rfl, k2, k3⟩ := dpa_pairs ha
      have e1 := e.go go
      refine ⟨a, ks, rfl, sqL_mono go.vw.vw hs, fun p hp => sqT_mono go.vw.vw (k2 p hp).1, by omega, fun b M hb m1 m2 => ?_⟩
      have g2 := Go.hid e1.vw (o := SetTO P w b M) hb
      have e2 := e1.go g2
      refine ⟨b, M, rfl, upd_same, fun p hp => ⟨sqT_mono g2.vw.vw (k2 p (m1 p hp)).1, (k2 p (m1 p hp)).2⟩, fun N r inN lenN hr => ?_⟩
      have g3 := Go.hid e2.vw (o := .lst (N.map fun q => V.ref q.1)) hr
      obtain ⟨cs', c1, c2⟩ := dpa_back (K := K) (G := G1) (ks := N) fun p hp => k2 p (m1 p (inN p hp))
      exact q r _ _ G1 _ ((go.trans g2).trans g3) upd_same (e2.gnone hr) (EL.out e (go.trans g2) hr) c1 (p cs' (by omega))
end
section
variable {K : PySem.W.Frag} {pen : Pc} {P : PyData → Prop}
theorem r_isBl {i j : Bool} (p : P (.bool (decide (i = j)))) : R2d K pen rIsB (.bool i) (.bool j) P := fun x y G H v hx hy Q q => by
  cases hx
  cases hy
  exact ⟨i, j, rfl, rfl, q _ _ G H (.refl v) (.bl _) p⟩
end
end Dl

set_option Elab.async false
set_option linter.all false
set_option maxRecDepth 100000
/-! sorted pairs in their order, extend, any of a list of truths -/
namespace Dl
open PySem PySem.Spec PyProof.Rows L2
section
variable {X : Cx}
end
section
variable {K : PySem.W.Frag} {pen : Pc} {H0 : Hp} {L : Lv} {P : PyData → Prop} {te : TE} {D : Dn} {Pl : List PyData → Prop}
end
end Dl

set_option Elab.async false
set_option linter.all false
set_option maxRecDepth 100000
set_option maxHeartbeats 4000000
/-! ### enumerate(zip(list, list)): the pair that zip gave out last may still be there, or not -/
namespace Dl
open PySem PySem.Spec PyProof.Rows L2
section
variable {prog : Program} {w : World} {A : Around} {E : Value → Shared → Prop} {s : Shared} {z TI TO i1 i2 l1 l2 : Addr} {k1 k2 : Nat} {xs ys : Array Value} {x y : Value}
end
section
variable {prog : Program} {w : World} {A : Around} {E : Value → Shared → Prop} {s : Shared}
end
end Dl

set_option Elab.async false
set_option linter.all false
set_option maxRecDepth 100000
set_option maxHeartbeats 4000000
/-! ### a list that is read taken so often; a list lengthened by one that is read -/
namespace Dl
open PySem PySem.Spec PyProof.Rows L2
section
variable {X : Cx}
end
section
variable {K : PySem.W.Frag} {pen : Pc} {H0 : Hp} {L : Lv} {P : PyData → Prop} {ta tb te : TE} {Pl : List PyData → Prop} {D : Dn}
end
end Dl

set_option Elab.async false
set_option linter.all false
set_option maxRecDepth 100000
set_option maxHeartbeats 4000000
/-! ### sorted(set(l)), len(set(l)), l a list of ints -/
namespace Dl
open PySem PySem.Spec PyProof.Rows L2
section
variable {P : Program} {w : World} {A : Around} {E : Value → Shared → Prop} {s : Shared}
end
section
variable {X : Cx}
end
section
variable {K : PySem.W.Frag} {pen : Pc} {H0 : Hp} {L : Lv} {P : PyData → Prop} {ta te : TE} {tl : TA} {w : World}
end
end Dl

set_option Elab.async false
set_option linter.all false
set_option maxRecDepth 100000
set_option maxHeartbeats 4000000
/-! ### list(dict), enumerate(dict), max of a list of pairs with a default -/
namespace Dl
open PySem PySem.Spec PyProof.Rows L2
section
variable {prog : Program} {w : World} {A : Around} {E : Value → Shared → Prop} {s : Shared} {it d : Addr} {i n ep : Nat} {od : Obj} {es : Array DictEntry}
end
/-! max(l, default=d) -/
section
variable {X : Cx} {e ed : Expr} {tl td : TE} {p pos kpos : Pos}
end
section
variable {K : PySem.W.Frag} {pen : Pc} {H0 : Hp} {L : Lv} {P : PyData → Prop} {tl td te : TE} {Pl : List PyData → Prop}
end
end Dl

set_option Elab.async false
set_option linter.all false
set_option maxRecDepth 100000
set_option maxHeartbeats 4000000
/-! ### what a call tells as new is looked at, then spoilt, while lists of one's own stand by -/
namespace Dl
open PySem PySem.Spec PyProof.Rows L2
section
variable {K : PySem.W.Frag} {H0 : Hp} {L : Lv} {tl : TA} {tt : TT} {t1 tr : TS} {D : Dn}
end
end Dl

set_option Elab.async false
set_option linter.all false
set_option maxRecDepth 100000
set_option maxHeartbeats 4000000
/-! ### defs that may raise one class of their own; try .. except -/
namespace Dl
open PySem PySem.Spec PyProof.Rows L2
/-- told as data, or the class at C raised -/
def SpXR {α : Type} (K : PySem.W.Frag) (ts : List Addr) (C : Addr) (Wf : α → Prop) (enc : α → List PyData) (res : α → PyData → Prop) (bad : α → Prop) : Sp := fun vs H Q E => ∃ (x : α) (G : Hp), Vw ⟨none, ts⟩ G H ∧ DpAll K G vs (enc x) ∧ Wf x ∧
  (∀ v d G' H', Go ⟨none, ts⟩ G H G' H' → Dp K G' v d → res x d → Q v H') ∧ (bad x → ∀ G' H', Go ⟨none, ts⟩ G H G' H' → E (.ref C) none H')
section
variable {K : PySem.W.Frag} {pen : Pc} {H0 : Hp} {L : Lv} {P P' : PyData → Prop} {ta tb te : TE} {tl : TA} {tt : TT} {ti : TI} {t u : TS} {D : Dn} {g : TG} {Eo : XK} {C : Addr} {bad : Prop}
/-- statements that may raise: the way out is good, where bad -/
def SX (K : PySem.W.Frag) (pen : Pc) (H0 : Hp) (Eo : XK) (C : Addr) (bad : Prop) (t : TS) (L : Lv) (D : Dn) : Prop := ∀ (σ : L2.St) (G H : Hp) (N : Ends), Ev K pen H0 G H σ L →
  (∀ σ' G' H' L', Gx pen H0 G H G' H' → Ev K pen H0 G' H' σ' L' → D.nx L' → N.nx σ' H') →
  (∀ v d G' H', Gx pen H0 G H G' H' → Vw pen G' H' → Dp K G' v d → D.rt d → N.rt v H') →
  (∀ σ' G' H' L', Gx pen H0 G H G' H' → Ev K pen H0 G' H' σ' L' → D.bk L' → N.bk σ' H') →
  (∀ σ' G' H' L', Gx pen H0 G H G' H' → Ev K pen H0 G' H' σ' L' → D.ct L' → N.ct σ' H') →
  (∀ v d G' H', Gx pen H0 G H G' H' → Vw pen G' H' → Nd K (vnew H0 G' H') v d → D.rn d → N.rt v H') →
  (∀ l ho o G' H', Gx pen H0 G H G' H' → Vw pen G' H' → H' l = some ho → H0 l = none → G' l = none → OwnOk K G' l ho o → D.ro o → N.rt (.ref l) H') →
  (bad → ∀ G' H', Gx pen H0 G H G' H' → Vw pen G' H' → Eo (.ref C) none H') → t N σ H
def EX (K : PySem.W.Frag) (pen : Pc) (H0 : Hp) (Eo : XK) (C : Addr) (bad : Prop) (te : TE) (L : Lv) (P : PyData → Prop) : Prop := ∀ (σ : L2.St) (G H : Hp), Ev K pen H0 G H σ L → ∀ Q : VK, (∀ v d G' H', Go pen G H G' H' → Dp K G' v d → P d → Q v H') →
  (bad → ∀ G' H', Go pen G H G' H' → Eo (.ref C) none H') → te σ H Q
theorem sx_of (h : S K pen H0 t L D) : SX K pen H0 Eo C bad t L D := fun σ G H N e n1 n2 n3 n4 n5 n6 _ => h σ G H N e n1 n2 n3 n4 n5 n6
theorem SX.at {σ : L2.St} {G H G1 H1 : Hp} {N : Ends} (h : SX K pen H0 Eo C bad t L D) (e : Ev K pen H0 G1 H1 σ L) (x : Gx pen H0 G H G1 H1) (n1 : ∀ σ' G' H' L', Gx pen H0 G H G' H' → Ev K pen H0 G' H' σ' L' → D.nx L' → N.nx σ' H')
    (n2 : ∀ v d G' H', Gx pen H0 G H G' H' → Vw pen G' H' → Dp K G' v d → D.rt d → N.rt v H') (n3 : ∀ σ' G' H' L', Gx pen H0 G H G' H' → Ev K pen H0 G' H' σ' L' → D.bk L' → N.bk σ' H') (n4 : ∀ σ' G' H' L', Gx pen H0 G H G' H' → Ev K pen H0 G' H' σ' L' → D.ct L' → N.ct σ' H')
    (n5 : ∀ v d G' H', Gx pen H0 G H G' H' → Vw pen G' H' → Nd K (vnew H0 G' H') v d → D.rn d → N.rt v H') (n6 : ∀ l ho o G' H', Gx pen H0 G H G' H' → Vw pen G' H' → H' l = some ho → H0 l = none → G' l = none → OwnOk K G' l ho o → D.ro o → N.rt (.ref l) H')
    (n7 : bad → ∀ G' H', Gx pen H0 G H G' H' → Vw pen G' H' → Eo (.ref C) none H') : t N σ H1 :=
  h σ G1 H1 N e (fun σ2 G2 H2 L2 x2 e2 q => n1 σ2 G2 H2 L2 (x.trans x2) e2 q) (fun v d G2 H2 x2 vw hd q => n2 v d G2 H2 (x.trans x2) vw hd q) (fun σ2 G2 H2 L2 x2 e2 q => n3 σ2 G2 H2 L2 (x.trans x2) e2 q) (fun σ2 G2 H2 L2 x2 e2 q => n4 σ2 G2 H2 L2 (x.trans x2) e2 q)
    (fun v d G2 H2 x2 vw hd q => n5 v d G2 H2 (x.trans x2) vw hd q) (fun l ho o G2 H2 x2 vw h1 h2 h3 h4 q => n6 l ho o G2 H2 (x.trans x2) vw h1 h2 h3 h4 q) fun hb G2 H2 x2 vw => n7 hb G2 H2 (x.trans x2) vw
theorem sx_seq (h : SX K pen H0 Eo C bad t L { D with nx := fun L' => SX K pen H0 Eo C bad u L' D }) : SX K pen H0 Eo C bad (tSeq t u) L D := fun σ G H N e n1 n2 n3 n4 n5 n6 n7 =>
  h σ G H _ e (fun σ' G' H' L' x e' h' => h'.at e' x n1 n2 n3 n4 n5 n6 n7) n2 n3 n4 n5 n6 n7
theorem sx_if (h : ET K pen H0 tt L fun b => (b = true → SX K pen H0 Eo C bad t L D) ∧ (b = false → SX K pen H0 Eo C bad u L D)) : SX K pen H0 Eo C bad (tIfS tt t u) L D := fun σ G H N e n1 n2 n3 n4 n5 n6 n7 =>
  h σ G H e _ fun b G' H' go p => by
    cases b with
    | true => exact (p.1 rfl).at (e.go go) (e.gx go) n1 n2 n3 n4 n5 n6 n7
    | false => exact (p.2 rfl).at (e.go go) (e.gx go) n1 n2 n3 n4 n5 n6 n7
theorem sx_ret (h : EX K pen H0 Eo C bad te L D.rt) : SX K pen H0 Eo C bad (tRet te) L D := fun σ G H N e _ n2 _ _ _ _ n7 => h σ G H e _ (fun v d G' H' g hd p => n2 v d G' H' (e.gx g) g.vw hd p) fun hb G' H' g => n7 hb G' H' (e.gx g) g.vw
/-- raise C(e) -/
theorem sx_raise (hb : bad) (h : E K pen H0 te L fun _ => True) : SX K pen H0 Eo C bad (fun _ σ H => te σ H fun _ H1 => Eo (.ref C) none H1) L D := fun σ G H N e _ _ _ _ _ _ n7 =>
  h σ G H e _ fun v d G' H' g _ _ => n7 hb G' H' (e.gx g) g.vw
theorem sx_forI (h : IT K pen H0 ti L fun xs => ∃ I : Nat → Lv → Prop, Wk I 0 L ∧ (∀ (i : Nat) x L', xs[i]? = some x → I i L' → GT K pen H0 g x L' fun L2 => SX K pen H0 Eo C bad t L2 { D with nx := Wk I (i + 1), ct := Wk I (i + 1), bk := D.nx }) ∧ (∀ L', I xs.length L' → ∀ L4, Sub L' L4 → D.nx L4)) :
    SX K pen H0 Eo C bad (tFor ti g t) L D := fun σ G H N e n1 n2 n3 n4 n5 n6 n7 => h σ G H e _ fun J G1 H1 xs go w ⟨I, i0, is, id⟩ => by
  have x1 := e.gx go
  refine ⟨fun i m σ' H' => m = xs.length - i ∧ i ≤ xs.length ∧ ∃ G' L', Gx pen H0 G1 H1 G' H' ∧ Ev K pen H0 G' H' σ' L' ∧ I i L', ⟨xs.length, rfl, Nat.zero_le _, ?_⟩, ?_⟩
  · obtain ⟨L3, s, hI⟩ := i0
    exact ⟨G1, L3, .refl, (e.go go).sub s, hI⟩
  rintro i m σ1 H2 ⟨rfl, hi, G2, L2, x2, e2, q2⟩
  obtain ⟨w1, w2⟩ := w G2 H2 x2.gg e2.vw
  by_cases hlt : i < xs.length
  · obtain ⟨k1, k2⟩ := w1 i _ (List.getElem?_eq_getElem hlt)
    refine .inr ⟨k1, fun σ' H' => ∃ G' L', Gx pen H0 G1 H1 G' H' ∧ Ev K pen H0 G' H' σ' L' ∧ Wk I (i + 1) L', fun σ' H' ⟨G', L', a, b, L3, s, c⟩ => ⟨xs.length - (i + 1), by omega, rfl, hlt, G', L3, a, b.sub s, c⟩, fun v H3 hy => ?_⟩
    obtain ⟨G3, g3, d3⟩ := k2 v H3 hy
    have x3 := x2.trans (e2.gx g3)
    refine is i _ L2 (List.getElem?_eq_getElem hlt) q2 σ1 G3 H3 v (e2.go g3) d3 _ fun σ4 L4 e4 h4 => ?_
    exact h4 σ4 G3 H3 _ e4 (fun σ5 G5 H5 L5 x5 e5 q5 => ⟨G5, L5, x3.trans x5, e5, q5⟩) (fun v d G5 H5 x5 vw hd q5 => n2 v d G5 H5 (x1.trans (x3.trans x5)) vw hd q5)
      (fun σ5 G5 H5 L5 x5 e5 q5 => n1 σ5 G5 H5 L5 (x1.trans (x3.trans x5)) e5 q5) (fun σ5 G5 H5 L5 x5 e5 q5 => ⟨G5, L5, x3.trans x5, e5, q5⟩) (fun v d G5 H5 x5 vw hd q5 => n5 v d G5 H5 (x1.trans (x3.trans x5)) vw hd q5) (fun l ho o G5 H5 x5 vw h1 h2 h3 h4 q5 => n6 l ho o G5 H5 (x1.trans (x3.trans x5)) vw h1 h2 h3 h4 q5)
      fun hb G5 H5 x5 vw => n7 hb G5 H5 (x1.trans (x3.trans x5)) vw
  · have e1 : i = xs.length := by omega
    subst e1
    exact .inl ⟨w2, n1 σ1 G2 H2 L2 (x1.trans x2) e2 (id L2 q2 L2 (Sub.refl _))⟩
theorem ex_op {r : R2} (h : EX K pen H0 Eo C bad ta L fun a => E K pen H0 tb L fun b => R2d K pen r a b P) : EX K pen H0 Eo C bad (tOp r ta tb) L P := fun σ G H e Q q qb =>
  h σ G H e _ (fun v a G1 H1 g1 d1 h1 => h1 σ G1 H1 (e.go g1) _ fun w b G2 H2 g2 d2 h2 => h2 v w G2 H2 g2.vw (dp_mono g2.gg _ _ d1) d2 _ fun z c G3 H3 g3 d3 p => q z c G3 H3 ((g1.trans g2).trans g3) d3 p) qb
/-- a call of a def that may raise, within one that may -/
theorem ex_call {α : Type} {pn : Option Pn} {ts : List Addr} {Wf : α → Prop} {enc : α → List PyData} {res : α → PyData → Prop} {bd : α → Prop} (h : EA K ⟨pn, ts⟩ H0 tl L fun ds => ∃ x, ds = enc x ∧ Wf x ∧ (bd x → bad) ∧ ∀ d, res x d → P d) :
    EX K ⟨pn, ts⟩ H0 Eo C bad (tCallS (SpXR K ts C Wf enc res bd) (fun _ => Eo) tl) L P := fun σ G H e Q q qb =>
  h σ G H e _ fun vs ds G1 H1 go hd ⟨x, hx, hw, hb, hr⟩ => ⟨x, G1, go.vw.plain, by rw [← hx]; exact hd, hw, fun v d G' H' g2 hd2 p => q v d G' H' (go.trans (g2.lift go.vw)) hd2 (hr d p), fun hbd G' H' g2 => qb (hb hbd) G' H' (go.trans (g2.lift go.vw))⟩
end
section
variable {P : Program} {w : World} {K : PySem.W.Frag} {mg : Str → Option Value} {base : Heap}
theorem fnXR {α : Type} {x qual : Str} {st : Stmt} {f : Addr} {fd : FuncData} {N ps : List Str} {k : Nat} {ts : List Addr} {C : Addr} {Wf : α → Prop} {enc : α → List PyData} {res : α → PyData → Prop} {bad : α → Prop} (F : Fun K x qual st f fd) (S0 : FnScope N ps (defScope st)) (hl : ∀ x, Wf x → (enc x).length = ps.length)
    (hbody : ∀ (cdv : Value) (A : Around) (outer : List Env) (s : Shared) (H : Hp) (E : XK), Room k (A.deeper (envOfC qual (defScope st) s.heap.objs.size f cdv)) →
      ∃ t, PSs (cxOf (L2.CX P w) P w K mg base N qual (defScope st) f cdv A outer s H E) (defBody st) t ∧ ∀ x, Wf x → SX K ⟨none, ts⟩ H E C (bad x) t (st0 N (enc x)) { nx := fun _ => res x .none, rt := res x }) : FnOk P w K mg base (L2.CX P w) (k + 1) f fd ps (SpXR K ts C Wf enc res bad) := by
  refine F.okX S0 (fun vs H Q E h => ?_) (fun cdv A outer s H vs Q E hr h => ?_)
  · obtain ⟨x, G, _, h1, h2, _⟩ := h
    rw [dpa_len h1]
    exact hl x h2
  · obtain ⟨x, G, v, h1, h2, q, qb⟩ := h
    obtain ⟨t, ht, hS⟩ := hbody cdv A outer s H E hr
    have go : ∀ {G' H' : Hp}, Gx ⟨none, ts⟩ H G H G' H' → Vw ⟨none, ts⟩ G' H' → Go ⟨none, ts⟩ G H G' H' := fun x vw => ⟨x.gg, x.nw, fun a o hp e => x.od a o hp (by rw [e]; exact fun z => by cases z) e, vw⟩
    refine ⟨t, ht, hS x h2 (L2.start N vs) G H _ (ev_start h1 v) (fun σ' G' H' L' x e' p => ?_) (fun v d G' H' x vw hd p => ?_) (fun _ _ _ _ _ _ z => z.elim) (fun _ _ _ _ _ _ z => z.elim) (fun _ _ _ _ _ _ _ z => z.elim) (fun _ _ _ _ _ _ _ _ _ _ _ z => z.elim) fun hb G' H' x vw => qb hb G' H' (go x vw)⟩
    · exact q .non .none G' H' (go x e'.vw) .non p
    · exact q v d G' H' (go x vw) hd p
end
section
variable {K : PySem.W.Frag} {H0 : Hp} {L : Lv} {tl : TA} {D : Dn} {C : Addr} {c : Value} {ts' : Addr → Value → Option Addr → TS} {Wout : WX} {α : Type} {pn : Option Pn} {ts : List Addr} {Wf : α → Prop} {enc : α → List PyData} {res : α → PyData → Prop} {bad : α → Prop}
theorem S.at {pen : Pc} {t : TS} {σ : L2.St} {G H G1 H1 : Hp} {N : Ends} (h : S K pen H0 t L D) (e : Ev K pen H0 G1 H1 σ L) (x : Gx pen H0 G H G1 H1) (n1 : ∀ σ' G' H' L', Gx pen H0 G H G' H' → Ev K pen H0 G' H' σ' L' → D.nx L' → N.nx σ' H')
    (n2 : ∀ v d G' H', Gx pen H0 G H G' H' → Vw pen G' H' → Dp K G' v d → D.rt d → N.rt v H') (n3 : ∀ σ' G' H' L', Gx pen H0 G H G' H' → Ev K pen H0 G' H' σ' L' → D.bk L' → N.bk σ' H') (n4 : ∀ σ' G' H' L', Gx pen H0 G H G' H' → Ev K pen H0 G' H' σ' L' → D.ct L' → N.ct σ' H')
    (n5 : ∀ v d G' H', Gx pen H0 G H G' H' → Vw pen G' H' → Nd K (vnew H0 G' H') v d → D.rn d → N.rt v H') (n6 : ∀ l ho o G' H', Gx pen H0 G H G' H' → Vw pen G' H' → H' l = some ho → H0 l = none → G' l = none → OwnOk K G' l ho o → D.ro o → N.rt (.ref l) H') : t N σ H1 :=
  h σ G1 H1 N e (fun σ2 G2 H2 L2 x2 e2 q => n1 σ2 G2 H2 L2 (x.trans x2) e2 q) (fun v d G2 H2 x2 vw hd q => n2 v d G2 H2 (x.trans x2) vw hd q) (fun σ2 G2 H2 L2 x2 e2 q => n3 σ2 G2 H2 L2 (x.trans x2) e2 q) (fun σ2 G2 H2 L2 x2 e2 q => n4 σ2 G2 H2 L2 (x.trans x2) e2 q)
    (fun v d G2 H2 x2 vw hd q => n5 v d G2 H2 (x.trans x2) vw hd q) (fun l ho o G2 H2 x2 vw h1 h2 h3 h4 q => n6 l ho o G2 H2 (x.trans x2) vw h1 h2 h3 h4 q)
end
section
variable {K : PySem.W.Frag} {pen : Pc} {H0 : Hp} {L : Lv} {P : PyData → Prop} {te : TE} {tl : TA}
/-- a module's constant that is data -/
theorem e_cD {v : V} {d : PyData} (h : ∀ G : Hp, Dp K G v d) (p : P d) : E K pen H0 (tC v) L P := fun σ G H e Q q => q v d G H (.refl e.vw) (h G) p
/-- f'..{i}..' -/
theorem e_js3 {a b : Str} (ha : (Str.empty ++ a).length ≤ sizeLine) (h : E K pen H0 te L fun d => ∃ i : Int, d = .int i ∧ i.natAbs.log2 < 1920 ∧ (Str.empty ++ a ++ toString i).length ≤ sizeLine ∧ (Str.empty ++ a ++ toString i ++ b).length ≤ sizeLine) :
    E K pen H0 (fun σ H Q => tJs [tC (.str a), tFmt te, tC (.str b)] Str.empty σ H fun out H1 => Q (.str out) H1) L fun _ => True := fun σ G H e Q q =>
  ⟨a, rfl, ha, h σ G H e _ fun v d G1 H1 g1 d1 ⟨i, hi, h1, h2, h3⟩ => by
    subst hi
    cases d1
    exact .inr ⟨i, rfl, h1, _, rfl, h2, b, rfl, h3, q _ _ G1 H1 g1 (.str _) trivial⟩⟩
end
end Dl

set_option Elab.async false
set_option linter.all false
set_option maxRecDepth 100000
set_option maxHeartbeats 4000000
/-! ### sorted(t), t a tuple of ints -/
namespace SrtO
open PySem PyProof.Rows Srt
section
variable {prog : Program} {w : World} {A : Around} {E : Value → Shared → Prop} {s : Shared}
/-- the heap with a new empty list, and that list filled -/
abbrev bare (s : Shared) : Heap := s.heap.push (seqObj "list" #[] 0)
abbrev full (s : Shared) (vs : List Value) : Heap := (bare s).update s.heap.objs.size (Obj.mapSeq (· ++ vs.toArray))
theorem bare_new : (bare s).get? s.heap.objs.size = some (seqObj "list" #[] 0) := Heap.get?_push_size _ rfl
theorem full_size {vs : List Value} : (full s vs).objs.size = s.heap.objs.size + 1 := (Heap.size_update ..).trans (size_push' ..)
/-- a tuple's items put behind the new list's none -/
theorem extT {l : Addr} {vs : List Value} {Q : Fin → Shared → Prop} (hl : s.heap.IsTuple l vs.toArray) (hz : vs.length ≤ sizeLine) (h : Q (.done (.ret (.ref s.heap.objs.size))) { s with heap := full s vs }) :
    wpAny (model prog w) A (Builtin.List.listExtendWith (.ref s.heap.objs.size) (.ref l) (.ref s.heap.objs.size)) Q E { s with heap := bare s } := by
  obtain ⟨tup, at0, isT, m, dat⟩ := hl
  have at1 := Heap.get?_push_of_some (seqObj "list" #[] 0) at0
  have two : (Value.type "tuple" == Value.type "tuple") = true := rfl
  have fits : ((#[] : Array Value) ++ vs.toArray).size ≤ sizeLine + 1 := by
    rw [Array.size_append]
    show 0 + vs.length ≤ sizeLine + 1
    omega
  unfold Builtin.List.listExtendWith
  apply wpAny_bind
  refine wpAny_typeOf (T := "tuple") ⟨tup, at1, isT⟩ ?_
  rw [two, Bool.or_true, if_pos rfl]
  exact wpAny_bind (listItems_at at1 dat (wpAny_bind (listItems_at bare_new rfl (by
    rw [show (!(#[] : Array Value).isEmpty) = false from rfl, Bool.false_and]
    exact wpAny_bind (listUpdate_at bare_new rfl (wpAny_pure h) (Nat.zero_le _) fits)))))
theorem collectT {l : Addr} {vs : List Value} {Q : List Value → Shared → Prop} (hl : s.heap.IsTuple l vs.toArray) (hz : vs.length ≤ sizeLine) (h : Q vs { s with heap := full s vs }) : wpAny (model prog w) A (collect (.ref l)) Q E s := by
  have got : (full s vs).get? s.heap.objs.size = some _ := get?_update_seq bare_new (· ++ vs.toArray)
  have same : ((#[] : Array Value) ++ vs.toArray).toList = vs := by simp
  unfold collect
  apply wpAny_bind
  apply wpAny_runValue
  apply codeAny_builtin entry_proto_collect'
  show wpAny _ _ (newList [] >>= fun n => again (.builtin "list.__iadd__" ⟨[n, .ref l], []⟩)) _ _ s
  apply wpAny_bind
  refine wpAny_newList (wpAny_pure ?_) (Nat.zero_le _)
  refine ⟨Code.quiet_builtin _ (by decide +kernel), codeAny_builtin entry_list_iadd' ?_⟩
  apply extT hl hz
  apply wpAny_bind
  apply wpAny_load got
  apply wpAny_pure
  rw [same]
  exact h
theorem sortedT {l : Addr} {vs : List Value} {ltv : Value → Value → Bool} {Q : Value → Shared → Prop} (O : Swo ltv) (hl : s.heap.IsTuple l vs.toArray) (hz : vs.length ≤ sizeLine)
    (can : ∀ (h₁ : Heap) (a : Addr), 2 ≤ vs.length → SortableO prog w A.in1.in1 { s with heap := h₁ } a vs ltv)
    (h : ∀ out : List Value, Srtd ltv out → Stb ltv out vs → Q (.ref (s.heap.objs.size + 1)) { s with heap := sortedAll s.heap vs out.toArray }) :
    wpAny (model prog w) A (call (.builtin "sorted") [.ref l]) Q E s := by
  have at2 : ((full s vs).push (seqObj "list" vs.toArray 0)).get? (s.heap.objs.size + 1) = some (seqObj "list" vs.toArray 0) := full_size (s := s) (vs := vs) ▸ Heap.get?_push_size (full s vs) rfl
  apply Calls.call_function_entry kind_sorted plain_sorted entry_sorted (args_sorted1 _)
  unfold Builtin.«sorted»
  apply wpAny_bind (m := checkCount "sorted" 1 1 _)
  apply wpAny_pure
  apply wpAny_bind
  apply collectT hl hz
  apply wpAny_bind
  refine wpAny_newList ?_ hz
  show wpAny _ _ _ _ _ { s with heap := (full s vs).push (seqObj "list" vs.toArray 0) }
  rw [show (full s vs).objs.size = s.heap.objs.size + 1 from full_size]
  apply wpAny_bind
  apply wpAny_holding
  refine wpAny_call_entry slot_list_sort ⟨_, at2, rfl⟩ entry_list_sort (list_sort_ord O at2 hz (can _ _) fun out o1 o2 => ⟨_, rfl, ?_⟩) (args_list_sort _)
  exact wpAny_pure ⟨_, rfl, h out o1 o2⟩
end
end SrtO
namespace Dl
open PySem PySem.Spec PyProof.Rows L2
def rSortT (K : PySem.W.Frag) : List V → Hp → VK → Prop := fun vs H Q => ∃ (a : Addr) (ns : List Int), vs = [V.ref a] ∧ SqT K H a (ns.map V.int) ∧ ns.length ≤ 100000 ∧
  ∀ (ns' : List Int) (p : Addr), ns'.Perm ns → ns'.Pairwise (· ≤ ·) → H p = none → Q (.ref p) (upd H p (.lst (ns'.map V.int)))
theorem cr_sortT {X : Cx} : CallR X (.builtin "sorted") (rSortT X.K) := by
  intro pins st σ H xs us Q I rel ask
  obtain ⟨a, ns, rfl, tup, few, q⟩ := ask
  obtain ⟨its, rv, at0, _⟩ := I.tuple tup
  have wh := rv.ints
  have fits : ns.length ≤ sizeLine := Nat.le_trans few (by rw [sizeLine_eq]; decide)
  rw [Vals.ref1 rel]
  apply SrtO.sortedT SrtO.swo_int at0 (by rw [← rv.length, List.length_map]; exact fits) fun _ _ two => SrtO.ints_sortable wh two
  intro out o1 o2
  have ⟨is, pm, le⟩ := SrtO.ints_out wh o1 o2
  have ⟨n, made⟩ := PyProof.Rows.sortedAll_at st.heap its out.toArray
  have sz : ((out.map SrtO.iv).map V.int).length ≤ sizeLine := by rw [List.length_map, pm.length_eq]; exact fits
  refine ⟨.ref _, upd H _ (.lst ((out.map SrtO.iv).map V.int)), I.laid (t' := st.toks) (a := st.heap.objs.size + 1) (fun _ _ => PyProof.Rows.sortedAll_old) (Nat.le_succ _) ⟨sz, out, n, vals_of_ints is, made⟩, rfl, ?_⟩
  exact q _ _ pm le (I.hok.fresh (Nat.le_succ _))
theorem kx_sortT {K : PySem.W.Frag} {X : Cx} (h : X.K = K) : CallR X (.builtin "sorted") (rSortT K) := by subst h; exact cr_sortT
theorem e_sortT {K : PySem.W.Frag} {pen : Pc} {H0 : Hp} {L : Lv} {P : PyData → Prop} {te : TE} (h : E K pen H0 te L fun d => ∃ ns : List Int, d = .tuple (intsL ns) ∧ ns.length ≤ 100000 ∧ ∀ ms : List Int, ms.Perm ns → ms.Pairwise (· ≤ ·) → P (.list (intsL ms))) :
    E K pen H0 (tCB (rSortT K) (tCons te tNil)) L P := fun σ G H e Q q => h σ G H e _ fun v d G1 H1 go hd ⟨ns, hds, hz, p⟩ => by
  subst hds
  cases hd with
  | tup hs ha =>
    rename_i a xs
    have ex := dpa_ints ha
    subst ex
    refine ⟨a, ns, rfl, sqT_mono go.vw.vw hs, hz, fun ms r hp hw hr => ?_⟩
    have g3 := Go.new go.vw (o := .lst (ms.map V.int)) hr
    exact q _ _ _ _ (go.trans g3) (.lst (.inl (.inl upd_same)) (ints_dpa ms)) (p ms hp hw)
end Dl
namespace Dl
open PySem PySem.Spec PyProof.Rows L2
theorem r_notNone {K : PySem.W.Frag} {pen : Pc} {P : PyData → Prop} {a : PyData} (p : P (.bool (!isNone a))) : R2d K pen (fun x y H Q => y = .non ∧ Q (.bl (!decide (x = .non))) H) a .none P := fun x y G H v hx hy Q q => by
  cases hy
  refine ⟨rfl, q _ _ G H (.refl v) ?_ p⟩
  cases hx <;> exact .bl _
end Dl
namespace Dl
open PySem PySem.Spec PyProof.Rows L2
section
variable {K : PySem.W.Frag} {H0 : Hp} {L : Lv} {tl : TA} {D : Dn} {C : Addr} {c : Value} {ts' : Addr → Value → Option Addr → TS} {Wout : WX} {α : Type} {pn : Option Pn} {ts : List Addr} {Wf : α → Prop} {enc : α → List PyData} {res : α → PyData → Prop} {bad : α → Prop}
end
end Dl

set_option Elab.async false
set_option linter.all false
set_option maxRecDepth 100000
set_option maxHeartbeats 4000000
/-! ### defs that may raise, and tell what is new -/
namespace Dl
open PySem PySem.Spec PyProof.Rows L2
def SpXRF {α : Type} (K : PySem.W.Frag) (ts : List Addr) (C : Addr) (Wf : α → Prop) (enc : α → List PyData) (res : α → PyData → Prop) (bad : α → Prop) : Sp := fun vs H Q E => ∃ (x : α) (G : Hp), Vw ⟨none, ts⟩ G H ∧ DpAll K G vs (enc x) ∧ Wf x ∧
  (∀ v d G' H', Go ⟨none, ts⟩ G H G' H' → Nd K (vnew H G' H') v d → res x d → Q v H') ∧ (bad x → ∀ G' H', Go ⟨none, ts⟩ G H G' H' → E (.ref C) none H')
section
variable {P : Program} {w : World} {K : PySem.W.Frag} {mg : Str → Option Value} {base : Heap}
end
section
variable {K : PySem.W.Frag} {H0 : Hp} {L : Lv} {tl : TA} {D : Dn} {C : Addr} {c : Value} {ts' : Addr → Value → Option Addr → TS} {Wout : WX} {α : Type} {pn : Option Pn} {ts : List Addr} {Wf : α → Prop} {enc : α → List PyData} {res : α → PyData → Prop} {bad : α → Prop} {P : PyData → Prop}
end
section
variable {K : PySem.W.Frag} {pen : Pc} {H0 : Hp} {L : Lv} {D : Dn} {te : TE} {Pl : List PyData → Prop}
end
end Dl

set_option Elab.async false
set_option linter.all false
set_option maxRecDepth 100000
set_option maxHeartbeats 4000000
/-! ### x[1].append(e); if t: ..; x = (x[0], y): the told list is spoilt, the told text is kept -/
namespace Dl
open PySem PySem.Spec PyProof.Rows L2
section
variable {K : PySem.W.Frag} {pen : Pc} {H0 : Hp} {L : Lv} {D : Dn} {tt : TT} {t1 tr : TS}
end
end Dl

/-! ### x in l, items of any depth; k in a list of ints -/
namespace Dl
open PySem PySem.Spec PyProof.Rows L2
section
variable {K : PySem.W.Frag} {pen : Pc} {P : PyData → Prop}
end
end Dl
/-! ### list(x[k]), x told as new -/
namespace Dl
open PySem PySem.Spec PyProof.Rows L2
end Dl

set_option Elab.async false
set_option linter.all false
set_option maxRecDepth 100000
set_option maxHeartbeats 4000000
namespace Gx
open PySem PySem.Spec PyProof.Rows L2 GenW GxR
section
variable {X : Cx}
end
end Gx

set_option Elab.async false
set_option linter.all false
set_option maxRecDepth 100000
/-! sorted(range(..), key=lambda ..), sorted(pairs for ..) by data -/
namespace Dl
open PySem PySem.Spec PyProof.Rows L2
variable {K : PySem.W.Frag} {pen : Pc} {H0 : Hp} {L : Lv} {D : Dn} {Pd : PyData → Prop} {Pl : List PyData → Prop} {ti : TI} {g : TG} {tt : TT} {te ta : TE}
end Dl

set_option Elab.async false
set_option linter.all false
set_option maxRecDepth 100000
/-! sorted(set(pairs)) of pairs that stand in their order, len(set(ints)) of unlike ints -/
namespace Dl
open PySem PySem.Spec PyProof.Rows L2
section
variable {X : Cx}
end
section
variable {K : PySem.W.Frag} {pen : Pc} {H0 : Hp} {L : Lv} {te : TE} {Pl : List PyData → Prop} {Pd : PyData → Prop} {P : Program} {w : World}
end
section
variable {P : Program} {w : World} {K : PySem.W.Frag} {mg : Str → Option Value} {base : Heap}
end
end Dl

set_option Elab.async false
set_option linter.all false
set_option maxRecDepth 100000
/-! what was told as new: returned, unpacked, walked -/
namespace Dl
open PySem PySem.Spec PyProof.Rows L2
section
variable {K : PySem.W.Frag} {pen : Pc} {H0 : Hp} {L : Lv} {P : PyData → Prop} {te : TE} {ti : TI} {tt : TT} {t1 : TS} {g : TG} {D : Dn}
end
end Dl

set_option Elab.async false
set_option linter.all false
set_option maxRecDepth 100000
/-! a part of what was told as new, told on -/
namespace Dl
open PySem PySem.Spec PyProof.Rows L2
section
variable {K : PySem.W.Frag} {pen : Pc} {H0 : Hp} {L : Lv} {P : PyData → Prop} {tj : TE}
end
end Dl

set_option Elab.async false
set_option linter.all false
set_option maxRecDepth 100000
/-! dicts whose keys are tuples within tuples, as data -/
namespace Dl
open PySem PySem.Spec PyProof.Rows L2
mutual
theorem nk_of {K : PySem.W.Frag} {G H : Hp} (s : Same G H) : ∀ (k : NestedKey) (v : V), Dp K G v k.data → Gn.NK K H k v
  | .none, v, h => by
    rw [NestedKey.data] at h
    cases h
    exact .none
  | .num i, v, h => by
    rw [NestedKey.data] at h
    cases h
    exact .int i
  | .text x, v, h => by
    rw [NestedKey.data] at h
    cases h
    exact .str x
  | .tup ks, v, h => by
    rw [NestedKey.data] at h
    cases h with
    | tup hs ha =>
      obtain ⟨h1, h2⟩ := nks_of s ks _ ha
      exact .tup (sqT_mono s hs) h1 h2
theorem nks_of {K : PySem.W.Frag} {G H : Hp} (s : Same G H) : ∀ (ks : List NestedKey) (xs : List V), DpAll K G xs (NestedKey.datas ks) → xs.length = ks.length ∧ ∀ (i : Nat) x k, xs[i]? = some x → ks[i]? = some k → Gn.NK K H k x
  | [], xs, h => by
    rw [NestedKey.datas] at h
    cases h
    exact ⟨rfl, fun i x k h => by cases h⟩
  | k :: ks, xs, h => by
    rw [NestedKey.datas] at h
    cases h with
    | cons h1 h2 =>
      obtain ⟨g1, g2⟩ := nks_of s ks _ h2
      refine ⟨by rw [List.length_cons, List.length_cons, g1], fun i x k' e1 e2 => ?_⟩
      rcases i with _ | i
      · cases e1; cases e2
        exact nk_of s k _ h1
      · exact g2 i x k' e1 e2
end
theorem tup_ref {K : PySem.W.Frag} {G : Hp} {v : V} {ks : List NestedKey} (h : Dp K G v (NestedKey.tup ks).data) : ∃ b, v = .ref b := by
  rw [NestedKey.data] at h
  cases h
  exact ⟨_, rfl⟩
section
variable {K : PySem.W.Frag} {G H : Hp} {kvs : List Gn.NE} {m : List (NestedKey × PyData)}
theorem nv_len (h : NvOk K G kvs m) : kvs.length = m.length := Paired.length h
theorem nv_keys (s : Same G H) (h : NvOk K G kvs m) : Gn.Keys K H kvs := by
  induction h with
  | nil => exact fun p hp => nomatch hp
  | @cons p q ps qs h t ih =>
    intro x hx
    rcases List.mem_cons.mp hx with e | hx
    · subst e
      exact ⟨nk_of s _ _ h.2.2.1, h.2.1⟩
    · exact ih x hx
theorem nv_val (k : NestedKey) (h : NvOk K G kvs m) : (∃ v d, Gn.getN kvs k = some v ∧ valD m k = some d ∧ Dp K G v d) ∨ (Gn.getN kvs k = none ∧ valD m k = none) := by
  induction h with
  | nil => exact .inr ⟨rfl, rfl⟩
  | @cons p q ps qs h t ih =>
    by_cases e : p.1 = k
    · refine .inl ⟨p.2.2, q.2, by simp [Gn.getN, List.find?_cons, e], by simp [valD, List.find?_cons, ← h.1, e], h.2.2.2⟩
    · have e2 : ¬ q.1 = k := fun z => e (h.1.trans z)
      rw [show Gn.getN (p :: ps) k = Gn.getN ps k from by simp [Gn.getN, List.find?_cons, e], show valD (q :: qs) k = valD qs k from by simp [valD, List.find?_cons, e2]]
      exact ih
theorem nv_any (k : NestedKey) (h : NvOk K G kvs m) : (kvs.any fun p => decide (p.1 = k)) = (m.any fun p => decide (p.1 = k)) := by
  induction h with
  | nil => rfl
  | @cons p q ps qs h t ih => rw [List.any_cons, List.any_cons, ih, h.1]
theorem nv_put {b : Addr} {v : V} {d : PyData} (k : NestedKey) (hd8 : k.depth ≤ 8) (hb : Dp K G (.ref b) k.data) (hd : Dp K G v d) (h : NvOk K G kvs m) : NvOk K G (Gn.putN kvs k b v) (putD m k d) := by
  unfold Gn.putN putD
  rw [nv_any k h]
  split
  · rename_i hs
    clear hb hs
    induction h with
    | nil => exact .nil
    | @cons p q ps qs h t ih =>
      rw [List.map_cons, List.map_cons]
      refine .cons ?_ ih
      obtain ⟨h1, h2, h3, h4⟩ := h
      by_cases e : p.1 = k
      · rw [if_pos e, if_pos (h1.symm.trans e)]; exact ⟨h1, h2, h3, hd⟩
      · rw [if_neg e, if_neg (fun z => e (h1.trans z))]; exact ⟨h1, h2, h3, h4⟩
  · exact Paired.snoc h ⟨rfl, hd8, hb, hd⟩
end
section
variable {w : World} {K : PySem.W.Frag} {pen : Pc} {H0 : Hp} {L : Lv} {P : PyData → Prop} {ty tv : TE} {D : Dn}
/-- a key: a tuple of ints, texts, None and tuples -/
def NkD (d : PyData) (k : NestedKey) : Prop := d = k.data ∧ k.depth ≤ 8 ∧ ∃ ks, k = .tup ks
theorem s_nnew {i : Nat} (h : D.nx (L.set i (some (.own (.dN w []))))) : S K pen H0 (tAsg (Gn.tNew w) (gName i)) L D := fun σ G H N e n1 _ _ _ _ _ => fun p hp =>
  n1 _ G _ _ (e.gx (Go.hid e.vw hp)) (e.newOwn (o := .dN w []) (ho := Gn.NO w p []) hp (OwnOk.ofN .nil)) h
theorem s_nput {j : Nat} {m : List (NestedKey × PyData)} (hj : L[j]? = some (some (.own (.dN w m)))) (hz : m.length < 100000) (h : E K pen H0 tv L fun d => E K pen H0 ty L fun x => ∃ k, NkD x k ∧ D.nx (L.set j (some (.own (.dN w (putD m k d)))))) (nf : noFr L = true := by rfl) :
    S K pen H0 (Gn.sPut w K (tVar j) ty tv) L D := fun σ G H N e n1 _ _ _ _ _ => h σ G H e _ fun v d G1 H1 g1 d1 h1 => by
  have e1 := e.go g1
  obtain ⟨l, ho, k1, k3, k6⟩ := e1.own hj
  refine ⟨_, k1, h1 σ G1 H1 e1 _ fun y x G2 H2 g2 d2 ⟨k, ⟨hk, hk8, ks, hkt⟩, p⟩ => ?_⟩
  have e2 := e1.go g2
  obtain ⟨ho2, q3, q6⟩ := e2.ownAt hj k1
  obtain ⟨kvs, rfl, q7⟩ := q6.dN
  subst hk
  obtain ⟨b, rfl⟩ := tup_ref (ks := ks) (by rw [← hkt]; exact d2)
  obtain ⟨r1, r2⟩ := e2.putOwn nf hj k1 (o' := .dN w (putD m k d)) (ho := Gn.NO w l (Gn.putN kvs k b v)) (OwnOk.ofN (nv_put k hk8 d2 (dp_mono g2.gg _ _ d1) q7))
  exact ⟨l, b, kvs, k, rfl, rfl, q3, nv_keys e2.vw.vw q7, nk_of e2.vw.vw _ _ d2, hk8, Nat.lt_of_lt_of_le (by rw [nv_len q7]; exact hz) (by decide : 100000 ≤ sizeLine), n1 σ G2 _ _ (((e.gx g1).trans (e1.gx g2)).trans r2) r1 p⟩
theorem e_nin {neg : Bool} {j : Nat} {m : List (NestedKey × PyData)} (hj : RdO L j (.dN w m)) (h : E K pen H0 ty L fun x => ∃ k, NkD x k ∧ P (.bool (neg != (valD m k).isSome))) : E K pen H0 (Gn.tIn w K neg ty (tVar j)) L P := fun σ G H e Q q =>
  h σ G H e _ fun y x G1 H1 g1 d1 ⟨k, ⟨hk, hk8, ks, hkt⟩, p⟩ => by
    obtain ⟨l, ho2, k1, q3, q6⟩ := (e.go g1).rd hj
    obtain ⟨kvs2, rfl, q7⟩ := q6.dN
    subst hk
    obtain ⟨b, rfl⟩ := tup_ref (ks := ks) (by rw [← hkt]; exact d1)
    refine ⟨_, k1, l, b, kvs2, k, rfl, rfl, .inl q3, nv_keys (e.go g1).vw.vw q7, nk_of (e.go g1).vw.vw _ _ d1, hk8, ?_⟩
    have e3 : (Gn.getN kvs2 k).isSome = (valD m k).isSome := by
      rcases nv_val k q7 with ⟨v, d', z1, z2, z3⟩ | ⟨z1, z2⟩ <;> rw [z1, z2] <;> rfl
    rw [e3]
    exact q _ _ G1 H1 g1 (.bl _) p
end
theorem hu9_of {k : Nat} {A : Around} (hr : L2.Room k A) : A.units + 9 < cLine := by have := hr.un; omega
section
variable {K : PySem.W.Frag} {H0 : Hp} {L : Lv} {tl : TA} {D : Dn} {C : Addr} {c : Value} {ts' : Addr → Value → Option Addr → TS} {Wout : WX} {α : Type} {pn : Option Pn} {ts : List Addr} {Wf : α → Prop} {enc : α → List PyData} {res : α → PyData → Prop} {bad : α → Prop}
end
end Dl

set_option Elab.async false
set_option linter.all false
set_option maxRecDepth 100000
set_option maxHeartbeats 4000000
namespace Gn
open PySem PySem.Spec PyProof.Rows L2
section
variable {X : Cx}
end
end Gn
namespace Dl
open PySem PySem.Spec PyProof.Rows L2
section
variable {w : World} {K : PySem.W.Frag} {pen : Pc} {H0 : Hp} {L : Lv} {Pl : List PyData → Prop}
end
end Dl

set_option Elab.async false
set_option linter.all false
set_option maxRecDepth 100000
/-! dicts whose keys are tuples within tuples: a display with one pair, how many -/
namespace Gn
open PySem PySem.Spec PyProof.Rows L2
/-- {k: v} -/
def tDisp1 (w : World) (K : PySem.W.Frag) (tk tv : TE) : TE := fun σ H Q => ∀ p, H p = none → tk σ (upd H p (NO w p [])) fun y H1 => tv σ H1 fun v H2 => ∃ y' v' b k, [(y, v)] = [(y', v')] ∧ y' = V.ref b ∧ H2 p = some (NO w p []) ∧ NK K H2 k y' ∧ k.depth ≤ 8 ∧ Q (.ref p) (upd H2 p (NO w p [(k, b, v')]))
section
variable {X : Cx} {K : PySem.W.Frag} {w : World} {k v : Expr} {pos : Pos} {tk tv : TE}
theorem pe_disp1 (hK : X.K = K) (hw : X.w = w) (hu : X.A.units + 9 < cLine) (hk : PE X k tk) (hv : PE X v tv) : PE X (.Dict [some k] [v] pos) (tDisp1 w K tk tv) := by
  subst hK hw
  refine ⟨fun pins s σ H Q I q => ?_⟩
  have hn := I.hok.fresh (Nat.le_refl s.heap.objs.size)
  have I1 := I.laid (a := s.heap.objs.size) (o := NO X.w s.heap.objs.size []) (h' := s.heap.push { cls := .type "dict", data := .dict #[] }) (t' := s.toks) (fun _ _ q => Heap.get?_push_of_some _ q) (Nat.le_refl _) (laid (P := X.prog) (Nat.zero_le _) (beq_eq_false_iff_ne.mpr (Ne.symm (Nat.ne_of_lt I.big))) .nil (Heap.DictOfH.new s.heap))
  have hroom : (nestedKind X.prog X.w).room X.A := by show X.A.units + 8 < cLine; omega
  have hshape : (evalEachOpt [some k] X.env).zip ((evalEach [v] X.env).map fun v => (do let x ← v; standAt pos; pure x)) = [(eval k X.env, (do let x ← eval v X.env; standAt pos; pure x))].map fun p : Sem Value × Sem Value => (some p.1, p.2) := rfl
  rw [arm_eval_Dict, hshape, dictDisplay_pairs _ (by simp) (by show 1 < 17; decide)]
  refine wpAny_bind (wpAny_standAt (wpAny_bind (wpAny_subDictH (knd := nestedKind X.prog X.w) hroom (by show 1 ≤ 15; decide) ?_)))
  have hp := (pps_cons (pos := pos) hk hv (pps_nil (X := X))).run pins _ σ _ (fun ps H2 => ∃ y v b k, ps = [(y, v)] ∧ y = V.ref b ∧ H2 s.heap.objs.size = some (NO X.w s.heap.objs.size []) ∧ NK X.K H2 k y ∧ k.depth ≤ 8 ∧ Q (.ref s.heap.objs.size) (upd H2 s.heap.objs.size (NO X.w s.heap.objs.size [(k, b, v)]))) I1
    (q _ hn)
  refine wpAny_mono hp (fun vs s1 h1 => ?_) fun _ _ x => x
  obtain ⟨ps, H2, I2, rel, y, v', b, kk, rfl, rfl, e, hnk, hd8, q2⟩ := h1
  match vs, rel with
  | [(u1, u2)], .cons ⟨r1, r2⟩ .nil =>
    obtain rfl : u1 = Value.ref b := r1
    obtain ⟨z, hd, xs, r0, dd⟩ := lies I2 (.inl e) (fun p hp => nomatch hp)
    cases r0
    refine ⟨[(kk, b, u2)], ⟨rfl, rfl, ⟨hnk.is I2 rfl, hd8⟩, True.intro⟩, dd, fun h' tk hdk hs => wpAny_pure ?_⟩
    refine ⟨.ref s.heap.objs.size, _, d_write I2 (by rw [e]; exact True.intro) hs (let ⟨q, _, _, hq, _⟩ := hdk; ⟨q, hq⟩) (laid (P := X.prog) (xs := [(kk, b, u2)]) ?_ hd (.cons ⟨rfl, rfl, r2⟩ .nil) hdk), rfl, q2⟩
    rw [sizeLine_eq]
    show 1 ≤ 16777216
    decide
theorem len_body {A : Around} {E : Value → Shared → Prop} {s : Shared} {P : Program} {w : World} {d : Addr} {es : Array DictEntry} {ep : Nat} {Q : Value → Shared → Prop} (hd : (d == sysModules) = false) (hm : s.heap.DictRaw d es ep) (hfit : (es.size : Int) < 2 ^ 63)
    (h : Q (.int es.size (s.toks + 1)) { s with toks := s.toks + 1 + 1 }) : wpAny (model P w) A (Builtin.«len» ⟨[.ref d], []⟩) (fun fin s' => ∃ r, fin = .done (.ret r) ∧ Q r s') E s := by
  unfold Builtin.«len»
  refine wpAny_bind (m := oneArg "len" _) (wpAny_pure ?_)
  refine wpAny_bind (m := callSpecial? (.ref d) (Str.ofString "__len__")) (wpAny_callSpecial?_slot (name := Str.ofString "__len__") hm.typeIs F.slot_dict_len (call_len_raw hd hm ?_))
  show wpAny _ _ _ _ _ { s with toks := s.toks + 1 }
  refine wpAny_bind (wpAny_holding (wpAny_pure ?_))
  refine wpAny_bind (wpAny_letGo ?_)
  show wpAny _ _ (if ((es.size : Nat) : Int) < 0 then _ else _) _ _ _
  rw [if_neg (by omega)]
  show wpAny _ _ (if ((es.size : Nat) : Int) ≥ 2 ^ 63 then _ else _) _ _ _
  rw [if_neg (by omega)]
  exact wpAny_bind (wpAny_mkInt (wpAny_pure ⟨_, rfl, h⟩))
/-- len(d) -/
def rLenN (w : World) (K : PySem.W.Frag) : List V → Hp → VK → Prop := fun xs H Q => ∃ a kvs, xs = [.ref a] ∧ Rd H a (NO w a kvs) ∧ Keys K H kvs ∧ Q (.int kvs.length) H
theorem call_len (hK : X.K = K) (hw : X.w = w) : CallR X (.builtin "len") (rLenN w K) := by
  subst hK hw
  intro pins s σ H xs us Q I r h
  obtain ⟨p, kvs, e, hk, hks, q⟩ := h
  subst e
  obtain ⟨u, eu, rx⟩ := vals1 r
  subst eu
  obtain rfl : u = Value.ref p := rx
  obtain ⟨z, lo, xs, rel, dd⟩ := lies I hk hks
  obtain ⟨es, ep, raw, hsz, hx⟩ := dd.raw
  have hl : kvs.length = xs.length := Paired.length rel
  refine Calls.call_function_entry kind_len plain_len entry_len (args_len1 _) (len_body lo raw ?_ ?_)
  · rw [sizeLine_eq] at z
    omega
  · exact ⟨.int kvs.length, H, I.tok _, ⟨_, by rw [hsz, ← hl]⟩, q⟩
end
end Gn

set_option Elab.async false
set_option linter.all false
set_option maxRecDepth 100000
set_option maxHeartbeats 4000000
/-! dicts whose keys are tuples within tuples: {k: v}, len; defs that may raise and tell a new object; while in them -/
namespace Dl
open PySem PySem.Spec PyProof.Rows L2
section
variable {w : World} {K : PySem.W.Frag} {pen : Pc} {H0 : Hp} {L : Lv} {P : PyData → Prop} {tk tv : TE} {D : Dn}
theorem ek_disp1 {Po : OO → Prop} (h : E K pen H0 tk L fun x => E K pen H0 tv L fun d => ∃ k, NkD x k ∧ Po (.dN w [(k, d)])) : EK K pen H0 (Gn.tDisp1 w K tk tv) L Po := fun σ G H e Q q => fun p hp => by
  have g0 : Go pen G H G (upd H p (Gn.NO w p [])) := Go.hid e.vw hp
  have e0 := e.go g0
  refine h σ G _ e0 _ fun y x G1 H1 g1 d1 h1 => ?_
  refine h1 σ G1 H1 (e0.go g1) _ fun v d G2 H2 g2 d2 ⟨k, ⟨hk, hk8, ks, hkt⟩, po⟩ => ?_
  have g := g1.trans g2
  subst hk
  have d1' := dp_mono g2.gg _ _ d1
  obtain ⟨b, rfl⟩ := tup_ref (ks := ks) (by rw [← hkt]; exact d1')
  have gp : G p = none := e.gnone hp
  have np : ¬ IsPn pen p := fun z => e.vw.ok.there z hp
  have h2p : H2 p = some (Gn.NO w p []) := g.od _ _ np upd_same
  have g2p : G2 p = none := (g.nw p (by rw [upd_same]; exact fun z => by cases z)).trans gp
  have h0p : H0 p = none := e.h0none hp
  have hok : POk pen (upd H2 p (Gn.NO w p [(k, b, v)])) := g2.vw.ok.upd e.h0 h0p (fun q z => Gn.noCode w p [] q (Option.some.inj (h2p.symm.trans z)))
  have hvw : Vw pen G2 (upd H2 p (Gn.NO w p [(k, b, v)])) := ⟨fun a o q => by rw [upd_ne (fun z => by rw [z, g2p] at q; cases q)]; exact g2.vw.vw a o q, g2.vw.no, hok⟩
  have gf : Go pen G H G2 (upd H2 p (Gn.NO w p [(k, b, v)])) := ⟨g.gg, fun a ha => g.nw a (by rw [upd_ne (fun z => ha (by rw [z]; exact hp))]; exact ha), fun a o hn ha => by
    have hne : a ≠ p := fun z => by rw [z, hp] at ha; cases ha
    rw [upd_ne hne]
    exact g.od a o hn (by rw [upd_ne hne]; exact ha), hvw⟩
  exact ⟨_, _, b, k, rfl, rfl, h2p, nk_of g2.vw.vw _ _ d1', hk8, q p _ _ G2 _ gf upd_same g2p hp (OwnOk.ofN (.cons ⟨rfl, hk8, d1', d2⟩ .nil)) po⟩
theorem e_nlen {j : Nat} {m : List (NestedKey × PyData)} (hj : RdO L j (.dN w m)) (p : P (.int m.length)) : E K pen H0 (tCB (Gn.rLenN w K) (tCons (tVar j) tNil)) L P := fun σ G H e Q q => by
  obtain ⟨l, ho, k1, k3, k6⟩ := e.rd hj
  obtain ⟨kvs, rfl, k7⟩ := k6.dN
  refine ⟨_, k1, l, kvs, rfl, .inl k3, nv_keys e.vw.vw k7, ?_⟩
  rw [nv_len k7]
  exact q _ _ G H (.refl e.vw) (.int _) p
end
section
variable {K : PySem.W.Frag} {pen : Pc} {H0 : Hp} {L : Lv} {tt : TT} {t : TS} {te : TE} {D : Dn} {Eo : XK} {C : Addr} {bad : Prop}
theorem SX.sub {L4 : Lv} (h : SX K pen H0 Eo C bad t L D) (s : Sub L L4) : SX K pen H0 Eo C bad t L4 D := fun σ G H N e => h σ G H N (e.sub s)
theorem sx_while (I : Nat → Lv → Prop) (h0 : ∃ m, I m L) (h : ∀ m L', I m L' → ET K pen H0 tt L' fun b => (b = true → SX K pen H0 Eo C bad t L' { D with nx := fun L2 => ∃ m', m' < m ∧ I m' L2, ct := fun L2 => ∃ m', m' < m ∧ I m' L2, bk := D.nx }) ∧ (b = false → D.nx L')) :
    SX K pen H0 Eo C bad (tWhile tt t) L D := fun σ G H N e n1 n2 n3 n4 n5 n6 n7 => by
  obtain ⟨m0, i0⟩ := h0
  refine ⟨fun m σ' H' => ∃ G' L', Gx pen H0 G H G' H' ∧ Ev K pen H0 G' H' σ' L' ∧ I m L', ⟨m0, G, L, .refl, e, i0⟩, ?_⟩
  rintro m σ1 H1 ⟨G1, L1, x1, e1, q1⟩
  refine h m L1 q1 σ1 G1 H1 e1 _ fun b G2 H2 go p => ?_
  have x2 := x1.trans (e1.gx go)
  cases b with
  | false => exact n1 σ1 G2 H2 L1 x2 (e1.go go) (p.2 rfl)
  | true =>
    refine ⟨fun σ' H' => ∃ G' L' m', m' < m ∧ Gx pen H0 G H G' H' ∧ Ev K pen H0 G' H' σ' L' ∧ I m' L', fun σ' H' ⟨G', L', m', hm, r⟩ => ⟨m', hm, G', L', r⟩, ?_⟩
    exact p.1 rfl σ1 G2 H2 _ (e1.go go) (fun σ3 G3 H3 L3 x3 e3 ⟨m', hm, q3⟩ => ⟨G3, L3, m', hm, x2.trans x3, e3, q3⟩) (fun v d G3 H3 x3 vw hd q3 => n2 v d G3 H3 (x2.trans x3) vw hd q3)
      (fun σ3 G3 H3 L3 x3 e3 q3 => n1 σ3 G3 H3 L3 (x2.trans x3) e3 q3) (fun σ3 G3 H3 L3 x3 e3 ⟨m', hm, q3⟩ => ⟨G3, L3, m', hm, x2.trans x3, e3, q3⟩) (fun v d G3 H3 x3 vw hd q3 => n5 v d G3 H3 (x2.trans x3) vw hd q3) (fun l ho o G3 H3 x3 vw h1 h2 h3 h4 q3 => n6 l ho o G3 H3 (x2.trans x3) vw h1 h2 h3 h4 q3) (fun hb G3 H3 x3 vw => n7 hb G3 H3 (x2.trans x3) vw)
end
/-- a new object is told, or the class at C raised -/
def SpXRN {α : Type} (K : PySem.W.Frag) (ts : List Addr) (C : Addr) (Wf : α → Prop) (enc : α → List PyData) (res : α → OO → Prop) (bad : α → Prop) : Sp := fun vs H Q E => ∃ (x : α) (G : Hp), Vw ⟨none, ts⟩ G H ∧ DpAll K G vs (enc x) ∧ Wf x ∧
  (∀ l ho o G' H', Go ⟨none, ts⟩ G H G' H' → H' l = some ho → G' l = none → H l = none → OwnOk K G' l ho o → res x o → Q (.ref l) H') ∧ (bad x → ∀ G' H', Go ⟨none, ts⟩ G H G' H' → E (.ref C) none H')
section
variable {P : Program} {w : World} {K : PySem.W.Frag} {mg : Str → Option Value} {base : Heap}
theorem fnXRN {α : Type} {x qual : Str} {st : Stmt} {f : Addr} {fd : FuncData} {N ps : List Str} {k : Nat} {ts : List Addr} {C : Addr} {Wf : α → Prop} {enc : α → List PyData} {res : α → OO → Prop} {bad : α → Prop} (F : Fun K x qual st f fd) (S0 : FnScope N ps (defScope st)) (hl : ∀ x, Wf x → (enc x).length = ps.length)
    (hbody : ∀ (cdv : Value) (A : Around) (outer : List Env) (s : Shared) (H : Hp) (E : XK), Room k (A.deeper (envOfC qual (defScope st) s.heap.objs.size f cdv)) →
      ∃ t, PSs (cxOf (L2.CX P w) P w K mg base N qual (defScope st) f cdv A outer s H E) (defBody st) t ∧ ∀ x, Wf x → SX K ⟨none, ts⟩ H E C (bad x) t (st0 N (enc x)) { nx := fun _ => False, rt := fun _ => False, ro := res x }) : FnOk P w K mg base (L2.CX P w) (k + 1) f fd ps (SpXRN K ts C Wf enc res bad) := by
  refine F.okX S0 (fun vs H Q E h => ?_) (fun cdv A outer s H vs Q E hr h => ?_)
  · obtain ⟨x, G, _, h1, h2, _⟩ := h
    rw [dpa_len h1]
    exact hl x h2
  · obtain ⟨x, G, v, h1, h2, q, qb⟩ := h
    obtain ⟨t, ht, hS⟩ := hbody cdv A outer s H E hr
    have go : ∀ {G' H' : Hp}, Gx ⟨none, ts⟩ H G H G' H' → Vw ⟨none, ts⟩ G' H' → Go ⟨none, ts⟩ G H G' H' := fun x vw => ⟨x.gg, x.nw, fun a o hp e => x.od a o hp (by rw [e]; exact fun z => by cases z) e, vw⟩
    exact ⟨t, ht, hS x h2 (L2.start N vs) G H _ (ev_start h1 v) (fun _ _ _ _ _ _ z => z.elim) (fun _ _ _ _ _ _ _ z => z.elim) (fun _ _ _ _ _ _ z => z.elim) (fun _ _ _ _ _ _ z => z.elim) (fun _ _ _ _ _ _ _ z => z.elim) (fun l ho o G' H' x vw k1 k2 k3 k4 p => q l ho o G' H' (go x vw) k1 k3 k2 k4 p) fun hb G' H' x vw => qb hb G' H' (go x vw)⟩
end
section
variable {K : PySem.W.Frag} {H0 : Hp} {L : Lv} {tl : TA} {D : Dn} {Eo : XK} {C : Addr} {bad : Prop} {α : Type} {pn : Option Pn} {ts : List Addr} {Wf : α → Prop} {enc : α → List PyData} {res : α → OO → Prop} {bd : α → Prop}
/-- x = f(..), f such a def, within one that may raise -/
theorem sx_asgK {i : Nat} (h : EA K ⟨pn, ts⟩ H0 tl L fun ds => ∃ x, ds = enc x ∧ Wf x ∧ (bd x → bad) ∧ ∀ o, res x o → D.nx (L.set i (some (.own o)))) :
    SX K ⟨pn, ts⟩ H0 Eo C bad (tAsg (tCallS (SpXRN K ts C Wf enc res bd) (fun _ => Eo) tl) (gName i)) L D := fun σ G H N e n1 _ _ _ _ _ n7 =>
  h σ G H e _ fun vs ds G1 H1 go hd ⟨x, hx, hw, hb, hr⟩ => ⟨x, G1, go.vw.plain, by rw [← hx]; exact hd, hw, fun l ho o G' H' g2 k1 k2 k3 k4 p => by
    have gt := go.trans (g2.lift go.vw)
    have hl : H l = none := by
      cases z : H l with
      | none => rfl
      | some u => exact absurd k3 (go.dom (by rw [z]; exact fun z => by cases z))
    have e1 := e.go gt
    exact n1 _ G' H' _ (e.gx gt) (e1.setOwn k1 (e.h0none hl) k2 (fun j es _ hj => e.oldOwn hl j es hj) k4) (hr o p),
    fun hbd G' H' g2 => n7 (hb hbd) G' H' (e.gx (go.trans (g2.lift go.vw))) (go.trans (g2.lift go.vw)).vw⟩
end
end Dl

set_option Elab.async false
set_option linter.all false
set_option maxRecDepth 100000
/-! for k in d, d a dict whose keys are tuples within tuples, locked meanwhile -/
namespace Gn
open PySem PySem.Spec PyProof.Rows L2
theorem rel_at {kvs : List NE} {xs : List (NestedKey × Addr × Value)} (r : Paired RelN kvs xs) : ∀ (i : Nat) p, kvs[i]? = some p → ∃ q, xs[i]? = some q ∧ RelN p q := by
  induction r with
  | nil => intro i p h; exact nomatch h
  | @cons p q ps qs h t ih =>
    intro i p' e
    cases i with
    | zero => cases e; exact ⟨q, rfl, h⟩
    | succ i => exact ih i p' e
theorem frzN {X : Cx} {pins : List (Addr × Obj)} {σ : L2.St} {H : Hp} {s : Shared} {d : Addr} {o : Obj} {kvs : List NE} (I : Inv X pins σ H s) (h : H d = some (.frz o (NO X.w d kvs))) :
    (d == sysModules) = false ∧ s.heap.get? d = some o ∧ o.ExactDict ∧ ∃ (es : Array DictEntry) (ep : Nat), o.data = .dict es ep ∧ es.size = kvs.length ∧ ∀ (i : Nat) p, kvs[i]? = some p → ∃ en : DictEntry, es[i]? = some en ∧ en.key = .ref p.2.1 := by
  obtain ⟨hd, ⟨_, y, xs, r, o', es, ep, h1, h2, h3, h4, _⟩, _, _⟩ := I.hok d _ h
  rw [hd] at h1
  cases h1
  have len : kvs.length = xs.length := r.length
  refine ⟨y, hd, h2, es, ep, h3, ?_, fun i p e => ?_⟩
  · have l := congrArg List.length h4
    rw [List.length_map, Array.length_toList] at l
    omega
  · obtain ⟨q, e1, _, e2, _⟩ := rel_at r i p e
    have g := congrArg (fun l => l[i]?) h4
    rw [List.getElem?_map, e1, Array.getElem?_toList] at g
    exact ⟨_, g, by show Value.ref q.2.1 = _; rw [e2]⟩
/-- the keys of the locked dict at d, in their order -/
def Itg (w : World) (d : Addr) (o : Obj) (kvs : List NE) : It :=
  ⟨fun i H => H d = some (.frz o (NO w d kvs)) ∧ i < kvs.length, fun i H x H' => H' = H ∧ ∃ p, kvs[i]? = some p ∧ x = .ref p.2.1, fun i H => H d = some (.frz o (NO w d kvs)) ∧ kvs.length ≤ i⟩
theorem turn_keysN {P : Program} {w : World} {K : PySem.W.Frag} {tg : Expr} {d : Addr} {o : Obj} {es : Array DictEntry} {ep : Nat} {kvs : List NE} (it : Addr) (hod : o.data = .dict es ep) : Turn P w K tg (Itg w d o kvs) [it] it (fun i h => h.IsKeyIter it d i kvs.length ep) where
  mem := List.mem_singleton.mpr rfl
  obj := fun i h st b hb => by
    obtain ⟨oi, e, _, dd⟩ := st
    rw [List.mem_singleton.mp hb]
    exact ⟨oi, e, fun v z => by rw [dd] at z; cases z⟩
  keep := fun i h h' st k => st.at fun oi e => k it (List.mem_singleton.mpr rfl) oi e
  item := by
    intro X hP hw hK hc i pins s σ H E I hf st ⟨hd, hi⟩
    subst hP hw hK
    obtain ⟨f0, f1, f2, f3, f4, f5⟩ := hf it (List.mem_singleton.mpr rfl)
    obtain ⟨_, hgd, _, es', ep', hdt, hsz, ent⟩ := frzN I hd
    obtain ⟨rfl, rfl⟩ := dict_ep hod hdt
    obtain ⟨en, hen, hkey⟩ := ent i _ (List.getElem?_eq_getElem hi)
    refine next_key_item st hgd hdt hsz hen fun h' st' sb => ?_
    obtain ⟨oi, e, c, dd⟩ := id st'
    exact ⟨en.key, rfl, go_of (s := { s with heap := h' }) e c dd (by decide) ⟨.ref kvs[i].2.1, H, I.turned (t' := s.toks) (fun b ob hb e => (sb.2 b hb).trans e) f0 f1 f3 f4 f5, hkey, ⟨rfl, _, List.getElem?_eq_getElem hi, rfl⟩, st', fun b hb => (hf b hb).1⟩⟩
  done := by
    intro X hP hw hK hc i pins s σ H E I hf st ⟨hd, hi⟩
    subst hP hw hK
    obtain ⟨f0, f1, f2, f3, f4, f5⟩ := hf it (List.mem_singleton.mpr rfl)
    obtain ⟨_, hgd, _, es', ep', hdt, hsz, _⟩ := frzN I hd
    obtain ⟨rfl, rfl⟩ := dict_ep hod hdt
    exact next_key_end (I.ok.hd hc) st hgd hdt hsz hi fun h' eb => ⟨rfl, I.turned (t' := s.toks) (fun b ob hb e => eb b ob hb e) f0 f1 f3 f4 f5⟩
  self := fun A i s Q E st h => wpAny_pyIter_keyiter st h
/-- the dict is locked (tLock, or by the caller) -/
def iKeysN (w : World) (td : TE) : TI := fun σ H R => td σ H fun x H1 => ∃ d o kvs, x = .ref d ∧ H1 d = some (.frz o (NO w d kvs)) ∧ R (Itg w d o kvs) H1
theorem pi_keysN {X : Cx} {tg e : Expr} {td : TE} {w : World} (hw : X.w = w) (he : PE X e td) : PI X tg e (iKeysN w td) := by
  subst hw
  refine ⟨fun pins s σ H R I h => ?_⟩
  refine thn (he.run pins s σ H _ I h) fun u s1 ⟨x, H1, I1, rx, d, o, kvs, ex, hd, q⟩ => ?_
  subst ex
  obtain rfl : u = Value.ref d := rx
  obtain ⟨hs, hgd, hx, es, ep, hdt, hsz, _⟩ := frzN I1 hd
  refine iter_keys hs hgd hx hdt (pi_one (tk := s1.toks) I1 _ (turn_keysN _ hdt) ⟨_, Heap.get?_push_size _ rfl, rfl, ?_⟩ q)
  rw [hsz] <;> rfl
end Gn

set_option Elab.async false
set_option linter.all false
set_option maxRecDepth 100000
set_option maxHeartbeats 4000000
/-! ### try: .. / except X as e: m = e, the exception held by m in what comes behind -/
namespace L2
open PySem PySem.Spec PyProof.Rows
section
variable {X : Cx} {x n : Str} {c : Value} {i : Nat} {body suite rest : List Stmt} {b₀ : Stmt} {np pos pos' : Pos} {tb : WX → TS} {tr : TS} {ts tre : Addr → Value → Option Addr → TS}
end
end L2
namespace Dl
open PySem PySem.Spec PyProof.Rows L2
end Dl
namespace Dl
open PySem PySem.Spec PyProof.Rows L2
section
variable {K : PySem.W.Frag} {H0 : Hp} {L : Lv} {tl : TA} {D : Dn} {C : Addr} {c : Value} {tr : TS} {ts' tre : Addr → Value → Option Addr → TS} {α : Type} {pn : Option Pn} {ts : List Addr} {Wf : α → Prop} {enc : α → List PyData} {res : α → PyData → Prop} {bad : α → Prop}
end
end Dl
namespace Dl
open PySem PySem.Spec PyProof.Rows L2
end Dl

set_option Elab.async false
set_option linter.all false
set_option maxRecDepth 100000
set_option maxHeartbeats 4000000
/-! ### for k in d, d one's own dict whose keys are tuples within tuples -/
namespace Dl
open PySem PySem.Spec PyProof.Rows L2
section
variable {K : PySem.W.Frag} {pen : Pc} {H0 : Hp} {L : Lv} {D : Dn} {w : World} {P : PyData → Prop} {te ty : TE} {g : TG} {t : TS}
/-- data, the pen, own objects: no slot that looks at what others lent -/
def okA : Option AV → Bool
  | none => true
  | some (.d _) => true
  | some .pen => true
  | some (.own _) => true
  | _ => false
def okL (L : Lv) : Bool := L.all okA
theorem okL_get {L : Lv} (h : okL L = true) {i : Nat} {av : AV} (hi : L[i]? = some (some av)) : okA (some av) = true := by
  unfold okL at h
  rw [List.all_eq_true] at h
  exact h _ (List.mem_of_getElem? hi)
theorem lv_set {L : Lv} {j i : Nat} {x : Option AV} {av : AV} (h : (L.set j x)[i]? = some (some av)) : (i = j ∧ x = some av) ∨ (i ≠ j ∧ L[i]? = some (some av)) := by
  by_cases q : j = i
  · subst q
    have hl : j < L.length := by
      have := (List.getElem?_eq_some_iff.mp h).1
      rw [List.length_set] at this; exact this
    rw [List.getElem?_set_self hl] at h
    exact .inl ⟨rfl, Option.some.inj h⟩
  · rw [List.getElem?_set_ne q] at h
    exact .inr ⟨fun z => q z.symm, h⟩
theorem ok_at {L : Lv} {j : Nat} (h : okL (L.set j none) = true) {i : Nat} {av : AV} (hi : L[i]? = some (some av)) (hne : i ≠ j) : okA (some av) = true :=
  okL_get h (by rw [List.getElem?_set_ne (fun z => hne z.symm)]; exact hi)
variable {G H G' H' : Hp} {σ : L2.St} {l : Addr} {od : Obj} {kvs : List Gn.NE} {m : List (NestedKey × PyData)} {j : Nat}
/-- the own dict is locked -/
theorem Ev.lockN (e : Ev K pen H0 G H σ L) (ok : okL (L.set j none) = true) (hj : L[j]? = some (some (.own (.dN w m)))) (hs : σ[j]? = some (some (.ref l))) (hl : H l = some (Gn.NO w l kvs)) (hk : NvOk K G kvs m) :
    H0 l = none ∧ G l = none ∧ Ev K pen (upd H0 l (.frz od (Gn.NO w l kvs))) G (upd H l (.frz od (Gn.NO w l kvs))) σ (L.set j (some (.bor (.dF l w m)))) := by
  obtain ⟨v, s1, l2, ho, e1, e2, h0, g0, _⟩ := e.sl j _ hj
  rw [hs] at s1
  cases s1
  cases e1
  have code : ∀ q, H l ≠ some (LamX.CodeO l q) := fun q z => Gn.noCode w l kvs q (Option.some.inj (hl.symm.trans z))
  have np : ¬ IsPn pen l := fun z => e.h0.there z h0
  refine ⟨h0, g0, ⟨⟨fun a o h => ?_, e.vw.no, e.vw.ok.upd e.h0 h0 code⟩, e.h0.upd e.h0 h0 (fun q z => by rw [h0] at z; cases z), fun a h => ?_, by rw [List.length_set]; exact e.len, fun i av hi => ?_, fun i k ds es b h1 h2 h3 h4 => ?_⟩⟩
  · have na : a ≠ l := fun z => by rw [z, g0] at h; cases h
    rw [upd_ne na]
    exact e.vw.vw a o h
  · by_cases z : a = l
    · rw [z, upd_same]; exact fun z => by cases z
    · rw [upd_ne z] at h ⊢
      exact e.dom a h
  · rcases lv_set hi with ⟨rfl, hx⟩ | ⟨hne, hx⟩
    · cases hx
      exact ⟨_, hs, l, _, rfl, upd_same, upd_same, np, OwnOk.ofF hk⟩
    · obtain ⟨v, h1, h2⟩ := e.sl i av hx
      refine ⟨v, h1, ?_⟩
      have oka := ok_at ok hx hne
      cases av with
      | d x => exact h2
      | pen => exact h2
      | own o =>
        obtain ⟨b, ho, rfl, k1, k2, k3, k4⟩ := h2
        have nb : b ≠ l := fun z => by
          subst z
          exact hne (e.ow i j o _ b hx hj h1 hs)
        exact ⟨b, ho, rfl, by rw [upd_ne nb]; exact k1, by rw [upd_ne nb]; exact k2, k3, k4⟩
      | bor o => cases oka
      | fr x => cases oka
  · rcases lv_set h1 with ⟨_, hx⟩ | ⟨n1, hx⟩
    · cases hx
    rcases lv_set h2 with ⟨_, hy⟩ | ⟨n2, hy⟩
    · cases hy
    exact e.ow i k ds es b hx hy h3 h4
/-- .. and unlocked -/
theorem Ev.unlockN {L' : Lv} (h0 : H0 l = none) (hp0 : POk pen H0) (g0 : G' l = none) (hf : H' l = some (.frz od (Gn.NO w l kvs))) (e : Ev K pen (upd H0 l (.frz od (Gn.NO w l kvs))) G' H' σ L') (ok : okL (L'.set j none) = true) (hj : L'[j]? = some (some (.bor (.dF l w m)))) :
    Ev K pen H0 G' (upd H' l (Gn.NO w l kvs)) σ (L'.set j (some (.own (.dN w m)))) := by
  obtain ⟨v, s1, l2, ho, rfl, e2, e3, _, e4⟩ := e.sl j _ hj
  obtain ⟨od2, vs, rfl, rfl, hk⟩ := e4.dF
  rw [hf] at e2
  injection e2 with e2
  injection e2 with e21 e22
  have code : ∀ q, H' l2 ≠ some (LamX.CodeO l2 q) := fun q z => by
    rw [hf] at z
    injection z with z
    unfold LamX.CodeO at z
    cases z
  refine ⟨⟨fun a o h => ?_, e.vw.no, e.vw.ok.upd hp0 h0 code⟩, hp0, fun a h => ?_, by rw [List.length_set]; exact e.len, fun i av hi => ?_, fun i k ds es b h1 h2 h3 h4 => ?_⟩
  · have na : a ≠ l2 := fun z => by rw [z, g0] at h; cases h
    rw [upd_ne na]
    exact e.vw.vw a o h
  · by_cases z : a = l2
    · rw [z, h0] at h; exact absurd rfl h
    · rw [upd_ne z]
      exact e.dom a (by rw [upd_ne z]; exact h)
  · rcases lv_set hi with ⟨rfl, hx⟩ | ⟨hne, hx⟩
    · cases hx
      exact ⟨_, s1, l2, _, rfl, upd_same, h0, g0, by rw [e22]; exact OwnOk.ofN hk⟩
    · obtain ⟨v, h1, h2⟩ := e.sl i av hx
      refine ⟨v, h1, ?_⟩
      have oka := ok_at ok hx hne
      cases av with
      | d x => exact h2
      | pen => exact h2
      | own o =>
        obtain ⟨b, ho, rfl, k1, k2, k3, k4⟩ := h2
        have nb : b ≠ l2 := fun z => by
          rw [z, upd_same] at k2
          cases k2
        rw [upd_ne nb] at k2
        exact ⟨b, ho, rfl, by rw [upd_ne nb]; exact k1, k2, k3, k4⟩
      | bor o => cases oka
      | fr x => cases oka
  · have own : ∀ (i : Nat) (ds : OO), i ≠ j → L'[i]? = some (some (.own ds)) → σ[i]? ≠ some (some (.ref l2)) := fun i ds hne hx hs => by
      obtain ⟨v, h1, b, ho, rfl, k1, k2, k3, k4⟩ := e.sl i _ hx
      rw [hs] at h1
      cases h1
      rw [upd_same] at k2
      cases k2
    rcases lv_set h1 with ⟨rfl, hx⟩ | ⟨n1, hx⟩
    · rcases lv_set h2 with ⟨rfl, hy⟩ | ⟨n2, hy⟩
      · rfl
      · rw [s1] at h3
        cases h3
        exact absurd h4 (own k es n2 hy)
    · rcases lv_set h2 with ⟨rfl, hy⟩ | ⟨n2, hy⟩
      · rw [s1] at h4
        cases h4
        exact absurd h3 (own i ds n1 hx)
      · exact e.ow i k ds es b hx hy h3 h4
theorem Gx.unlockN {u x : HO} {G1 H1 : Hp} (h0 : H0 l = none) (g : Gx pen (upd H0 l x) G (upd H l x) G1 H1) : Gx pen H0 G H G1 (upd H1 l u) := by
  have ne : ∀ a, H0 a ≠ none → a ≠ l := fun a h z => h (z ▸ h0)
  refine ⟨g.gg, fun a h => g.nw a (by rw [upd_ne (ne a h)]; exact h), fun a o p h q => ?_⟩
  rw [upd_ne (ne a h)]
  exact g.od a o p (by rw [upd_ne (ne a h)]; exact h) (by rw [upd_ne (ne a h)]; exact q)
theorem vnew_lock {x u : HO} (h0 : H0 l = none) (g0 : G l = none) : Same (vnew (upd H0 l x) G H) (vnew H0 G (upd H l u)) := fun a o h => by
  by_cases z : a = l
  · subst z
    unfold vnew newL at h
    rw [g0, upd_same] at h
    cases h
  · unfold vnew newL at h ⊢
    rw [upd_ne z] at h
    rw [upd_ne z]
    exact h
theorem nv_keyat {kvs : List Gn.NE} (h : NvOk K G kvs m) : ∀ (i : Nat) p, kvs[i]? = some p → ∃ q, m[i]? = some q ∧ Dp K G (.ref p.2.1) q.1.data := by
  intro i p e
  obtain ⟨q, h1, h2, _, h3, _⟩ := paired_get h e
  exact ⟨q, h1, h2 ▸ h3⟩
/-- the body is shown for any frame and any address of the dict -/
theorem s_forN (hj : L[j]? = some (some (.own (.dN w m)))) (ok : okL (L.set j none) = true)
    (h : ∀ (H1 : Hp) (l : Addr), ∃ I : Nat → Lv → Prop, Wk I 0 (L.set j (some (.bor (.dF l w m)))) ∧
      (∀ (i : Nat) q L', m[i]? = some q → I i L' → GT K pen H1 g q.1.data L' fun L2 => S K pen H1 t L2 { D with nx := Wk I (i + 1), ct := Wk I (i + 1), bk := fun _ => False }) ∧
      (∀ L', I m.length L' → L'[j]? = some (some (.bor (.dF l w m))) ∧ okL (L'.set j none) = true ∧ D.nx (L'.set j (some (.own (.dN w m)))))) :
    S K pen H0 (tLock (tFor (Gn.iKeysN w (tVar j)) g t)) L D := fun σ G H N e n1 n2 n3 n4 n5 n6 => by
  obtain ⟨l, ho, k1, k3, k6⟩ := e.own hj
  obtain ⟨kvs, rfl, hk⟩ := k6.dN
  refine ⟨l, _, k3, trivial, fun od => ⟨_, k1, l, od, kvs, rfl, upd_same, ?_⟩⟩
  obtain ⟨h0, g0, e1⟩ := e.lockN (od := od) ok hj k1 k3 hk
  obtain ⟨I, i0, is, id'⟩ := h (upd H0 l (.frz od (Gn.NO w l kvs))) l
  have np : ¬ IsPn pen l := fun z => e.h0.there z h0
  have len : kvs.length = m.length := hk.length
  have keep : ∀ {G' H' : Hp}, Gx pen (upd H0 l (.frz od (Gn.NO w l kvs))) G (upd H l (.frz od (Gn.NO w l kvs))) G' H' → H' l = some (.frz od (Gn.NO w l kvs)) ∧ G' l = none := fun {G' H'} x =>
    ⟨x.od l _ np (by rw [upd_same]; exact fun z => by cases z) upd_same, (x.nw l (by rw [upd_same]; exact fun z => by cases z)).trans g0⟩
  have vwU : ∀ {G' H' : Hp}, H' l = some (.frz od (Gn.NO w l kvs)) → G' l = none → Vw pen G' H' → Vw pen G' (upd H' l (Gn.NO w l kvs)) := fun {G' H'} hl gl v => ⟨fun a o q => by
      have na : a ≠ l := fun z => by rw [z, gl] at q; cases q
      rw [upd_ne na]
      exact v.vw a o q, v.no, v.ok.upd e.h0 h0 fun q z => by
        rw [hl] at z
        injection z with z
        unfold LamX.CodeO at z
        cases z⟩
  refine ⟨fun i n σ' H' => n = m.length - i ∧ i ≤ m.length ∧ ∃ G' L', Gx pen (upd H0 l (.frz od (Gn.NO w l kvs))) G (upd H l (.frz od (Gn.NO w l kvs))) G' H' ∧ Ev K pen (upd H0 l (.frz od (Gn.NO w l kvs))) G' H' σ' L' ∧ I i L', ⟨m.length, rfl, Nat.zero_le _, ?_⟩, ?_⟩
  · obtain ⟨L3, s, hI⟩ := i0
    exact ⟨G, L3, .refl, e1.sub s, hI⟩
  rintro i n σ1 H2 ⟨rfl, hi, G2, L2, x2, e2, q2⟩
  obtain ⟨f1, f2⟩ := keep x2
  by_cases hlt : i < m.length
  · refine .inr ⟨⟨f1, by omega⟩, fun σ' H' => ∃ G' L', Gx pen (upd H0 l (.frz od (Gn.NO w l kvs))) G (upd H l (.frz od (Gn.NO w l kvs))) G' H' ∧ Ev K pen (upd H0 l (.frz od (Gn.NO w l kvs))) G' H' σ' L' ∧ Wk I (i + 1) L', fun σ' H' ⟨G', L', a, b, L3, s, c⟩ => ⟨m.length - (i + 1), by omega, rfl, hlt, G', L3, a, b.sub s, c⟩, fun v H3 hy => ?_⟩
    obtain ⟨rfl, p, hp, rfl⟩ := hy
    obtain ⟨q, hq, dq⟩ := nv_keyat (hk.mono x2.gg) i p hp
    refine is i q L2 hq q2 σ1 G2 H3 _ e2 dq _ fun σ4 L4 e4 h4 => ?_
    refine h4 σ4 G2 H3 _ e4 (fun σ5 G5 H5 L5 x5 e5 q5 => ⟨G5, L5, x2.trans x5, e5, q5⟩) (fun v d G5 H5 x5 vw hd q5 => ?_) (fun _ _ _ _ _ _ z => z.elim) (fun σ5 G5 H5 L5 x5 e5 q5 => ⟨G5, L5, x2.trans x5, e5, q5⟩) (fun v d G5 H5 x5 vw hd q5 => ?_) (fun b ho o G5 H5 x5 vw h1 h2 h3 h4 q5 => ?_)
    · obtain ⟨y1, y2⟩ := keep (x2.trans x5)
      exact ⟨y1, n2 v d G5 _ ((x2.trans x5).unlockN h0) (vwU y1 y2 vw) hd q5⟩
    · obtain ⟨y1, y2⟩ := keep (x2.trans x5)
      exact ⟨y1, n5 v d G5 _ ((x2.trans x5).unlockN h0) (vwU y1 y2 vw) (nd_mono (vnew_lock h0 y2) _ _ hd) q5⟩
    · obtain ⟨y1, y2⟩ := keep (x2.trans x5)
      have nb : b ≠ l := fun z => by rw [z, upd_same] at h2; cases h2
      rw [upd_ne nb] at h2
      exact ⟨y1, n6 b ho o G5 _ ((x2.trans x5).unlockN h0) (vwU y1 y2 vw) (by rw [upd_ne nb]; exact h1) h2 h3 h4 q5⟩
  · have e3 : i = m.length := by omega
    subst e3
    obtain ⟨z1, z2, z3⟩ := id' L2 q2
    exact .inl ⟨⟨f1, by omega⟩, f1, n1 σ1 G2 _ _ (x2.unlockN h0) (e2.unlockN h0 e.h0 f2 f1 z2 z1) z3⟩
/-! ### the locked dict read -/
theorem Ev.rdF {a : Addr} (e : Ev K pen H0 G H σ L) (hj : RdO L j (.dF a w m)) : σ[j]? = some (some (.ref a)) ∧ ∃ kvs, Rd H a (Gn.NO w a kvs) ∧ NvOk K G kvs m := by
  obtain ⟨l, ho, k1, k3, k6⟩ := e.rd hj
  obtain ⟨od, vs, rfl, rfl, h⟩ := k6.dF
  exact ⟨k1, vs, .inr ⟨od, k3⟩, h⟩
theorem e_ngetF {a : Addr} (hj : RdO L j (.dF a w m)) (h : E K pen H0 ty L fun x => ∃ k, NkD x k ∧ ∃ d, valD m k = some d ∧ P d) : E K pen H0 (Gn.tGet w K (tVar j) ty) L P := fun σ G H e Q q => by
  obtain ⟨k1, _⟩ := e.rdF hj
  refine ⟨_, k1, h σ G H e _ fun y x G1 H1 g1 d1 ⟨k, ⟨hk, hk8, ks, hkt⟩, d, hd, p⟩ => ?_⟩
  obtain ⟨_, kvs2, q3, q7⟩ := (e.go g1).rdF hj
  subst hk
  obtain ⟨b, rfl⟩ := tup_ref (ks := ks) (by rw [← hkt]; exact d1)
  rcases nv_val k q7 with ⟨v, d', z1, z2, z3⟩ | ⟨z1, z2⟩
  · rw [z2] at hd
    cases hd
    exact ⟨a, b, kvs2, k, v, rfl, rfl, q3, nv_keys (e.go g1).vw.vw q7, nk_of (e.go g1).vw.vw _ _ d1, hk8, z1, q v _ G1 H1 g1 z3 p⟩
  · rw [z2] at hd; cases hd
end
end Dl

set_option Elab.async false
set_option linter.all false
set_option maxRecDepth 100000
set_option maxHeartbeats 4000000
/-! ### a def of two parameters, the second with a default: called by one argument, by two, by its name -/
namespace Dl
open PySem PySem.Spec PyProof.Rows L2
section
variable {P : Program} {w : World} {K : PySem.W.Frag} {mg : Str → Option Value} {base : Heap} {α : Type} {x qual : Str} {st : Stmt} {f : Addr} {fd : FuncData} {N ps : List Str} {k : Nat} {ts : List Addr} {C : Addr} {Wf : α → Prop} {enc : α → List PyData} {res : α → PyData → Prop} {bad : α → Prop} {dvs : List V} {kws : List (Str × V)}
abbrev FunT (K : PySem.W.Frag) (x qual : Str) (st : Stmt) (dvs : List V) (f : Addr) (fd : FuncData) : Prop := FunD K x qual (defArgs st) (defBody st) (defScope st) dvs [] f fd
theorem fnXRFD (F : FunT K x qual st dvs f fd) (S0 : FnScope N ps (defScope st)) (hl : ∀ x, Wf x → (enc x).length = ps.length)
    (hbody : ∀ (cdv : Value) (A : Around) (outer : List Env) (s : Shared) (H : Hp) (E : XK), Room k (A.deeper (envOfC qual (defScope st) s.heap.objs.size f cdv)) →
      ∃ t, PSs (cxOf (L2.CX P w) P w K mg base N qual (defScope st) f cdv A outer s H E) (defBody st) t ∧ ∀ x, Wf x → SX K ⟨none, ts⟩ H E C (bad x) t (st0 N (enc x)) { nx := fun _ => False, rt := fun _ => False, rn := res x }) : FnOk P w K mg base (L2.CX P w) (k + 1) f fd ps (SpXRF K ts C Wf enc res bad) := by
  refine F.ok S0 (fun vs H Q E h => ?_) (fun cdv A outer s H vs Q E hr h => ?_)
  · obtain ⟨x, G, _, h1, h2, _⟩ := h
    rw [dpa_len h1]
    exact hl x h2
  · obtain ⟨x, G, v, h1, h2, q, qb⟩ := h
    obtain ⟨t, ht, hS⟩ := hbody cdv A outer s H E hr
    have go : ∀ {G' H' : Hp}, Gx ⟨none, ts⟩ H G H G' H' → Vw ⟨none, ts⟩ G' H' → Go ⟨none, ts⟩ G H G' H' := fun x vw => ⟨x.gg, x.nw, fun a o hp e => x.od a o hp (by rw [e]; exact fun z => by cases z) e, vw⟩
    exact ⟨t, ht, hS x h2 (L2.start N vs) G H _ (ev_start h1 v) (fun _ _ _ _ _ _ z => z.elim) (fun _ _ _ _ _ _ _ z => z.elim) (fun _ _ _ _ _ _ z => z.elim) (fun _ _ _ _ _ _ z => z.elim) (fun v d G' H' x vw hd p => q v d G' H' (go x vw) hd p) (fun _ _ _ _ _ _ _ _ _ _ _ z => z.elim) fun hb G' H' x vw => qb hb G' H' (go x vw)⟩
/-- both written -/
theorem FunD.two {pa : Arguments} {bd : List Stmt} {sc : Scope} {c : V} {a b : Str} (F : FunD K x qual pa bd sc [c] [] f fd)
    (h : ∀ (T : Addr) (kV doc pm : Value) (an : Option Addr) (cdv ct : Value) (us its : List Value), us.length = 2 → its.length = 1 →
      ∃ k, bindArgs (PySem.W.fnOf x qual pa bd sc (.ref T) kV doc pm an cdv ct) ⟨us, []⟩ = seqItems? (.ref T) >>= k ∧ k (some its.toArray) = pure ([a, b].zip us)) : Binds K fd [a, b] [] := by
  obtain ⟨ds, h1, h2⟩ := FunD.binds1 (ps := [a, b]) F 2 1 (by simp) rfl (fun T kV doc pm an cdv ct us its l1 l2 => by
    obtain ⟨k, e1, e2⟩ := h T kV doc pm an cdv ct us its l1 l2
    refine ⟨k, e1, ?_⟩
    rw [List.drop_of_length_le (by rw [l2]; exact Nat.le_refl _), List.append_nil]
    exact e2)
  cases h1
  exact h2
end
section
variable {X : Cx} {CX : CXT} {k : Nat} {f : Addr} {fd : FuncData} {ps ks : List Str} {sp : Sp} {E : L2.St → XK} {x : Str} {p pos : Pos} {e : Expr} {es : List Expr} {kws : List Keyword} {t tk : TA} {c : V} {ta tb : TE} {ds : List Value} {g : List Value → List Value → List Value} {gV : List V → List V → List V} {n : Nat}
/-- f(e), the second parameter's default c -/
theorem pe_callD {E : XK} (F : FnOk X.prog X.w X.K X.mg X.base CX k f fd ps sp) (hr : Room k X.A) (hg : Gl X x) (hm : X.mg x = some (.ref f)) (hk : PySem.W.keepIn X.K (.ref f) = true) (hb : Binds X.K fd ps ds) (hd : Vals [c] ds) (hx : Passes CX X E)
    (ha : PE X e ta) (hdb : (x == ("__debug__" : Str)) = false := by decide) (he : starEach [e] X.env = (false, eval e X.env) :: starEach [] X.env := by rfl) (hpl : (backTo pos (starEach [] X.env)).any (·.1) = false := by rfl) :
    PE X (.Call (.Name x p) [e] [] pos) (tCall sp [] E (tCons ta (tCons (tC c) tNil))) := by
  have h : PE X (.Call (.Name x p) [e] [] pos) (tCall sp [c] E (tCons ta tNil)) := pe_call F hr hg hm hk hb hd hx (pa_cons ha pa_nil he) hdb he hpl
  exact h
end
end Dl
namespace Dl
open PySem PySem.Spec PyProof.Rows L2
theorem refs_dpa {K : PySem.W.Frag} {G : Hp} : ∀ {kvs : List Gn.NE} {m : List (NestedKey × PyData)}, NvOk K G kvs m → DpAll K G (Gn.refsV kvs) (m.map fun q => q.1.data) := by
  intro kvs m h
  induction h with
  | nil => exact .nil
  | @cons p q ps qs h t ih =>
    rw [Gn.refsV, List.map_cons, List.map_cons]
    refine .cons ?_ ih
    have e := h.2.2.1
    rw [h.1] at e
    exact e
/-- list(d), d one's own dict with nested keys -/
theorem el_listN {K : PySem.W.Frag} {pen : Pc} {H0 : Hp} {L : Lv} {w : World} {j : Nat} {m : List (NestedKey × PyData)} {Pl : List PyData → Prop} (hj : L[j]? = some (some (.own (.dN w m)))) (p : Pl (m.map fun q => q.1.data)) : EL K pen H0 (tCB (Gn.rListN w K) (tCons (tVar j) tNil)) L Pl := fun σ G H e Q q => by
  obtain ⟨l, ho, k1, k3, k6⟩ := e.own hj
  obtain ⟨kvs, rfl, q7⟩ := k6.dN
  refine ⟨_, k1, l, kvs, rfl, .inl k3, nv_keys e.vw.vw q7, fun r hr => ?_⟩
  exact q r _ _ G _ (Go.hid e.vw (o := .lst (Gn.refsV kvs)) hr) upd_same (e.gnone hr) hr (refs_dpa q7) p
end Dl

set_option Elab.async false
set_option linter.all false
set_option maxRecDepth 100000
set_option maxHeartbeats 4000000
/-! {key: value for .. in ..}, the keys tuples within tuples -/
namespace Gn
open PySem PySem.Spec PyProof.Rows L2
section
variable {X : Cx}
/-- a comprehension's entry laid -/
theorem d_setN {pins : List (Addr × Obj)} {σ : L2.St} {H : Hp} {s : Shared} {E : Value → Shared → Prop} {D b : Addr} {kvs : List NE} {k : NestedKey} {v : V} {r : Value} {Q : Unit → Shared → Prop} (hu : X.A.units + 9 < cLine) (I : Inv X pins σ H s) (hD : H D = some (NO X.w D kvs)) (gk : Keys X.K H kvs) (hk : NK X.K H k (.ref b)) (hk8 : k.depth ≤ 8) (hz : kvs.length < sizeLine)
    (rv : RelV v r) (h : ∀ t, Inv X pins σ (upd H D (NO X.w D (putN kvs k b v))) t → Q () t) : wpAny (model X.prog X.w) X.A (dictSet D (.ref b) r) Q E s := by
  obtain ⟨z, hd, xs, rel, dd⟩ := lies I (.inl hD) gk
  have hz2 : xs.length ≤ sizeLine := by rw [← Paired.length rel]; exact z
  have hl : (putN kvs k b v).length ≤ sizeLine := by have := putN_len kvs k b v; omega
  have hr : (nestedKind X.prog X.w).room X.A := by show X.A.units + 8 < cLine; omega
  refine wpAny_dictSet_heap (hsz := hz2) hr ⟨hk.is I rfl, hk8⟩ dd fun g dd' sb => h _ ?_
  exact d_write I (by rw [hD]; exact True.intro) sb (let ⟨q, _, _, hq, _⟩ := dd'; ⟨q, hq⟩) (laid hl hd (rel_put rel k b rv) dd')
def tDcN (w : World) (K : PySem.W.Frag) (wi : TI) (g : TG) (tt : TT) (tk tv : TE) (vs : List Nat) : TE := fun σ H Q => wi σ H fun J Ha => ∀ D, Ha D = none → ∃ Wk : Nat → Nat → Hp → Prop, (∃ m, Wk 0 m (upd Ha D (NO w D []))) ∧ ∀ i m Hb, Wk i m Hb →
  (J.stop i Hb ∧ Q (.ref D) Hb) ∨ (J.go i Hb ∧ ∃ Nx : Hp → Prop, (∀ Hc, Nx Hc → ∃ m', m' < m ∧ Wk (i + 1) m' Hc) ∧ ∀ x Hc, J.yld i Hb x Hc → g x (wipe σ vs) Hc fun σ2 Hd => wipe σ2 vs = wipe σ vs ∧ tt σ2 Hd fun c He =>
    if c = true then tk σ2 He fun y Hf => tv σ2 Hf fun z Hg => ∃ kvs k b, y = .ref b ∧ Hg D = some (NO w D kvs) ∧ Keys K Hg kvs ∧ NK K Hg k y ∧ k.depth ≤ 8 ∧ kvs.length < sizeLine ∧ Nx (upd Hg D (NO w D (putN kvs k b z))) else Nx He)
theorem dcN_core {pins : List (Addr × Obj)} {s : Shared} {σ : L2.St} {H : Hp} {Q : VK} {ex vx tg src : Expr} {cs : List Expr} {scope : Scope} {own : List (Str × Nat)} {pos pos' : Pos} {wi : TI} {g : TG} {tt : TT} {tk tv : TE} {use : Option (Value → Sem Unit)} {Qf : Value → Shared → Prop} (hu : X.A.units + 9 < cLine) (hc : X.calm = true) (hN : X.N.Nodup) (I : Inv X pins σ H s) (hi : PI X tg src wi) (ok : BlkOk X.N X.env.scope scope own)
    (pgs : ∀ (s : Shared) (H : Hp) (C : Addr) (cl : List (Str × Addr)) (fp : List Addr), PG (X.blk s H scope (compEnvC scope cl C X.env) fp) tg g)
    (pts : ∀ (s : Shared) (H : Hp) (C : Addr) (cl : List (Str × Addr)) (fp : List Addr), PTs (X.blk s H scope (compEnvC scope cl C X.env) fp) cs tt)
    (pks : ∀ (s : Shared) (H : Hp) (C : Addr) (cl : List (Str × Addr)) (fp : List Addr), PE (X.blk s H scope (compEnvC scope cl C X.env) fp) ex tk)
    (pes : ∀ (s : Shared) (H : Hp) (C : Addr) (cl : List (Str × Addr)) (fp : List Addr), PE (X.blk s H scope (compEnvC scope cl C X.env) fp) vx tv) (hs : ∀ x, foldedSetIterable src X.env x = pure x) (h : tDcN X.w X.K wi g tt tk tv (own.map (·.2)) σ H Q)
    (ends : ∀ D C t m He, Inv X pins σ He t → Q (.ref D) He → t.heap.Ns C m → FpOk X pins He C → compPost (model X.prog X.w) X.A X.xe use Qf (.ref D) C (.ok .next) t) :
    wpAny (model X.prog X.w) X.A (comprehension (.DictComp ex vx [⟨tg, src, cs, 0⟩] scope pos) scope X.env pos' newDict false (eval src X.env) use) Qf X.xe s := by
  have free : ∀ y ∈ scope.names, y.2 = .free → ∃ c, X.env.cells.lookup y.1 = some c := fun y hy e => (ok.free y hy e).elim (fun k => I.ok.has _ (.inl k)) fun k => I.ok.has _ (.inr k)
  refine wpAny_comprehension_free (use := use) rfl hs (closure_ok free) ok.kind (fun y hy e => by rw [ok.uniq y hy, e]) (thn (hi.run pins s σ H _ I h) fun xv sa hx => thn hx fun itv sb hb => ?_)
  obtain ⟨it, fp, tn, J, Ha, e, Ia, T, sta, fa, q⟩ := hb
  subst e
  refine wpAny_newObj_type (newEnv_comp ?_)
  generalize hD : sb.heap.objs.size = D
  have free_ : Ha D = none := Ia.hok.fresh (Nat.le_of_eq hD)
  obtain ⟨Wk, ⟨m0, w0⟩, turn⟩ := q D free_
  generalize hsc : ({ sb with heap := sb.heap.push { cls := .type "dict", data := .dict #[] } } : Shared) = sc
  have Ic : Inv X pins σ (upd Ha D (NO X.w D [])) sc := by
    rw [← hsc, ← hD]
    exact Ia.laid (t' := sb.toks) (fun b o z => Heap.get?_push_of_some _ z) (Nat.le_refl _) (laid (P := X.prog) (Nat.zero_le _) (beq_eq_false_iff_ne.mpr (Ne.symm (Nat.ne_of_lt Ia.big))) .nil (Heap.DictOfH.new sb.heap))
  have heq : sc.heap = sb.heap.push { cls := .type "dict", data := .dict #[] } := by rw [← hsc]
  have below : ∀ b ∈ fp, b < sb.heap.objs.size := fun b hb => let ⟨o, z, _⟩ := T.obj _ _ sta b hb; Heap.lt_size z
  have fc : ∀ b ∈ fp, FpOk X pins (upd Ha D (NO X.w D [])) b ∧ b < sc.heap.objs.size := fun b hb => by
    have lt := below b hb
    refine ⟨⟨?_, (fa b hb).2⟩, by rw [heq, Heap.size_push]; exact Nat.lt_succ_of_lt lt⟩
    rw [upd_ne (by rw [← hD]; exact Nat.ne_of_lt lt)]
    exact (fa b hb).1
  have stc : tn 0 sc.heap := T.keep _ _ _ sta fun b _ o z => by rw [heq]; exact Heap.get?_push_of_some _ z
  have Id := block_start Ic ok hN fc
  have pg := pgs sc (upd Ha D (NO X.w D [])) sc.heap.objs.size (cellsFrom (sc.heap.objs.size + 1) scope.names (cloFrom X.env.cells scope.names [])) fp
  have pt := pts sc (upd Ha D (NO X.w D [])) sc.heap.objs.size (cellsFrom (sc.heap.objs.size + 1) scope.names (cloFrom X.env.cells scope.names [])) fp
  have pk := pks sc (upd Ha D (NO X.w D [])) sc.heap.objs.size (cellsFrom (sc.heap.objs.size + 1) scope.names (cloFrom X.env.cells scope.names [])) fp
  have pe := pes sc (upd Ha D (NO X.w D [])) sc.heap.objs.size (cellsFrom (sc.heap.objs.size + 1) scope.names (cloFrom X.env.cells scope.names [])) fp
  show codeAny _ _ (.compStart (.DictComp ex vx [⟨tg, src, cs, 0⟩] scope pos) 0 (.ref it) (.ref D) (compEnvC scope (cellsFrom (sc.heap.objs.size + 1) scope.names (cloFrom X.env.cells scope.names [])) sc.heap.objs.size X.env)) (compPost (model X.prog X.w) X.A X.xe use Qf (.ref D) sc.heap.objs.size) { sc with heap := pushCells (sc.heap.push { cls := .type "dict", data := .dict #[] }) scope.names }
  have nfp : ∀ b ∈ fp, (upd Ha D (NO X.w D [])) b = none := fun b hb => (fc b hb).1.1
  generalize hce : compEnvC scope (cellsFrom (sc.heap.objs.size + 1) scope.names (cloFrom X.env.cells scope.names [])) sc.heap.objs.size X.env = ce at Id pg pt pk pe ⊢
  have cL : ce.locals = sc.heap.objs.size := by rw [← hce]; rfl
  generalize hHc : upd Ha D (NO X.w D []) = Hc at Ic Id pg pt pk pe w0 nfp fc
  generalize hsd : ({ sc with heap := pushCells (sc.heap.push { cls := .type "dict", data := .dict #[] }) scope.names } : Shared) = sd at Id ⊢
  have std : tn 0 sd.heap := T.keep _ _ _ stc fun b _ o z => by rw [← hsd]; exact pushCells_keeps _ _ _ _ (Heap.get?_push_of_some _ z)
  have stays : ∀ {σ' : L2.St} {H' : Hp} {s' : Shared}, Inv (X.blk sc Hc scope ce fp) [] σ' H' s' → (∀ b ∈ fp, H' b = none) → ∀ b ∈ fp, FpOk (X.blk sc Hc scope ce fp) [] H' b := fun {σ' H' s'} I' hn b hb =>
    ⟨hn b hb, (I'.ok.exf b hb).1, I'.ok.exfs b hb, .inl hb, fun x c z => (I'.ok.exf b hb).2 x c z, fun p hp => absurd (show p ∈ ([] : List (Addr × Obj)) ++ [] from hp) (by simp)⟩
  have loop : codeAny (model X.prog X.w) X.A (.compLoop (.DictComp ex vx [⟨tg, src, cs, 0⟩] scope pos) 0 (.ref it) (.ref D) ce) (compPost (model X.prog X.w) X.A X.xe use Qf (.ref D) sc.heap.objs.size) sd := by
    refine compLoop_anyD (fun n s' => ∃ i H', Inv (X.blk sc Hc scope ce fp) [] (wipe σ (own.map (·.2))) H' s' ∧ tn i s'.heap ∧ (∀ b ∈ fp, H' b = none) ∧ Wk i n H') ?_ m0 ⟨0, Hc, Id, std, nfp, w0⟩
    rintro n se ⟨i, He, Ie, ste, ne, we⟩
    rcases turn i n He we with ⟨stop, fin_⟩ | ⟨go, Nx, hNx, step⟩
    · refine thnF (T.done (X.blk sc Hc scope ce fp) rfl rfl rfl hc i [] se _ He (fun _ _ => False) Ie (stays Ie ne) ste stop) fun r sf ⟨hr, If⟩ => ?_
      subst hr
      have Ig : Inv X pins σ He sf := Ic.call' (ch := fp) If.os If.base If.hok If.bare fun b hb => ⟨(fc b hb).1.2.2.2.1, (fc b hb).1.2.1, (fc b hb).1.2.2.2.2.1, (fc b hb).1.2.2.2.2.2⟩
      have nC : He sc.heap.objs.size = none := by
        have z : He ce.locals = none := If.free
        rw [cL] at z
        exact z
      obtain ⟨m, hn, _⟩ := If.loc
      have hn : sf.heap.Ns ce.locals m := hn
      rw [cL] at hn
      exact ends D sc.heap.objs.size sf m He Ig fin_ hn (Ic.fpOk (Nat.le_refl _) nC)
    · refine thnF (T.item (X.blk sc Hc scope ce fp) rfl rfl rfl hc i [] se _ He (fun _ _ => False) Ie (stays Ie ne) ste go) fun r sf ⟨u, hr, hf⟩ => ?_
      subst hr
      refine thnF hf fun _ sg ⟨x, Hg, Ig, rg, yg, stg, ng⟩ => ?_
      refine thnF (pg.run _ sg _ Hg x u _ (Ig.pinned (stays Ig ng) (T.obj _ _ stg)) rg (step x Hg yg)) fun _ sh ⟨σh, Hh, Ih, hwh, qh⟩ => ?_
      refine thnF (pt.run _ sh σh Hh _ Ih qh) fun b si ⟨Hi, Ii, qi⟩ => ?_
      have fin : ∀ {s' : Shared} {H' : Hp}, Inv (X.blk sc Hc scope ce fp) ([] ++ pinsAt fp sg.heap) σh H' s' → Nx H' → ∃ m, m < n ∧ ∃ i H', Inv (X.blk sc Hc scope ce fp) [] (wipe σ (own.map (·.2))) H' s' ∧ tn i s'.heap ∧ (∀ b ∈ fp, H' b = none) ∧ Wk i m H' := fun {s' H'} I' nx => by
        obtain ⟨m', hm, w'⟩ := hNx H' nx
        have held : ∀ b ∈ fp, ∀ o, sg.heap.get? b = some o → s'.heap.get? b = some o ∧ H' b = none := fun b hb o z => let y := I'.pin (b, o) (List.mem_append_right _ (List.mem_append_right _ (mem_pinsAt hb z))); ⟨y.1, y.2.1⟩
        refine ⟨m', hm, i + 1, H', (I'.unpinned (pins := [])).weak (by rw [← hwh, wipe_length]) (fun j v z => ?_), T.keep _ _ _ stg fun b hb o z => (held b hb o z).1, fun b hb => ?_, w'⟩
        · rw [← hwh] at z
          exact (wipe_some z).1
        · obtain ⟨o, z, _⟩ := T.obj _ _ stg b hb
          exact (held b hb o z).2
      cases b with
      | false =>
        simp only [Bool.false_eq_true, if_false] at qi ⊢
        exact fin Ii qi
      | true =>
        simp only [if_true] at qi ⊢
        refine thnF (pk.run _ si σh Hi _ Ii qi) fun z sj ⟨yk, Hj, Ij, rj, qj⟩ => ?_
        refine thnF (pe.run _ sj σh Hj _ Ij qj) fun z2 sl ⟨yv, Hl, Il, rl, kvs, k, b2, ek, hDl, gk, hk, hk8, hzl, nx⟩ => ?_
        subst ek
        obtain rfl : z = Value.ref b2 := rj
        exact d_setN (X := X.blk sc Hc scope ce fp) hu Il hDl gk hk hk8 hzl rl fun t It => fin It nx
  exact codeAny_compStart_dict loop (T.self X.A 0 _ _ _ std loop)
theorem pe_dcN {K : PySem.W.Frag} {w : World} {ex vx tg src : Expr} {cs : List Expr} {scope : Scope} {own : List (Str × Nat)} {pos : Pos} {wi : TI} {g : TG} {tt : TT} {tk tv : TE} (hK : X.K = K) (hw : X.w = w) (hu : X.A.units + 9 < cLine) (hc : X.calm = true) (hN : X.N.Nodup) (hi : PI X tg src wi) (ok : BlkOk X.N X.env.scope scope own)
    (pgs : ∀ (s : Shared) (H : Hp) (C : Addr) (cl : List (Str × Addr)) (fp : List Addr), PG (X.blk s H scope (compEnvC scope cl C X.env) fp) tg g)
    (pts : ∀ (s : Shared) (H : Hp) (C : Addr) (cl : List (Str × Addr)) (fp : List Addr), PTs (X.blk s H scope (compEnvC scope cl C X.env) fp) cs tt)
    (pks : ∀ (s : Shared) (H : Hp) (C : Addr) (cl : List (Str × Addr)) (fp : List Addr), PE (X.blk s H scope (compEnvC scope cl C X.env) fp) ex tk)
    (pes : ∀ (s : Shared) (H : Hp) (C : Addr) (cl : List (Str × Addr)) (fp : List Addr), PE (X.blk s H scope (compEnvC scope cl C X.env) fp) vx tv) (hs : ∀ x, foldedSetIterable src X.env x = pure x := by intro _; rfl) :
    PE X (.DictComp ex vx [⟨tg, src, cs, 0⟩] scope pos) (tDcN w K wi g tt tk tv (own.map (·.2))) := by
  subst hK hw
  refine ⟨fun pins s σ H Q I h => ?_⟩
  rw [arm_eval_DictComp]
  refine dcN_core hu hc hN I hi ok pgs pts pks pes hs h fun D C t m He Ie fin_ hn f => ⟨m, hn, fun hh sb => ?_⟩
  obtain ⟨f0, f1, f2, f3, f4, f5⟩ := f
  exact ⟨.ref D, He, Ie.turned (t' := t.toks) (fun b o hb z => (sb.2 b hb).trans z) f0 f1 f3 f4 f5, rfl, fin_⟩
end
end Gn

set_option Elab.async false
set_option linter.all false
set_option maxRecDepth 100000
set_option maxHeartbeats 4000000
/-! dict(xs), xs a list of pairs, their keys tuples within tuples -/
namespace Gn
open PySem PySem.Spec PyProof.Rows L2
section
variable {X : Cx}
end
end Gn

set_option Elab.async false
set_option linter.all false
set_option maxRecDepth 100000
set_option maxHeartbeats 4000000
/-! dicts whose keys are tuples within tuples: dict(pairs), list(f(..)), [.. for k in d] -/
namespace Dl
open PySem PySem.Spec PyProof.Rows L2
section
variable {K : PySem.W.Frag} {G H : Hp} {w : World}
end
section
variable {K : PySem.W.Frag} {pen : Pc} {H0 : Hp} {L : Lv} {w : World} {te : TE} {tl : TA} {Po : OO → Prop} {Pl : List PyData → Prop} {D : Dn}
end
end Dl

set_option Elab.async false
set_option linter.all false
set_option maxRecDepth 100000
set_option maxHeartbeats 2000000
/-! all(e for x in .. for y in ..) -/
namespace Gx
open PySem PySem.Spec PyProof.Rows L2 GenW GxR
theorem turn2_0 (elt tg iter : Expr) (ifs : List Expr) (tg2 iter2 : Expr) (ifs2 : List Expr) (scope : Scope) (pos : Pos) (it acc : Value) (env : Env) :
    compTurn (.GeneratorExp elt [⟨tg, iter, ifs, 0⟩, ⟨tg2, iter2, ifs2, 0⟩] scope pos) 0 it acc env = (do
      standAt iter.pos
      match ← pyNext it with
      | none => pure (.done .next)
      | some v =>
        letOwnedTupleGo tg it v
        assign tg env v
        let mut ok := true
        for c in ifs do
          if ok then ok ← isTrue c env (eval c env)
        if ok then
          let x ← eval iter2 env
          standAt iter2.pos
          let x ← foldedSetIterable iter2 env x
          let i2 ← holding [x] (pyIter x)
          let _ ← runOwn (.compStart (.GeneratorExp elt [⟨tg, iter, ifs, 0⟩, ⟨tg2, iter2, ifs2, 0⟩] scope pos) 1 i2 acc env) env
        again (.compLoop (.GeneratorExp elt [⟨tg, iter, ifs, 0⟩, ⟨tg2, iter2, ifs2, 0⟩] scope pos) 0 it acc env)) := by rfl
theorem turn2_1 (elt tg iter : Expr) (ifs : List Expr) (tg2 iter2 : Expr) (ifs2 : List Expr) (scope : Scope) (pos : Pos) (it acc : Value) (env : Env) :
    compTurn (.GeneratorExp elt [⟨tg, iter, ifs, 0⟩, ⟨tg2, iter2, ifs2, 0⟩] scope pos) 1 it acc env = (do
      standAt iter2.pos
      match ← pyNext it with
      | none => pure (.done .next)
      | some v =>
        letOwnedTupleGo tg2 it v
        assign tg2 env v
        let mut ok := true
        for c in ifs2 do
          if ok then ok ← isTrue c env (eval c env)
        if ok then
          (do let v ← eval elt env; standAt elt.pos; let _ ← yieldOut env v)
        again (.compLoop (.GeneratorExp elt [⟨tg, iter, ifs, 0⟩, ⟨tg2, iter2, ifs2, 0⟩] scope pos) 1 it acc env)) := by rfl
section
variable {M : Model} {A : Around} {R : GenEnd} {Y : Protocol} {n : Nat} {s₀ : Shared} {c : Code} {fs : List Frame} {s : Shared} {β : Type}
theorem seg_own {c' : Code} {env : Env} {K : Flow → Sem β} {K' : β → Sem PySem.Fin} {H' : Value → Sem PySem.Fin} {gd lv}
    (h : ∀ (p : Pos) (k : Result → Sem PySem.Fin), (∀ n' s0' s', Seg M A R Y n' s0' c ((K .next).wrap K' H' gd lv) fs s' → Seg M A R Y n' s0' c (k (.ok .next)) fs s') →
      Seg M A R Y n s₀ c' (M.den c') (.ret k none (gd false) (lv []) c p [] :: fs) s) : Seg M A R Y n s₀ c ((runOwn c' env >>= K).wrap K' H' gd lv) fs s :=
  seg_call fun p => h p _ fun _ _ _ x => x
end
section
variable {X : Cx} {A' B : Around} {s4 : Shared} {H4 : Hp} {cenv : Env} {fp fp2 : List Addr} {pn : List (Addr × Obj)} {it it2 : Addr} {tn tn2 : Nat → Heap → Prop} {J J2 : It} {elt tg iter tg2 iter2 : Expr} {ifs ifs2 : List Expr} {scope : Scope} {pos : Pos} {g g2 : TG} {tt tt2 : TT} {te : TE} {wi2 : TI} {vs vs2 : List Nat} {σ0 σ1 : L2.St} {W W2 : Nat → Nat → Hp → Prop} {Qt Qf Qi : Hp → Prop} {go : Bool} {pins : List (Addr × Obj)} {fs : List Frame}
/-- the inner loop -/
theorem seg_in (hA : B.over (.compLoop (.GeneratorExp elt [⟨tg, iter, ifs, 0⟩, ⟨tg2, iter2, ifs2, 0⟩] scope pos) 1 (.ref it2) .none cenv) fs = A') (hfs : splitAtGen fs = none) (hfg : fs.any Frame.guarded = false) (hc : X.calm = true) (hco : cenv.scope.isCoroutine = false) (T : Turn X.prog X.w X.K tg2 J2 fp2 it2 tn2)
    (hst : ∀ H : Hp, (∀ b ∈ fp2, H b = none) → ∀ b ∈ fp2, FpOk (gcx X A' s4 H4 cenv fp pn) pins H b) (hσ : wipe σ1 vs2 = σ1)
    (hg : PG (gcx X A' s4 H4 cenv fp pn) tg2 g2) (ht : PTs (gcx X A' s4 H4 cenv fp pn) ifs2 tt2) (he : PE (gcx X A' s4 H4 cenv fp pn) elt te) (hturn : Turns J2 g2 tt2 te vs2 σ1 W2 Qi (YdB go Qf)) {k0 : Nat} (hk0 : 1 ≤ k0)
    (hend : ∀ (n' : Nat) (H : Hp) (s₀ s' : Shared), k0 ≤ n' → Inv (gcx X A' s4 H4 cenv fp pn) pins σ1 H s' → Qi H → Seg (model X.prog X.w) B (RG (gcx X A' s4 H4 cenv fp pn) σ0 Qt) (YG (gcx X A' s4 H4 cenv fp pn) go Qf) n' s₀ (.compLoop (.GeneratorExp elt [⟨tg, iter, ifs, 0⟩, ⟨tg2, iter2, ifs2, 0⟩] scope pos) 1 (.ref it2) .none cenv) (leafOf (.ok .next)) fs s') :
    ∀ (m n i : Nat) (H : Hp) (s₀ s : Shared), m + k0 ≤ n → Inv (gcx X A' s4 H4 cenv fp pn) pins σ1 H s → tn2 i s.heap → (∀ b ∈ fp2, H b = none) → W2 i m H →
      Seg (model X.prog X.w) B (RG (gcx X A' s4 H4 cenv fp pn) σ0 Qt) (YG (gcx X A' s4 H4 cenv fp pn) go Qf) n s₀ (.compLoop (.GeneratorExp elt [⟨tg, iter, ifs, 0⟩, ⟨tg2, iter2, ifs2, 0⟩] scope pos) 1 (.ref it2) .none cenv)
        ((model X.prog X.w).den (.compLoop (.GeneratorExp elt [⟨tg, iter, ifs, 0⟩, ⟨tg2, iter2, ifs2, 0⟩] scope pos) 1 (.ref it2) .none cenv)) fs s := by
  intro m
  induction m using Nat.strongRecOn with
  | _ m ih =>
  intro n i H s₀ s hmn I st fr w
  show Seg _ B _ _ _ s₀ _ ((compTurn (.GeneratorExp elt [⟨tg, iter, ifs, 0⟩, ⟨tg2, iter2, ifs2, 0⟩] scope pos) 1 (.ref it2) .none cenv).onRaise (fun x => do noteFrame x cenv; theTreesLotGoes x)) fs s
  rw [turn2_1, Sem.onRaise_eq_wrap]
  refine seg_bind_wrap (wpAny_standAt ?_)
  rcases hturn i m H w with ⟨stop, qn⟩ | ⟨goes, Nx, hN, step⟩
  · refine seg_bind_wrap ?_
    rw [hA]
    refine wpAny_mono (T.done (gcx X A' s4 H4 cenv fp pn) rfl rfl rfl hc i pins s σ1 H _ I (hst H fr) st stop) (fun r s1 hr => ?_) fun _ _ e => e
    obtain ⟨rfl, I1⟩ := hr
    exact hend n H s₀ s1 (by omega) I1 qn
  · refine seg_bind_wrap ?_
    rw [hA]
    refine wpAny_mono (T.item (gcx X A' s4 H4 cenv fp pn) rfl rfl rfl hc i pins s σ1 H _ I (hst H fr) st goes) (fun r s1 hr => ?_) fun _ _ e => e
    obtain ⟨u, rfl, h1⟩ := hr
    refine seg_bind_wrap ?_
    rw [hA]
    refine wpAny_mono h1 (fun _ s2 h2 => ?_) fun _ _ e => e
    obtain ⟨x, H2, I2, rx, yl, st2, fr2⟩ := h2
    have I2' := I2.pinned (hst H2 fr2) (T.obj _ _ st2)
    refine seg_bind_wrap ?_
    rw [hA]
    refine wpAny_mono (hg.run _ s2 σ1 H2 x u _ I2' rx (step x H2 yl)) (fun _ s3 h3 => ?_) fun _ _ e => e.elim
    obtain ⟨σ3, H3, I3, hw3, q3⟩ := h3
    have keeps : ∀ {σ' : L2.St} {H' : Hp} {s' : Shared}, Inv (gcx X A' s4 H4 cenv fp pn) (pins ++ pinsAt fp2 s2.heap) σ' H' s' → tn2 (i + 1) s'.heap ∧ ∀ b ∈ fp2, H' b = none := fun {σ' H' s'} I' =>
      ⟨T.keep _ _ _ st2 fun b hb o e => (I'.pin (b, o) (List.mem_append_right _ (List.mem_append_right _ (mem_pinsAt hb e)))).1, fun b hb => by
        obtain ⟨o, e, _⟩ := T.obj _ _ st2 b hb
        exact (I'.pin (b, o) (List.mem_append_right _ (List.mem_append_right _ (mem_pinsAt hb e)))).2.1⟩
    have back : ∀ {H' : Hp} {s' : Shared}, Inv (gcx X A' s4 H4 cenv fp pn) (pins ++ pinsAt fp2 s2.heap) σ3 H' s' → Inv (gcx X A' s4 H4 cenv fp pn) pins σ1 H' s' := fun {H' s'} I' => by
      refine I'.unpinned.weak ?_ fun j v e => ?_
      · rw [← hw3, wipe_length]
      · rw [← hw3] at e
        exact (wipe_some e).1
    refine seg_bind_wrap ?_
    rw [hA]
    refine wpAny_mono (ht.run _ s3 σ3 H3 _ I3 q3) (fun b s5 h5 => ?_) fun _ _ e => e.elim
    obtain ⟨H5, I5, q5⟩ := h5
    cases b with
    | false =>
      simp only [Bool.false_eq_true, if_false]
      obtain ⟨m', hm, w'⟩ := hN H5 q5
      obtain ⟨k1, k2⟩ := keeps I5
      exact seg_again rfl (ih m' hm n (i + 1) H5 s₀ s5 (by omega) (back I5) k1 k2 w')
    | true =>
      simp only [if_true]
      have hy : ∀ v, yieldOut cenv v = yieldValue v := fun v => by simp only [yieldOut, hco, Bool.false_eq_true, if_false]
      simp only [hy]
      rw [Sem.bind_eq_wrap', Sem.bind_eq_wrap', Sem.wrap_wrap, Sem.wrap_wrap]
      refine seg_wrap ?_
      rw [hA]
      refine wpAny_mono (he.run _ s5 σ3 H5 _ I5 q5) (fun v s6 h6 => ?_) fun _ _ e => e.elim
      obtain ⟨y, H6, I6, ry, b, rfl, q6⟩ := h6
      have ev : v = .bool b := ry
      subst ev
      obtain ⟨n', rfl⟩ : ∃ n', n = n' + 1 := ⟨n - 1, by omega⟩
      refine seg_at (seg_yield hfs rfl hfg ⟨b, H6, σ3, rfl, Inv.unpinned (pins := []) (pl := pins) I6.unpinned, fun hb => ?_, fun hb s' wk => ?_⟩)
      · rw [if_neg hb] at q6; exact q6
      · rw [if_pos hb] at q6
        obtain ⟨m', hm, w'⟩ := hN H6 q6
        obtain ⟨k1, k2⟩ := keeps I6
        exact seg_again rfl (ih m' hm n' (i + 1) H6 s' s' (by omega) (inv_woke (back I6) wk.heap wk.os wk.bare) (by rw [wk.heap]; exact k1) k2 w')
/-- the turns of two loops: in each of the outer's an iterator of the inner's, whose turns lead on -/
def Turns2 (J : It) (g : TG) (tt : TT) (wi2 : TI) (g2 : TG) (tt2 : TT) (te : TE) (vs vs2 : List Nat) (σ0 : L2.St) (W : Nat → Nat → Hp → Prop) (Qt : Hp → Prop) (Yd : V → Hp → (Hp → Prop) → Prop) : Prop :=
  ∀ i m H, W i m H → (J.stop i H ∧ Qt H) ∨ (J.go i H ∧ ∃ (Nx : Hp → Prop) (m' mi : Nat), m' + mi < m ∧ (∀ H', Nx H' → W (i + 1) m' H') ∧ ∀ x H', J.yld i H x H' → g x σ0 H' fun σ2 H2 => wipe σ2 vs = σ0 ∧ tt σ2 H2 fun b H3 => if b = true then wipe σ2 vs2 = σ2 ∧ wi2 σ2 H3 (fun J2 H4 => ∃ W2 : Nat → Nat → Hp → Prop, W2 0 mi H4 ∧ Turns J2 g2 tt2 te vs2 σ2 W2 Nx Yd) else Nx H3)
theorem seg_g2 (hA : B.over (.compLoop (.GeneratorExp elt [⟨tg, iter, ifs, 0⟩, ⟨tg2, iter2, ifs2, 0⟩] scope pos) 0 (.ref it) .none cenv) [] = A') (hc : X.calm = true) (hco : cenv.scope.isCoroutine = false) (T : Turn X.prog X.w X.K tg J fp it tn)
    (hst : ∀ H : Hp, (∀ b ∈ fp, H b = none) → ∀ b ∈ fp, FpOk (gcx X A' s4 H4 cenv fp pn) [] H b)
    (hg : PG (gcx X A' s4 H4 cenv fp pn) tg g) (ht : PTs (gcx X A' s4 H4 cenv fp pn) ifs tt) (hi2 : PI (gcx X A' s4 H4 cenv fp pn) tg2 iter2 wi2) (hs2 : ∀ v, foldedSetIterable iter2 cenv v = pure v)
    (hg2 : PG (gcx X A' s4 H4 cenv fp pn) tg2 g2) (ht2 : PTs (gcx X A' s4 H4 cenv fp pn) ifs2 tt2) (he : PE (gcx X A' s4 H4 cenv fp pn) elt te) (hturn : Turns2 J g tt wi2 g2 tt2 te vs vs2 σ0 W Qt (YdB go Qf)) :
    ∀ (m n i : Nat) (H : Hp) (s₀ s : Shared), m + 1 ≤ n → Inv (gcx X A' s4 H4 cenv fp pn) [] σ0 H s → tn i s.heap → (∀ b ∈ fp, H b = none) → W i m H →
      Seg (model X.prog X.w) B (RG (gcx X A' s4 H4 cenv fp pn) σ0 Qt) (YG (gcx X A' s4 H4 cenv fp pn) go Qf) n s₀ (.compLoop (.GeneratorExp elt [⟨tg, iter, ifs, 0⟩, ⟨tg2, iter2, ifs2, 0⟩] scope pos) 0 (.ref it) .none cenv)
        ((model X.prog X.w).den (.compLoop (.GeneratorExp elt [⟨tg, iter, ifs, 0⟩, ⟨tg2, iter2, ifs2, 0⟩] scope pos) 0 (.ref it) .none cenv)) [] s := by
  intro m
  induction m using Nat.strongRecOn with
  | _ m ih =>
  intro n i H s₀ s hmn I st fr w
  show Seg _ B _ _ _ s₀ _ ((compTurn (.GeneratorExp elt [⟨tg, iter, ifs, 0⟩, ⟨tg2, iter2, ifs2, 0⟩] scope pos) 0 (.ref it) .none cenv).onRaise (leaving cenv)) [] s
  rw [turn2_0, Sem.onRaise_eq_wrap]
  refine seg_bind_wrap (wpAny_standAt ?_)
  rcases hturn i m H w with ⟨stop, qn⟩ | ⟨goes, Nx, m', mi, hm, hN, step⟩
  · refine seg_bind_wrap ?_
    rw [hA]
    refine wpAny_mono (T.done (gcx X A' s4 H4 cenv fp pn) rfl rfl rfl hc i [] s σ0 H _ I (hst H fr) st stop) (fun r s1 hr => ?_) fun _ _ e => e
    obtain ⟨rfl, I1⟩ := hr
    exact seg_end (.ok .next) (.inl ⟨.inr rfl, H, I1, qn⟩)
  · refine seg_bind_wrap ?_
    rw [hA]
    refine wpAny_mono (T.item (gcx X A' s4 H4 cenv fp pn) rfl rfl rfl hc i [] s σ0 H _ I (hst H fr) st goes) (fun r s1 hr => ?_) fun _ _ e => e
    obtain ⟨u, rfl, h1⟩ := hr
    refine seg_bind_wrap ?_
    rw [hA]
    refine wpAny_mono h1 (fun _ s2 h2 => ?_) fun _ _ e => e
    obtain ⟨x, H2, I2, rx, yl, st2, fr2⟩ := h2
    have I2' := I2.pinned (hst H2 fr2) (T.obj _ _ st2)
    refine seg_bind_wrap ?_
    rw [hA]
    refine wpAny_mono (hg.run _ s2 σ0 H2 x u _ I2' rx (step x H2 yl)) (fun _ s3 h3 => ?_) fun _ _ e => e.elim
    obtain ⟨σ3, H3, I3, hw3, q3⟩ := h3
    have keeps : ∀ {σ' : L2.St} {H' : Hp} {s' : Shared}, Inv (gcx X A' s4 H4 cenv fp pn) ([] ++ pinsAt fp s2.heap) σ' H' s' → tn (i + 1) s'.heap ∧ ∀ b ∈ fp, H' b = none := fun {σ' H' s'} I' =>
      ⟨T.keep _ _ _ st2 fun b hb o e => (I'.pin (b, o) (List.mem_append_right _ (List.mem_append_right _ (mem_pinsAt hb e)))).1, fun b hb => by
        obtain ⟨o, e, _⟩ := T.obj _ _ st2 b hb
        exact (I'.pin (b, o) (List.mem_append_right _ (List.mem_append_right _ (mem_pinsAt hb e)))).2.1⟩
    have back : ∀ {H' : Hp} {s' : Shared}, Inv (gcx X A' s4 H4 cenv fp pn) ([] ++ pinsAt fp s2.heap) σ3 H' s' → Inv (gcx X A' s4 H4 cenv fp pn) [] σ0 H' s' := fun {H' s'} I' => by
      refine I'.unpinned.weak ?_ fun j v e => ?_
      · rw [← hw3, wipe_length]
      · rw [← hw3] at e
        exact (wipe_some e).1
    refine seg_bind_wrap ?_
    rw [hA]
    refine wpAny_mono (ht.run _ s3 σ3 H3 _ I3 q3) (fun b s5 h5 => ?_) fun _ _ e => e.elim
    obtain ⟨H5, I5, q5⟩ := h5
    cases b with
    | false =>
      simp only [Bool.false_eq_true, if_false]
      obtain ⟨k1, k2⟩ := keeps I5
      exact seg_again rfl (ih m' (by omega) n (i + 1) H5 s₀ s5 (by omega) (back I5) k1 k2 (hN H5 q5))
    | true =>
      simp only [if_true] at q5 ⊢
      obtain ⟨hσ2, q5⟩ := q5
      refine seg_bind_wrap ?_
      rw [hA]
      refine wpAny_mono (hi2.run _ s5 σ3 H5 _ I5 q5) (fun xv s6 h6 => ?_) fun _ _ e => e.elim
      refine seg_bind_wrap (wpAny_standAt ?_)
      refine seg_bind_wrap (wpAny_of_eq (hs2 xv) ?_)
      refine seg_bind_wrap (wpAny_holding ?_)
      rw [hA]
      refine wpAny_mono h6 (fun itv s7 h7 => ?_) fun _ _ e => e.elim
      obtain ⟨it2, fp2, tn2, J2, H7, rfl, I7, T2, st7, f7, W2, w2, hturn2⟩ := h7
      refine seg_own fun p k hk => ?_
      have hA2 : B.over (.compLoop (.GeneratorExp elt [⟨tg, iter, ifs, 0⟩, ⟨tg2, iter2, ifs2, 0⟩] scope pos) 1 (.ref it2) .none cenv) [.ret k none (id false) (id []) (.compLoop (.GeneratorExp elt [⟨tg, iter, ifs, 0⟩, ⟨tg2, iter2, ifs2, 0⟩] scope pos) 0 (.ref it) .none cenv) p []] = A' := by
        rw [← hA]
        rfl
      have hst2 : ∀ H : Hp, (∀ b ∈ fp2, H b = none) → ∀ b ∈ fp2, FpOk (gcx X A' s4 H4 cenv fp pn) ([] ++ pinsAt fp s2.heap) H b := fun Hq hq b hb => ⟨hq b hb, (f7 b hb).2⟩
      have loop := seg_in (σ0 := σ0) (Qt := Qt) (iter := iter) (iter2 := iter2) (ifs := ifs) (tg := tg) hA2 rfl rfl hc hco T2 hst2 hσ2 hg2 ht2 he hturn2 (k0 := m' + 1) (by omega) (fun n' H' s0' s' hn' I' q' => by
        obtain ⟨k1, k2⟩ := keeps I'
        exact seg_leaf (.ok .next) (hk _ _ _ (seg_again rfl (ih m' (by omega) n' (i + 1) H' _ s' hn' (back I') k1 k2 (hN H' q'))))) mi n 0 H7 s₀ s7 (by omega) I7 st7 (fun b hb => (f7 b hb).1) w2
      show Seg _ B _ _ _ s₀ _ ((compStart (.GeneratorExp elt [⟨tg, iter, ifs, 0⟩, ⟨tg2, iter2, ifs2, 0⟩] scope pos) 1 (.ref it2) .none cenv).onRaise (fun x => do noteFrame x cenv; standAt theWindowsPlace)) _ s7
      unfold compStart
      rw [Sem.onRaise_eq_wrap]
      show Seg _ B _ _ _ s₀ _ ((ask >>= _).wrap _ _ _ _) _ s7
      refine seg_bind_wrap (wpAny_askSetting ?_)
      split
      · exact seg_again rfl loop
      · refine seg_bind_wrap (wpAny_rule ?_)
        show Seg _ B _ _ _ s₀ _ ((standAt iter2.pos >>= _).wrap _ _ _ _) _ s7
        exact seg_bind_wrap (wpAny_standAt (seg_bind_wrap (T2.self _ 0 s7 _ _ st7 (seg_again rfl loop))))
/-- from its start -/
theorem seg_g20 (hA : B.over (.compLoop (.GeneratorExp elt [⟨tg, iter, ifs, 0⟩, ⟨tg2, iter2, ifs2, 0⟩] scope pos) 0 (.ref it) .none cenv) [] = A') (hc : X.calm = true) (hco : cenv.scope.isCoroutine = false) (T : Turn X.prog X.w X.K tg J fp it tn)
    (hst : ∀ H : Hp, (∀ b ∈ fp, H b = none) → ∀ b ∈ fp, FpOk (gcx X A' s4 H4 cenv fp pn) [] H b) 
    (hg : PG (gcx X A' s4 H4 cenv fp pn) tg g) (ht : PTs (gcx X A' s4 H4 cenv fp pn) ifs tt) (hi2 : PI (gcx X A' s4 H4 cenv fp pn) tg2 iter2 wi2) (hs2 : ∀ v, foldedSetIterable iter2 cenv v = pure v) (hg2 : PG (gcx X A' s4 H4 cenv fp pn) tg2 g2) (ht2 : PTs (gcx X A' s4 H4 cenv fp pn) ifs2 tt2) (he : PE (gcx X A' s4 H4 cenv fp pn) elt te) (hturn : Turns2 J g tt wi2 g2 tt2 te vs vs2 σ0 W Qt (YdB go Qf))
    (m : Nat) (H : Hp) (s₀ s : Shared) (I : Inv (gcx X A' s4 H4 cenv fp pn) [] σ0 H s) (st : tn 0 s.heap) (fr : ∀ b ∈ fp, H b = none) (w : W 0 m H) :
      Seg (model X.prog X.w) B (RG (gcx X A' s4 H4 cenv fp pn) σ0 Qt) (YG (gcx X A' s4 H4 cenv fp pn) go Qf) (m + 1) s₀ (.compStart (.GeneratorExp elt [⟨tg, iter, ifs, 0⟩, ⟨tg2, iter2, ifs2, 0⟩] scope pos) 0 (.ref it) .none cenv)
        ((model X.prog X.w).den (.compStart (.GeneratorExp elt [⟨tg, iter, ifs, 0⟩, ⟨tg2, iter2, ifs2, 0⟩] scope pos) 0 (.ref it) .none cenv)) [] s := by
  have loop := seg_g2 hA hc hco T hst hg ht hi2 hs2 hg2 ht2 he hturn m (m + 1) 0 H s₀ s (Nat.le_refl _) I st fr w
  show Seg _ B _ _ _ s₀ _ ((compStart (.GeneratorExp elt [⟨tg, iter, ifs, 0⟩, ⟨tg2, iter2, ifs2, 0⟩] scope pos) 0 (.ref it) .none cenv).onRaise (leaving cenv)) [] s
  unfold compStart
  rw [Sem.onRaise_eq_wrap]
  show Seg _ B _ _ _ s₀ _ ((ask >>= _).wrap _ _ _ _) [] s
  refine seg_bind_wrap (wpAny_askSetting ?_)
  split
  · exact seg_again rfl loop
  · first
      | exact seg_bind_wrap (wpAny_rule (seg_bind_wrap (wpAny_standAt (seg_bind_wrap (T.self _ 0 s _ _ st (seg_again rfl loop))))))
      | (refine seg_bind_wrap (wpAny_rule ?_); show Seg _ B _ _ _ s₀ _ ((standAt iter.pos >>= _).wrap _ _ _ _) [] s; exact seg_bind_wrap (wpAny_standAt (seg_bind_wrap (T.self _ 0 s _ _ st (seg_again rfl loop)))))
end
section
variable {M : Model} {A : Around} {E : Value → Shared → Prop} {s : Shared}
/-- making it: two clauses, the first one's iterator is made at once -/
theorem make2 {env : Env} {elt tg iter : Expr} {ifs : List Expr} {tg2 iter2 : Expr} {ifs2 : List Expr} {scope : Scope} {cl : List (Str × Addr)} {pos : Pos} {Q : Value → Shared → Prop}
    (hco : scope.isCoroutine = false) (hclos : closureFor scope env = pure cl) (hcell : ∀ y ∈ scope.names, y.2 ≠ .cell) (h0 : scope.names.lookup (".0" : Str) = some NameKind.local) (hkind : scope.kind = .function) (hroom : A.depth < recursionLimit)
    (h : wpAny M A (eval iter env) (fun xv s₁ => wpAny M A (pyIter xv) (fun it s₂ => s₂.heap.NoLimit ∧
      wpAny M A (genexprCode env pos (env.qual ++ "<genexpr>") scope) (fun code s₃ => wpAny M A (builtinsFor env.globals env.builtins) (fun bi s₄ =>
        ∀ h', h'.Ns s₄.heap.objs.size (fun y => if y = ".0" then some it else none) → Heap.SameBut s₄.heap.objs.size (s₄.heap.push { cls := .type "frame", data := .dict #[] }) h' →
          Q (.ref h'.objs.size) { s₄ with
            gens := s₄.gens.push (.fresh (.compStart (.GeneratorExp elt [⟨tg, iter, ifs, 0⟩, ⟨tg2, iter2, ifs2, 0⟩] scope pos) 0 it .none (genEnv scope cl s₄.heap.objs.size code bi env))),
            toks := s₄.toks + 1 + 1 + 1,
            heap := h'.push { cls := .type "generator", data := .fields #[.int s₄.gens.size 0, .str "<genexpr>" (s₄.toks + 1), .str (env.qual ++ "<genexpr>") (s₄.toks + 1 + 1)] } }) E s₃) E s₂) E s₁) E s)
    (hs : ∀ x, genFold iter env x = pure x) : wpAny M A (eval (.GeneratorExp elt [⟨tg, iter, ifs, 0⟩, ⟨tg2, iter2, ifs2, 0⟩] scope pos) env) Q E s := by
  have he : eval (.GeneratorExp elt [⟨tg, iter, ifs, 0⟩, ⟨tg2, iter2, ifs2, 0⟩] scope pos) env = (do
      let x ← eval iter env
      standAt iter.pos
      let x ← genFold iter env x
      let it ← holding [x] (pyIter x)
      enterFrame
      let cl ← closureFor scope env
      let code ← genexprCode env pos (env.qual ++ "<genexpr>") scope
      let bi ← builtinsFor env.globals env.builtins
      let cenv ← newFunctionEnv scope env.globals cl [(".0", it)] (env.qual ++ "<genexpr>.") none code none bi
      newGenerator (.compStart (.GeneratorExp elt [⟨tg, iter, ifs, 0⟩, ⟨tg2, iter2, ifs2, 0⟩] scope pos) 0 it .none cenv) "<genexpr>" (env.qual ++ "<genexpr>")) := by
    rw [arm_eval_GeneratorExp]
    simp only [hco, Bool.false_eq_true, if_false]
    cases iter <;> rfl
  rw [he, hclos]
  refine wpAny_bind (wpAny_mono h (fun xv s₁ h₁ => wpAny_bind (wpAny_standAt (wpAny_bind (wpAny_of_eq (hs xv) (wpAny_bind (wpAny_holding (wpAny_mono h₁ (fun it s₂ h₂ => ?_) fun _ _ e => e))))))) fun _ _ e => e)
  refine wpAny_bind (wpAny_enterFrame h₂.1 hroom (wpAny_bind (wpAny_pure (wpAny_bind (wpAny_mono h₂.2 (fun code s₃ h₃ => wpAny_bind (wpAny_mono h₃ (fun bi s₄ h₄ => ?_) fun _ _ e => e)) fun _ _ e => e)))))
  refine wpAny_bind (wpAny_newFunctionEnv hcell (fun y hy => by rw [List.mem_singleton.mp hy]; exact h0) (fun h' hn hsb => ?_) hkind)
  have e0 : (fun y : Str => ([((".0" : Str), it)] : List (Str × Value)).reverse.lookup y) = fun y : Str => if y = (".0" : Str) then some it else none := funext fun y => by
    by_cases hy : y = ".0"
    · rw [if_pos hy, hy]; rfl
    · rw [if_neg hy]
      show (match y == (".0" : Str) with | true => some it | false => none) = none
      rw [show (y == (".0" : Str)) = false from by simpa using hy]
  rw [e0] at hn
  simp only [newGenerator, newFields]
  exact wpAny_bind (wpAny_newGen (wpAny_bind (wpAny_mkText (wpAny_bind (wpAny_mkText (wpAny_newObj_type (h₄ h' hn hsb) (by size_fits)))))))
end
section
variable {X : Cx} {pins : List (Addr × Obj)} {σ : L2.St} {H : Hp} {s : Shared}
theorem room_gen2 {k : Nat} {A : Around} {elt tg iter tg2 iter2 : Expr} {ifs ifs2 : List Expr} {scope : Scope} {pos : Pos} {it : Value} {cenv : Env} (hr : Room (k + 1) A) : Room k (A.in1.in1.over (.compLoop (.GeneratorExp elt [⟨tg, iter, ifs, 0⟩, ⟨tg2, iter2, ifs2, 0⟩] scope pos) 0 it .none cenv) []) :=
  ⟨hr.hd, by have := hr.dp; show A.depth + 1 + 3 * k + 5 < _; omega, by have := hr.un; show A.units + 1 + 1 + 3 + 16 * k + 200 < _; omega⟩
theorem gen_ready2 {c P : Addr} {elt tg iter tg2 iter2 : Expr} {ifs ifs2 : List Expr} {scope : Scope} {own : List (Str × Nat)} {gpos : Pos} {wi : TI} {g : TG} {tt : TT} {wi2 : TI} {g2 : TG} {tt2 : TT} {te : TE} {vs2 : List Nat} {k : Nat} {Q' : Value → Shared → Prop} {Qt Qf : Hp → Prop} {go : Bool}
    (hc : X.calm = true) (hr : Room (k + 1) X.A) (hN : X.N.Nodup) (TB : TabB X.base X.mg c P) (hcode : X.env.code = .ref c) (S : GenOk X.env X.N scope own) (hi : PI X tg iter wi)
    (hg : ∀ (A' : Around) (s : Shared) (H : Hp) (cl : List (Str × Addr)) (C : Addr) (code : Value) (fp : List Addr) (pn : List (Addr × Obj)), Room k A' → PG (gcx X A' s H (genEnv scope cl C code builtinsNs X.env) fp pn) tg g)
    (ht : ∀ (A' : Around) (s : Shared) (H : Hp) (cl : List (Str × Addr)) (C : Addr) (code : Value) (fp : List Addr) (pn : List (Addr × Obj)), Room k A' → PTs (gcx X A' s H (genEnv scope cl C code builtinsNs X.env) fp pn) ifs tt)
    (he : ∀ (A' : Around) (s : Shared) (H : Hp) (cl : List (Str × Addr)) (C : Addr) (code : Value) (fp : List Addr) (pn : List (Addr × Obj)), Room k A' → PE (gcx X A' s H (genEnv scope cl C code builtinsNs X.env) fp pn) elt te)
    (hi2 : ∀ (A' : Around) (s : Shared) (H : Hp) (cl : List (Str × Addr)) (C : Addr) (code : Value) (fp : List Addr) (pn : List (Addr × Obj)), Room k A' → PI (gcx X A' s H (genEnv scope cl C code builtinsNs X.env) fp pn) tg2 iter2 wi2)
    (hs2 : ∀ (cl : List (Str × Addr)) (C : Addr) (code : Value) (v : Value), foldedSetIterable iter2 (genEnv scope cl C code builtinsNs X.env) v = pure v)
    (hg2 : ∀ (A' : Around) (s : Shared) (H : Hp) (cl : List (Str × Addr)) (C : Addr) (code : Value) (fp : List Addr) (pn : List (Addr × Obj)), Room k A' → PG (gcx X A' s H (genEnv scope cl C code builtinsNs X.env) fp pn) tg2 g2)
    (ht2 : ∀ (A' : Around) (s : Shared) (H : Hp) (cl : List (Str × Addr)) (C : Addr) (code : Value) (fp : List Addr) (pn : List (Addr × Obj)), Room k A' → PTs (gcx X A' s H (genEnv scope cl C code builtinsNs X.env) fp pn) ifs2 tt2)
    (hs : ∀ v, genFold iter X.env v = pure v) (I : Inv X pins σ H s)
    (h : wi σ H fun J H1 => TabX H1 P ∧ ∀ H2, TabbedX P H1 H2 → ∃ W : Nat → Nat → Hp → Prop, (∃ m, W 0 m H2) ∧ Turns2 J g tt wi2 g2 tt2 te (own.map (·.2)) vs2 (wipe σ (own.map (·.2))) W Qt (YdB go Qf))
    (hQ : ∀ (a : Addr) (gi n : Nat) (s5 : Shared) (Y : Cx) (gobj : Obj), Y.prog = X.prog ∧ Y.w = X.w → (a, gobj) ∈ Y.pn → (∀ s : Shared, s.heap.get? a = some gobj → s.heap.IsGen a gi) → s5.heap.IsGen a gi → s5.heap.NoLimit →
      (∃ gs, s5.gens[gi]? = some gs ∧ gs.Goes (model X.prog X.w) X.A.in1.in1 (RG Y (wipe σ (own.map (·.2))) Qt) (YG Y go Qf) n (.send .none) (s5.setGen gi .running)) →
      (∀ s₁ H σ2 s', Inv Y [] σ2 H s₁ → (∀ b o, s₁.heap.get? b = some o → s'.heap.get? b = some o) → s'.os = s₁.os → AllBare s'.gens → Inv X pins σ H s') → Q' (.ref a) s5) :
    wpAny (model X.prog X.w) X.A (eval (.GeneratorExp elt [⟨tg, iter, ifs, 0⟩, ⟨tg2, iter2, ifs2, 0⟩] scope gpos) X.env) Q' X.xe s := by
  have hfree : ∀ y ∈ scope.names, y.2 = .free → ∃ c, X.env.cells.lookup y.1 = some c := fun y hy e => by
    rcases S.blk.free y hy e with k | k
    · exact I.ok.has _ (.inl k)
    · exact I.ok.has _ (.inr k)
  refine make2 S.co (closure_ok hfree) S.cell S.dot S.blk.kind (by have := hr.dp; omega) ?_ hs
  refine thn (hi.run pins s σ H _ I h) fun v s1 h1 => thn h1 fun itv s2 h2 => ?_
  obtain ⟨it, fp, tn, J, H1, rfl, I1, T, st1, f1, ⟨ps, hP, htr, hall⟩, q1⟩ := h2
  have hPs : s2.heap.get? P = some { cls := .none, data := .fields ps } := I1.hok P _ hP
  have cd : PySem.W.CodeHd s2.heap c P := TB.code.keeps fun b u e => I1.bk b u e
  refine ⟨I1.nolimit, ?_⟩
  have nfP : ∀ b ∈ fp, b ≠ P := fun b hb z => by
    have := (f1 b hb).1
    rw [z, hP] at this
    cases this
  have cont : ∀ (code : Value) (h3 : Heap) (tk : Nat) (H2 : Hp), Heap.ExtBut P s2.heap h3 → s2.heap.objs.size ≤ h3.objs.size → Inv X pins σ H2 { s2 with heap := h3, toks := tk } → TabbedX P H1 H2 → (∀ b, b < s2.heap.objs.size → b ≠ P → H2 b = H1 b) →
      wpAny (model X.prog X.w) X.A (builtinsFor X.env.globals X.env.builtins) (fun bi s₄ =>
        ∀ h', h'.Ns s₄.heap.objs.size (fun y => if y = ".0" then some (.ref it) else none) → Heap.SameBut s₄.heap.objs.size (s₄.heap.push { cls := .type "frame", data := .dict #[] }) h' →
          Q' (.ref h'.objs.size) { s₄ with
            gens := s₄.gens.push (.fresh (.compStart (.GeneratorExp elt [⟨tg, iter, ifs, 0⟩, ⟨tg2, iter2, ifs2, 0⟩] scope gpos) 0 (.ref it) .none (genEnv scope (cloFrom X.env.cells scope.names []) s₄.heap.objs.size code bi X.env))),
            toks := s₄.toks + 1 + 1 + 1,
            heap := h'.push { cls := .type "generator", data := .fields #[.int s₄.gens.size 0, .str "<genexpr>" (s₄.toks + 1), .str (X.env.qual ++ "<genexpr>") (s₄.toks + 1 + 1)] } }) X.xe { s2 with heap := h3, toks := tk } := by
    intro code h3 tk H2 hx hsz J2 hTb hEq
    obtain ⟨bm, ob, e1, e2, e3, e4, e5, e6, e7, e8⟩ := TB.bm
    refine wpAny_builtinsFor (m := X.mg) (by rw [I1.ok.glob]; exact (I1.mod.glob.keeps I1.bk).extBut hx TB.gP) e1 e2 (hx _ _ e4 (I1.bk _ _ e5)) e6 e7 e8 ?_
    intro h' hns hsb
    obtain ⟨W, ⟨m, w0⟩, hturn⟩ := q1 H2 hTb
    -- the new objects
    have szp : (h3.push { cls := .type "frame", data := .dict #[] }).objs.size = h3.objs.size + 1 := Heap.size_push ..
    have sz' : h'.objs.size = h3.objs.size + 1 := by rw [← szp]; exact hsb.1
    have kp : ∀ b o, h3.get? b = some o → (h'.push { cls := .type "generator", data := .fields #[.int s2.gens.size 0, .str "<genexpr>" (tk + 1), .str (X.env.qual ++ "<genexpr>") (tk + 1 + 1)] }).get? b = some o := fun b o e =>
      Heap.get?_push_of_some _ ((hsb.2 b (Nat.ne_of_lt (Heap.lt_size e))).trans (Heap.get?_push_of_some _ e))
    have f2 : ∀ b ∈ fp, FpOk X pins H2 b ∧ b < h3.objs.size := fun b hb => by
      obtain ⟨o, e, _⟩ := T.obj _ _ st1 b hb
      refine ⟨⟨by rw [hEq b (Heap.lt_size e) (nfP b hb)]; exact (f1 b hb).1, (f1 b hb).2⟩, Nat.lt_of_lt_of_le (Heap.lt_size e) hsz⟩
    have st3 : tn 0 h3 := T.keep _ _ _ st1 fun b hb o e => hx b o (nfP b hb) e
    obtain ⟨A', hA'⟩ : ∃ A', X.A.in1.in1.over (.compLoop (.GeneratorExp elt [⟨tg, iter, ifs, 0⟩, ⟨tg2, iter2, ifs2, 0⟩] scope gpos) 0 (.ref it) .none (genEnv scope (cloFrom X.env.cells scope.names []) h3.objs.size code builtinsNs X.env)) [] = A' := ⟨_, rfl⟩
    have hroom : Room k A' := by rw [← hA']; exact room_gen2 hr
    have hfrm : A'.frames = some (genEnv scope (cloFrom X.env.cells scope.names []) h3.objs.size code builtinsNs X.env :: X.stack) := by
      have e : X.A.frames = some X.stack := I1.ok.frames
      rw [← hA']
      unfold Around.over
      dsimp only
      rw [e]
      rfl
    have start : ∀ gens' : Array GenState, AllBare gens' → ∀ tk', Inv (gcx X A' { s2 with heap := h3, toks := tk } H2 (genEnv scope (cloFrom X.env.cells scope.names []) h3.objs.size code builtinsNs X.env) fp [(h'.objs.size, _)]) [] (wipe σ (own.map (·.2))) H2
        { s2 with gens := gens', toks := tk', heap := h'.push { cls := .type "generator", data := .fields #[.int s2.gens.size 0, .str "<genexpr>" (tk + 1), .str (X.env.qual ++ "<genexpr>") (tk + 1 + 1)] } } := fun gens' hb tk' =>
      gen_start (code := code) J2 S.blk hN S.cell f2 hroom.hd rfl hfrm rfl hb kp (Heap.Ns.keeps hns fun b o e => Heap.get?_push_of_some _ e) (fun p hp => by
        rw [List.mem_singleton.mp hp]
        exact ⟨Heap.get?_push_size _ rfl, by show h3.objs.size < h'.objs.size; rw [sz']; exact Nat.lt_succ_self _, fun v z => by cases z⟩)
    have hgen : ∀ s : Shared, s.heap.get? h'.objs.size = some { cls := .type "generator", data := .fields #[.int s2.gens.size 0, .str "<genexpr>" (tk + 1), .str (X.env.qual ++ "<genexpr>") (tk + 1 + 1)] } → s.heap.IsGen h'.objs.size s2.gens.size := fun s e => ⟨_, _, _, e, rfl, rfl, rfl⟩
    refine hQ h'.objs.size s2.gens.size (m + 1) _ (gcx X A' { s2 with heap := h3, toks := tk } H2 (genEnv scope (cloFrom X.env.cells scope.names []) h3.objs.size code builtinsNs X.env) fp [(h'.objs.size, _)]) _ ⟨rfl, rfl⟩ (List.mem_singleton.mpr rfl) hgen (hgen _ (Heap.get?_push_size _ rfl)) (start #[] (fun _ z => by simp at z) 0).nolimit ⟨_, Array.getElem?_push_size, rfl, ?_⟩ fun s₁ Hz σ2 s' Iz ext hos hbz => ?_
    · have bare5 : AllBare (s2.gens.push (.fresh (.compStart (.GeneratorExp elt [⟨tg, iter, ifs, 0⟩, ⟨tg2, iter2, ifs2, 0⟩] scope gpos) 0 (.ref it) .none (genEnv scope (cloFrom X.env.cells scope.names []) h3.objs.size code builtinsNs X.env)))) := I1.bare.push rfl
      have hst : ∀ H : Hp, (∀ b ∈ fp, H b = none) → ∀ b ∈ fp, FpOk (gcx X A' { s2 with heap := h3, toks := tk } H2 (genEnv scope (cloFrom X.env.cells scope.names []) h3.objs.size code builtinsNs X.env) fp [(h'.objs.size, _)]) [] H b := fun Hq hq b hb => by
        have ok := (start s2.gens I1.bare 0).ok
        refine ⟨hq b hb, (ok.exf b hb).1, ok.exfs b hb, .inl hb, (ok.exf b hb).2, fun p hp => ?_⟩
        rw [List.append_nil] at hp
        rw [List.mem_singleton.mp hp]
        show h'.objs.size ≠ b
        have := (f2 b hb).2
        rw [sz']
        exact Nat.ne_of_gt (Nat.lt_succ_of_lt this)
      have wf : wipe (wipe σ (own.map (·.2))) (own.map (·.2)) = wipe σ (own.map (·.2)) := wipe_wipe _ _
      exact seg_g20 hA' hc S.co T hst (hg _ _ _ _ _ _ _ _ hroom) (ht _ _ _ _ _ _ _ _ hroom) (hi2 _ _ _ _ _ _ _ _ hroom) (fun v => hs2 _ _ _ v) (hg2 _ _ _ _ _ _ _ _ hroom) (ht2 _ _ _ _ _ _ _ _ hroom) (he _ _ _ _ _ _ _ _ hroom) hturn m _ _ _ (start _ (allBare_setGen (s := { s2 with gens := _ }) bare5 rfl) _) (T.keep _ _ _ st3 fun b hb o e => kp b o e) (fun b hb => (f2 b hb).1.1) w0
    · have u : Un (frs X.stack) fp H2 Hz h3 s'.heap := Iz.base.trans (Un.kept ext)
      refine J2.call' (s' := s') (hos.trans Iz.os) u (Iz.hok.kept ext) hbz fun b hb => ?_
      obtain ⟨⟨_, a1, _, a3, a4, a5⟩, _⟩ := f2 b hb
      exact ⟨a3, a1, a4, a5⟩
  cases hf : codeAmong gpos ps.toList with
  | none =>
    refine wpAny_genexprCodeX hcode (cd.code hPs htr) (cd.tab hPs) hf fun c' h' tk hx hge hlt hco' hrec htab' _ => ?_
    obtain ⟨c2, oc, vs, t, e2, hoc, hd, hv⟩ := hrec
    cases e2
    have I3 := LamX.inv_table (t' := tk) (more := #[rawInt gpos.line, rawInt gpos.col, .ref c']) I1 hP (fun b u hb e => hx b u hb e) htab'.2 hge ⟨oc, vs, t, hoc, hd, hv⟩
    exact cont _ h' tk _ hx (Nat.le_trans hge (Nat.le_of_lt hlt)) I3 (tabX_new hP htr hall (I1.hok.fresh hge)) fun b hb hp => by rw [upd_ne (Nat.ne_of_lt (Nat.lt_of_lt_of_le hb hge)), upd_ne hp]
  | some cv =>
    refine wpAny_genexprCode_hit hcode (cd.code hPs htr) hf ?_
    exact cont cv s2.heap s2.toks H1 (Heap.ExtBut.refl _ _) (Nat.le_refl _) I1 (TabbedX.same ⟨ps, hP, htr, hall⟩) fun _ _ _ => rfl
end
/-- all(e for x in .. for y in ..) (go true), any(..) (go false) -/
def tGen2 (P : Addr) (go : Bool) (wi : TI) (g : TG) (tt : TT) (wi2 : TI) (g2 : TG) (tt2 : TT) (te : TE) (vs vs2 : List Nat) : TE := fun σ H Q => wi σ H fun J H1 => TabX H1 P ∧ ∀ H2, TabbedX P H1 H2 →
  ∃ W : Nat → Nat → Hp → Prop, (∃ m, W 0 m H2) ∧ Turns2 J g tt wi2 g2 tt2 te vs vs2 (wipe σ vs) W (fun H => Q (.bl go) H) (YdB go fun H => Q (.bl (!go)) H)
section
variable {X : Cx} {c P : Addr} {elt tg iter tg2 iter2 : Expr} {ifs ifs2 : List Expr} {scope : Scope} {own : List (Str × Nat)} {p pos gpos : Pos} {wi : TI} {g : TG} {tt : TT} {wi2 : TI} {g2 : TG} {tt2 : TT} {te : TE} {vs2 : List Nat} {k : Nat}
theorem pe_allG2 (hc : X.calm = true) (hr : Room (k + 1) X.A) (hN : X.N.Nodup) (hgl : Gl X "all") (hm : X.mg "all" = none) (hb : bootBuiltins "all" = some (.builtin "all")) (TB : TabB X.base X.mg c P) (hcode : X.env.code = .ref c) (S : GenOk X.env X.N scope own) (hi : PI X tg iter wi)
    (hg : ∀ (A' : Around) (s : Shared) (H : Hp) (cl : List (Str × Addr)) (C : Addr) (code : Value) (fp : List Addr) (pn : List (Addr × Obj)), Room k A' → PG (gcx X A' s H (genEnv scope cl C code builtinsNs X.env) fp pn) tg g)
    (ht : ∀ (A' : Around) (s : Shared) (H : Hp) (cl : List (Str × Addr)) (C : Addr) (code : Value) (fp : List Addr) (pn : List (Addr × Obj)), Room k A' → PTs (gcx X A' s H (genEnv scope cl C code builtinsNs X.env) fp pn) ifs tt)
    (he : ∀ (A' : Around) (s : Shared) (H : Hp) (cl : List (Str × Addr)) (C : Addr) (code : Value) (fp : List Addr) (pn : List (Addr × Obj)), Room k A' → PE (gcx X A' s H (genEnv scope cl C code builtinsNs X.env) fp pn) elt te)
    (hi2 : ∀ (A' : Around) (s : Shared) (H : Hp) (cl : List (Str × Addr)) (C : Addr) (code : Value) (fp : List Addr) (pn : List (Addr × Obj)), Room k A' → PI (gcx X A' s H (genEnv scope cl C code builtinsNs X.env) fp pn) tg2 iter2 wi2)
    (hg2 : ∀ (A' : Around) (s : Shared) (H : Hp) (cl : List (Str × Addr)) (C : Addr) (code : Value) (fp : List Addr) (pn : List (Addr × Obj)), Room k A' → PG (gcx X A' s H (genEnv scope cl C code builtinsNs X.env) fp pn) tg2 g2)
    (ht2 : ∀ (A' : Around) (s : Shared) (H : Hp) (cl : List (Str × Addr)) (C : Addr) (code : Value) (fp : List Addr) (pn : List (Addr × Obj)), Room k A' → PTs (gcx X A' s H (genEnv scope cl C code builtinsNs X.env) fp pn) ifs2 tt2)
    (hs2 : ∀ (cl : List (Str × Addr)) (C : Addr) (code : Value) (v : Value), foldedSetIterable iter2 (genEnv scope cl C code builtinsNs X.env) v = pure v := by intro _ _ _ _; rfl)
    (hs : ∀ v, genFold iter X.env v = pure v := by intro _; rfl)
    (hst : starEach [.GeneratorExp elt [⟨tg, iter, ifs, 0⟩, ⟨tg2, iter2, ifs2, 0⟩] scope gpos] X.env = (false, eval (.GeneratorExp elt [⟨tg, iter, ifs, 0⟩, ⟨tg2, iter2, ifs2, 0⟩] scope gpos) X.env) :: starEach [] X.env := by rfl) :
    PE X (.Call (.Name "all" p) [.GeneratorExp elt [⟨tg, iter, ifs, 0⟩, ⟨tg2, iter2, ifs2, 0⟩] scope gpos] [] pos) (tGen2 P true wi g tt wi2 g2 tt2 te (own.map (·.2)) vs2) := by
  refine ⟨fun pins s σ H Q I h => ?_⟩
  refine wpAny_Call_Name_kw (ld_blt I hgl hm hb ?_)
  refine PyProof.Rows.callWith_builtin1 ?_ hst (by rfl)
  rw [hst]
  show wpAny _ _ (spliced ((false, eval (.GeneratorExp elt [⟨tg, iter, ifs, 0⟩, ⟨tg2, iter2, ifs2, 0⟩] scope gpos) X.env) :: backTo pos (starEach [] X.env))) _ _ s
  refine Calls.spliced_cons (gen_ready2 hc hr hN TB hcode S hi hg ht he hi2 hs2 hg2 ht2 hs I h fun a gi n s5 Y gobj hY hpn hgo hg5 hl5 hgoes back => ?_)
  refine Calls.spliced_nil ?_
  refine call_function_tree F.kind_all F.plain_all F.entry_all (F.args_all1 _) ?_
  unfold Builtin.«all»
  refine wpAny_bind (m := oneArg "all" _) (wpAny_pure ?_)
  refine wpAny_bind (wpAny_pyIter_gen hg5 ?_)
  exact wpAny_pure ⟨plainId_quiet F.plain_all_loop _, all_loop hY hr.hd hr.depth hpn hgo (fun s₁ Hz s' Iz q ext hos hb => ⟨.bl true, Hz, back s₁ Hz _ s' Iz ext hos hb, rfl, q⟩) (fun s₁ Hz σ2 s' Iz q ext hos hb => ⟨.bl false, Hz, back s₁ Hz σ2 s' Iz ext hos hb, rfl, q⟩) n s5 hg5 hl5 hgoes⟩
end
end Gx

set_option Elab.async false
set_option linter.all false
set_option maxRecDepth 100000
set_option maxHeartbeats 4000000
/-! tuple(e for x in ..) -/
namespace Gx
open PySem PySem.Spec PyProof.Rows L2 GenW GxR
open AutoSeq1 (wpAny_loadPart')
section
variable {X : Cx}
end
end Gx

set_option Elab.async false
set_option linter.all false
set_option maxRecDepth 100000
set_option maxHeartbeats 4000000
/-! all(e for x in .. for y in ..) over data -/
namespace Dl
open PySem PySem.Spec PyProof.Rows L2 Gx
theorem wipe_none {vs vs1 vs2 : List Nat} {σ σ2 : L2.St} (h2 : ∀ j ∈ vs2, j ∈ vs ∧ j ∉ vs1) (ag : Agree vs1 (wipe σ vs) σ2) : wipe σ2 vs2 = σ2 := by
  apply List.ext_getElem?
  intro j
  rw [wipe_get]
  by_cases hj : j ∈ vs2
  · obtain ⟨a, b⟩ := h2 j hj
    rw [if_pos hj, ag.2 j b, wipe_get, if_pos a, ag.1]
    by_cases hl : j < σ.length
    · rw [if_pos (by rw [wipe_length]; exact hl), if_pos hl]
    · rw [if_neg (by rw [wipe_length]; exact hl), if_neg hl]
  · rw [if_neg hj]
section
variable {K : PySem.W.Frag} {pen : Pc} {H0 : Hp} {L : Lv} {Pd : PyData → Prop} {te : TE} {ti ti2 : TI} {g g2 : TG}
theorem e_all2 {pn : Option Pn} {ts : List Addr} {Tb : Addr} {vs vs2 : List Nat} (vs1 : List Nat) (F : PyData → Bool) (hT : Tb ∈ ts) (hv1 : ∀ j ∈ vs1, j ∈ vs) (hv2 : ∀ j ∈ vs2, j ∈ vs ∧ j ∉ vs1)
    (h : IT K ⟨pn, ts⟩ H0 ti L fun xs => (∀ x ∈ xs, GTw K ⟨pn, ts⟩ H0 vs1 g x (wipeL L vs) fun L2 => IT K ⟨pn, ts⟩ H0 ti2 L2 fun ys => ys.length ≤ 100000 ∧ ∃ f : PyData → Bool, ys.all f = F x ∧
      ∀ y ∈ ys, GTw K ⟨pn, ts⟩ H0 vs2 g2 y L2 fun L3 => E K ⟨pn, ts⟩ H0 te L3 fun d => d = .bool (f y)) ∧ Pd (.bool (xs.all F))) :
    E K ⟨pn, ts⟩ H0 (_root_.Gx.tGen2 Tb true ti g tYes ti2 g2 tYes te vs vs2) L Pd := fun σ G H e Q q => h σ G H e _ fun It G1 H1 xs gg w ⟨hx, hp⟩ => by
  refine ⟨gg.vw.ok.2 Tb hT, fun H2 htab => ?_⟩
  have gt := Go.tab gg.vw hT htab
  refine ⟨fun i m H' => m = (xs.length - i) * 100001 ∧ i ≤ xs.length ∧ xs.all F = (xs.drop i).all F ∧ ∃ G', Go ⟨pn, ts⟩ G1 H2 G' H', ⟨_, rfl, Nat.zero_le _, rfl, G1, .refl gt.vw⟩, ?_⟩
  rintro i m H' ⟨rfl, hi, hJ, G', g'⟩
  have q' : ∀ v d G' H', Go ⟨pn, ts⟩ G1 H2 G' H' → Dp K G' v d → Pd d → Q v H' := fun v d G' H' g hd p => q v d G' H' ((gg.trans gt).trans g) hd p
  obtain ⟨w1, w2⟩ := w G' H' g'.gg g'.vw
  by_cases hlt : i < xs.length
  · obtain ⟨k1, k2⟩ := w1 i _ (List.getElem?_eq_getElem hlt)
    have hdrop : (xs.drop i).all F = (F xs[i] && (xs.drop (i + 1)).all F) := by rw [List.drop_eq_getElem_cons hlt, List.all_cons]
    refine .inr ⟨k1, fun H3 => xs.all F = (xs.drop (i + 1)).all F ∧ ∃ G', Go ⟨pn, ts⟩ G1 H2 G' H3, (xs.length - (i + 1)) * 100001, 100000, ?_, fun H3 ⟨a, b⟩ => ⟨rfl, hlt, a, b⟩, fun y H3 hy => ?_⟩
    · have : xs.length - i = xs.length - (i + 1) + 1 := by omega
      rw [this, Nat.add_mul]
      omega
    obtain ⟨G3, g3, d3⟩ := k2 y H3 hy
    refine hx _ (List.getElem_mem hlt) (wipe σ vs) G3 H3 y (ev_wipe ((((e.go gg).go gt).go g').go g3) vs) d3 _ fun σ2 L2 ag e2 it2 => ⟨wipe_agree ⟨ag.1, fun j hj => ag.2 j fun z => hj (hv1 j z)⟩, ?_⟩
    unfold tYes
    simp only [↓reduceIte]
    refine ⟨wipe_none hv2 ag, it2 σ2 G3 H3 e2 _ fun It2 G4 H4 ys g4 wy ⟨hyl, f, hf, hyf⟩ => ?_⟩
    have gy := (g'.trans g3).trans g4
    refine ⟨fun j m H' => m = 100000 - j ∧ j ≤ ys.length ∧ ys.all f = (ys.drop j).all f ∧ ∃ G', Go ⟨pn, ts⟩ G4 H4 G' H', ⟨rfl, Nat.zero_le _, rfl, G4, .refl g4.vw⟩, ?_⟩
    rintro j m H5 ⟨rfl, hj, hJ2, G5, g5⟩
    obtain ⟨v1, v2⟩ := wy G5 H5 g5.gg g5.vw
    by_cases hlj : j < ys.length
    · obtain ⟨k3, k4⟩ := v1 j _ (List.getElem?_eq_getElem hlj)
      have hdrop2 : (ys.drop j).all f = (f ys[j] && (ys.drop (j + 1)).all f) := by rw [List.drop_eq_getElem_cons hlj, List.all_cons]
      refine .inr ⟨k3, fun H6 => ys.all f = (ys.drop (j + 1)).all f ∧ ∃ G', Go ⟨pn, ts⟩ G4 H4 G' H6, fun H6 ⟨a, b⟩ => ⟨100000 - (j + 1), by omega, rfl, hlj, a, b⟩, fun z H6 hz => ?_⟩
      obtain ⟨G6, g6, d6⟩ := k4 z H6 hz
      refine hyf _ (List.getElem_mem hlj) σ2 G6 H6 z (((e2.go g4).go g5).go g6) d6 _ fun σ4 L4 ag4 e4 h4 => ⟨?_, ?_⟩
      · have ag5 : Agree vs2 (wipe σ2 vs2) σ4 := by rw [wipe_none hv2 ag]; exact ag4
        rw [wipe_agree ag5, wipe_none hv2 ag]
      · have hm : GnT K ⟨pn, ts⟩ H0 true tYes te L4 (ys.all f = (ys.drop (j + 1)).all f) Pd := et_yes ⟨fun _ => h4.mono fun d e5 => ⟨f ys[j], e5, fun hk => ?_, fun hk => ?_⟩, fun z => by cases z⟩
        · exact gn_turn (g5.trans g6) e4 hm (fun G3 H3 g3 k => ⟨k, G3, g3⟩) fun v d G' H' gz hd p => q' v d G' H' (gy.trans gz) hd p
        · rw [hJ2, hdrop2, hk, Bool.true_and]
        · have hF : F xs[i] = false := by rw [← hf, hJ2, hdrop2, hk]; rfl
          rw [hJ, hdrop, hF] at hp
          exact hp
    · have e1 : j = ys.length := by omega
      subst e1
      refine .inl ⟨v2, ?_, G5, gy.trans g5⟩
      rw [hJ, hdrop, ← hf, hJ2, List.drop_eq_nil_of_le (Nat.le_refl _)]
      rfl
  · have e1 : i = xs.length := by omega
    subst e1
    rw [hJ, List.drop_eq_nil_of_le (Nat.le_refl _)] at hp
    exact .inl ⟨w2, q' _ _ G' H' g' (.bl _) hp⟩
/-- {k: e for x in ..}, the keys tuples within tuples -/
theorem ek_dcN {w : World} {tk tv : TE} {vs : List Nat} {Po : OO → Prop} (h : IT K pen H0 ti L fun xs => xs.length ≤ 100000 ∧ ∃ J : Nat → List (NestedKey × PyData) → Prop, J 0 [] ∧
    (∀ (i : Nat) x m, xs[i]? = some x → J i m → GTw K pen H0 vs g x (wipeL L vs) fun L2 => E K pen H0 tk L2 fun y => E K pen H0 tv L2 fun d => ∃ k, NkD y k ∧ J (i + 1) (putD m k d)) ∧ (∀ m, J xs.length m → Po (.dN w m))) :
    EK K pen H0 (Gn.tDcN w K ti g tYes tk tv vs) L Po := fun σ G H e Q q => h σ G H e _ fun It G1 H1 xs go wlk ⟨hn, J, j0, js, je⟩ => fun D hD => by
  have gD1 : G1 D = none := (e.go go).gnone hD
  have hD0 : H D = none := by
    cases z : H D with
    | none => rfl
    | some u => exact absurd hD (go.dom (by rw [z]; exact fun z => by cases z))
  refine ⟨fun i n H' => n = xs.length - i ∧ i ≤ xs.length ∧ ∃ G' kvs m, Go pen G1 H1 G' H' ∧ H' D = some (Gn.NO w D kvs) ∧ G' D = none ∧ NvOk K G' kvs m ∧ m.length ≤ i ∧ J i m, ⟨xs.length, rfl, Nat.zero_le _, G1, [], [], Go.hid go.vw hD, upd_same, gD1, .nil, Nat.zero_le _, j0⟩, ?_⟩
  rintro i n H' ⟨rfl, hi, G', kvs, m, g', hDv, gD, hkv, hml, hJ⟩
  obtain ⟨w1, w2⟩ := wlk G' H' g'.gg g'.vw
  by_cases hlt : i < xs.length
  · obtain ⟨k1, k2⟩ := w1 i _ (List.getElem?_eq_getElem hlt)
    refine .inr ⟨k1, fun H3 => ∃ G' kvs m, Go pen G1 H1 G' H3 ∧ H3 D = some (Gn.NO w D kvs) ∧ G' D = none ∧ NvOk K G' kvs m ∧ m.length ≤ i + 1 ∧ J (i + 1) m, fun H3 k => ⟨xs.length - (i + 1), by omega, rfl, hlt, k⟩, fun y H3 hy => ?_⟩
    obtain ⟨G3, g3, d3⟩ := k2 y H3 hy
    refine js i _ m (List.getElem?_eq_getElem hlt) hJ (wipe σ vs) G3 H3 y (ev_wipe (((e.go go).go g').go g3) vs) d3 _ fun σ4 L4 ag e4 h4 => ⟨wipe_agree ag, ?_⟩
    unfold tYes
    simp only [↓reduceIte]
    refine h4 σ4 G3 H3 e4 _ fun yk dk G4 H4 g4 d4 h5 => ?_
    refine h5 σ4 G4 H4 (e4.go g4) _ fun z d G5 H5 g5 d5 ⟨k, ⟨hk, hk8, ks, hkt⟩, hJ'⟩ => ?_
    subst hk
    have d4' := dp_mono g5.gg _ _ d4
    obtain ⟨b, rfl⟩ := tup_ref (ks := ks) (by rw [← hkt]; exact d4)
    have g35 := (g3.trans g4).trans g5
    have npD : ¬ IsPn pen D := fun z => go.vw.ok.there z hD
    have h5D : H5 D = some (Gn.NO w D kvs) := g35.od D _ npD hDv
    have g5D : G5 D = none := (g35.nw D (by rw [hDv]; exact fun z => by cases z)).trans gD
    have hkv5 := NvOk.mono g35.gg hkv
    refine ⟨kvs, k, b, rfl, h5D, nv_keys g35.vw.vw hkv5, nk_of g35.vw.vw _ _ d4', hk8, Nat.lt_of_lt_of_le (by rw [nv_len hkv5]; omega) (by decide : 100000 ≤ sizeLine), G5, Gn.putN kvs k b z, putD m k d, ?_, upd_same, g5D, nv_put k hk8 d4' d5 hkv5, ?_, hJ'⟩
    · exact Go.mut go.vw hD g5D (fun q z => Gn.noCode w D kvs q (Option.some.inj (h5D.symm.trans z))) (g'.trans g35)
    · have : (putD m k d).length ≤ m.length + 1 := by
        unfold putD
        split
        · rw [List.length_map]; omega
        · rw [List.length_append]; exact Nat.le_refl _
      omega
  · have e1 : i = xs.length := by omega
    subst e1
    exact .inl ⟨w2, q D (Gn.NO w D kvs) (.dN w m) G' H' (go.trans g') hDv gD hD0 (OwnOk.ofN hkv) (je m hJ)⟩
end
section
variable {P : Program} {w : World} {K : PySem.W.Frag} {mg : Str → Option Value} {base : Heap}
end
end Dl

set_option Elab.async false
set_option linter.all false
set_option maxRecDepth 100000
set_option maxHeartbeats 2000000
/-! repr of data, where no repr is under way: what a def promises there. -/
namespace Rg
open PySem PySem.Spec PyProof.Rows L2 Dl
structure FnG (P : Program) (w : World) (K : PySem.W.Frag) (mg : Str → Option Value) (base : Heap) (CX : CXT) (k : Nat) (f : Addr) (fd : FuncData) (ps : List Str) (sp : Sp) : Prop where
  ln : ∀ vs H Q E, sp vs H Q E → vs.length = ps.length
  go : ∀ (A : Around) (st : List Env) (s : Shared) (H : Hp) (ar : Args) (us : List Value) (vs : List V) (Q : VK) (E : XK), A.guards = some [] → Room k A → Env0 P w K mg base A st s H → BindsTo s fd ar (ps.zip us) → Vals vs us →
    sp vs H Q E → codeAny (model P w) A (.call (.ref f) ar) (CR CX st P w H s Q E) s
section
variable {P : Program} {w : World} {K : PySem.W.Frag} {mg : Str → Option Value} {base : Heap}
theorem FnG.of {CX : CXT} {k : Nat} {f : Addr} {fd : FuncData} {ps : List Str} {sp : Sp} (F : FnOk P w K mg base CX k f fd ps sp) : FnG P w K mg base CX k f fd ps sp := ⟨F.len, fun A st s H ar us vs Q E _ => F.run A st s H ar us vs Q E⟩
/-- a def whose body is shown where no repr is under way -/
theorem fnG_of {CX : CXT} {k : Nat} {f : Addr} {fd : FuncData} {x qual : Str} {st : Stmt} {N ps : List Str} {sp : Sp} (F : Fun K x qual st f fd) (S : FnScope N ps (defScope st)) (ln : ∀ vs H Q E, sp vs H Q E → vs.length = ps.length)
    (body : ∀ (cdv : Value) (A : Around) (ou : List Env) (s : Shared) (H : Hp) (vs : List V) (Q : VK) (E : XK), A.guards = some [] → Room k (A.deeper (envOfC qual (defScope st) s.heap.objs.size f cdv)) → sp vs H Q E →
      ∃ t, PSs (cxOf CX P w K mg base N qual (defScope st) f cdv A ou s H E) (defBody st) t ∧ t { nx := fun _ H' => Q .non H', rt := Q } (L2.start N vs) H) : FnG P w K mg base CX (k + 1) f fd ps sp := by
  obtain ⟨⟨oc, od, kV, doc, pm, an, cdv, ct, osl, rfl, lk, hcd⟩, _⟩ := F
  refine ⟨ln, fun A ou s H ar us vs Q E hg hr e0 hb rv hs => ?_⟩
  have old : ∀ b o, base.get? b = some o → s.heap.get? b = some o := fun b o e => (e0.bs b o e).1
  have inK : K.In s.heap := e0.mod.kin.keeps old
  refine codeAny_call_function hr.depth (inK _ _ lk) rfl S.co S.gen rfl (PySem.W.codeRec_of inK hcd) (hb _ _ _ _ ?_)
  refine wpAny_newFunctionEnv_cells S.kind (fun y hy => ?_) fun env he s1 x => ?_
  · obtain ⟨n, v⟩ := y
    have hn := S.par n (List.of_mem_zip hy).1
    exact hn.elim .inl fun q => .inr ⟨q, PySem.W.cellsFrom_some _ _ _ (.inl q)⟩
  subst he
  obtain ⟨t, ht, hq⟩ := body cdv A ou s H vs Q E hg (hr.deeper _) hs
  have I : Inv (cxOf CX P w K mg base N qual (defScope st) f cdv A ou s H E) [] (L2.start N vs) H s1 := inv_start S hr.hd e0 (ln _ _ _ _ hs) rv x
  refine ⟨(e0.mod.nolimit.keeps old).keeps x.toInCall.keep, codeAny_func (wpAny_mono (ht.run [] s1 (L2.start N vs) H _ I hq) (fun fl s' h => ?_) fun e s' h => h)⟩
  cases fl with
  | ret u =>
    obtain ⟨v, σ, H', J, r, q⟩ := h
    exact ⟨v, H', J.os, J.bare, J.base, J.hok, r, q⟩
  | next =>
    obtain ⟨σ, H', J, q⟩ := h
    exact ⟨.non, H', J.os, J.bare, J.base, J.hok, rfl, q⟩
  | brk =>
    obtain ⟨_, _, _, q⟩ := h
    exact q.elim
  | cont =>
    obtain ⟨_, _, _, q⟩ := h
    exact q.elim
/-- the state in which the law is called -/
structure At0 (K : PySem.W.Frag) (mg mb : Str → Option Value) (s : Shared) (cs : List (Addr × Addr)) (a : Addr) (vs : List Value) (ns : List Int) : Prop where
  kin : K.In s.heap
  top : s.heap.Ns mainGlobals mg
  blt : s.heap.Ns builtinsNs mb
  boot : ∀ x : Str, x ≠ "__name__" → mb x = bootBuiltins x
  lim : s.heap.NoLimit
  calm : s.gens = #[]
  tab : ∀ p ∈ cs, s.heap.get? p.2 = some { cls := .none, data := .fields #[] }
  free : ∀ p ∈ cs, K.lookup p.2 = none
  code : ∀ p ∈ cs, PySem.W.CodeHd s.heap p.1 p.2
  bm : ∃ (bm : Addr) (ob : Obj), mg "__builtins__" = some (.ref bm) ∧ bm ≠ builtinsNs ∧ s.heap.get? bm = some ob ∧ ob.cls = .type "module" ∧ ob.dict = some builtinsNs ∧ ob.data = .plain
  lst : s.heap.get? a = some { cls := .type "list", data := .seq vs.toArray }
  nums : IntsAre vs ns
  few : ns.length ≤ sizeLine
def tabs (cs : List (Addr × Addr)) : List Addr := cs.map (·.2)
def hp0 (K : PySem.W.Frag) (cs : List (Addr × Addr)) (a : Addr) (vs : List Value) (ns : List Int) : Hp := fun b =>
  if b ∈ tabs cs then some (.tbl #[]) else if b = a ∧ K.lookup a = none then some (.frz { cls := .type "list", data := .seq vs.toArray } (.lst (ns.map V.int))) else none
section
variable {mb : Str → Option Value} {s : Shared} {cs : List (Addr × Addr)} {a : Addr} {vs : List Value} {ns : List Int}
theorem At0.isTab (h : At0 K mg mb s cs a vs ns) {b : Addr} (hb : b ∈ tabs cs) : s.heap.get? b = some { cls := .none, data := .fields #[] } := by
  obtain ⟨p, hp, rfl⟩ := List.mem_map.mp hb
  exact h.tab p hp
theorem At0.apart (h : At0 K mg mb s cs a vs ns) : a ∉ tabs cs := fun z => by
  have := h.isTab z
  rw [h.lst] at this
  have e : Data.seq vs.toArray = Data.fields #[] := congrArg Obj.data (Option.some.inj this)
  cases e
theorem hp0_tab {b : Addr} (hb : b ∈ tabs cs) : hp0 K cs a vs ns b = some (.tbl #[]) := if_pos hb
theorem At0.hp0_a (h : At0 K mg mb s cs a vs ns) (hk : K.lookup a = none) : hp0 K cs a vs ns a = some (.frz { cls := .type "list", data := .seq vs.toArray } (.lst (ns.map V.int))) := by
  unfold hp0
  rw [if_neg h.apart, if_pos ⟨rfl, hk⟩]
theorem hp0_or {b : Addr} {u : HO} (e : hp0 K cs a vs ns b = some u) : (b ∈ tabs cs ∧ u = .tbl #[]) ∨ (b = a ∧ K.lookup a = none ∧ u = .frz { cls := .type "list", data := .seq vs.toArray } (.lst (ns.map V.int))) := by
  unfold hp0 at e
  split at e
  · rename_i hb
    exact .inl ⟨hb, (Option.some.inj e).symm⟩
  · split at e
    · rename_i hb
      exact .inr ⟨hb.1, hb.2, (Option.some.inj e).symm⟩
    · cases e
theorem At0.known (h : At0 K mg mb s cs a vs ns) {b : Addr} {o : Obj} (e : K.lookup b = some o) : hp0 K cs a vs ns b = none := by
  cases q : hp0 K cs a vs ns b with
  | none => rfl
  | some u =>
    rcases hp0_or q with ⟨hb, _⟩ | ⟨rfl, hk, _⟩
    · obtain ⟨p, hp, rfl⟩ := List.mem_map.mp hb
      rw [h.free p hp] at e
      cases e
    · rw [hk] at e
      cases e
/-- what is no list of items and no empty record is not tracked -/
theorem At0.else (h : At0 K mg mb s cs a vs ns) {b : Addr} {o : Obj} (e : s.heap.get? b = some o) (h1 : ∀ x n, o.data ≠ .seq x n) (h2 : o.data ≠ .fields #[]) : hp0 K cs a vs ns b = none := by
  cases q : hp0 K cs a vs ns b with
  | none => rfl
  | some u =>
    rcases hp0_or q with ⟨hb, _⟩ | ⟨rfl, _, _⟩
    · rw [h.isTab hb] at e
      cases e
      exact (h2 rfl).elim
    · rw [h.lst] at e
      cases e
      exact (h1 _ _ rfl).elim
theorem At0.hok (h : At0 K mg mb s cs a vs ns) : HOk P w (hp0 K cs a vs ns) s.heap := fun b u z => by
  rcases hp0_or z with ⟨hb, rfl⟩ | ⟨rfl, _, rfl⟩
  · exact h.isTab hb
  · exact ⟨h.lst, by rw [List.length_map]; exact h.few, vs, _, vals_ints h.nums, h.lst⟩
theorem At0.script (h : At0 K mg mb s cs a vs ns) : SqL K (hp0 K cs a vs ns) a (ns.map V.int) := by
  cases hk : K.lookup a with
  | none => exact .inl (.inr ⟨_, h.hp0_a hk⟩)
  | some o =>
    have e := h.kin a o hk
    rw [h.lst] at e
    cases e
    exact .inr ⟨_, vs.toArray, _, hk, rfl, rfl, rfl, by rw [List.size_toArray, h.nums.length]; exact h.few, by simpa using vals_ints h.nums⟩
theorem At0.lo (h : At0 K mg mb s cs a vs ns) {b : Addr} {o : Obj} (e : s.heap.get? b = some o) (h1 : ∀ x n, o.data ≠ .seq x n) (h2 : o.data ≠ .fields #[]) : (hidT s.heap (hp0 K cs a vs ns)).get? b = some o := hidT_get e (h.else e h1 h2)
theorem At0.nsp (h : At0 K mg mb s cs a vs ns) {b : Addr} {m : Str → Option Value} (n : s.heap.Ns b m) : (hidT s.heap (hp0 K cs a vs ns)).Ns b m := by
  obtain ⟨o, es, ep, e, d, r⟩ := n
  exact ⟨o, es, ep, h.lo e (fun x n z => by rw [d] at z; cases z) (fun z => by rw [d] at z; cases z), d, r⟩
theorem At0.kb (h : At0 K mg mb s cs a vs ns) : K.In (hidT s.heap (hp0 K cs a vs ns)) := fun b o e => hidT_get (h.kin b o e) (h.known e)
theorem At0.mod (h : At0 K mg mb s cs a vs ns) : L2.Mod K mg (hidT s.heap (hp0 K cs a vs ns)) := by
  obtain ⟨mc, h1, h2⟩ := h.lim
  exact ⟨h.kb, h.nsp h.top, ⟨mb, h.nsp h.blt, h.boot⟩, ⟨mc, h.nsp h1, h2⟩⟩
theorem At0.tabB (h : At0 K mg mb s cs a vs ns) : ∀ p ∈ cs, LamX.TabB (hidT s.heap (hp0 K cs a vs ns)) mg p.1 p.2 := fun p hp => by
  have hT := h.tab p hp
  have noDict : ∀ {m : Str → Option Value} {q : Addr}, s.heap.Ns q m → q ≠ p.2 := fun {m q} ⟨o, es, ep, e, d, _⟩ z => by
    rw [z, hT] at e
    cases e
    cases d
  refine ⟨?_, ?_, noDict h.top⟩
  · obtain ⟨o, us, fl, tf, fg, tg, nf, tx, tt, e1, r1, r2, r3, r4, r5, r6, r7, r8, r9⟩ := h.code p hp
    exact ⟨o, us, fl, tf, fg, tg, nf, tx, tt, h.lo e1 (fun x n z => by rw [r2] at z; cases z) (fun z => by rw [r2] at z; cases z; simp at r3), r1, r2, r3, r4, r5, r6, r7, r8, r9⟩
  · obtain ⟨m, ob, b1, b2, b3, b4, b5, b6⟩ := h.bm
    refine ⟨m, ob, b1, b2, fun z => ?_, fun z => ?_, h.lo b3 (fun x n z => by rw [b6] at z; cases z) (fun z => by rw [b6] at z; cases z), b4, b5, b6⟩
    · obtain ⟨o, es, ep, e, d, _⟩ := h.top
      rw [← z, b3] at e
      cases e
      rw [b6] at d
      cases d
    · rw [z, hT] at b3
      cases b3
      cases b6
/-- the law's call, where no repr is under way -/
theorem At0.call (h : At0 K mg mb s cs a vs ns) {CX : CXT} {k : Nat} {fa : Addr} {fd : FuncData} {x : Str} {sp : Sp} (hr : Room k callerA)
    (F : ∀ base : Heap, K.In base → base.Ns mainGlobals mg → (∀ p ∈ cs, LamX.TabB base mg p.1 p.2) → FnG P w K mg base CX k fa fd [x] sp) (hb : ∀ (s : Shared) (u : Value), BindsTo s fd ⟨[u], []⟩ [(x, u)])
    (hsp : ∀ H : Hp, (∀ p ∈ cs, H p.2 = some (.tbl #[])) → SqL K H a (ns.map V.int) → sp [.ref a] H (fun v _ => v = .bl true) fun _ _ _ => False)
    (hCX : ∀ H e s', CX [] H s (fun _ _ _ => False) e s' → False) :
    codeAny (model P w) callerA (.call (.ref fa) ⟨[.ref a], []⟩) (fun r s' => r = .ok (.ret (.bool true)) ∧ OldK s.heap s'.heap ∧ s'.os = s.os ∧ AllBare s'.gens) s := by
  have e0 : Env0 P w K mg (hidT s.heap (hp0 K cs a vs ns)) callerA [] s (hp0 K cs a vs ns) :=
    ⟨rfl, h.mod, fun b o e => of_hidT e, Nat.le_of_eq (hidT_size _ _), trivial, fun b z => absurd (show b ∈ ([] : List Addr) from z) (by simp), h.hok, .of_eq h.calm⟩
  have run := (F _ h.kb (h.nsp h.top) h.tabB).go callerA [] s _ ⟨[.ref a], []⟩ [.ref a] [.ref a] _ _ rfl hr e0 (hb s (.ref a)) (.cons rfl .nil) (hsp _ (fun p hp => hp0_tab (List.mem_map.mpr ⟨p, hp, rfl⟩)) h.script)
  refine codeAny_mono run fun r s' q => ?_
  match r, q with
  | .error e, q => exact (hCX _ e s' q).elim
  | .ok .next, q => exact False.elim q
  | .ok .brk, q => exact False.elim q
  | .ok .cont, q => exact False.elim q
  | .ok (.ret u), q =>
    obtain ⟨v, H', os, bare, un, hok', rv, hv⟩ := q
    have hv : v = .bl true := hv
    subst hv
    obtain rfl : u = Value.bool true := rv
    have keep : ∀ b o, b ∉ tabs cs → s.heap.get? b = some o → s'.heap.get? b = some o := fun b o nb e => by
      cases z : hp0 K cs a vs ns b with
      | none => exact un.keep b o e z (fun y => absurd (show b ∈ ([] : List Addr) from y) (by simp)) (by simp)
      | some u =>
        rcases hp0_or z with ⟨hb, _⟩ | ⟨rfl, _, rfl⟩
        · exact (nb hb).elim
        · obtain ⟨e2, _⟩ := hok' b _ (un.frzs b _ _ z)
          rw [h.lst] at e
          cases e
          exact e2
    have grown : ∀ b ∈ tabs cs, ∃ more : Array Value, s'.heap.get? b = some { cls := .none, data := .fields more } := fun b hb => by
      obtain ⟨more, z⟩ := un.tbls b #[] (hp0_tab hb)
      exact ⟨_, hok' b _ z⟩
    refine ⟨rfl, ⟨fun b o e => ?_, fun b o e => ?_⟩, os, bare⟩
    · by_cases hb : b ∈ tabs cs
      · obtain ⟨more, hm⟩ := grown b hb
        obtain ⟨p, hp, rfl⟩ := List.mem_map.mp hb
        rw [h.tab p hp] at e
        cases e
        exact .inr (.inl ⟨((h.code p hp).tab (h.tab p hp)).isCodeTable, rfl, #[], more, rfl, by rw [Array.empty_append]; exact hm⟩)
      · exact .inl (keep b o hb e)
    · by_cases hb : b ∈ tabs cs
      · obtain ⟨more, hm⟩ := grown b hb
        exact ⟨_, hm⟩
      · exact ⟨o, keep b o hb e⟩
end
/-- what is known of the law's promise -/
def LawG (l : PySem.W.OpenLaw) (w : World) (K : PySem.W.Frag) (CX : CXT) (k n : Nat) (x : Str) (mg : Str → Option Value) (fa : Addr) (h : Heap) : Prop :=
  ∃ (fd : FuncData) (cs : List (Addr × Addr)) (sp : Sp), (∀ p ∈ cs, h.get? p.2 = some { cls := .none, data := .fields #[] }) ∧ (∀ p ∈ cs, K.lookup p.2 = none) ∧ (∀ p ∈ cs, PySem.W.CodeHd h p.1 p.2) ∧ (∀ (s : Shared) (u : Value), BindsTo s fd ⟨[u], []⟩ [(x, u)]) ∧
    (∀ (H : Hp) (a : Addr) (ns : List Int), ns.length ≤ n → (∀ z ∈ ns, Builtin.Int.intBits z ≤ 1048576) → (∀ p ∈ cs, H p.2 = some (.tbl #[])) → SqL K H a (ns.map V.int) → sp [.ref a] H (fun v _ => v = .bl true) fun _ _ _ => False) ∧
    ∀ base : Heap, K.In base → base.Ns mainGlobals mg → (∀ p ∈ cs, LamX.TabB base mg p.1 p.2) → FnG l.prog w K mg base CX k fa fd [x] sp
theorem walk_ofG {l : PySem.W.OpenLaw} {n k : Nat} {q : Program} {loose : List Str} {XP : (Str → Option Value) → Heap → Prop} {YP : World → Heap → Prop} {d : DefRec} {K : Params → PySem.W.Frag} {CX : World → CXT} {x : Str}
    (hn : l.most = some n) (hn2 : n ≤ sizeLine) (hdf : d.params.defaults = []) (hr : Room k callerA) (hY : ∀ (w : World) (h : Heap), YP w h → (K w.params).In h)
    (F : ∀ (w : World) (mg : Str → Option Value) (fa : Addr) (h : Heap), (K w.params).In h → h.Ns mainGlobals mg → mg d.name = some (.ref fa) → AllTabs q (K w.params) mg h → LawG l w (K w.params) (CX w) k n x mg fa h)
    (hCX : ∀ (w : World) (H : Hp) (s : Shared) (e : Value) (s' : Shared), CX w [] H s (fun _ _ _ => False) e s' → False) :
    PySem.W.WalkO q loose XP YP l.row.toRowW d [] (fun f vs => PySem.call f vs) := by
  refine Att.attach_callB hn hdf fun w s₀ s₁ mg mb fa o pm cd doc a vs ns G Y ho hd hcd hmg hobj hints hlen hbits hg => ?_
  have inK := hY w _ Y
  have all : AllTabs q (K w.params) mg s₁.heap := fun x f c T o1 fd1 e dd vs1 sl hrec hx k1 k2 k3 k4 k5 => by
    obtain ⟨dL, hm, hn1⟩ := List.any_eq_true.mp hrec
    obtain ⟨a', o', fd', c', T', h1, h2, h3, h4, h5, ⟨oc, vc, e1, _, e3, e4⟩, hT⟩ := G.T.tab dL hm
    rw [beq_iff_eq.mp hn1, hx] at h1
    cases h1
    rw [inK _ _ k1] at h2
    cases h2
    rw [k2] at h3
    cases h3
    rw [k3] at h4
    cases h4
    rw [inK _ _ k4] at e1
    cases e1
    cases e3
    rw [k5] at e4
    cases e4
    exact hT
  obtain ⟨fd, cs, sp, hT, nT, C, hb, hsp, hF⟩ := F w mg fa _ inK G.T.g hmg all
  have at0 : At0 (K w.params) mg mb s₁ cs a vs ns := ⟨inK, G.T.g, G.T.b, G.T.builtins, G.T.nolimit, hg, hT, nT, C, G.T.bmain, hobj, hints, Nat.le_trans hlen hn2⟩
  exact at0.call hr hF hb (fun H hH hS => hsp H a ns hlen hbits hH hS) fun H e s' => hCX w H s₁ e s'
/-! ### a def of the data layer -/
theorem fnXG {α : Type} {x qual : Str} {st : Stmt} {f : Addr} {fd : FuncData} {N ps : List Str} {k : Nat} {ts : List Addr} {Wf : α → Prop} {enc : α → List PyData} {res : α → PyData → Prop} (F : Fun K x qual st f fd) (S0 : FnScope N ps (defScope st)) (hl : ∀ x, Wf x → (enc x).length = ps.length)
    (hbody : ∀ (cdv : Value) (A : Around) (ou : List Env) (s : Shared) (H : Hp) (E : XK), A.guards = some [] → Room k (A.deeper (envOfC qual (defScope st) s.heap.objs.size f cdv)) →
      ∃ t, PSs (cxOf CX0 P w K mg base N qual (defScope st) f cdv A ou s H E).nox (defBody st) t ∧ ∀ x, Wf x → Dl.S K ⟨none, ts⟩ H t (st0 N (enc x)) { nx := fun _ => res x .none, rt := res x }) : FnG P w K mg base CX0 (k + 1) f fd ps (SpX K ts Wf enc res) := by
  refine fnG_of F S0 (fun vs H Q E h => ?_) (fun cdv A ou s H vs Q E hg hr h => ?_)
  · obtain ⟨x, G, _, h1, h2, _⟩ := h
    rw [dpa_len h1]
    exact hl x h2
  · obtain ⟨x, G, v, h1, h2, q⟩ := h
    obtain ⟨t, ht, hS⟩ := hbody cdv A ou s H E hg hr
    have n : ∀ {G' H' : Hp}, Gx ⟨none, ts⟩ H G H G' H' → Vw ⟨none, ts⟩ G' H' → Go ⟨none, ts⟩ G H G' H' := fun x vw => ⟨x.gg, x.nw, fun a o hp e => x.od a o hp (by rw [e]; exact fun z => by cases z) e, vw⟩
    exact ⟨t, ht.nox, hS x h2 (L2.start N vs) G H _ (ev_start h1 v) (fun σ' G' H' L' x e' p => q .non .none G' H' (n x e'.vw) .non p) (fun v d G' H' x vw hd p => q v d G' H' (n x vw) hd p) (fun _ _ _ _ _ _ z => z.elim) (fun _ _ _ _ _ _ z => z.elim) (fun _ _ _ _ _ _ _ z => z.elim) (fun _ _ _ _ _ _ _ _ _ _ _ z => z.elim)⟩
end
end Rg

set_option Elab.async false
set_option linter.all false
set_option maxRecDepth 100000
set_option maxHeartbeats 2000000
namespace Rg
open PySem PySem.Spec PyProof.Rows L2 Dl
/-! ### repr -/
def rRepr (K : PySem.W.Frag) : List V → Hp → VK → Prop := fun vs H Q => ∃ v d, vs = [v] ∧ Dp K H v d ∧ d.showable = true ∧ d.hasDict = false ∧ d.depth ≤ 60 ∧ d.shown.length ≤ sizeLine ∧ Q (.str d.shown) H
theorem kx_repr {X : Cx} {K : PySem.W.Frag} (h : X.K = K) (hg : X.A.guards = some []) (hu : X.A.units + 64 < cLine) : CallR X (.builtin "repr") (rRepr K) := by
  subst h
  intro pins s σ H xs us Q I rv hq
  obtain ⟨v, d, rfl, hd, hs, hn, hp, hz, q⟩ := hq
  obtain ⟨u, rfl, r1⟩ := vals1 rv
  obtain ⟨as, r⟩ := Dp.reads I d v u hd r1
  have fin : ∀ (h' : Heap) (tk : Nat) (t : Tok), (∀ b o, s.heap.get? b = some o → h'.get? b = some o) → EP X pins σ Q (.str d.shown t) { s with heap := h', toks := tk } := fun h' tk t hk => ⟨.str d.shown, H, I.kept hk, ⟨t, rfl⟩, q⟩
  cases r with
  | none => exact PySem.P.repr_of_none (fin s.heap _ _ fun _ _ e => e)
  | bool b => exact PySem.P.repr_of_bool (by simpa only [PyData.shown] using fin s.heap _ _ fun _ _ e => e)
  | int i t => exact PySem.P.repr_of_int (by simpa [PyData.showable] using hs) (by simpa only [PyData.shown] using fin s.heap _ _ fun _ _ e => e)
  | str x t => exact PySem.P.repr_of_str (by simpa only [PyData.shown] using fin s.heap _ _ fun _ _ e => e) (by simpa only [PyData.shown] using hz)
  | list h1 h2 h3 h4 => exact repr_of_reads' (.list h1 h2 h3 h4) hs (PyData.noDict_hsm hn) hg (by omega) (fun _ _ e => e) (fun h' u tk hk => fin h' tk u hk) hz
  | tuple h1 h2 h3 h4 => exact repr_of_reads' (.tuple h1 h2 h3 h4) hs (PyData.noDict_hsm hn) hg (by omega) (fun _ _ e => e) (fun h' u tk hk => fin h' tk u hk) hz
  | dict _ _ _ _ _ => simp only [PyData.hasDict] at hn; cases hn
/-! ### small data -/
structure Gd (k n : Nat) (d : PyData) : Prop where
  lay : d.canLay0 = true ∧ d.depth ≤ k
  shw : d.showable = true
  leaf : d.leavesShort 70 = true
  wt : d.weight ≤ n
theorem Gd.mono {k n k' n' : Nat} {d : PyData} (h : Gd k n d) (hk : k ≤ k') (hn : n ≤ n') : Gd k' n' d := ⟨⟨h.lay.1, Nat.le_trans h.lay.2 hk⟩, h.shw, h.leaf, Nat.le_trans h.wt hn⟩
theorem gd_none {k n : Nat} : Gd k n .none := ⟨⟨rfl, Nat.zero_le _⟩, rfl, rfl, Nat.zero_le _⟩
theorem gd_bool {k n : Nat} (b : Bool) : Gd k n (.bool b) := ⟨⟨rfl, Nat.zero_le _⟩, rfl, rfl, Nat.zero_le _⟩
theorem gd_int {k n m : Nat} {i : Int} (h : i.natAbs < 2 ^ m) (hm : m ≤ 190) (hn : m ≤ n) : Gd k n (.int i) := by
  have h2 : (2 : Nat) ^ 190 < 10 ^ 60 := by decide
  have h3 : i.natAbs < 10 ^ 60 := Nat.lt_trans (Nat.lt_of_lt_of_le h (Nat.pow_le_pow_right (by decide) hm)) h2
  have hl : i.natAbs ≠ 0 → i.natAbs.log2 < m := fun z => (Nat.log2_lt z).mpr h
  refine ⟨⟨rfl, Nat.zero_le _⟩, ?_, ?_, ?_⟩
  · simp only [PyData.showable, decide_eq_true_eq]
    by_cases z : i.natAbs = 0
    · rw [z]; decide
    · have := hl z
      omega
  · simp only [PyData.leavesShort, decide_eq_true_eq]
    have := int_text_length_le10 (a := i) (k := 60) (by decide) h3
    have e : (PyData.shown (.int i)).length = (toString i).length := by
      simp only [PyData.shown]
      exact PySem.ofString_length _
    omega
  · simp only [PyData.weight]
    split
    · exact Nat.zero_le _
    · rename_i z
      have := hl (fun e => z (by rw [Int.natAbs_eq_zero] at e; rw [e]; rfl))
      omega
theorem gd_str {k n : Nat} {x : Str} (h : PyData.strOk x = true) (hn : x.cps.size ≤ n) (hl : (x.cps.toList.all fun c => decide (c < 16 ^ 8)) = true) : Gd k n (.str x) := ⟨⟨h, Nat.zero_le _⟩, rfl, hl, hn⟩
theorem gds {k m : Nat} : ∀ {ds : List PyData}, (∀ d ∈ ds, Gd k m d) → PyData.canLayAll0 ds = true ∧ PyData.depthAll ds ≤ k ∧ PyData.showableAll ds = true ∧ PyData.leavesShortAll 70 ds = true ∧ PyData.weightAll ds ≤ ds.length * (m + 1)
  | [], _ => ⟨rfl, Nat.zero_le _, rfl, rfl, Nat.zero_le _⟩
  | d :: ds, h => by
    obtain ⟨h1, h2, h3, h4, h5⟩ := gds (ds := ds) fun x hx => h x (List.mem_cons_of_mem _ hx)
    have g := h d (List.mem_cons_self ..)
    have g2 := g.lay.2
    have g4 := g.wt
    refine ⟨?_, ?_, ?_, ?_, ?_⟩
    · simp only [PyData.canLayAll0, Bool.and_eq_true]; exact ⟨g.lay.1, h1⟩
    · simp only [PyData.depthAll]; omega
    · simp only [PyData.showableAll, Bool.and_eq_true]; exact ⟨g.shw, h3⟩
    · simp only [PyData.leavesShortAll, Bool.and_eq_true]; exact ⟨g.leaf, h4⟩
    · simp only [PyData.weightAll, List.length_cons]
      have : (ds.length + 1) * (m + 1) = ds.length * (m + 1) + (m + 1) := Nat.succ_mul _ _
      omega
theorem gd_tup {k m c : Nat} {ds : List PyData} (h : ∀ d ∈ ds, Gd k m d) (hc : ds.length ≤ c) : Gd (k + 1) (c * (m + 1)) (.tuple ds) := by
  obtain ⟨h1, h2, h3, h4, h5⟩ := gds h
  refine ⟨⟨?_, ?_⟩, ?_, ?_, ?_⟩
  · simpa only [PyData.canLay0] using h1
  · simp only [PyData.depth]; omega
  · simpa only [PyData.showable] using h3
  · simpa only [PyData.leavesShort] using h4
  · simp only [PyData.weight]; exact Nat.le_trans h5 (Nat.mul_le_mul_right _ hc)
theorem gd_lst {k m c : Nat} {ds : List PyData} (h : ∀ d ∈ ds, Gd k m d) (hc : ds.length ≤ c) : Gd (k + 1) (c * (m + 1)) (.list ds) := by
  obtain ⟨h1, h2, h3, h4, h5⟩ := gds h
  refine ⟨⟨?_, ?_⟩, ?_, ?_, ?_⟩
  · simpa only [PyData.canLay0] using h1
  · simp only [PyData.depth]; omega
  · simpa only [PyData.showable] using h3
  · simpa only [PyData.leavesShort] using h4
  · simp only [PyData.weight]; exact Nat.le_trans h5 (Nat.mul_le_mul_right _ hc)
/-- what stands within -/
theorem gds_of {k n : Nat} : ∀ {ds : List PyData}, PyData.canLayAll0 ds = true → PyData.depthAll ds ≤ k → PyData.showableAll ds = true → PyData.leavesShortAll 70 ds = true → PyData.weightAll ds ≤ n → (∀ d ∈ ds, Gd k n d) ∧ ds.length ≤ n
  | [], _, _, _, _, _ => ⟨fun _ h => (nomatch h), Nat.zero_le _⟩
  | d :: ds, h1, h2, h3, h4, h5 => by
    simp only [PyData.canLayAll0, Bool.and_eq_true] at h1
    simp only [PyData.depthAll] at h2
    simp only [PyData.showableAll, Bool.and_eq_true] at h3
    simp only [PyData.leavesShortAll, Bool.and_eq_true] at h4
    simp only [PyData.weightAll] at h5
    obtain ⟨g1, g2⟩ := gds_of (k := k) (n := PyData.weightAll ds) h1.2 (by omega) h3.2 h4.2 (Nat.le_refl _)
    refine ⟨fun x hx => ?_, by rw [List.length_cons]; omega⟩
    rcases List.mem_cons.mp hx with rfl | hx
    · exact ⟨⟨h1.1, by omega⟩, h3.1, h4.1, by omega⟩
    · exact (g1 x hx).mono (Nat.le_refl _) (by omega)
theorem Gd.tup {k n : Nat} {ds : List PyData} (h : Gd k n (.tuple ds)) : (∀ d ∈ ds, Gd k n d) ∧ ds.length ≤ n := by
  obtain ⟨⟨h1, h2⟩, h3, h4, h5⟩ := h
  simp only [PyData.depth] at h2
  exact gds_of (by simpa only [PyData.canLay0] using h1) (by omega) (by simpa only [PyData.showable] using h3) (by simpa only [PyData.leavesShort] using h4) (by simpa only [PyData.weight] using h5)
theorem Gd.lst {k n : Nat} {ds : List PyData} (h : Gd k n (.list ds)) : (∀ d ∈ ds, Gd k n d) ∧ ds.length ≤ n := by
  obtain ⟨⟨h1, h2⟩, h3, h4, h5⟩ := h
  simp only [PyData.depth] at h2
  exact gds_of (by simpa only [PyData.canLay0] using h1) (by omega) (by simpa only [PyData.showable] using h3) (by simpa only [PyData.leavesShort] using h4) (by simpa only [PyData.weight] using h5)
theorem Gd.noDict {k n : Nat} {d : PyData} (h : Gd k n d) : d.hasDict = false := PyData.hasDict_of_canLay d h.lay.1
theorem Gd.shaped {k n : Nat} {d : PyData} (h : Gd k n d) (hk : k ≤ 60) : SeqAt.shaped d = true := by
  have := h.lay.2
  exact Bool.and_eq_true_iff.mpr ⟨h.lay.1, decide_eq_true (by omega)⟩
theorem Gd.fits {k n : Nat} {d : PyData} (h : Gd k n d) (hn : n ≤ 200000) : d.shown.length ≤ sizeLine := by
  have h1 := PyData.shown_le 70 (by decide) d h.leaf
  have h2 := h.wt
  have h3 : (70 + 2) * d.weight ≤ 72 * 200000 := Nat.mul_le_mul (by omega) (by omega)
  rw [sizeLine_eq]
  omega
section
variable {K : PySem.W.Frag} {pen : Pc} {P : PyData → Prop}
theorem c_repr {k n : Nat} {d : PyData} (h : Gd k n d) (hk : k ≤ 60) (hn : n ≤ 200000) (p : P (.str d.shown)) : RCd K pen (rRepr K) [d] P := fun vs G H v hv Q q => by
  cases hv with
  | cons h1 h2 =>
    cases h2
    exact ⟨_, d, rfl, dp_mono v.vw d _ h1, h.shw, h.noDict, Nat.le_trans h.lay.2 hk, h.fits hn, q _ _ G H (.refl v) (.str _) p⟩
end
end Rg

set_option Elab.async false
set_option linter.all false
set_option maxRecDepth 100000
set_option maxHeartbeats 2000000
/-! any(e for x in ..) where e tells lists: by their truth -/
namespace Gx
open PySem PySem.Spec PyProof.Rows L2 GenW GxR
/-- the truth of what is told: a truth, or a list -/
def TruL (K : PySem.W.Frag) (y : V) (H : Hp) (b : Bool) : Prop := y = .bl b ∨ ∃ p xs, y = .ref p ∧ SqL K H p xs ∧ b = !xs.isEmpty
def YdT (K : PySem.W.Frag) (go : Bool) (Qf : Hp → Prop) : V → Hp → (Hp → Prop) → Prop := fun y H Nx => ∃ b, TruL K y H b ∧ (if b = go then Nx H else Qf H)
abbrev YT (Y : Cx) (go : Bool) (Qf : Hp → Prop) : Protocol := fun n s₀ v s kap => ∃ y b H σ2, RelV y v ∧ TruL Y.K y H b ∧ Inv Y [] σ2 H s ∧ (b ≠ go → Qf H) ∧ (b = go → ∀ s', Woke s s' → kap (.send .none) s')
section
variable {X : Cx} {A' B : Around} {s4 : Shared} {H4 : Hp} {cenv : Env} {fp : List Addr} {pn : List (Addr × Obj)} {it : Addr} {tn : Nat → Heap → Prop} {J : It} {elt tg iter : Expr} {ifs : List Expr} {scope : Scope} {pos : Pos} {g : TG} {tt : TT} {te : TE} {vs : List Nat} {σ0 : L2.St} {W : Nat → Nat → Hp → Prop} {Qt Qf : Hp → Prop} {go : Bool}
theorem seg_gt (hA : B.over (.compLoop (.GeneratorExp elt [⟨tg, iter, ifs, 0⟩] scope pos) 0 (.ref it) .none cenv) [] = A') (hc : X.calm = true) (hco : cenv.scope.isCoroutine = false) (T : Turn X.prog X.w X.K tg J fp it tn)
    (hst : ∀ H : Hp, (∀ b ∈ fp, H b = none) → ∀ b ∈ fp, FpOk (gcx X A' s4 H4 cenv fp pn) [] H b) (hσ : wipe σ0 vs = σ0)
    (hg : PG (gcx X A' s4 H4 cenv fp pn) tg g) (ht : PTs (gcx X A' s4 H4 cenv fp pn) ifs tt) (he : PE (gcx X A' s4 H4 cenv fp pn) elt te) (hturn : Turns J g tt te vs σ0 W Qt (YdT X.K go Qf)) :
    ∀ (m n i : Nat) (H : Hp) (s₀ s : Shared), m + 1 ≤ n → Inv (gcx X A' s4 H4 cenv fp pn) [] σ0 H s → tn i s.heap → (∀ b ∈ fp, H b = none) → W i m H →
      Seg (model X.prog X.w) B (RG (gcx X A' s4 H4 cenv fp pn) σ0 Qt) (YT (gcx X A' s4 H4 cenv fp pn) go Qf) n s₀ (.compLoop (.GeneratorExp elt [⟨tg, iter, ifs, 0⟩] scope pos) 0 (.ref it) .none cenv)
        ((model X.prog X.w).den (.compLoop (.GeneratorExp elt [⟨tg, iter, ifs, 0⟩] scope pos) 0 (.ref it) .none cenv)) [] s := by
  intro m
  induction m using Nat.strongRecOn with
  | _ m ih =>
  intro n i H s₀ s hmn I st fr w
  show Seg _ B _ _ _ s₀ _ ((compTurn (.GeneratorExp elt [⟨tg, iter, ifs, 0⟩] scope pos) 0 (.ref it) .none cenv).onRaise (leaving cenv)) [] s
  rw [compTurn_gen, Sem.onRaise_eq_wrap]
  refine seg_bind_wrap (wpAny_standAt ?_)
  rcases hturn i m H w with ⟨stop, qn⟩ | ⟨goes, Nx, hN, step⟩
  · refine seg_bind_wrap ?_
    rw [hA]
    refine wpAny_mono (T.done (gcx X A' s4 H4 cenv fp pn) rfl rfl rfl hc i [] s σ0 H _ I (hst H fr) st stop) (fun r s1 hr => ?_) fun _ _ e => e
    obtain ⟨rfl, I1⟩ := hr
    exact seg_end (.ok .next) (.inl ⟨.inr rfl, H, I1, qn⟩)
  · refine seg_bind_wrap ?_
    rw [hA]
    refine wpAny_mono (T.item (gcx X A' s4 H4 cenv fp pn) rfl rfl rfl hc i [] s σ0 H _ I (hst H fr) st goes) (fun r s1 hr => ?_) fun _ _ e => e
    obtain ⟨u, rfl, h1⟩ := hr
    refine seg_bind_wrap ?_
    rw [hA]
    refine wpAny_mono h1 (fun _ s2 h2 => ?_) fun _ _ e => e
    obtain ⟨x, H2, I2, rx, yl, st2, fr2⟩ := h2
    have I2' := I2.pinned (hst H2 fr2) (T.obj _ _ st2)
    refine seg_bind_wrap ?_
    rw [hA]
    refine wpAny_mono (hg.run _ s2 σ0 H2 x u _ I2' rx (step x H2 yl)) (fun _ s3 h3 => ?_) fun _ _ e => e.elim
    obtain ⟨σ3, H3, I3, hw3, q3⟩ := h3
    -- the records of the iterator stand
    have keeps : ∀ {σ' : L2.St} {H' : Hp} {s' : Shared}, Inv (gcx X A' s4 H4 cenv fp pn) ([] ++ pinsAt fp s2.heap) σ' H' s' → tn (i + 1) s'.heap ∧ ∀ b ∈ fp, H' b = none := fun {σ' H' s'} I' =>
      ⟨T.keep _ _ _ st2 fun b hb o e => (I'.pin (b, o) (List.mem_append_right _ (List.mem_append_right _ (mem_pinsAt hb e)))).1, fun b hb => by
        obtain ⟨o, e, _⟩ := T.obj _ _ st2 b hb
        exact (I'.pin (b, o) (List.mem_append_right _ (List.mem_append_right _ (mem_pinsAt hb e)))).2.1⟩
    have back : ∀ {H' : Hp} {s' : Shared}, Inv (gcx X A' s4 H4 cenv fp pn) ([] ++ pinsAt fp s2.heap) σ3 H' s' → Inv (gcx X A' s4 H4 cenv fp pn) [] σ0 H' s' := fun {H' s'} I' => by
      refine I'.unpinned.weak ?_ fun j v e => ?_
      · rw [← hw3, wipe_length]
      · rw [← hw3] at e
        exact (wipe_some e).1
    refine seg_bind_wrap ?_
    rw [hA]
    refine wpAny_mono (ht.run _ s3 σ3 H3 _ I3 q3) (fun b s5 h5 => ?_) fun _ _ e => e.elim
    obtain ⟨H5, I5, q5⟩ := h5
    cases b with
    | false =>
      simp only [Bool.false_eq_true, if_false]
      obtain ⟨m', hm, w'⟩ := hN H5 q5
      obtain ⟨k1, k2⟩ := keeps I5
      exact seg_again rfl (ih m' hm n (i + 1) H5 s₀ s5 (by omega) (back I5) k1 k2 w')
    | true =>
      simp only [if_true]
      have hy : ∀ v, yieldOut cenv v = yieldValue v := fun v => by simp only [yieldOut, hco, Bool.false_eq_true, if_false]
      simp only [hy]
      rw [Sem.bind_eq_wrap', Sem.bind_eq_wrap', Sem.wrap_wrap, Sem.wrap_wrap]
      refine seg_wrap ?_
      rw [hA]
      refine wpAny_mono (he.run _ s5 σ3 H5 _ I5 q5) (fun v s6 h6 => ?_) fun _ _ e => e.elim
      obtain ⟨y, H6, I6, ry, b, tb, q6⟩ := h6
      obtain ⟨n', rfl⟩ : ∃ n', n = n' + 1 := ⟨n - 1, by omega⟩
      refine seg_at (seg_yield rfl rfl rfl ⟨y, b, H6, σ3, ry, tb, I6.unpinned, fun hb => ?_, fun hb s' wk => ?_⟩)
      · rw [if_neg hb] at q6; exact q6
      · rw [if_pos hb] at q6
        obtain ⟨m', hm, w'⟩ := hN H6 q6
        obtain ⟨k1, k2⟩ := keeps I6
        exact seg_again rfl (ih m' hm n' (i + 1) H6 s' s' (by omega) (inv_woke (back I6) wk.heap wk.os wk.bare) (by rw [wk.heap]; exact k1) k2 w')
/-- from its start -/
theorem seg_gt0 (hA : B.over (.compLoop (.GeneratorExp elt [⟨tg, iter, ifs, 0⟩] scope pos) 0 (.ref it) .none cenv) [] = A') (hc : X.calm = true) (hco : cenv.scope.isCoroutine = false) (T : Turn X.prog X.w X.K tg J fp it tn)
    (hst : ∀ H : Hp, (∀ b ∈ fp, H b = none) → ∀ b ∈ fp, FpOk (gcx X A' s4 H4 cenv fp pn) [] H b) (hσ : wipe σ0 vs = σ0)
    (hg : PG (gcx X A' s4 H4 cenv fp pn) tg g) (ht : PTs (gcx X A' s4 H4 cenv fp pn) ifs tt) (he : PE (gcx X A' s4 H4 cenv fp pn) elt te) (hturn : Turns J g tt te vs σ0 W Qt (YdT X.K go Qf))
    (m : Nat) (H : Hp) (s₀ s : Shared) (I : Inv (gcx X A' s4 H4 cenv fp pn) [] σ0 H s) (st : tn 0 s.heap) (fr : ∀ b ∈ fp, H b = none) (w : W 0 m H) :
      Seg (model X.prog X.w) B (RG (gcx X A' s4 H4 cenv fp pn) σ0 Qt) (YT (gcx X A' s4 H4 cenv fp pn) go Qf) (m + 1) s₀ (.compStart (.GeneratorExp elt [⟨tg, iter, ifs, 0⟩] scope pos) 0 (.ref it) .none cenv)
        ((model X.prog X.w).den (.compStart (.GeneratorExp elt [⟨tg, iter, ifs, 0⟩] scope pos) 0 (.ref it) .none cenv)) [] s := by
  have loop := seg_gt hA hc hco T hst hσ hg ht he hturn m (m + 1) 0 H s₀ s (Nat.le_refl _) I st fr w
  show Seg _ B _ _ _ s₀ _ ((compStart (.GeneratorExp elt [⟨tg, iter, ifs, 0⟩] scope pos) 0 (.ref it) .none cenv).onRaise (leaving cenv)) [] s
  unfold compStart
  rw [Sem.onRaise_eq_wrap]
  show Seg _ B _ _ _ s₀ _ ((ask >>= _).wrap _ _ _ _) [] s
  refine seg_bind_wrap (wpAny_askSetting ?_)
  split
  · exact seg_again rfl loop
  · first
      | exact seg_bind_wrap (wpAny_rule (seg_bind_wrap (wpAny_standAt (seg_bind_wrap (T.self _ 0 s _ _ st (seg_again rfl loop))))))
      | (refine seg_bind_wrap (wpAny_rule ?_); show Seg _ B _ _ _ s₀ _ ((standAt iter.pos >>= _).wrap _ _ _ _) [] s; exact seg_bind_wrap (wpAny_standAt (seg_bind_wrap (T.self _ 0 s _ _ st (seg_again rfl loop)))))
end
theorem truL_at {Y : Cx} {σ : L2.St} {pins : List (Addr × Obj)} {H : Hp} {s : Shared} {A : Around} {E : Value → Shared → Prop} {P : Program} {w : World} {y : V} {v : Value} {b : Bool} {Q : Bool → Shared → Prop} (s' : Shared) (hs : s'.heap = s.heap) (I : Inv Y pins σ H s) (r : RelV y v) (h : TruL Y.K y H b)
    (q : ∀ t, Q b { s' with toks := t }) : wpAny (model P w) A (truthy v) Q E s' := by
  rcases h with rfl | ⟨p, xs, rfl, hS, rfl⟩
  · have ev : v = .bool b := r
    subst ev
    exact wpAny_truthy_bool (q s'.toks)
  · have ev : v = .ref p := r
    subst ev
    obtain ⟨its, rv, hp, hl⟩ := I.list hS
    have hl2 : s'.heap.IsList p its.toArray := by
      rw [hs]
      obtain ⟨o, n, ho, hc, hdd, hd⟩ := hp
      exact ⟨o, ho, hc, n, hd⟩
    have hz := sizeLine_eq
    refine wpAny_truthy_list hl2 (by rw [List.size_toArray, ← rv.length]; omega) ?_
    rw [isEmpty_of rv]
    exact q _
/-! ### the consumer -/
section
variable {P : Program} {w : World} {Y : Cx} {σ0 : L2.St} {Qt Qf : Hp → Prop} {A : Around} {R : Result → Shared → Prop} {a : Addr} {g : Nat} {gobj : Obj}
theorem any_loopT (hY : Y.prog = P ∧ Y.w = w) (hh : A.handled = none) (hd : A.depth < recursionLimit) (hp : (a, gobj) ∈ Y.pn) (hgo : ∀ s : Shared, s.heap.get? a = some gobj → s.heap.IsGen a g)
    (hT : ∀ s₁ H s', Inv Y [] σ0 H s₁ → Qt H → (∀ b o, s₁.heap.get? b = some o → s'.heap.get? b = some o) → s'.os = s₁.os → AllBare s'.gens → R (.ok (.ret (.bool false))) s')
    (hF : ∀ s₁ H σ2 s', Inv Y [] σ2 H s₁ → Qf H → (∀ b o, s₁.heap.get? b = some o → s'.heap.get? b = some o) → s'.os = s₁.os → AllBare s'.gens → R (.ok (.ret (.bool true))) s') :
    ∀ (n : Nat) (s : Shared), s.heap.IsGen a g → s.heap.NoLimit → (∃ gs, s.gens[g]? = some gs ∧ gs.Goes (model P w) A.in1.in1 (RG Y σ0 Qt) (YT Y false Qf) n (.send .none) (s.setGen g .running)) →
      codeAny (model P w) A (.builtin "any.loop" ⟨[.ref a], []⟩) R s := by
  intro n
  induction n with
  | zero =>
    intro s hg hl ⟨gs, hgs, hgoes⟩
    refine codeAny_builtin F.entry_any_loop ?_
    rw [Around.under_plainId F.plain_any_loop _]
    show wpAny _ A.in1 (pyNext (.ref a) >>= _) _ _ s
    refine wpAny_bind (next_genG (A := A.in1) hh hl hd hg hgs hgoes (fun v s₁ gs' hbare hv => ?_) (fun s₁ hq h' hk => ?_) fun e s₁ he => he.elim)
    · obtain ⟨y, b, H, σ2, ry, tb, I, h1, h2⟩ := hv
      cases b with
      | false => exact (h2 rfl _ ⟨rfl, rfl, I.bare⟩).elim
      | true =>
        refine wpAny_bind (wpAny_holding (truL_at (s := s₁) (s₁.setGen g gs') rfl I ry tb fun tk => ?_))
        refine wpAny_bind (wpAny_letGo ?_)
        simp only [if_true]
        refine wpAny_bind (wpAny_rule (wpAny_pure ?_))
        exact hF s₁ H σ2 _ I (h1 (by decide)) (fun _ _ e => e) rfl (allBare_setGen I.bare hbare)
    · obtain ⟨H, I, q⟩ := hq
      refine wpAny_bind (wpAny_rule (wpAny_pure ?_))
      exact hT s₁ H _ I q hk rfl (allBare_setGen I.bare rfl)
  | succ n ih =>
    intro s hg hl ⟨gs, hgs, hgoes⟩
    have hgl : g < s.gens.size := (Array.getElem?_eq_some_iff.mp hgs).1
    refine codeAny_builtin F.entry_any_loop ?_
    rw [Around.under_plainId F.plain_any_loop _]
    show wpAny _ A.in1 (pyNext (.ref a) >>= _) _ _ s
    refine wpAny_bind (wpAny_gsz (n := g + 1) hgl (next_genG (A := A.in1) hh hl hd hg hgs hgoes (fun v s₁ gs' hbare hv => ?_) (fun s₁ hq h' hk => ?_) fun e s₁ he => he.elim))
    · intro hsz
      obtain ⟨y, b, H, σ2, ry, tb, I, h1, h2⟩ := hv
      have hsz1 : g < s₁.gens.size := by
        have q : (s₁.setGen g gs').gens.size = s₁.gens.size := setGen_size _ _ _
        have hsz' : g + 1 ≤ (s₁.setGen g gs').gens.size := hsz
        omega
      refine wpAny_bind (wpAny_holding (truL_at (s := s₁) (s₁.setGen g gs') rfl I ry tb fun tk => ?_))
      refine wpAny_bind (wpAny_letGo ?_)
      cases b with
      | false =>
        simp only [Bool.false_eq_true, if_false]
        refine wpAny_pure ⟨plainId_quiet F.plain_any_loop _, ih { (s₁.setGen g gs') with toks := tk } (hgo _ (I.pin (a, gobj) (List.mem_append_left _ hp)).1) I.nolimit ⟨gs', setGen_at hsz1, ?_⟩⟩
        exact h2 rfl _ ⟨rfl, rfl, allBare_setGen (s := { (s₁.setGen g gs') with toks := tk }) (allBare_setGen I.bare hbare) rfl⟩
      | true =>
        simp only [if_true]
        refine wpAny_bind (wpAny_rule (wpAny_pure ?_))
        exact hF s₁ H σ2 _ I (h1 (by decide)) (fun _ _ e => e) rfl (allBare_setGen I.bare hbare)
    · intro hsz
      obtain ⟨H, I, q⟩ := hq
      refine wpAny_bind (wpAny_rule (wpAny_pure ?_))
      exact hT s₁ H _ I q hk rfl (allBare_setGen I.bare rfl)
end
section
variable {X : Cx} {pins : List (Addr × Obj)} {σ : L2.St} {H : Hp} {s : Shared}
theorem gen_readyT {c P : Addr} {elt tg iter : Expr} {ifs : List Expr} {scope : Scope} {own : List (Str × Nat)} {gpos : Pos} {wi : TI} {g : TG} {tt : TT} {te : TE} {k : Nat} {Q' : Value → Shared → Prop} {Qt Qf : Hp → Prop} {go : Bool}
    (hc : X.calm = true) (hr : Room (k + 1) X.A) (hN : X.N.Nodup) (TB : TabB X.base X.mg c P) (hcode : X.env.code = .ref c) (S : GenOk X.env X.N scope own) (hi : PI X tg iter wi)
    (hg : ∀ (A' : Around) (s : Shared) (H : Hp) (cl : List (Str × Addr)) (C : Addr) (code : Value) (fp : List Addr) (pn : List (Addr × Obj)), Room k A' → PG (gcx X A' s H (genEnv scope cl C code builtinsNs X.env) fp pn) tg g)
    (ht : ∀ (A' : Around) (s : Shared) (H : Hp) (cl : List (Str × Addr)) (C : Addr) (code : Value) (fp : List Addr) (pn : List (Addr × Obj)), Room k A' → PTs (gcx X A' s H (genEnv scope cl C code builtinsNs X.env) fp pn) ifs tt)
    (he : ∀ (A' : Around) (s : Shared) (H : Hp) (cl : List (Str × Addr)) (C : Addr) (code : Value) (fp : List Addr) (pn : List (Addr × Obj)), Room k A' → PE (gcx X A' s H (genEnv scope cl C code builtinsNs X.env) fp pn) elt te)
    (hs : ∀ v, genFold iter X.env v = pure v) (I : Inv X pins σ H s)
    (h : wi σ H fun J H1 => TabX H1 P ∧ ∀ H2, TabbedX P H1 H2 → ∃ W : Nat → Nat → Hp → Prop, (∃ m, W 0 m H2) ∧ Turns J g tt te (own.map (·.2)) (wipe σ (own.map (·.2))) W Qt (YdT X.K go Qf))
    (hQ : ∀ (a : Addr) (gi n : Nat) (s5 : Shared) (Y : Cx) (gobj : Obj), Y.prog = X.prog ∧ Y.w = X.w → (a, gobj) ∈ Y.pn → (∀ s : Shared, s.heap.get? a = some gobj → s.heap.IsGen a gi) → s5.heap.IsGen a gi → s5.heap.NoLimit →
      (∃ gs, s5.gens[gi]? = some gs ∧ gs.Goes (model X.prog X.w) X.A.in1.in1 (RG Y (wipe σ (own.map (·.2))) Qt) (YT Y go Qf) n (.send .none) (s5.setGen gi .running)) →
      (∀ s₁ H σ2 s', Inv Y [] σ2 H s₁ → (∀ b o, s₁.heap.get? b = some o → s'.heap.get? b = some o) → s'.os = s₁.os → AllBare s'.gens → Inv X pins σ H s') → Q' (.ref a) s5) :
    wpAny (model X.prog X.w) X.A (eval (.GeneratorExp elt [⟨tg, iter, ifs, 0⟩] scope gpos) X.env) Q' X.xe s := by
  have hfree : ∀ y ∈ scope.names, y.2 = .free → ∃ c, X.env.cells.lookup y.1 = some c := fun y hy e => by
    rcases S.blk.free y hy e with k | k
    · exact I.ok.has _ (.inl k)
    · exact I.ok.has _ (.inr k)
  refine wpAny_GeneratorExp_make S.co (closure_ok hfree) S.cell S.dot S.blk.kind (by have := hr.dp; omega) ?_ hs
  refine thn (hi.run pins s σ H _ I h) fun v s1 h1 => thn h1 fun itv s2 h2 => ?_
  obtain ⟨it, fp, tn, J, H1, rfl, I1, T, st1, f1, ⟨ps, hP, htr, hall⟩, q1⟩ := h2
  have hPs : s2.heap.get? P = some { cls := .none, data := .fields ps } := I1.hok P _ hP
  have cd : PySem.W.CodeHd s2.heap c P := TB.code.keeps fun b u e => I1.bk b u e
  refine ⟨I1.nolimit, ?_⟩
  have nfP : ∀ b ∈ fp, b ≠ P := fun b hb z => by
    have := (f1 b hb).1
    rw [z, hP] at this
    cases this
  have cont : ∀ (code : Value) (h3 : Heap) (tk : Nat) (H2 : Hp), Heap.ExtBut P s2.heap h3 → s2.heap.objs.size ≤ h3.objs.size → Inv X pins σ H2 { s2 with heap := h3, toks := tk } → TabbedX P H1 H2 → (∀ b, b < s2.heap.objs.size → b ≠ P → H2 b = H1 b) →
      wpAny (model X.prog X.w) X.A (builtinsFor X.env.globals X.env.builtins) (fun bi s₄ =>
        ∀ h', h'.Ns s₄.heap.objs.size (fun y => if y = ".0" then some (.ref it) else none) → Heap.SameBut s₄.heap.objs.size (s₄.heap.push { cls := .type "frame", data := .dict #[] }) h' →
          Q' (.ref h'.objs.size) { s₄ with
            gens := s₄.gens.push (.fresh (.compStart (.GeneratorExp elt [⟨tg, iter, ifs, 0⟩] scope gpos) 0 (.ref it) .none (genEnv scope (cloFrom X.env.cells scope.names []) s₄.heap.objs.size code bi X.env))),
            toks := s₄.toks + 1 + 1 + 1,
            heap := h'.push { cls := .type "generator", data := .fields #[.int s₄.gens.size 0, .str "<genexpr>" (s₄.toks + 1), .str (X.env.qual ++ "<genexpr>") (s₄.toks + 1 + 1)] } }) X.xe { s2 with heap := h3, toks := tk } := by
    intro code h3 tk H2 hx hsz J2 hTb hEq
    obtain ⟨bm, ob, e1, e2, e3, e4, e5, e6, e7, e8⟩ := TB.bm
    refine wpAny_builtinsFor (m := X.mg) (by rw [I1.ok.glob]; exact (I1.mod.glob.keeps I1.bk).extBut hx TB.gP) e1 e2 (hx _ _ e4 (I1.bk _ _ e5)) e6 e7 e8 ?_
    intro h' hns hsb
    obtain ⟨W, ⟨m, w0⟩, hturn⟩ := q1 H2 hTb
    -- the new objects
    have szp : (h3.push { cls := .type "frame", data := .dict #[] }).objs.size = h3.objs.size + 1 := Heap.size_push ..
    have sz' : h'.objs.size = h3.objs.size + 1 := by rw [← szp]; exact hsb.1
    have kp : ∀ b o, h3.get? b = some o → (h'.push { cls := .type "generator", data := .fields #[.int s2.gens.size 0, .str "<genexpr>" (tk + 1), .str (X.env.qual ++ "<genexpr>") (tk + 1 + 1)] }).get? b = some o := fun b o e =>
      Heap.get?_push_of_some _ ((hsb.2 b (Nat.ne_of_lt (Heap.lt_size e))).trans (Heap.get?_push_of_some _ e))
    have f2 : ∀ b ∈ fp, FpOk X pins H2 b ∧ b < h3.objs.size := fun b hb => by
      obtain ⟨o, e, _⟩ := T.obj _ _ st1 b hb
      refine ⟨⟨by rw [hEq b (Heap.lt_size e) (nfP b hb)]; exact (f1 b hb).1, (f1 b hb).2⟩, Nat.lt_of_lt_of_le (Heap.lt_size e) hsz⟩
    have st3 : tn 0 h3 := T.keep _ _ _ st1 fun b hb o e => hx b o (nfP b hb) e
    obtain ⟨A', hA'⟩ : ∃ A', X.A.in1.in1.over (.compLoop (.GeneratorExp elt [⟨tg, iter, ifs, 0⟩] scope gpos) 0 (.ref it) .none (genEnv scope (cloFrom X.env.cells scope.names []) h3.objs.size code builtinsNs X.env)) [] = A' := ⟨_, rfl⟩
    have hroom : Room k A' := by rw [← hA']; exact room_gen hr
    have hfrm : A'.frames = some (genEnv scope (cloFrom X.env.cells scope.names []) h3.objs.size code builtinsNs X.env :: X.stack) := by
      have e : X.A.frames = some X.stack := I1.ok.frames
      rw [← hA']
      unfold Around.over
      dsimp only
      rw [e]
      rfl
    have start : ∀ gens' : Array GenState, AllBare gens' → ∀ tk', Inv (gcx X A' { s2 with heap := h3, toks := tk } H2 (genEnv scope (cloFrom X.env.cells scope.names []) h3.objs.size code builtinsNs X.env) fp [(h'.objs.size, _)]) [] (wipe σ (own.map (·.2))) H2
        { s2 with gens := gens', toks := tk', heap := h'.push { cls := .type "generator", data := .fields #[.int s2.gens.size 0, .str "<genexpr>" (tk + 1), .str (X.env.qual ++ "<genexpr>") (tk + 1 + 1)] } } := fun gens' hb tk' =>
      gen_start (code := code) J2 S.blk hN S.cell f2 hroom.hd rfl hfrm rfl hb kp (Heap.Ns.keeps hns fun b o e => Heap.get?_push_of_some _ e) (fun p hp => by
        rw [List.mem_singleton.mp hp]
        exact ⟨Heap.get?_push_size _ rfl, by show h3.objs.size < h'.objs.size; rw [sz']; exact Nat.lt_succ_self _, fun v z => by cases z⟩)
    have hgen : ∀ s : Shared, s.heap.get? h'.objs.size = some { cls := .type "generator", data := .fields #[.int s2.gens.size 0, .str "<genexpr>" (tk + 1), .str (X.env.qual ++ "<genexpr>") (tk + 1 + 1)] } → s.heap.IsGen h'.objs.size s2.gens.size := fun s e => ⟨_, _, _, e, rfl, rfl, rfl⟩
    refine hQ h'.objs.size s2.gens.size (m + 1) _ (gcx X A' { s2 with heap := h3, toks := tk } H2 (genEnv scope (cloFrom X.env.cells scope.names []) h3.objs.size code builtinsNs X.env) fp [(h'.objs.size, _)]) _ ⟨rfl, rfl⟩ (List.mem_singleton.mpr rfl) hgen (hgen _ (Heap.get?_push_size _ rfl)) (start #[] (fun _ z => by simp at z) 0).nolimit ⟨_, Array.getElem?_push_size, rfl, ?_⟩ fun s₁ Hz σ2 s' Iz ext hos hbz => ?_
    · have bare5 : AllBare (s2.gens.push (.fresh (.compStart (.GeneratorExp elt [⟨tg, iter, ifs, 0⟩] scope gpos) 0 (.ref it) .none (genEnv scope (cloFrom X.env.cells scope.names []) h3.objs.size code builtinsNs X.env)))) := I1.bare.push rfl
      have hst : ∀ H : Hp, (∀ b ∈ fp, H b = none) → ∀ b ∈ fp, FpOk (gcx X A' { s2 with heap := h3, toks := tk } H2 (genEnv scope (cloFrom X.env.cells scope.names []) h3.objs.size code builtinsNs X.env) fp [(h'.objs.size, _)]) [] H b := fun Hq hq b hb => by
        have ok := (start s2.gens I1.bare 0).ok
        refine ⟨hq b hb, (ok.exf b hb).1, ok.exfs b hb, .inl hb, (ok.exf b hb).2, fun p hp => ?_⟩
        rw [List.append_nil] at hp
        rw [List.mem_singleton.mp hp]
        show h'.objs.size ≠ b
        have := (f2 b hb).2
        rw [sz']
        exact Nat.ne_of_gt (Nat.lt_succ_of_lt this)
      have wf : wipe (wipe σ (own.map (·.2))) (own.map (·.2)) = wipe σ (own.map (·.2)) := wipe_wipe _ _
      exact seg_gt0 hA' hc S.co T hst wf (hg _ _ _ _ _ _ _ _ hroom) (ht _ _ _ _ _ _ _ _ hroom) (he _ _ _ _ _ _ _ _ hroom) hturn m _ _ _ (start _ (allBare_setGen (s := { s2 with gens := _ }) bare5 rfl) _) (T.keep _ _ _ st3 fun b hb o e => kp b o e) (fun b hb => (f2 b hb).1.1) w0
    · have u : Un (frs X.stack) fp H2 Hz h3 s'.heap := Iz.base.trans (Un.kept ext)
      refine J2.call' (s' := s') (hos.trans Iz.os) u (Iz.hok.kept ext) hbz fun b hb => ?_
      obtain ⟨⟨_, a1, _, a3, a4, a5⟩, _⟩ := f2 b hb
      exact ⟨a3, a1, a4, a5⟩
  cases hf : codeAmong gpos ps.toList with
  | none =>
    refine wpAny_genexprCodeX hcode (cd.code hPs htr) (cd.tab hPs) hf fun c' h' tk hx hge hlt hco' hrec htab' _ => ?_
    obtain ⟨c2, oc, vs, t, e2, hoc, hd, hv⟩ := hrec
    cases e2
    have I3 := LamX.inv_table (t' := tk) (more := #[rawInt gpos.line, rawInt gpos.col, .ref c']) I1 hP (fun b u hb e => hx b u hb e) htab'.2 hge ⟨oc, vs, t, hoc, hd, hv⟩
    exact cont _ h' tk _ hx (Nat.le_trans hge (Nat.le_of_lt hlt)) I3 (tabX_new hP htr hall (I1.hok.fresh hge)) fun b hb hp => by rw [upd_ne (Nat.ne_of_lt (Nat.lt_of_lt_of_le hb hge)), upd_ne hp]
  | some cv =>
    refine wpAny_genexprCode_hit hcode (cd.code hPs htr) hf ?_
    exact cont cv s2.heap s2.toks H1 (Heap.ExtBut.refl _ _) (Nat.le_refl _) I1 (TabbedX.same ⟨ps, hP, htr, hall⟩) fun _ _ _ => rfl
end
/-- any(e for x in ..), by the truth of what e tells -/
def tGenT (K : PySem.W.Frag) (P : Addr) (go : Bool) (wi : TI) (g : TG) (tt : TT) (te : TE) (vs : List Nat) : TE := fun σ H Q => wi σ H fun J H1 => TabX H1 P ∧ ∀ H2, TabbedX P H1 H2 →
  ∃ W : Nat → Nat → Hp → Prop, (∃ m, W 0 m H2) ∧ Turns J g tt te vs (wipe σ vs) W (fun H => Q (.bl go) H) (YdT K go fun H => Q (.bl (!go)) H)
section
variable {X : Cx} {c P : Addr} {elt tg iter : Expr} {ifs : List Expr} {scope : Scope} {own : List (Str × Nat)} {p pos gpos : Pos} {wi : TI} {g : TG} {tt : TT} {te : TE} {k : Nat}
theorem pe_anyGT {K : PySem.W.Frag} (hK : X.K = K) (hc : X.calm = true) (hr : Room (k + 1) X.A) (hN : X.N.Nodup) (hgl : Gl X "any") (hm : X.mg "any" = none) (hb : bootBuiltins "any" = some (.builtin "any")) (TB : TabB X.base X.mg c P) (hcode : X.env.code = .ref c) (S : GenOk X.env X.N scope own) (hi : PI X tg iter wi)
    (hg : ∀ (A' : Around) (s : Shared) (H : Hp) (cl : List (Str × Addr)) (C : Addr) (code : Value) (fp : List Addr) (pn : List (Addr × Obj)), Room k A' → PG (gcx X A' s H (genEnv scope cl C code builtinsNs X.env) fp pn) tg g)
    (ht : ∀ (A' : Around) (s : Shared) (H : Hp) (cl : List (Str × Addr)) (C : Addr) (code : Value) (fp : List Addr) (pn : List (Addr × Obj)), Room k A' → PTs (gcx X A' s H (genEnv scope cl C code builtinsNs X.env) fp pn) ifs tt)
    (he : ∀ (A' : Around) (s : Shared) (H : Hp) (cl : List (Str × Addr)) (C : Addr) (code : Value) (fp : List Addr) (pn : List (Addr × Obj)), Room k A' → PE (gcx X A' s H (genEnv scope cl C code builtinsNs X.env) fp pn) elt te)
    (hs : ∀ v, genFold iter X.env v = pure v := by intro _; rfl)
    (hst : starEach [.GeneratorExp elt [⟨tg, iter, ifs, 0⟩] scope gpos] X.env = (false, eval (.GeneratorExp elt [⟨tg, iter, ifs, 0⟩] scope gpos) X.env) :: starEach [] X.env := by rfl) :
    PE X (.Call (.Name "any" p) [.GeneratorExp elt [⟨tg, iter, ifs, 0⟩] scope gpos] [] pos) (tGenT K P false wi g tt te (own.map (·.2))) := by
  subst hK
  refine ⟨fun pins s σ H Q I h => ?_⟩
  refine wpAny_Call_Name_kw (ld_blt I hgl hm hb ?_)
  refine PyProof.Rows.callWith_builtin1 ?_ hst (by rfl)
  rw [hst]
  show wpAny _ _ (spliced ((false, eval (.GeneratorExp elt [⟨tg, iter, ifs, 0⟩] scope gpos) X.env) :: backTo pos (starEach [] X.env))) _ _ s
  refine Calls.spliced_cons (gen_readyT hc hr hN TB hcode S hi hg ht he hs I h fun a gi n s5 Y gobj hY hpn hgo hg5 hl5 hgoes back => ?_)
  refine Calls.spliced_nil ?_
  refine call_function_tree F.kind_any F.plain_any F.entry_any (F.args_any1 _) ?_
  unfold Builtin.«any»
  refine wpAny_bind (m := oneArg "any" _) (wpAny_pure ?_)
  refine wpAny_bind (wpAny_pyIter_gen hg5 ?_)
  exact wpAny_pure ⟨plainId_quiet F.plain_any_loop _, any_loopT hY hr.hd hr.depth hpn hgo (fun s₁ Hz s' Iz q ext hos hb => ⟨.bl false, Hz, back s₁ Hz _ s' Iz ext hos hb, rfl, q⟩) (fun s₁ Hz σ2 s' Iz q ext hos hb => ⟨.bl true, Hz, back s₁ Hz σ2 s' Iz ext hos hb, rfl, q⟩) n s5 hg5 hl5 hgoes⟩
end
end Gx

set_option Elab.async false
set_option linter.all false
set_option maxRecDepth 100000
set_option maxHeartbeats 2000000
namespace Dl
open PySem PySem.Spec PyProof.Rows L2
section
variable {K : PySem.W.Frag} {pn : Option Pn} {ts : List Addr} {H0 : Hp} {L : Lv} {P Pd : PyData → Prop} {te : TE} {tt : TT} {ti : TI} {g : TG} {Tb : Addr} {go : Bool}
/-- the truth of data: a truth, a list -/
def TruD (d : PyData) (k : Bool) : Prop := d = .bool k ∨ ∃ ds, d = .list ds ∧ k = !ds.isEmpty
abbrev GnL (K : PySem.W.Frag) (c : Pc) (H0 : Hp) (go : Bool) (tt : TT) (te : TE) (L2 : Lv) (Jn : Prop) (P : PyData → Prop) : Prop :=
  ET K c H0 tt L2 fun b => (b = true → E K c H0 te L2 fun d => ∃ k, TruD d k ∧ (k = go → Jn) ∧ (k = !go → P (.bool (!go)))) ∧ (b = false → Jn)
theorem gn_turnL {c : Pc} {G1 H1 G' H' : Hp} {σ2 : L2.St} {L2 : Lv} {Jn : Prop} {Nx : Hp → Prop} {Q : VK} (g : Go c G1 H1 G' H') (e2 : Ev K c H0 G' H' σ2 L2) (h : GnL K c H0 go tt te L2 Jn P)
    (hN : ∀ G3 H3, Go c G1 H1 G3 H3 → Jn → Nx H3) (q : ∀ v d G' H', Go c G1 H1 G' H' → Dp K G' v d → P d → Q v H') :
    tt σ2 H' fun b H3 => if b = true then te σ2 H3 fun y H4 => Gx.YdT K go (fun H => Q (.bl (!go)) H) y H4 Nx else Nx H3 := by
  refine h σ2 G' H' e2 _ fun b G3 H3 g3 p => ?_
  cases b with
  | false => exact hN G3 H3 (g.trans g3) (p.2 rfl)
  | true =>
    show te σ2 H3 _
    refine p.1 rfl σ2 G3 H3 (e2.go g3) _ fun y d G4 H4 g4 d4 ⟨k, hk, p1, p2⟩ => ⟨k, ?_, ?_⟩
    · rcases hk with rfl | ⟨ds, rfl, rfl⟩
      · cases d4
        exact .inl rfl
      · cases d4 with
        | lst hs ha =>
          rename_i a xs
          refine .inr ⟨a, xs, rfl, sqL_mono g4.vw.vw hs, ?_⟩
          have := dpa_len ha
          cases xs <;> cases ds <;> first | rfl | cases this
    · by_cases z : k = go
      · rw [if_pos z]
        exact hN G4 H4 ((g.trans g3).trans g4) (p1 z)
      · rw [if_neg z]
        exact q _ _ G4 H4 ((g.trans g3).trans g4) (.bl _) (p2 (by cases k <;> cases go <;> simp_all))
theorem e_genLt {vs : List Nat} (hT : Tb ∈ ts) (h : IT K ⟨pn, ts⟩ H0 ti L fun xs => ∃ J : Nat → Prop, J 0 ∧
    (∀ (i : Nat) x, xs[i]? = some x → J i → GTw K ⟨pn, ts⟩ H0 vs g x (wipeL L vs) fun L2 => GnL K ⟨pn, ts⟩ H0 go tt te L2 (J (i + 1)) Pd) ∧ (J xs.length → Pd (.bool go))) :
    E K ⟨pn, ts⟩ H0 (_root_.Gx.tGenT K Tb go ti g tt te vs) L Pd := fun σ G H e Q q => h σ G H e _ fun It G1 H1 xs gg w ⟨J, j0, js, je⟩ => by
  refine ⟨gg.vw.ok.2 Tb hT, fun H2 htab => ?_⟩
  have g2 := Go.tab gg.vw hT htab
  refine ⟨fun i m H' => m = xs.length - i ∧ i ≤ xs.length ∧ J i ∧ ∃ G', Go ⟨pn, ts⟩ G1 H2 G' H', ⟨xs.length, rfl, Nat.zero_le _, j0, G1, .refl g2.vw⟩, ?_⟩
  rintro i m H' ⟨rfl, hi, hJ, G', g'⟩
  have q' : ∀ v d G' H', Go ⟨pn, ts⟩ G1 H2 G' H' → Dp K G' v d → Pd d → Q v H' := fun v d G' H' g hd p => q v d G' H' ((gg.trans g2).trans g) hd p
  obtain ⟨w1, w2⟩ := w G' H' g'.gg g'.vw
  by_cases hlt : i < xs.length
  · obtain ⟨k1, k2⟩ := w1 i _ (List.getElem?_eq_getElem hlt)
    refine .inr ⟨k1, fun H3 => J (i + 1) ∧ ∃ G', Go ⟨pn, ts⟩ G1 H2 G' H3, fun H3 ⟨k1, k2⟩ => ⟨xs.length - (i + 1), by omega, rfl, hlt, k1, k2⟩, fun y H3 hy => ?_⟩
    obtain ⟨G3, g3, d3⟩ := k2 y H3 hy
    refine js i _ (List.getElem?_eq_getElem hlt) hJ (wipe σ vs) G3 H3 y (ev_wipe ((((e.go gg).go g2).go g').go g3) vs) d3 _ fun σ4 L4 ag e4 h4 => ⟨wipe_agree ag, ?_⟩
    exact gn_turnL (g'.trans g3) e4 h4 (fun G3 H3 g3 k => ⟨k, G3, g3⟩) q'
  · have e1 : i = xs.length := by omega
    subst e1
    exact .inl ⟨w2, q' _ _ G' H' g' (.bl _) (je hJ)⟩
/-- any(f(x) ..), f telling lists -/
theorem e_anyL {vs : List Nat} (f : PyData → Bool) (hT : Tb ∈ ts) (h : IT K ⟨pn, ts⟩ H0 ti L fun xs => (∀ x ∈ xs, GTw K ⟨pn, ts⟩ H0 vs g x (wipeL L vs) fun L2 => E K ⟨pn, ts⟩ H0 te L2 fun d => TruD d (f x)) ∧ Pd (.bool (xs.any f))) :
    E K ⟨pn, ts⟩ H0 (_root_.Gx.tGenT K Tb false ti g tYes te vs) L Pd := by
  refine e_genLt hT (h.mono fun xs ⟨hx, hp⟩ => ⟨fun i => xs.any f = (xs.drop i).any f, rfl, fun i x hi hJ => ?_, fun hJ => ?_⟩)
  · intro σ G H v e hd R r
    obtain ⟨hlt, hg⟩ := List.getElem?_eq_some_iff.mp hi
    refine hx x (List.mem_of_getElem? hi) σ G H v e hd R fun σ' L' ag e' p => r σ' L' ag e' (et_yes ⟨fun _ => p.mono fun d e2 => ⟨f x, e2, fun hk => ?_, fun hk => ?_⟩, fun z => by cases z⟩)
    · rw [hJ, List.drop_eq_getElem_cons hlt, List.any_cons, hg, hk, Bool.false_or]
    · rw [hJ, List.drop_eq_getElem_cons hlt, List.any_cons, hg, hk, Bool.not_false, Bool.true_or] at hp
      exact hp
  · rw [hJ, List.drop_eq_nil_of_le (Nat.le_refl _)] at hp
    exact hp
end
end Dl

set_option Elab.async false
set_option linter.all false
set_option maxRecDepth 100000
set_option maxHeartbeats 2000000
namespace Dl
open PySem PySem.Spec PyProof.Rows L2
section
variable {K : PySem.W.Frag} {pn : Option Pn} {ts : List Addr} {H0 : Hp} {L : Lv}
/-- try: return f(..) / except X: suite -/
theorem s_tryRet {α : Type} {C : Addr} {c : Value} {ts' : Addr → Value → Option Addr → TS} {Wout : WX} {tl : TA} {Wf : α → Prop} {enc : α → List PyData} {res : α → PyData → Prop} {bad : α → Prop} {D : Dn} (he : PySem.W.exmOne K (.ref C) c = some true)
    (h : EA K ⟨pn, ts⟩ H0 tl L fun ds => ∃ x, ds = enc x ∧ Wf x ∧ (∀ d, res x d → D.rt d) ∧ (bad x → ∀ a, S K ⟨pn, ts⟩ H0 (ts' a (.ref C) none) L D)) :
    S K ⟨pn, ts⟩ H0 (fun N σ H => tRet (tCallS (SpXR K ts C Wf enc res bad) (fun σ => L2.WE (wOnly K c ts' Wout N) σ) tl) N σ H) L D := fun σ G H N e n1 n2 n3 n4 n5 n6 =>
  h σ G H e _ fun vs ds G1 H1 go hd ⟨x, hx, hw, hn, hb⟩ => ⟨x, G1, go.vw.plain, by rw [← hx]; exact hd, hw, fun v d G' H' g2 hd2 p => n2 v d G' H' (e.gx (go.trans (g2.lift go.vw))) (g2.lift go.vw).vw hd2 (hn d p),
    fun hbad G' H' g2 => ⟨true, he, fun _ a ha => (hb hbad a).at (e.go (go.trans (g2.lift go.vw))) (e.gx (go.trans (g2.lift go.vw))) n1 n2 n3 n4 n5 n6, fun z => (by cases z)⟩⟩
end
section
variable {K : PySem.W.Frag} {pen : Pc} {H0 : Hp} {L : Lv} {Pd : PyData → Prop} {te : TE} {ti ti2 : TI} {g g2 : TG}
end
end Dl

set_option Elab.async false
set_option linter.all false
set_option maxRecDepth 100000
set_option maxHeartbeats 1000000
/-! tuple(reversed(tuple)), list(reversed(list)) -/
namespace Rv
open PySem PySem.Spec PyProof.Rows L2 RT
theorem nolen_rt : typeLookup (.type "reversed") "__len__" = pure none := by rw [typeLookup_type, builtinLookup_eq_fast]; kernel_rfl
theorem hint_rt : typeLookup (.type "reversed") "__length_hint__" = pure (some (.builtin "reversed.__length_hint__")) := by rw [typeLookup_type, builtinLookup_eq_fast]; kernel_rfl
theorem slot_rt_hint : Slot "reversed" "__length_hint__" "reversed.__length_hint__" :=
  .of (owner := "reversed") (n := "__length_hint__") (by rw [typeLookup_type, builtinLookup_eq_fast]; kernel_rfl) (by decide +kernel) (by decide +kernel) (by decide +kernel)
    (by first | exact .inl (by decide +kernel) | exact .inr (by decide +kernel)) (by rw [isSubtype_type]; kernel_rfl)
theorem entry_rt_hint : entryFor table "reversed.__length_hint__" = some Builtin.«reversed.__length_hint__» := entryFor_of_tree (by kernel_rfl)
theorem args_rt_hint (a : Value) : argsOk "reversed.__length_hint__" ⟨[a], []⟩ := by
  unfold argsOk; rw [signature?_of (id := "reversed.__length_hint__") (n := ['_', '_', 't', 'n', 'i', 'h', '_', 'h', 't', 'g', 'n', 'e', 'l', '_', '_']) (o := ['d', 'e', 's', 'r', 'e', 'v', 'e', 'r']) (by kernel_rfl) owner_rt]; kernel_rfl
section
variable {prog : Program} {w : World} {A : Around} {E : Value → Shared → Prop} {s : Shared}
theorem walks_rt (hh : A.handled = none) (it t : Addr) (hne : t ≠ it) (items : Array Value) (hsz : items.size ≤ sizeLine) :
    WalksS prog w A it [it, t] [it] (fun a b => b = a) items.size (fun i v => items[items.size - 1 - i]? = some v) (fun i s => i ≤ items.size ∧ IsRt s.heap it t ((items.size : Int) - 1 - (i : Nat)) ∧ IsTup s.heap t items) where
  sub := fun b hb => by rw [List.mem_singleton.mp hb]; exact List.mem_cons_self ..
  grefl := fun _ => rfl
  gtrans := fun _ _ _ h1 h2 => h2.trans h1
  frame := fun i s h' tk st _ hk => ⟨st.1, st.2.1.at fun o e => hk it (List.mem_cons_self ..) o e, let ⟨o, ho, r⟩ := st.2.2; ⟨o, hk t (List.mem_cons_of_mem _ (List.mem_cons_self ..)) o ho, r⟩⟩
  item := fun i s Q E hi st hQ => by
    obtain ⟨h1, h2, h3⟩ := st
    have e1 : (items.size : Int) - 1 - ((i : Nat) : Int) = ((items.size - 1 - i : Nat) : Int) := by omega
    rw [e1] at h2
    obtain ⟨x, hx⟩ : ∃ x, items[items.size - 1 - i]? = some x := ⟨_, Array.getElem?_eq_getElem (by omega)⟩
    refine next_rt_item h2 h3 hx hsz fun h' st' sb => ?_
    have e2 : ((items.size - 1 - i : Nat) : Int) - 1 = (items.size : Int) - 1 - ((i + 1 : Nat) : Int) := by omega
    rw [e2] at st'
    exact hQ x _ hx ⟨hi, st', let ⟨o, ho, r⟩ := h3; ⟨o, (sb.2 t hne).trans ho, r⟩⟩ ⟨fun b o hb e => (sb.2 b (fun z => hb (z ▸ List.mem_singleton.mpr rfl))).trans e, rfl, rfl, rfl, Nat.le_succ _⟩
  done := fun s Q E st hQ => by
    obtain ⟨h1, h2, h3⟩ := st
    have e1 : (items.size : Int) - 1 - ((items.size : Nat) : Int) = -1 := by omega
    rw [e1] at h2
    exact next_rt_end hh h2 fun h' eb => hQ _ ⟨fun b o hb e => eb b o (fun z => hb (z ▸ List.mem_singleton.mpr rfl)) e, rfl, rfl, rfl, Nat.le_refl _⟩
  self := fun i s Q E st hQ => iter_rt st.2.1 hQ
theorem len_rt {it t : Addr} {items : Array Value} {Q : Bool → Shared → Prop} (hit : IsRt s.heap it t ((items.size : Int) - 1)) (ht : IsTup s.heap t items) (hsz : items.size ≤ sizeLine) (h : ∀ b tk, s.toks ≤ tk → Q b { s with toks := tk }) : wpAny (model prog w) A (Builtin.List.listLengthHint (.ref it)) Q E s := by
  have hT := hit.typeIs
  obtain ⟨o, ho, hc, hd⟩ := id hit
  rw [sizeLine_eq] at hsz
  unfold Builtin.List.listLengthHint
  refine wpAny_bind (wpAny_specialOf hT nolen_rt ?_)
  show wpAny _ _ (specialOf (Value.ref it) (Str.ofString "__length_hint__") >>= _) _ _ _
  refine wpAny_bind (wpAny_specialOf hT hint_rt ?_)
  generalize hid : ("reversed.__length_hint__" : String) = id0
  wp_delta
  rw [show splitId id0 = some ("reversed", "__length_hint__") from by subst hid; decide +kernel]
  subst hid
  refine wpAny_bind (wpAny_isInstance (b := true) hT (by rw [isSubtype_type]; kernel_rfl) ?_)
  rw [if_neg (by decide)]
  dsimp only
  rw [if_neg (by decide +kernel)]
  refine wpAny_bind (wpAny_rule ?_)
  refine wpAny_bind (wpAny_of_eq (slot_rt_hint.bind _) ?_)
  try dsimp only
  refine wpAny_bind (wpAny_attempt (wpAny_call_entry slot_rt_hint hT entry_rt_hint ?_ (args_rt_hint _)))
  unfold Builtin.«reversed.__length_hint__»
  refine wpAny_bind (wpAny_of_eq (a := Value.ref it) rfl ?_)
  try dsimp only
  refine wpAny_bind (wpAny_field ho hd (x := .ref t) rfl ?_)
  try dsimp only
  rw [if_neg (show ¬ ((Value.ref t == Value.none) = true) from Bool.false_ne_true)]
  refine wpAny_bind (len_tuple ht (by first | exact hsz | omega) ?_)
  refine wpAny_bind (wpAny_of_eq (a := some ((items.size : Nat) : Int)) rfl ?_)
  try dsimp only
  refine wpAny_bind (wpAny_field (s := { s with toks := s.toks + 1 + 1 }) ho hd (x := rawInt ((items.size : Int) - 1)) rfl ?_)
  show wpAny _ _ (if (items.size : Int) < (items.size : Int) - 1 + 1 then _ else _) _ _ _
  rw [if_neg (by omega)]
  unfold retInt
  refine wpAny_bind (wpAny_mkInt ?_)
  refine wpAny_pure ⟨_, rfl, ?_⟩
  try dsimp only
  refine wpAny_bind (wpAny_of_eq (a := some ((items.size : Int) - 1 + 1)) rfl ?_)
  try dsimp only
  rw [show (items.size : Int) - 1 + 1 = ((items.size : Nat) : Int) by omega]
  rw [if_neg (by
    have : Builtin.List.listFitsIndex ((items.size : Nat) : Int) = true := by
      unfold Builtin.List.listFitsIndex
      rw [Bool.and_eq_true, decide_eq_true_iff, decide_eq_true_iff]
      omega
    rw [this]; decide), if_neg (by omega), if_neg (by
    have : Builtin.List.listTooLong ((items.size : Nat) : Int).toNat = false := by
      unfold Builtin.List.listTooLong
      rw [sizeLine_eq]
      exact decide_eq_false (by omega)
    rw [this]; decide)]
  exact wpAny_pure (h _ _ (by show s.toks ≤ s.toks + 1 + 1 + 1; omega))
theorem len_lri {it : Addr} {Q : Bool → Shared → Prop} (hT : s.TypeIs (.ref it) "list_reverseiterator") (h : ∀ b tk, s.toks ≤ tk → Q b { s with toks := tk }) : wpAny (model prog w) A (Builtin.List.listLengthHint (.ref it)) Q E s := by
  unfold Builtin.List.listLengthHint
  refine wpAny_bind (wpAny_specialOf hT nolen_lri ?_)
  show wpAny _ _ (specialOf (Value.ref it) (Str.ofString "__length_hint__") >>= _) _ _ _
  refine wpAny_bind (wpAny_specialOf hT hint_lri ?_)
  generalize hid : ("list_reverseiterator.__length_hint__" : String) = id0
  wp_delta
  rw [show splitId id0 = some ("list_reverseiterator", "__length_hint__") from by subst hid; decide +kernel]
  subst hid
  refine wpAny_bind (wpAny_isInstance (b := true) hT (by rw [isSubtype_type]; kernel_rfl) ?_)
  exact wpAny_pure (h false s.toks (Nat.le_refl _))
/-- a list laid out anew, taken from such a walk -/
theorem extend_rev {R : Result → Shared → Prop} {T : String} {it src : Addr} {n : Nat} {P : Nat → Value → Prop} {St : Nat → Shared → Prop} (S : Addr) (res : Value) (c₀ : Nat)
    (W : WalksS prog w A.in1 it [it, src] [it] (fun a b => b = a) n P St) (hn : n ≤ sizeLine) (hS : s.heap.get? S = some { cls := .type "list", data := .seq #[] c₀ }) (hst : St 0 s) (hSi : S ≠ it) (hSt : S ≠ src)
    (hT : ∀ s : Shared, St 0 s → s.TypeIs (.ref it) T) (hTl : T = "reversed" ∨ T = "list_reverseiterator")
    (hlen : ∀ (A : Around) (E : Value → Shared → Prop) (Q : Bool → Shared → Prop) (s : Shared), St 0 s → (∀ b tk, s.toks ≤ tk → Q b { s with toks := tk }) → wpAny (model prog w) A (Builtin.List.listLengthHint (.ref it)) Q E s)
    (hR : ∀ h' tk acc' c', (∀ b o, b ≠ S → b ≠ it → s.heap.get? b = some o → h'.get? b = some o) → h'.get? S = some { cls := .type "list", dict := none, data := .seq acc' c', slots := #[] } →
      ItemsOf P acc' n → R (.ok (.ret res)) { s with heap := h', toks := tk }) :
    wpAny (model prog w) A.in1 (Builtin.List.listExtendWith (.ref S) (.ref it) res)
      (fun fin s' => match fin with | .done f => R (.ok f) s' | .again c' => c'.quiet = true ∧ codeAny (model prog w) A c' R s') (fun e s' => R (.error e) s') s := by
  have hSf : S ∉ [it, src] := by simp only [List.mem_cons, List.not_mem_nil, or_false, not_or]; exact ⟨hSi, hSt⟩
  have h1 : Builtin.List.listSameRef (.ref S) (.ref it) = false := by simp [Builtin.List.listSameRef, hSi]
  unfold Builtin.List.listExtendWith
  refine wpAny_bind (wpAny_typeOf (hT s hst) ?_)
  rw [if_neg (by rw [h1]; rcases hTl with rfl | rfl <;> decide)]
  refine wpAny_bind (W.self 0 s _ _ hst ?_)
  refine wpAny_bind (wpAny_holding ?_)
  refine hlen _ _ _ s hst fun b tk htk => ?_
  have hst1 : St 0 { s with toks := tk } := W.frame 0 s s.heap tk hst htk fun _ _ _ e => e
  have fin : ∀ (h : Heap) (c₁ : Nat), (∀ b o, b ≠ S → s.heap.get? b = some o → h.get? b = some o) → h.get? S = some { cls := .type "list", data := .seq #[] c₁ } →
      codeAny (model prog w) A (.builtin "list.extend.loop" ⟨[.ref S, .ref it, res], []⟩) R { s with heap := h, toks := tk } := fun h c₁ hk hS1 => by
    refine codeAny_extend_loopS W hn _ hSf _ n 0 _ _ _ rfl (Nat.zero_le _) (W.frame 0 s h tk hst htk fun b hb o e => hk b o (fun z => hSf (z ▸ hb)) e) hS1 (ItemsOf.nil _) fun s2 acc' c' hm hS' hacc => ?_
    rw [Moved.eq_with hm]
    refine hR s2.heap s2.toks acc' c' (fun b o hb hb2 e => hm.heap b o (fun hmem => ?_) (hk b o hb e)) hS' hacc
    rcases List.mem_cons.mp hmem with e' | hmem
    · exact hb e'
    · exact hb2 (List.mem_singleton.mp hmem)
  refine wpAny_ite_split (fun _ => ?_) (fun _ => wpAny_pure ⟨plainId_quiet F.plain_extend_loop _, fin _ c₀ (fun b o _ e => e) hS⟩)
  refine wpAny_bind (wpAny_rule ?_)
  refine wpAny_bind ?_
  show wpAny _ _ (updateSeq S (·.push .none) >>= fun _ => updateSeq S (·.pop)) _ _ _
  refine wpAny_bind (wpAny_updateSeq (s := { s with toks := tk }) hS rfl ?_)
  have hS₂ := Heap.get?_update_self (Obj.mapSeq (·.push Value.none)) hS rfl
  refine wpAny_updateSeq (hz := by seq_fits) hS₂ rfl ?_
  have hS₃ := Heap.get?_update_self (Obj.mapSeq (·.pop)) hS₂ rfl
  refine wpAny_pure ⟨plainId_quiet F.plain_extend_loop _, fin _ _ (fun b o hb e => ?_) hS₃⟩
  exact (Heap.get?_update_other _ _ (Ne.symm hb)).trans ((Heap.get?_update_other _ _ (Ne.symm hb)).trans e)
/-- tuple(it) -/
theorem collect_rt {R : List Value → Shared → Prop} {T : String} {it src : Addr} {n : Nat} {P : Nat → Value → Prop} {St : Nat → Shared → Prop}
    (W : WalksS prog w A.in1 it [it, src] [it] (fun a b => b = a) n P St) (hn : n ≤ sizeLine) (hst : St 0 s) (hi : it < s.heap.objs.size) (ht : src < s.heap.objs.size)
    (hT : ∀ s : Shared, St 0 s → s.TypeIs (.ref it) T) (hTl : T = "reversed" ∨ T = "list_reverseiterator")
    (hlen : ∀ (A : Around) (E : Value → Shared → Prop) (Q : Bool → Shared → Prop) (s : Shared), St 0 s → (∀ b tk, s.toks ≤ tk → Q b { s with toks := tk }) → wpAny (model prog w) A (Builtin.List.listLengthHint (.ref it)) Q E s)
    (hQ : ∀ (h' : Heap) (tk : Nat) (acc : Array Value), (∀ b o, b ≠ it → s.heap.get? b = some o → h'.get? b = some o) → ItemsOf P acc n → R acc.toList { s with heap := h', toks := tk }) :
    wpAny (model prog w) A (collect (.ref it)) R E s := by
  unfold collect
  refine wpAny_bind (wpAny_runValue (codeAny_builtin F.entry_proto_collect ?_))
  rw [Around.under_plainId F.plain_proto_collect _]
  show wpAny _ A.in1 (newList [] >>= fun l' => again (.builtin "list.__iadd__" ⟨[l', .ref it], []⟩)) _ _ s
  refine wpAny_bind (wpAny_newObj_type ?_)
  refine wpAny_pure ⟨plainId_quiet F.plain_list_iadd _, codeAny_builtin F.entry_list_iadd ?_⟩
  rw [Around.under_plainId F.plain_list_iadd _]
  have hS₁ : (s.heap.push { cls := .type "list", data := .seq ([] : List Value).toArray }).get? s.heap.objs.size = some { cls := .type "list", data := .seq ([] : List Value).toArray } := Heap.get?_push_size _ rfl
  have k1 : ∀ b o, s.heap.get? b = some o → (s.heap.push { cls := .type "list", data := .seq ([] : List Value).toArray }).get? b = some o := fun b o e => Heap.get?_push_of_some _ e
  show wpAny _ A.in1 (Builtin.List.listExtendWith (.ref s.heap.objs.size) (.ref it) (.ref s.heap.objs.size)) _ _ _
  have key := extend_rev (s := { s with heap := s.heap.push { cls := .type "list", data := .seq ([] : List Value).toArray } }) (A := A)
    (R := fun (q : Result) (s' : Shared) => ∃ (h' : Heap) (tk : Nat) (acc' : Array Value) (c' : Nat), q = .ok (.ret (.ref s.heap.objs.size)) ∧ s' = { s with heap := h', toks := tk } ∧
      (∀ b o, b ≠ it → s.heap.get? b = some o → h'.get? b = some o) ∧ h'.get? s.heap.objs.size = some { cls := .type "list", dict := none, data := .seq acc' c', slots := #[] } ∧ ItemsOf P acc' n)
    s.heap.objs.size (.ref s.heap.objs.size) _ W hn hS₁ (W.frame 0 s _ s.toks hst (Nat.le_refl _) fun b _ o e => k1 b o e) (Nat.ne_of_gt hi) (Nat.ne_of_gt ht) hT hTl hlen
    (fun h' tk acc' c' hk hS' hacc => ⟨h', tk, acc', c', rfl, rfl, fun b o hb e => hk b o (Nat.ne_of_lt (Heap.lt_size e)) hb (k1 b o e), hS', hacc⟩)
  refine wpAny_mono key (fun fin s' x => ?_) fun e s' x => ?_
  · cases fin with
    | done f =>
      obtain ⟨h', tk, acc', c', e, rfl, hk, hS', hacc⟩ := x
      cases e
      show wpAny _ A (load s.heap.objs.size >>= _) _ _ _
      refine wpAny_bind (wpAny_load hS' ?_)
      exact wpAny_pure (hQ h' tk acc' hk hacc)
    | again c₁ =>
      refine ⟨x.1, codeAny_mono x.2 fun q s₂ y => ?_⟩
      obtain ⟨h', tk, acc', c', rfl, rfl, hk, hS', hacc⟩ := y
      show wpAny _ A (load s.heap.objs.size >>= _) _ _ _
      refine wpAny_bind (wpAny_load hS' ?_)
      exact wpAny_pure (hQ h' tk acc' hk hacc)
  · obtain ⟨h', tk, acc', c', e, _⟩ := x
    cases e
theorem code_tuple_new_rt {R : Value → Shared → Prop} {it src : Addr} {n : Nat} {P : Nat → Value → Prop} {St : Nat → Shared → Prop}
    (W : ∀ A : Around, A.handled = none → WalksS prog w A it [it, src] [it] (fun a b => b = a) n P St) (hh : A.handled = none) (hn : n ≤ sizeLine) (hst : St 0 s) (hi : it < s.heap.objs.size) (ht : src < s.heap.objs.size)
    (hT : ∀ s : Shared, St 0 s → s.TypeIs (.ref it) "reversed")
    (hlen : ∀ (A : Around) (E : Value → Shared → Prop) (Q : Bool → Shared → Prop) (s : Shared), St 0 s → (∀ b tk, s.toks ≤ tk → Q b { s with toks := tk }) → wpAny (model prog w) A (Builtin.List.listLengthHint (.ref it)) Q E s)
    (h : ∀ (h' : Heap) (tk : Nat) (acc : Array Value), (∀ b o, b ≠ it → s.heap.get? b = some o → h'.get? b = some o) → ItemsOf P acc n → R (.ref h'.objs.size) { s with heap := h'.push { cls := .type "tuple", data := .seq acc }, toks := tk }) :
    codeAny (model prog w) A (.call (.builtin "tuple.__new__") ⟨[.type "tuple", .ref it], []⟩) (wants R E) s := by
  refine codeAny_of_tree ?_
  show wpAny _ A.in1 (do checkBuiltinCall "tuple.__new__" ⟨[.type "tuple", .ref it], []⟩; again (.builtin "tuple.__new__" ⟨[.type "tuple", .ref it], []⟩)) _ _ s
  refine wpAny_bind (wpAny_of_eq (F.newCall_tuple_1 _) (wpAny_pure ⟨plainId_quiet F.plain_tuple_new _, codeAny_builtin F.entry_tuple_new ?_⟩))
  rw [Around.under_plainId F.plain_tuple_new _]
  have hsub := sub_tuple_self
  have hinit := init_tuple_lookup
  have hmh := madeHere_tuple
  have hTI : s.TypeIs (.ref it) "reversed" := hT s hst
  wp_walk using wpAny_typeOf hTI, collect_rt (A := A.in1) (W A.in1.in1 hh) hn hst hi ht hT (.inl rfl) hlen
  intro h' tk acc hk hacc
  show wpAny _ _ (Builtin.Tuple.tupleExact acc.toList.toArray >>= fun v => ret v) _ _ _
  unfold Builtin.Tuple.tupleExact
  refine wpAny_bind (wpAny_newObj_type ?_ (by show acc.toList.toArray.size ≤ sizeLine; simp only [Array.toArray_toList]; rw [hacc.1]; exact hn))
  refine wpAny_pure ?_
  have e : acc.toList.toArray = acc := by simp
  rw [e]
  exact h h' tk acc hk hacc
theorem call_tuple_rt {Q : Value → Shared → Prop} {it src : Addr} {n : Nat} {P : Nat → Value → Prop} {St : Nat → Shared → Prop}
    (W : ∀ A : Around, A.handled = none → WalksS prog w A it [it, src] [it] (fun a b => b = a) n P St) (hh : A.handled = none) (hn : n ≤ sizeLine) (hst : St 0 s) (hi : it < s.heap.objs.size) (ht : src < s.heap.objs.size)
    (hT : ∀ s : Shared, St 0 s → s.TypeIs (.ref it) "reversed")
    (hlen : ∀ (A : Around) (E : Value → Shared → Prop) (Q : Bool → Shared → Prop) (s : Shared), St 0 s → (∀ b tk, s.toks ≤ tk → Q b { s with toks := tk }) → wpAny (model prog w) A (Builtin.List.listLengthHint (.ref it)) Q E s)
    (hQ : ∀ (h' : Heap) (tk : Nat) (acc : Array Value), (∀ b o, b ≠ it → s.heap.get? b = some o → h'.get? b = some o) → ItemsOf P acc n → Q (.ref h'.objs.size) { s with heap := h'.push { cls := .type "tuple", data := .seq acc }, toks := tk }) :
    wpAny (model prog w) A (call (.type "tuple") [.ref it]) Q E s := by
  refine callType_codes (Q₁ := fun obj s₁ => s₁.TypeIs obj "tuple" ∧ Q obj s₁) F.called_tuple (F.typeCall_tuple_1 _) F.entry_object_init
    (code_tuple_new_rt (A := A.in1) W hh hn hst hi ht hT hlen fun h' tk acc hk hacc => ⟨⟨_, Heap.get?_push_size _ rfl, rfl⟩, hQ h' tk acc hk hacc⟩) fun obj s₁ h₁ => ?_
  exact ⟨h₁.1, F.args_object_init_2 obj _, object_init_meets F.called_tuple.init.lookup F.called_tuple.made (by decide) prog w A.in1 _ s₁ ⟨h₁.1, rfl, h₁.2⟩⟩
theorem list_init_rev {R : Result → Shared → Prop} {it src : Addr} {n : Nat} {P : Nat → Value → Prop} {St : Nat → Shared → Prop} (S : Addr)
    (W : WalksS prog w A.in1 it [it, src] [it] (fun a b => b = a) n P St) (hn : n ≤ sizeLine) (hS : s.heap.get? S = some { cls := .type "list", data := .seq #[] }) (hst : St 0 s) (hSi : S ≠ it) (hSt : S ≠ src)
    (hT : ∀ s : Shared, St 0 s → s.TypeIs (.ref it) "list_reverseiterator")
    (hR : ∀ h' tk acc' c', (∀ b o, b ≠ S → b ≠ it → s.heap.get? b = some o → h'.get? b = some o) → h'.get? S = some { cls := .type "list", dict := none, data := .seq acc' c', slots := #[] } →
      ItemsOf P acc' n → R (.ok (.ret .none)) { s with heap := h', toks := tk }) :
    wpAny (model prog w) A.in1 (Builtin.«list.__init__» ⟨[.ref S, .ref it], []⟩)
      (fun fin s' => match fin with | .done f => R (.ok f) s' | .again c' => c'.quiet = true ∧ codeAny (model prog w) A c' R s') (fun e s' => R (.error e) s') s := by
  show wpAny _ _ (do let old ← Builtin.List.listItems (.ref S); Builtin.List.listUpdate (.ref S) (fun _ => #[]); letGo old.toList.reverse; Builtin.List.listExtendWith (.ref S) (.ref it) .none) _ _ s
  refine wpAny_bind ?_
  unfold Builtin.List.listItems
  refine wpAny_bind (wpAny_seqItems hS rfl (wpAny_pure ?_))
  show wpAny _ _ (updateSeq S (fun _ => #[]) >>= fun _ => letGo (#[] : Array Value).toList.reverse >>= fun _ => Builtin.List.listExtendWith (.ref S) (.ref it) .none) _ _ s
  refine wpAny_bind (wpAny_updateSeq hS rfl ?_)
  have hS₂ := Heap.get?_update_self (Obj.mapSeq (fun _ => (#[] : Array Value))) hS rfl
  have oth : ∀ b o, b ≠ S → s.heap.get? b = some o → (s.heap.update S (Obj.mapSeq (fun _ => (#[] : Array Value)))).get? b = some o :=
    fun b o hb e => (Heap.get?_update_other _ _ (Ne.symm hb)).trans e
  refine wpAny_bind (wpAny_letGo ?_)
  refine extend_rev (s := { s with heap := _ }) S .none _ W hn hS₂ (W.frame 0 s _ s.toks hst (Nat.le_refl _) fun b hb o e => oth b o (fun z => ?_) e) hSi hSt hT (.inr rfl) (fun A E Q s q k => len_lri (hT s q) k) fun h' tk acc' c' hk hS' hacc => ?_
  · subst z
    rcases List.mem_cons.mp hb with e | hb
    · exact hSi e
    · exact hSt (List.mem_singleton.mp hb)
  · exact hR h' tk acc' c' (fun b o hb hb2 e => hk b o hb hb2 (oth b o hb e)) hS' hacc
theorem call_list_rev {Q : Value → Shared → Prop} {it src : Addr} {n : Nat} {P : Nat → Value → Prop} {St : Nat → Shared → Prop}
    (W : WalksS prog w A.in1.in1 it [it, src] [it] (fun a b => b = a) n P St) (hn : n ≤ sizeLine) (hst : St 0 s) (hi : it < s.heap.objs.size) (ht : src < s.heap.objs.size)
    (hT : ∀ s : Shared, St 0 s → s.TypeIs (.ref it) "list_reverseiterator")
    (hQ : ∀ h' tk acc' c', (∀ b o, b ≠ it → s.heap.get? b = some o → h'.get? b = some o) →
      h'.get? s.heap.objs.size = some { cls := .type "list", dict := none, data := .seq acc' c', slots := #[] } → ItemsOf P acc' n → Q (.ref s.heap.objs.size) { s with heap := h', toks := tk }) :
    wpAny (model prog w) A (call (.type "list") [.ref it]) Q E s := by
  refine callType_codes (Q₁ := fun obj s₁ => obj = .ref s.heap.objs.size ∧ s₁ = { s with heap := s.heap.push { cls := .type "list", data := .seq #[] } }) PySem.F.called_list (PySem.F.typeCall_list_1 _) PySem.F.entry_list_init
    (code_list_new _ ⟨rfl, rfl⟩) fun obj s₁ h₁ => ?_
  obtain ⟨rfl, rfl⟩ := h₁
  have hS : (s.heap.push { cls := .type "list", data := .seq #[] }).get? s.heap.objs.size = some { cls := .type "list", data := .seq #[] } := Heap.get?_push_size _ rfl
  have k1 : ∀ b o, s.heap.get? b = some o → (s.heap.push { cls := .type "list", data := .seq #[] }).get? b = some o := fun b o e => Heap.get?_push_of_some _ e
  refine ⟨⟨_, hS, rfl⟩, PySem.F.args_list_init_2 _ _, list_init_rev (s := { s with heap := _ }) (A := A.in1) _ W hn hS (W.frame 0 s _ s.toks hst (Nat.le_refl _) fun b _ o e => k1 b o e) (Nat.ne_of_gt hi) (Nat.ne_of_gt ht) hT (fun h' tk acc' c' hk hS' hacc => ?_)⟩
  exact ⟨rfl, hQ h' tk acc' c' (fun b o hb e => hk b o (Nat.ne_of_lt (Heap.lt_size e)) hb (k1 b o e)) hS' hacc⟩
end
/-- tuple(reversed(x)), x a tuple: a new tuple -/
def tTupRevT (K : PySem.W.Frag) (te : TE) : TE := fun σ H Q => te σ H fun v H1 => ∃ (a : Addr) (xs : List V), v = .ref a ∧ SqT K H1 a xs ∧ ∀ q, H1 q = none → Q (.ref q) (upd H1 q (.tup xs.reverse))
/-- list(reversed(x)), x a list: a new list -/
def tLstRev (K : PySem.W.Frag) (te : TE) : TE := fun σ H Q => te σ H fun v H1 => ∃ (a : Addr) (xs : List V), v = .ref a ∧ SqL K H1 a xs ∧ ∀ q, H1 q = none → Q (.ref q) (upd H1 q (.lst xs.reverse))
section
variable {X : Cx}
theorem pe_tupRevT {e : Expr} {te : TE} {p p2 pos pos2 : Pos} (hc : X.calm = true) (hg : Gl X "tuple") (hm : X.mg "tuple" = none) (hg2 : Gl X "reversed") (hm2 : X.mg "reversed" = none) (he : PE X e te)
    (hs : starEach [e] X.env = (false, eval e X.env) :: starEach [] X.env := by rfl)
    (hs2 : starEach [.Call (.Name "reversed" p2) [e] [] pos2] X.env = (false, eval (.Call (.Name "reversed" p2) [e] [] pos2) X.env) :: starEach [] X.env := by rfl) :
    PE X (.Call (.Name "tuple" p) [.Call (.Name "reversed" p2) [e] [] pos2] [] pos) (tTupRevT X.K te) := by
  refine ⟨fun pins s σ H Q I h => ?_⟩
  refine Call_ (ld_blt I hg hm boot_tuple (PyProof.Rows.callWith_type1 (args_cons (Call_ (ld_blt I hg2 hm2 PyProof.Rows.boot_reversed (PyProof.Rows.callWith_type1 (args_cons (thn (he.run pins s σ H _ I h) fun u s1 ⟨v, H1, I1, r1, q1⟩ => args_nil ?_) hs) hs rfl))) hs2) hs2 rfl))
  obtain ⟨a, xs, ev, hq, q⟩ := q1
  subst ev
  obtain rfl : u = Value.ref a := r1
  obtain ⟨its, rv, p', hz⟩ := I1.tuple hq
  have hl := rv.length
  have hn0 := line63
  have hn : its.toArray.size ≤ sizeLine := by rw [List.size_toArray, ← rv.length]; exact hz
  refine call_reversed_tup p' (fun A E Q k => len_tuple p' (by simp only [List.size_toArray] <;> omega) k) (args_nil ?_)
  have k0 : ∀ b o, s1.heap.get? b = some o → (s1.heap.push (rtObj a ((its.toArray.size : Int) - 1))).get? b = some o := fun b o e => Heap.get?_push_of_some _ e
  have I2 : Inv X pins σ H1 { s1 with heap := s1.heap.push (rtObj a ((its.toArray.size : Int) - 1)), toks := s1.toks + 1 + 1 } := I1.kept (t' := s1.toks + 1 + 1) k0
  obtain ⟨f0, f1, f2, f3, f4, f5⟩ := I1.fpOk (H' := H1) (b := s1.heap.objs.size) (Nat.le_refl _) (I1.hok.fresh (Nat.le_refl _))
  obtain ⟨ol, hol, htl⟩ := id p'
  have hla := Heap.lt_size hol
  have hne : a ≠ s1.heap.objs.size := Nat.ne_of_lt hla
  have e0 : ((its.toArray.size : Nat) : Int) - 1 - ((0 : Nat) : Int) = (its.toArray.size : Int) - 1 := by omega
  refine call_tuple_rt (s := { s1 with heap := s1.heap.push (rtObj a ((its.toArray.size : Int) - 1)), toks := s1.toks + 1 + 1 }) (fun A hA => walks_rt hA s1.heap.objs.size a hne its.toArray hn) (I1.ok.hd hc) hn
    ⟨Nat.zero_le _, by rw [e0]; exact ⟨_, Heap.get?_push_size _ rfl, rfl, rfl⟩, ⟨ol, k0 _ _ hol, htl⟩⟩ (by show _ < (s1.heap.push _).objs.size; rw [Heap.size_push]; exact Nat.lt_succ_self _) (by show _ < (s1.heap.push _).objs.size; rw [Heap.size_push]; exact Nat.lt_succ_of_lt hla)
    (fun s st => st.2.1.typeIs) (fun A E Q s st k => len_rt (by have := st.2.1; rw [e0] at this; exact this) st.2.2 hn k) fun h' tk acc hk hi => ?_
  have I3 : Inv X pins σ H1 { s1 with heap := h', toks := tk } := I2.turned (t' := tk) (fun b o hb e => hk b o hb e) f0 f1 f3 f4 f5
  refine ⟨.ref h'.objs.size, upd H1 h'.objs.size (.tup xs.reverse), I3.laid (t' := tk) (fun c o e => Heap.get?_push_of_some _ e) (Nat.le_refl _) (show ObjOk X.prog X.w _ _ _ (.tup xs.reverse) from ⟨by rw [List.length_reverse]; exact hz, acc.toList, vals_rev rv hi, ?_⟩), rfl, q _ (I3.hok.fresh (Nat.le_refl _))⟩
  rw [Array.toArray_toList]
  exact IsTup.new _ _
theorem pe_lstRev {e : Expr} {te : TE} {p p2 pos pos2 : Pos} (hc : X.calm = true) (hg : Gl X "list") (hm : X.mg "list" = none) (hg2 : Gl X "reversed") (hm2 : X.mg "reversed" = none) (he : PE X e te)
    (hs : starEach [e] X.env = (false, eval e X.env) :: starEach [] X.env := by rfl)
    (hs2 : starEach [.Call (.Name "reversed" p2) [e] [] pos2] X.env = (false, eval (.Call (.Name "reversed" p2) [e] [] pos2) X.env) :: starEach [] X.env := by rfl) :
    PE X (.Call (.Name "list" p) [.Call (.Name "reversed" p2) [e] [] pos2] [] pos) (tLstRev X.K te) := by
  refine ⟨fun pins s σ H Q I h => ?_⟩
  refine Call_ (ld_blt I hg hm boot_list (PyProof.Rows.callWith_type1 (args_cons (Call_ (ld_blt I hg2 hm2 PyProof.Rows.boot_reversed (PyProof.Rows.callWith_type1 (args_cons (thn (he.run pins s σ H _ I h) fun u s1 ⟨v, H1, I1, r1, q1⟩ => args_nil ?_) hs) hs rfl))) hs2) hs2 rfl))
  obtain ⟨a, xs, ev, hq, q⟩ := q1
  subst ev
  obtain rfl : u = Value.ref a := r1
  obtain ⟨its, rv, p', hz⟩ := I1.list hq
  refine call_reversed_list p'.isList (args_nil ?_)
  have k0 : ∀ b o, s1.heap.get? b = some o → (s1.heap.push (revObj a ((its.toArray.size : Int) - 1))).get? b = some o := fun b o e => Heap.get?_push_of_some _ e
  have I2 : Inv X pins σ H1 { s1 with heap := s1.heap.push (revObj a ((its.toArray.size : Int) - 1)) } := I1.kept (t' := s1.toks) k0
  obtain ⟨f0, f1, f2, f3, f4, f5⟩ := I1.fpOk (H' := H1) (b := s1.heap.objs.size) (Nat.le_refl _) (I1.hok.fresh (Nat.le_refl _))
  have hl := p'.isList
  obtain ⟨ol, hol, _⟩ := id hl
  have hla := Heap.lt_size hol
  have hne : a ≠ s1.heap.objs.size := Nat.ne_of_lt hla
  have hn : its.toArray.size ≤ sizeLine := by rw [List.size_toArray, ← rv.length]; exact hz
  have e0 : ((its.toArray.size : Nat) : Int) - 1 - ((0 : Nat) : Int) = (its.toArray.size : Int) - 1 := by omega
  have sz : (s1.heap.push (revObj a ((its.toArray.size : Int) - 1))).objs.size = s1.heap.objs.size + 1 := Heap.size_push ..
  refine call_list_rev (s := { s1 with heap := s1.heap.push (revObj a ((its.toArray.size : Int) - 1)) }) ((Walks.listRev (A := X.A.in1.in1) (I1.ok.hd hc) s1.heap.objs.size a hne its.toArray).toS) hn
    ⟨Nat.zero_le _, by rw [e0]; exact ⟨_, Heap.get?_push_size _ rfl, rfl, rfl⟩, hl.push _⟩ (by show _ < (s1.heap.push _).objs.size; rw [sz]; exact Nat.lt_succ_self _) (by show _ < (s1.heap.push _).objs.size; rw [sz]; exact Nat.lt_succ_of_lt hla)
    (fun s st => Heap.IsRevIter.typeIs st.2.1) fun h' tk acc' c' hk hS' hi => ?_
  have hS2 : h'.get? (s1.heap.push (revObj a ((its.toArray.size : Int) - 1))).objs.size = some { cls := .type "list", data := .seq acc'.toList.toArray c' } := by rw [Array.toArray_toList]; exact hS'
  have I3 := Inv.turnedNew (h' := h') (t' := tk) (ch := [s1.heap.objs.size]) (T := (s1.heap.push (revObj a ((its.toArray.size : Int) - 1))).objs.size) (ob := .lst xs.reverse) I2 (fun b o hb e => hk b o (fun z => hb (z ▸ List.mem_singleton.mpr rfl)) e) (fun b hb => by rw [List.mem_singleton.mp hb]; exact I1.fpOk (H' := H1) (b := s1.heap.objs.size) (Nat.le_refl _) (I1.hok.fresh (Nat.le_refl _)))
    (Nat.le_refl _) (show ObjOk X.prog X.w _ _ _ (.lst xs.reverse) from ⟨by rw [List.length_reverse]; exact hz, acc'.toList, c', vals_rev rv hi, hS2⟩)
  exact ⟨.ref _, upd H1 _ (.lst xs.reverse), I3, rfl, q _ (I1.hok.fresh (by rw [sz]; exact Nat.le_succ _))⟩
theorem kx_tupRevT {K : PySem.W.Frag} {e : Expr} {te : TE} {p p2 pos pos2 : Pos} (h : X.K = K) (hc : X.calm = true) (hg : Gl X "tuple") (hm : X.mg "tuple" = none) (hg2 : Gl X "reversed") (hm2 : X.mg "reversed" = none) (he : PE X e te)
    (hs : starEach [e] X.env = (false, eval e X.env) :: starEach [] X.env := by rfl)
    (hs2 : starEach [.Call (.Name "reversed" p2) [e] [] pos2] X.env = (false, eval (.Call (.Name "reversed" p2) [e] [] pos2) X.env) :: starEach [] X.env := by rfl) :
    PE X (.Call (.Name "tuple" p) [.Call (.Name "reversed" p2) [e] [] pos2] [] pos) (tTupRevT K te) := by subst h; exact pe_tupRevT hc hg hm hg2 hm2 he hs hs2
theorem kx_lstRev {K : PySem.W.Frag} {e : Expr} {te : TE} {p p2 pos pos2 : Pos} (h : X.K = K) (hc : X.calm = true) (hg : Gl X "list") (hm : X.mg "list" = none) (hg2 : Gl X "reversed") (hm2 : X.mg "reversed" = none) (he : PE X e te)
    (hs : starEach [e] X.env = (false, eval e X.env) :: starEach [] X.env := by rfl)
    (hs2 : starEach [.Call (.Name "reversed" p2) [e] [] pos2] X.env = (false, eval (.Call (.Name "reversed" p2) [e] [] pos2) X.env) :: starEach [] X.env := by rfl) :
    PE X (.Call (.Name "list" p) [.Call (.Name "reversed" p2) [e] [] pos2] [] pos) (tLstRev K te) := by subst h; exact pe_lstRev hc hg hm hg2 hm2 he hs hs2
end
end Rv
namespace Dl
open PySem PySem.Spec PyProof.Rows L2
section
variable {K : PySem.W.Frag} {pen : Pc} {H0 : Hp} {L : Lv} {P : PyData → Prop} {te : TE}
theorem e_tupRevT (h : E K pen H0 te L fun d => ∃ ds, d = .tuple ds ∧ P (.tuple ds.reverse)) : E K pen H0 (Rv.tTupRevT K te) L P := fun σ G H e Q q =>
  h σ G H e _ fun v d G1 H1 go hd ⟨ds, hds, p⟩ => by
    subst hds
    cases hd with
    | tup hs ha =>
      rename_i a xs
      refine ⟨a, xs, rfl, sqT_mono go.vw.vw hs, fun r hr => ?_⟩
      have g2 := Go.new go.vw (o := .tup xs.reverse) hr
      exact q _ _ _ _ (go.trans g2) (.tup (.inl (.inl upd_same)) (dpa_mono g2.gg _ _ (dpa_rev ha))) p
theorem e_lstRev (h : E K pen H0 te L fun d => ∃ ds, d = .list ds ∧ P (.list ds.reverse)) : E K pen H0 (Rv.tLstRev K te) L P := fun σ G H e Q q =>
  h σ G H e _ fun v d G1 H1 go hd ⟨ds, hds, p⟩ => by
    subst hds
    cases hd with
    | lst hs ha =>
      rename_i a xs
      refine ⟨a, xs, rfl, sqL_mono go.vw.vw hs, fun r hr => ?_⟩
      have g2 := Go.new go.vw (o := .lst xs.reverse) hr
      exact q _ _ _ _ (go.trans g2) (.lst (.inl (.inl upd_same)) (dpa_mono g2.gg _ _ (dpa_rev ha))) p
end
end Dl

set_option Elab.async false
set_option linter.all false
set_option maxRecDepth 100000
set_option maxHeartbeats 2000000
namespace Rg
open PySem PySem.Spec PyProof.Rows L2 Dl
section
variable {X : Cx} {ps : List Str} {sp : Sp} {k : Nat} {f : Addr} {fd : FuncData} {CX : CXT} {ds : List Value} {dvs : List V} {E : XK} {t : TA} {e : Expr} {es : List Expr} {x : Str} {p pos : Pos}
theorem run_fnG {pins : List (Addr × Obj)} {σ : L2.St} {H : Hp} {s : Shared} {Q : VK} {us : List Value} {vs : List V} (F : FnG X.prog X.w X.K X.mg X.base CX k f fd ps sp) (hg : X.A.guards = some []) (hr : Room k X.A) (hb : Binds X.K fd ps ds) (hd : Vals dvs ds) (hx : Passes CX X E)
    (I : Inv X pins σ H s) (r : Vals vs us) (h : sp (vs ++ dvs) H Q E) : wpAny (model X.prog X.w) X.A (call (.ref f) us) (EP X pins σ Q) X.xe s := by
  have r2 : Vals (vs ++ dvs) (us ++ ds) := r.append hd
  have hl : (us ++ ds).length = ps.length := by rw [← r2.length]; exact F.ln _ _ _ _ h
  refine wpAny_call (codeAny_mono (F.go X.A X.stack s H ⟨us, []⟩ (us ++ ds) (vs ++ dvs) Q E hg hr I.env0 (hb s us I.kIn hl) r2 h) fun r s' hq => ?_)
  cases r with
  | error e => exact hx pins σ H s e s' I hq
  | ok fl =>
    cases fl with
    | ret u => exact I.after hq
    | next => exact False.elim hq
    | brk => exact False.elim hq
    | cont => exact False.elim hq
theorem pe_callG (F : FnG X.prog X.w X.K X.mg X.base CX k f fd ps sp) (hgu : X.A.guards = some []) (hr : Room k X.A) (hg : Gl X x) (hm : X.mg x = some (.ref f)) (hk : PySem.W.keepIn X.K (.ref f) = true) (hb : Binds X.K fd ps ds) (hd : Vals dvs ds) (hx : Passes CX X E)
    (ha : PA X (e :: es) t) (hdb : (x == ("__debug__" : Str)) = false := by decide) (he : starEach (e :: es) X.env = (false, eval e X.env) :: starEach es X.env := by rfl) (hpl : (backTo pos (starEach es X.env)).any (·.1) = false := by rfl) :
    PE X (.Call (.Name x p) (e :: es) [] pos) (tCall sp dvs E t) := by
  refine ⟨fun pins s σ H Q I h => ?_⟩
  refine wpAny_Call_Name_kw (ld_glob I hg hm ?_ hdb)
  refine PySem.W.callWith_K (h₀ := X.base) I.ok.mod.kin hk (thn (ha.run pos pins s σ H _ I h) fun us s1 ⟨vs, H1, I1, r, q⟩ => ⟨I1.kIn, ?_⟩) he hpl
  exact run_fnG F hgu hr hb hd hx I1 r q
end
end Rg

set_option Elab.async false
set_option linter.all false
set_option maxRecDepth 100000
namespace K35
open PySem PySem.Spec PyProof.Rows L2 Dl Wm
def topS (i : Nat) : Stmt := PySem.Challenge.pw_warmove_k35_never_and_two_looked_at.main.body.getD i (.Pass ⟨0, 0, 0, 0⟩)
abbrev s_is_rising : Stmt := topS 5
theorem sc_is_rising : FnScope ["things", "one", "other"] ["things"] (defScope s_is_rising) := ⟨rfl, rfl, rfl, by decide +kernel, rfl, by decide +kernel, by decide +kernel⟩
abbrev s_is_whole : Stmt := topS 7
theorem sc_is_whole : FnScope ["thing"] ["thing"] (defScope s_is_whole) := ⟨rfl, rfl, rfl, by decide +kernel, rfl, by decide +kernel, by decide +kernel⟩
abbrev s_is_whole_within : Stmt := topS 8
theorem sc_is_whole_within : FnScope ["thing", "least", "most"] ["thing", "least", "most"] (defScope s_is_whole_within) := ⟨rfl, rfl, rfl, by decide +kernel, rfl, by decide +kernel, by decide +kernel⟩
abbrev s_is_tuple_of : Stmt := topS 9
theorem sc_is_tuple_of : FnScope ["thing", "many"] ["thing", "many"] (defScope s_is_tuple_of) := ⟨rfl, rfl, rfl, by decide +kernel, rfl, by decide +kernel, by decide +kernel⟩
abbrev s_are_letters : Stmt := topS 12
theorem sc_are_letters : FnScope ["thing", "letters", "letter"] ["thing", "letters"] (defScope s_are_letters) := ⟨rfl, rfl, rfl, by decide +kernel, rfl, by decide +kernel, by decide +kernel⟩
abbrev s_is_state : Stmt := topS 13
theorem sc_is_state : FnScope ["book", "thing", "old", "new", "letters", "rules"] ["book", "thing"] (defScope s_is_state) := ⟨rfl, rfl, rfl, by decide +kernel, rfl, by decide +kernel, by decide +kernel⟩
abbrev s_can_be_done : Stmt := topS 14
theorem sc_can_be_done : FnScope ["rule", "state", "house", "at", "heard", "to", "said"] ["rule", "state"] (defScope s_can_be_done) := ⟨rfl, rfl, rfl, by decide +kernel, rfl, by decide +kernel, by decide +kernel⟩
abbrev s_letters_with : Stmt := topS 15
theorem sc_letters_with : FnScope ["letters", "said"] ["letters", "said"] (defScope s_letters_with) := ⟨rfl, rfl, rfl, by decide +kernel, rfl, by decide +kernel, by decide +kernel⟩
abbrev s_state_by : Stmt := topS 16
theorem sc_state_by : FnScope ["rule", "state", "house", "at", "heard", "to", "said", "old", "new", "by_old", "by_new"] ["rule", "state"] (defScope s_state_by) := ⟨rfl, rfl, rfl, by decide +kernel, rfl, by decide +kernel, by decide +kernel⟩
abbrev s_states_along : Stmt := topS 17
theorem sc_states_along : FnScope ["book", "steps", "rules", "states", "step"] ["book", "steps"] (defScope s_states_along) := ⟨rfl, rfl, rfl, by decide +kernel, rfl, by decide +kernel, by decide +kernel⟩
abbrev s_stand_behind : Stmt := topS 18
theorem sc_stand_behind : FnScope ["book", "steps"] ["book", "steps"] (defScope s_stand_behind) := ⟨rfl, rfl, rfl, by decide +kernel, rfl, by decide +kernel, by decide +kernel⟩
abbrev s_running_houses : Stmt := topS 19
theorem sc_running_houses : FnScope ["book", "state", "house"] ["book", "state"] (defScope s_running_houses) := ⟨rfl, rfl, rfl, by decide +kernel, rfl, by decide +kernel, by decide +kernel⟩
abbrev s_runs_twice : Stmt := topS 20
theorem sc_runs_twice : FnScope ["book", "state"] ["book", "state"] (defScope s_runs_twice) := ⟨rfl, rfl, rfl, by decide +kernel, rfl, by decide +kernel, by decide +kernel⟩
abbrev s_ways_from : Stmt := topS 21
theorem sc_ways_from : FnScope ["book", "state", "step", "rule"] ["book", "state"] (defScope s_ways_from) := ⟨rfl, rfl, rfl, by decide +kernel, rfl, by decide +kernel, by decide +kernel⟩
abbrev s_reached_from : Stmt := topS 22
theorem sc_reached_from : FnScope ["book", "first", "limit", "came", "due", "at", "state", "step", "behind"] ["book", "first", "limit"] (defScope s_reached_from) := ⟨rfl, rfl, rfl, by decide +kernel, rfl, by decide +kernel, by decide +kernel⟩
abbrev s_steps_to : Stmt := topS 23
theorem sc_steps_to : FnScope ["came", "state", "steps", "step"] ["came", "state"] (defScope s_steps_to) := ⟨rfl, rfl, rfl, by decide +kernel, rfl, by decide +kernel, by decide +kernel⟩
abbrev s_two_run : Stmt := topS 24
theorem sc_two_run : FnScope ["book", "limit", "came", "state"] ["book", "limit"] (defScope s_two_run) := ⟨rfl, rfl, rfl, by decide +kernel, rfl, by decide +kernel, by decide +kernel⟩
abbrev s_closes : Stmt := topS 25
theorem sc_closes : FnScope ["book", "first", "some", "held", "state", "step", "behind"] ["book", "first", "some"] (defScope s_closes) := ⟨rfl, rfl, rfl, by decide +kernel, rfl, by decide +kernel, by decide +kernel⟩
abbrev s_end_of : Stmt := topS 26
theorem sc_end_of : FnScope ["book", "steps"] ["book", "steps"] (defScope s_end_of) := ⟨rfl, rfl, rfl, by decide +kernel, rfl, by decide +kernel, by decide +kernel⟩
abbrev s_is_two_run : Stmt := topS 27
theorem sc_is_two_run : FnScope ["book", "thing", "word", "shown", "end", "state"] ["book", "thing"] (defScope s_is_two_run) := ⟨rfl, rfl, rfl, by decide +kernel, rfl, by decide +kernel, by decide +kernel⟩
abbrev s_law_stir : Stmt := topS 29
theorem sc_law_stir : FnScope ["cell", "k", "one"] ["cell", "k"] (defScope s_law_stir) := ⟨rfl, rfl, rfl, by decide +kernel, rfl, by decide +kernel, by decide +kernel⟩
abbrev s_law_some : Stmt := topS 30
theorem sc_law_some : FnScope ["cell", "many", "found", "left", "great", "k"] ["cell", "many"] (defScope s_law_some) := ⟨rfl, rfl, rfl, by decide +kernel, rfl, by decide +kernel, by decide +kernel⟩
abbrev s_law_cell : Stmt := topS 31
theorem sc_law_cell : FnScope ["script", "k"] ["script", "k"] (defScope s_law_cell) := ⟨rfl, rfl, rfl, by decide +kernel, rfl, by decide +kernel, by decide +kernel⟩
abbrev s_law_chain : Stmt := topS 32
theorem sc_law_chain : FnScope ["turns", "letters", "rules", "turn", "giver", "letter"] ["turns", "letters"] (defScope s_law_chain) := ⟨rfl, rfl, rfl, by decide +kernel, rfl, by decide +kernel, by decide +kernel⟩
abbrev s_law_rule : Stmt := topS 33
theorem sc_law_rule : FnScope ["some", "many", "letters", "house", "heard", "said"] ["some", "many", "letters"] (defScope s_law_rule) := ⟨rfl, rfl, rfl, by decide +kernel, rfl, by decide +kernel, by decide +kernel⟩
abbrev s_law_book : Stmt := topS 34
theorem sc_law_book : FnScope ["script", "some", "turns", "letters", "rules", "many", "k", "cell", "one", "old", "new", "stand"] ["script"] (defScope s_law_book) := ⟨rfl, rfl, rfl, by decide +kernel, rfl, by decide +kernel, by decide +kernel⟩
abbrev s_law_can : Stmt := topS 35
theorem sc_law_can : FnScope ["state", "rule"] ["state", "rule"] (defScope s_law_can) := ⟨rfl, rfl, rfl, by decide +kernel, rfl, by decide +kernel, by decide +kernel⟩
abbrev s_law_comes : Stmt := topS 36
theorem sc_law_comes : FnScope ["state", "rule", "found", "said"] ["state", "rule"] (defScope s_law_comes) := ⟨rfl, rfl, rfl, by decide +kernel, rfl, by decide +kernel, by decide +kernel⟩
abbrev s_law_running : Stmt := topS 37
theorem sc_law_running : FnScope ["book", "state", "house"] ["book", "state"] (defScope s_law_running) := ⟨rfl, rfl, rfl, by decide +kernel, rfl, by decide +kernel, by decide +kernel⟩
abbrev s_law_all : Stmt := topS 38
theorem sc_law_all : FnScope ["book", "most", "found", "known", "at", "rule", "other"] ["book", "most"] (defScope s_law_all) := ⟨rfl, rfl, rfl, by decide +kernel, rfl, by decide +kernel, by decide +kernel⟩
abbrev s_law_along : Stmt := topS 39
theorem sc_law_along : FnScope ["book", "steps", "states", "one"] ["book", "steps"] (defScope s_law_along) := ⟨rfl, rfl, rfl, by decide +kernel, rfl, by decide +kernel, by decide +kernel⟩
abbrev s_law_walk : Stmt := topS 40
theorem sc_law_walk : FnScope ["book", "some", "state", "steps", "one", "can", "k", "rule"] ["book", "some"] (defScope s_law_walk) := ⟨rfl, rfl, rfl, by decide +kernel, rfl, by decide +kernel, by decide +kernel⟩
abbrev s_law_whole : Stmt := topS 41
theorem sc_law_whole : FnScope ["thing"] ["thing"] (defScope s_law_whole) := ⟨rfl, rfl, rfl, by decide +kernel, rfl, by decide +kernel, by decide +kernel⟩
abbrev s_law_is_letters : Stmt := topS 42
theorem sc_law_is_letters : FnScope ["book", "thing", "last", "one"] ["book", "thing"] (defScope s_law_is_letters) := ⟨rfl, rfl, rfl, by decide +kernel, rfl, by decide +kernel, by decide +kernel⟩
abbrev s_law_is_state : Stmt := topS 43
theorem sc_law_is_state : FnScope ["book", "thing", "house"] ["book", "thing"] (defScope s_law_is_state) := ⟨rfl, rfl, rfl, by decide +kernel, rfl, by decide +kernel, by decide +kernel⟩
abbrev s_law_closed : Stmt := topS 44
theorem sc_law_closed : FnScope ["book", "first", "things", "known", "one", "rule"] ["book", "first", "things"] (defScope s_law_closed) := ⟨rfl, rfl, rfl, by decide +kernel, rfl, by decide +kernel, by decide +kernel⟩
abbrev s_law_due : Stmt := topS 45
theorem sc_law_due : FnScope ["book", "thing", "states", "one"] ["book", "thing"] (defScope s_law_due) := ⟨rfl, rfl, rfl, by decide +kernel, rfl, by decide +kernel, by decide +kernel⟩
abbrev s_law_bent_state : Stmt := topS 46
theorem sc_law_bent_state : FnScope ["book", "state", "some", "old", "new", "first", "second", "odd"] ["book", "state", "some"] (defScope s_law_bent_state) := ⟨rfl, rfl, rfl, by decide +kernel, rfl, by decide +kernel, by decide +kernel⟩
abbrev s_law_bent : Stmt := topS 47
theorem sc_law_bent : FnScope ["book", "thing", "some", "word", "things", "at", "way", "other", "wrong", "after"] ["book", "thing", "some"] (defScope s_law_bent) := ⟨rfl, rfl, rfl, by decide +kernel, rfl, by decide +kernel, by decide +kernel⟩
abbrev s_law_gone_on : Stmt := topS 48
theorem sc_law_gone_on : FnScope ["book", "starts", "most", "found", "known", "one", "at", "rule", "other"] ["book", "starts", "most"] (defScope s_law_gone_on) := ⟨rfl, rfl, rfl, by decide +kernel, rfl, by decide +kernel, by decide +kernel⟩
abbrev s_law_letters : Stmt := topS 49
theorem sc_law_letters : FnScope ["book", "one", "k"] ["book", "one"] (defScope s_law_letters) := ⟨rfl, rfl, rfl, by decide +kernel, rfl, by decide +kernel, by decide +kernel⟩
abbrev s_law_start : Stmt := topS 50
theorem sc_law_start : FnScope ["book", "found", "some", "old", "new", "first", "second", "more", "stands"] ["book", "found", "some"] (defScope s_law_start) := ⟨rfl, rfl, rfl, by decide +kernel, rfl, by decide +kernel, by decide +kernel⟩
abbrev s_law_held : Stmt := topS 51
theorem sc_law_held : FnScope ["book", "thing", "kept", "told"] ["book", "thing"] (defScope s_law_held) := ⟨rfl, rfl, rfl, by decide +kernel, rfl, by decide +kernel, by decide +kernel⟩
abbrev s_law_odd_right : Stmt := topS 52
theorem sc_law_odd_right : FnScope ["book", "far", "odd", "thing", "rules", "great", "states", "at", "k"] ["book", "far"] (defScope s_law_odd_right) := ⟨rfl, rfl, rfl, by decide +kernel, rfl, by decide +kernel, by decide +kernel⟩
abbrev s_law : Stmt := topS 53
theorem sc_law : FnScope ["script", "book", "found", "told", "k", "some", "walk", "more", "thing", "bent"] ["script"] (defScope s_law) := ⟨rfl, rfl, rfl, by decide +kernel, rfl, by decide +kernel, by decide +kernel⟩
set_option maxHeartbeats 4000000 in
structure Tx (K : PySem.W.Frag) (mg : Str → Option Value) (base : Heap) where
  ts : List Addr
  f_is_rising : Addr
  k_is_rising : Addr
  p_is_rising : Addr
  d_is_rising : FuncData
  F_is_rising : FunC K "is_rising" "is_rising" s_is_rising f_is_rising d_is_rising k_is_rising
  b_is_rising : Binds K d_is_rising ["things"] []
  g_is_rising : mg "is_rising" = some (.ref f_is_rising)
  tb_is_rising : GxR.TabB base mg k_is_rising p_is_rising
  ti_is_rising : p_is_rising ∈ ts
  f_is_whole : Addr
  d_is_whole : FuncData
  F_is_whole : Fun K "is_whole" "is_whole" s_is_whole f_is_whole d_is_whole
  b_is_whole : Binds K d_is_whole ["thing"] []
  g_is_whole : mg "is_whole" = some (.ref f_is_whole)
  f_is_whole_within : Addr
  d_is_whole_within : FuncData
  F_is_whole_within : Fun K "is_whole_within" "is_whole_within" s_is_whole_within f_is_whole_within d_is_whole_within
  b_is_whole_within : Binds K d_is_whole_within ["thing", "least", "most"] []
  g_is_whole_within : mg "is_whole_within" = some (.ref f_is_whole_within)
  f_is_tuple_of : Addr
  d_is_tuple_of : FuncData
  F_is_tuple_of : Fun K "is_tuple_of" "is_tuple_of" s_is_tuple_of f_is_tuple_of d_is_tuple_of
  b_is_tuple_of : Binds K d_is_tuple_of ["thing", "many"] []
  g_is_tuple_of : mg "is_tuple_of" = some (.ref f_is_tuple_of)
  f_are_letters : Addr
  k_are_letters : Addr
  p_are_letters : Addr
  d_are_letters : FuncData
  F_are_letters : FunC K "are_letters" "are_letters" s_are_letters f_are_letters d_are_letters k_are_letters
  b_are_letters : Binds K d_are_letters ["thing", "letters"] []
  g_are_letters : mg "are_letters" = some (.ref f_are_letters)
  tb_are_letters : GxR.TabB base mg k_are_letters p_are_letters
  ti_are_letters : p_are_letters ∈ ts
  f_is_state : Addr
  d_is_state : FuncData
  F_is_state : Fun K "is_state" "is_state" s_is_state f_is_state d_is_state
  b_is_state : Binds K d_is_state ["book", "thing"] []
  g_is_state : mg "is_state" = some (.ref f_is_state)
  f_can_be_done : Addr
  d_can_be_done : FuncData
  F_can_be_done : Fun K "can_be_done" "can_be_done" s_can_be_done f_can_be_done d_can_be_done
  b_can_be_done : Binds K d_can_be_done ["rule", "state"] []
  g_can_be_done : mg "can_be_done" = some (.ref f_can_be_done)
  f_letters_with : Addr
  d_letters_with : FuncData
  F_letters_with : Fun K "letters_with" "letters_with" s_letters_with f_letters_with d_letters_with
  b_letters_with : Binds K d_letters_with ["letters", "said"] []
  g_letters_with : mg "letters_with" = some (.ref f_letters_with)
  f_state_by : Addr
  d_state_by : FuncData
  F_state_by : Fun K "state_by" "state_by" s_state_by f_state_by d_state_by
  b_state_by : Binds K d_state_by ["rule", "state"] []
  g_state_by : mg "state_by" = some (.ref f_state_by)
  f_states_along : Addr
  d_states_along : FuncData
  F_states_along : Fun K "states_along" "states_along" s_states_along f_states_along d_states_along
  b_states_along : Binds K d_states_along ["book", "steps"] []
  g_states_along : mg "states_along" = some (.ref f_states_along)
  f_stand_behind : Addr
  d_stand_behind : FuncData
  F_stand_behind : Fun K "stand_behind" "stand_behind" s_stand_behind f_stand_behind d_stand_behind
  b_stand_behind : Binds K d_stand_behind ["book", "steps"] []
  g_stand_behind : mg "stand_behind" = some (.ref f_stand_behind)
  f_running_houses : Addr
  d_running_houses : FuncData
  F_running_houses : Fun K "running_houses" "running_houses" s_running_houses f_running_houses d_running_houses
  b_running_houses : Binds K d_running_houses ["book", "state"] []
  g_running_houses : mg "running_houses" = some (.ref f_running_houses)
  f_runs_twice : Addr
  d_runs_twice : FuncData
  F_runs_twice : Fun K "runs_twice" "runs_twice" s_runs_twice f_runs_twice d_runs_twice
  b_runs_twice : Binds K d_runs_twice ["book", "state"] []
  g_runs_twice : mg "runs_twice" = some (.ref f_runs_twice)
  f_ways_from : Addr
  d_ways_from : FuncData
  F_ways_from : Fun K "ways_from" "ways_from" s_ways_from f_ways_from d_ways_from
  b_ways_from : Binds K d_ways_from ["book", "state"] []
  g_ways_from : mg "ways_from" = some (.ref f_ways_from)
  f_reached_from : Addr
  d_reached_from : FuncData
  F_reached_from : Fun K "reached_from" "reached_from" s_reached_from f_reached_from d_reached_from
  b_reached_from : Binds K d_reached_from ["book", "first", "limit"] []
  g_reached_from : mg "reached_from" = some (.ref f_reached_from)
  f_steps_to : Addr
  d_steps_to : FuncData
  F_steps_to : Fun K "steps_to" "steps_to" s_steps_to f_steps_to d_steps_to
  b_steps_to : Binds K d_steps_to ["came", "state"] []
  g_steps_to : mg "steps_to" = some (.ref f_steps_to)
  f_two_run : Addr
  d_two_run : FuncData
  F_two_run : FunT K "two_run" "two_run" s_two_run [.int 200] f_two_run d_two_run
  b_two_run : Binds K d_two_run ["book", "limit"] []
  u_two_run : List Value
  vd_two_run : Vals [V.int 200] u_two_run
  bd_two_run : Binds K d_two_run ["book", "limit"] u_two_run
  kg_two_run : List Value → List Value → List Value
  kb_two_run : KBn K d_two_run ["book", "limit"] 1 ["limit"] kg_two_run fun vs zs => vs ++ zs
  g_two_run : mg "two_run" = some (.ref f_two_run)
  f_closes : Addr
  k_closes : Addr
  p_closes : Addr
  d_closes : FuncData
  F_closes : FunC K "closes" "closes" s_closes f_closes d_closes k_closes
  b_closes : Binds K d_closes ["book", "first", "some"] []
  g_closes : mg "closes" = some (.ref f_closes)
  tb_closes : GxR.TabB base mg k_closes p_closes
  ti_closes : p_closes ∈ ts
  f_end_of : Addr
  d_end_of : FuncData
  F_end_of : Fun K "end_of" "end_of" s_end_of f_end_of d_end_of
  b_end_of : Binds K d_end_of ["book", "steps"] []
  g_end_of : mg "end_of" = some (.ref f_end_of)
  f_is_two_run : Addr
  k_is_two_run : Addr
  p_is_two_run : Addr
  d_is_two_run : FuncData
  F_is_two_run : FunC K "is_two_run" "is_two_run" s_is_two_run f_is_two_run d_is_two_run k_is_two_run
  b_is_two_run : Binds K d_is_two_run ["book", "thing"] []
  g_is_two_run : mg "is_two_run" = some (.ref f_is_two_run)
  tb_is_two_run : GxR.TabB base mg k_is_two_run p_is_two_run
  ti_is_two_run : p_is_two_run ∈ ts
  f_law_stir : Addr
  d_law_stir : FuncData
  F_law_stir : Fun K "_law_stir" "_law_stir" s_law_stir f_law_stir d_law_stir
  b_law_stir : Binds K d_law_stir ["cell", "k"] []
  g_law_stir : mg "_law_stir" = some (.ref f_law_stir)
  f_law_some : Addr
  d_law_some : FuncData
  F_law_some : Fun K "_law_some" "_law_some" s_law_some f_law_some d_law_some
  b_law_some : Binds K d_law_some ["cell", "many"] []
  g_law_some : mg "_law_some" = some (.ref f_law_some)
  f_law_cell : Addr
  d_law_cell : FuncData
  F_law_cell : Fun K "_law_cell" "_law_cell" s_law_cell f_law_cell d_law_cell
  b_law_cell : Binds K d_law_cell ["script", "k"] []
  g_law_cell : mg "_law_cell" = some (.ref f_law_cell)
  f_law_chain : Addr
  d_law_chain : FuncData
  F_law_chain : Fun K "_law_chain" "_law_chain" s_law_chain f_law_chain d_law_chain
  b_law_chain : Binds K d_law_chain ["turns", "letters"] []
  g_law_chain : mg "_law_chain" = some (.ref f_law_chain)
  f_law_rule : Addr
  d_law_rule : FuncData
  F_law_rule : Fun K "_law_rule" "_law_rule" s_law_rule f_law_rule d_law_rule
  b_law_rule : Binds K d_law_rule ["some", "many", "letters"] []
  g_law_rule : mg "_law_rule" = some (.ref f_law_rule)
  f_law_book : Addr
  d_law_book : FuncData
  F_law_book : Fun K "_law_book" "_law_book" s_law_book f_law_book d_law_book
  b_law_book : Binds K d_law_book ["script"] []
  g_law_book : mg "_law_book" = some (.ref f_law_book)
  f_law_can : Addr
  d_law_can : FuncData
  F_law_can : Fun K "_law_can" "_law_can" s_law_can f_law_can d_law_can
  b_law_can : Binds K d_law_can ["state", "rule"] []
  g_law_can : mg "_law_can" = some (.ref f_law_can)
  f_law_comes : Addr
  d_law_comes : FuncData
  F_law_comes : Fun K "_law_comes" "_law_comes" s_law_comes f_law_comes d_law_comes
  b_law_comes : Binds K d_law_comes ["state", "rule"] []
  g_law_comes : mg "_law_comes" = some (.ref f_law_comes)
  f_law_running : Addr
  d_law_running : FuncData
  F_law_running : Fun K "_law_running" "_law_running" s_law_running f_law_running d_law_running
  b_law_running : Binds K d_law_running ["book", "state"] []
  g_law_running : mg "_law_running" = some (.ref f_law_running)
  f_law_all : Addr
  d_law_all : FuncData
  F_law_all : Fun K "_law_all" "_law_all" s_law_all f_law_all d_law_all
  b_law_all : Binds K d_law_all ["book", "most"] []
  g_law_all : mg "_law_all" = some (.ref f_law_all)
  f_law_along : Addr
  d_law_along : FuncData
  F_law_along : Fun K "_law_along" "_law_along" s_law_along f_law_along d_law_along
  b_law_along : Binds K d_law_along ["book", "steps"] []
  g_law_along : mg "_law_along" = some (.ref f_law_along)
  f_law_walk : Addr
  d_law_walk : FuncData
  F_law_walk : Fun K "_law_walk" "_law_walk" s_law_walk f_law_walk d_law_walk
  b_law_walk : Binds K d_law_walk ["book", "some"] []
  g_law_walk : mg "_law_walk" = some (.ref f_law_walk)
  f_law_whole : Addr
  d_law_whole : FuncData
  F_law_whole : Fun K "_law_whole" "_law_whole" s_law_whole f_law_whole d_law_whole
  b_law_whole : Binds K d_law_whole ["thing"] []
  g_law_whole : mg "_law_whole" = some (.ref f_law_whole)
  f_law_is_letters : Addr
  d_law_is_letters : FuncData
  F_law_is_letters : Fun K "_law_is_letters" "_law_is_letters" s_law_is_letters f_law_is_letters d_law_is_letters
  b_law_is_letters : Binds K d_law_is_letters ["book", "thing"] []
  g_law_is_letters : mg "_law_is_letters" = some (.ref f_law_is_letters)
  f_law_is_state : Addr
  d_law_is_state : FuncData
  F_law_is_state : Fun K "_law_is_state" "_law_is_state" s_law_is_state f_law_is_state d_law_is_state
  b_law_is_state : Binds K d_law_is_state ["book", "thing"] []
  g_law_is_state : mg "_law_is_state" = some (.ref f_law_is_state)
  f_law_closed : Addr
  d_law_closed : FuncData
  F_law_closed : Fun K "_law_closed" "_law_closed" s_law_closed f_law_closed d_law_closed
  b_law_closed : Binds K d_law_closed ["book", "first", "things"] []
  g_law_closed : mg "_law_closed" = some (.ref f_law_closed)
  f_law_due : Addr
  d_law_due : FuncData
  F_law_due : Fun K "_law_due" "_law_due" s_law_due f_law_due d_law_due
  b_law_due : Binds K d_law_due ["book", "thing"] []
  g_law_due : mg "_law_due" = some (.ref f_law_due)
  f_law_bent_state : Addr
  d_law_bent_state : FuncData
  F_law_bent_state : Fun K "_law_bent_state" "_law_bent_state" s_law_bent_state f_law_bent_state d_law_bent_state
  b_law_bent_state : Binds K d_law_bent_state ["book", "state", "some"] []
  g_law_bent_state : mg "_law_bent_state" = some (.ref f_law_bent_state)
  f_law_bent : Addr
  d_law_bent : FuncData
  F_law_bent : Fun K "_law_bent" "_law_bent" s_law_bent f_law_bent d_law_bent
  b_law_bent : Binds K d_law_bent ["book", "thing", "some"] []
  g_law_bent : mg "_law_bent" = some (.ref f_law_bent)
  f_law_gone_on : Addr
  d_law_gone_on : FuncData
  F_law_gone_on : Fun K "_law_gone_on" "_law_gone_on" s_law_gone_on f_law_gone_on d_law_gone_on
  b_law_gone_on : Binds K d_law_gone_on ["book", "starts", "most"] []
  g_law_gone_on : mg "_law_gone_on" = some (.ref f_law_gone_on)
  f_law_letters : Addr
  d_law_letters : FuncData
  F_law_letters : Fun K "_law_letters" "_law_letters" s_law_letters f_law_letters d_law_letters
  b_law_letters : Binds K d_law_letters ["book", "one"] []
  g_law_letters : mg "_law_letters" = some (.ref f_law_letters)
  f_law_start : Addr
  d_law_start : FuncData
  F_law_start : Fun K "_law_start" "_law_start" s_law_start f_law_start d_law_start
  b_law_start : Binds K d_law_start ["book", "found", "some"] []
  g_law_start : mg "_law_start" = some (.ref f_law_start)
  f_law_held : Addr
  d_law_held : FuncData
  F_law_held : Fun K "_law_held" "_law_held" s_law_held f_law_held d_law_held
  b_law_held : Binds K d_law_held ["book", "thing"] []
  g_law_held : mg "_law_held" = some (.ref f_law_held)
  f_law_odd_right : Addr
  d_law_odd_right : FuncData
  F_law_odd_right : Fun K "_law_odd_right" "_law_odd_right" s_law_odd_right f_law_odd_right d_law_odd_right
  b_law_odd_right : Binds K d_law_odd_right ["book", "far"] []
  g_law_odd_right : mg "_law_odd_right" = some (.ref f_law_odd_right)
  C_NoStep : Addr
  gC_NoStep : mg "NoStep" = some (.ref C_NoStep)
  C_TooMany : Addr
  gC_TooMany : mg "TooMany" = some (.ref C_TooMany)
  xP_NoStep : PySem.W.excIn K C_NoStep [.type "ValueError", .type "Exception", .type "BaseException", .type "object"] "ValueError.__new__" = true
  kP_NoStep : PySem.W.keepIn K (.ref C_NoStep) = true
  bP_NoStep : PySem.W.subIn K (.ref C_NoStep) (.type "BaseException") = some true
  tP_NoStep : PySem.W.typeIn K (.ref C_NoStep) = some (.type "type")
  X_NoStep : ExcC K C_NoStep
  xP_TooMany : PySem.W.excIn K C_TooMany [.type "ValueError", .type "Exception", .type "BaseException", .type "object"] "ValueError.__new__" = true
  kP_TooMany : PySem.W.keepIn K (.ref C_TooMany) = true
  bP_TooMany : PySem.W.subIn K (.ref C_TooMany) (.type "BaseException") = some true
  tP_TooMany : PySem.W.typeIn K (.ref C_TooMany) = some (.type "type")
  X_TooMany : ExcC K C_TooMany
  e2 : PySem.W.exmOne K (.ref C_TooMany) (.ref C_TooMany) = some true
  e3 : PySem.W.exmOne K (.ref C_NoStep) (.ref C_NoStep) = some true
  a_FIRST : Addr
  c_FIRST : mg "FIRST" = some (.ref a_FIRST)
  D_FIRST : ∀ G : Hp, Dp K G (.ref a_FIRST) (.tuple [.int 0, .int 0, .tuple [], .tuple []])
  m_abs : mg "abs" = none
  m_all : mg "all" = none
  m_any : mg "any" = none
  m_bool : mg "bool" = none
  m_enumerate : mg "enumerate" = none
  m_int : mg "int" = none
  m_isinstance : mg "isinstance" = none
  m_len : mg "len" = none
  m_list : mg "list" = none
  m_range : mg "range" = none
  m_repr : mg "repr" = none
  m_reversed : mg "reversed" = none
  m_set : mg "set" = none
  m_sorted : mg "sorted" = none
  m_tuple : mg "tuple" = none
  m_zip : mg "zip" = none

local macro_rules | `(tactic| walk_at "e") => `(tactic| first
  | ((with_reducible refine e_var (by with_unfolding_all exact rfl) ?_))
  | with_reducible refine e_op ?_
  | with_reducible refine ea_cons ?_
  | with_reducible refine e_int ?_
  | ((with_reducible refine s_seq ?_); (try dsimp only [List.set]))
  | with_reducible refine ea_nil ?_
  | with_reducible refine s_ret ?_
  | with_reducible refine s_if ?_
  | with_reducible refine s_asg ?_
  | with_reducible refine e_bl ?_
  | with_reducible refine e_str ?_
  | with_reducible refine e_non ?_
  | with_reducible refine e_tup ?_
  | with_reducible refine e_lst ?_
  | ((with_reducible refine e_lenOwn (by with_unfolding_all exact rfl) ?_))
  | ((with_reducible refine e_tupOwn (by with_unfolding_all exact rfl) ?_))
  | ((with_reducible refine s_aug (by with_unfolding_all exact rfl) ?_); (try dsimp only [List.set]))
  | with_reducible refine r_ipI ?_
  | with_reducible refine e_un ?_
  | with_reducible refine r_neg ?_
  | with_reducible refine gws_cons ?_
  | with_reducible refine gws_nil ?_
  | with_reducible refine gw_tup rfl ?_
  | ((with_reducible refine gw_name (by decide) ?_); (try dsimp only [List.set]))
  | with_reducible refine e_isI ?_
  | with_reducible refine e_isB ?_
  | with_reducible refine e_isTu ?_
  | with_reducible refine e_isL ?_
  | with_reducible refine e_cb ?_
  | with_reducible refine e_sl ?_
  | with_reducible refine eo_none ?_
  | with_reducible refine eo_some ?_
  | with_reducible refine et_test ?_
  | with_reducible refine et_B ?_
  | with_reducible refine et_and ?_
  | with_reducible refine et_or ?_
  | with_reducible refine et_not ?_
  | with_reducible refine et_yes ?_
  | with_reducible refine e_andV ?_
  | with_reducible refine e_orV ?_
  | with_reducible refine e_notV ?_
  | with_reducible refine e_chain ?_
  | with_reducible refine e_callX ?_
  | with_reducible refine s_next ?_
  | ((with_reducible refine s_putOwn (by with_unfolding_all exact rfl) ?_ (by with_unfolding_all exact rfl)))
  | with_reducible refine s_asgG ?_
  | with_reducible refine g_name ?_
  | with_reducible refine g_tup rfl ?_
  | with_reducible refine gs_cons ?_
  | with_reducible refine gs_nil ?_
  | with_reducible refine r_lt ?_
  | with_reducible refine r_le ?_
  | with_reducible refine r_gt ?_
  | with_reducible refine r_ge ?_
  | with_reducible refine r_add ?_
  | with_reducible refine r_sub ?_
  | with_reducible refine r_eqI ?_
  | with_reducible refine r_eqS ?_
  | with_reducible refine r_eqB ?_
  | with_reducible refine r_neI ?_
  | with_reducible refine c_intB ?_
  | with_reducible refine c_len (Or.inl rfl) ?_
  | with_reducible refine c_len (Or.inr rfl) ?_
  | with_reducible refine c_list (Or.inl rfl) ?_
  | with_reducible refine c_list (Or.inr rfl) ?_
  | with_reducible refine c_tuple (Or.inl rfl) ?_
  | with_reducible refine c_tuple (Or.inr rfl) ?_
  | with_reducible refine r_ixT (by with_unfolding_all exact rfl) ?_
  | with_reducible refine r_ixL (by with_unfolding_all exact rfl) ?_
  | with_reducible refine r_slT ?_
  | with_reducible refine r_slL ?_
  | with_reducible refine r_isNone ?_
  | with_reducible refine r_notBl ?_
  | with_reducible refine ⟨_, rfl, ?_⟩
  | with_reducible refine And.intro (Nat.le_of_ble_eq_true rfl) ?_)
local macro_rules | `(tactic| walk_at "t") => `(tactic| first
  | walk_at "e"
  | refine r_modAny (by first | omega | decide) fun z z0 z1 => ?_
  | refine r_mul (by first | exact Or.inr ⟨by decide, by decide⟩ | exact Or.inl ⟨by decide, by decide⟩ | exact Or.inl ⟨by omega, by omega⟩) ?_
  | refine r_pow ⟨by decide, by decide, by decide⟩ ?_
  | refine r_fdivW (by first | assumption | (rename_i hw _; exact hw _) | exact wide_div (b := 200) (by decide) (by decide) (by decide) (by decide)) ?_
  | with_reducible refine And.intro (by omega) ?_)
local macro_rules | `(tactic| walk_at "k") => `(tactic| first
  | walk_at "e"
  | with_reducible refine ⟨fun hb => absurd hb (by decide +kernel), fun _ => ?_⟩
  | with_reducible refine ⟨fun _ => ?_, fun hb => absurd hb (by decide +kernel)⟩
  | refine ⟨fun hb => absurd hb Bool.false_ne_true, fun _ => ?_⟩
  | refine ⟨fun _ => ?_, fun hb => absurd hb.symm Bool.false_ne_true⟩)
local macro_rules | `(tactic| walk_at "d") => `(tactic| first
  | walk_at "k"
  | refine And.intro (show WfTake _ from ⟨by omega, by omega⟩) (take_all fun k hk => ?_))
local macro_rules | `(tactic| walk_at "o") => `(tactic| first
  | with_reducible refine s_ownList ?_
  | walk_at "d"
  | with_reducible refine ⟨_, Or.inl rfl, ?_⟩)
local macro_rules | `(tactic| walk_at "c") => `(tactic| first
  | with_reducible refine e_ofL (el_catL ?_)
  | with_reducible refine e_ofL (el_sortP ?_)
  | with_reducible refine e_ofL (el_sortSetP ?_)
  | with_reducible refine e_ofL (el_revL ?_)
  | walk_at "d")

section
variable {P : Program} {w : World} {K : PySem.W.Frag} {mg : Str → Option Value} {base : Heap}
theorem ok_is_whole (T : Tx K mg base) : FnOk P w K mg base CX0 1 T.f_is_whole T.d_is_whole ["thing"] (SpX (α := PyData) K T.ts (fun _ => True) (fun x => [x]) (fun x d => d = .bool (whole x))) := by
  refine fnX T.F_is_whole sc_is_whole (fun _ _ => rfl) (fun cdv A outer s H E hr => ⟨_, (pss_one (ps_ret (pe_and (pe_callB (kx_isi K rfl) (by rfl) T.m_isinstance (by decide +kernel) (pa_cons (pv 0) (pa_cons (pe_bltn (v := .ty "int") (by rfl) T.m_int (by decide +kernel) rfl) pa_nil))) (pe_one (pe_not (pe_callB (kx_isi K rfl) (by rfl) T.m_isinstance (by decide +kernel) (pa_cons (pv 0) (pa_cons (pe_bltn (v := .ty "bool") (by rfl) T.m_bool (by decide +kernel) rfl) pa_nil)))))))), fun x _ => ?_⟩)
  try simp only [nox_K, blk_K, cx_K]
  show S K ⟨none, T.ts⟩ H _ [some (.d _)] _
  cases x <;> (repeat walk_at "k") <;> rfl
theorem ok_is_whole_within (T : Tx K mg base) : FnOk P w K mg base CX0 2 T.f_is_whole_within T.d_is_whole_within ["thing", "least", "most"] (SpX (α := PyData × Int × Int) K T.ts (fun _ => True) (fun x => [x.1, .int x.2.1, .int x.2.2]) (fun x d => d = .bool (wholeIn x.1 x.2.1 x.2.2))) := by
  refine fnX T.F_is_whole_within sc_is_whole_within (fun _ _ => rfl) (fun cdv A outer s H E hr => ⟨_, (pss_one (ps_ret (pe_and (pe_call (ok_is_whole T) (hr.mono (by decide)) (by rfl) T.g_is_whole T.F_is_whole.kp T.b_is_whole .nil pass0 (pa_cons (pv 0) pa_nil)) (pe_one (pe_chain op_le op_le (pv 1) (pv 0) (pv 2)))))), fun x _ => ?_⟩)
  obtain ⟨x, lo, hi⟩ := x
  try simp only [nox_K, blk_K, cx_K]
  show S K ⟨none, T.ts⟩ H _ [some (.d _), some (.d _), some (.d _)] _
  repeat walk_at "k"
  refine ⟨trivial, ?_⟩
  rintro d rfl
  cases x with
  | int i =>
    repeat walk_at "k"
    show (decide (lo ≤ i) = true → _) ∧ (decide (lo ≤ i) = false → _)
    refine ⟨fun h => ?_, fun h => ?_⟩
    · repeat walk_at "k"
      show PyData.bool (decide (i ≤ hi)) = .bool (decide (lo ≤ i) && decide (i ≤ hi))
      rw [h]
      rfl
    · show PyData.bool false = .bool (decide (lo ≤ i) && decide (i ≤ hi))
      rw [h]
      rfl
  | _ =>
    repeat walk_at "k"
    rfl
theorem ok_is_tuple_of (T : Tx K mg base) : FnOk P w K mg base CX0 1 T.f_is_tuple_of T.d_is_tuple_of ["thing", "many"] (SpX (α := PyData × Int) K T.ts (fun _ => True) (fun x => [x.1, .int x.2]) (fun x d => d = .bool (tupOf x.1 x.2))) := by
  refine fnX T.F_is_tuple_of sc_is_tuple_of (fun _ _ => rfl) (fun cdv A outer s H E hr => ⟨_, (pss_one (ps_ret (pe_and (pe_callB (kx_isi K rfl) (by rfl) T.m_isinstance (by decide +kernel) (pa_cons (pv 0) (pa_cons (pe_bltn (v := .ty "tuple") (by rfl) T.m_tuple (by decide +kernel) rfl) pa_nil))) (pe_one (pe_cmpR op_eq (pe_callB (kx_len K rfl) (by rfl) T.m_len PySem.boot_len (pa_cons (pv 0) pa_nil)) (pv 1) (nomark _)))))), fun x _ => ?_⟩)
  obtain ⟨x, m⟩ := x
  try simp only [nox_K, blk_K, cx_K]
  show S K ⟨none, T.ts⟩ H _ [some (.d _), some (.d _)] _
  cases x <;> (repeat walk_at "k") <;> rfl
theorem nats_at {l : List Nat} {i : Nat} (h : i < l.length) : atI (natsD l) (i : Int) = some (.int ((l.getD i 0 : Nat) : Int)) := by
  refine atI_nat ?_
  unfold natsD
  rw [List.getElem?_map, List.getElem?_eq_getElem h, List.getD_eq_getElem?_getD, List.getElem?_eq_getElem h]
  rfl
theorem nats_len (l : List Nat) : (natsD l).length = l.length := List.length_map _
theorem nats_app (l : List Nat) (v : Nat) : natsD l ++ [.int (v : Int)] = natsD (l ++ [v]) := by unfold natsD; rw [List.map_append]; rfl
structure StA where
  c : Int
  k : Nat
abbrev spStir (K : PySem.W.Frag) (ts : List Addr) : Sp := SpX (α := StA) K ts (fun a => a.k ≤ 1000) (fun a => [.int a.c, .int a.k]) (fun _ d => ∃ q : Nat, d = .int (q : Int))
set_option maxHeartbeats 4000000 in
theorem ok_law_stir (T : Tx K mg base) : FnOk P w K mg base CX0 1 T.f_law_stir T.d_law_stir ["cell", "k"] (spStir K T.ts) := by
  refine fnX T.F_law_stir sc_law_stir (fun _ _ => rfl) (fun cdv A outer s H E hr => ⟨_, (pss_cons (ps_set (i := 2) sc_law_stir.nd rfl (.inl rfl) (pe_op op_mod (pe_op op_add (pe_op op_mod (pv 0) pe_int) (pe_op op_mul pe_int (pe_op op_add (pv 1) pe_int))) pe_int))
      (pss_cons (ps_set (i := 2) sc_law_stir.nd rfl (.inl rfl) (pe_op op_mod (pe_op op_mul (pv 2) (pv 2)) pe_int))
      (pss_cons (ps_set (i := 2) sc_law_stir.nd rfl (.inl rfl) (pe_op op_mod (pe_op op_add (pe_op op_mul (pv 2) pe_int) (pe_op op_mul pe_int (pe_op op_add (pv 1) pe_int))) pe_int))
      (pss_one (ps_ret (pe_op op_fdivW (pe_op op_mod (pe_op op_mul (pv 2) (pv 2)) pe_int) pe_int)))))), fun a ha => ?_⟩)
  obtain ⟨c, k⟩ := a
  dsimp only at ha
  try simp only [nox_K, blk_K, cx_K]
  show S K ⟨none, T.ts⟩ H _ [some (.d _), some (.d _), none] _
  have pos : ∀ (x m : Int), 0 < m → 0 ≤ x % m ∧ x % m < m := fun x m hm => ⟨Int.emod_nonneg _ (by omega), Int.emod_lt_of_pos _ hm⟩
  refine s_cut (fun L => ∃ x : Int, 0 ≤ x ∧ x < 1000000007 ∧ Sub [some (.d (.int c)), some (.d (.int (k : Int))), some (.d (.int x))] L) (s_asg ?_) fun L' ⟨x, hx1, hx2, sb⟩ => S.sub ?_ sb
  · repeat walk_at "e"
    refine r_mod (by decide) ?_
    repeat walk_at "e"
    refine r_mul (Or.inl ⟨by decide, by decide⟩) ?_
    repeat walk_at "e"
    refine r_mod (by decide) ?_
    obtain ⟨z1, z2⟩ := pos (c % 998244353 + 104729 * ((k : Int) + 1)) 1000000007 (by decide)
    exact ⟨_, z1, z2, Sub.refl _⟩
  refine s_cut (fun L => ∃ x : Int, 0 ≤ x ∧ x < 2147483647 ∧ Sub [some (.d (.int c)), some (.d (.int (k : Int))), some (.d (.int x))] L) (s_asg ?_) fun L' ⟨y, hy1, hy2, sb⟩ => S.sub ?_ sb
  · repeat walk_at "e"
    refine r_mul (i := x) (Or.inl ⟨by omega, by omega⟩) ?_
    repeat walk_at "e"
    refine r_mod (by decide) ?_
    obtain ⟨z1, z2⟩ := pos (x * x) 2147483647 (by decide)
    exact ⟨_, z1, z2, Sub.refl _⟩
  refine s_cut (fun L => ∃ x : Int, 0 ≤ x ∧ x < 2147483647 ∧ Sub [some (.d (.int c)), some (.d (.int (k : Int))), some (.d (.int x))] L) (s_asg ?_) fun L' ⟨u, hu1, hu2, sb⟩ => S.sub ?_ sb
  · repeat walk_at "e"
    refine r_mul (i := y) (Or.inl ⟨by omega, by omega⟩) ?_
    repeat walk_at "e"
    refine r_mul (Or.inl ⟨by decide, by decide⟩) ?_
    repeat walk_at "e"
    refine r_mod (by decide) ?_
    obtain ⟨z1, z2⟩ := pos (y * 48271 + 7907 * ((k : Int) + 2)) 2147483647 (by decide)
    exact ⟨_, z1, z2, Sub.refl _⟩
  repeat walk_at "e"
  refine r_mul (i := u) (Or.inl ⟨by omega, by omega⟩) ?_
  repeat walk_at "e"
  refine r_mod (by decide) ?_
  repeat walk_at "e"
  refine r_fdivW (wide_div (b := 200) (by decide) (by decide) (by decide) (by decide)) ?_
  obtain ⟨z1, z2⟩ := pos (u * u) 1000000007 (by decide)
  exact ⟨((u * u % 1000000007) / 16).toNat, by rw [Int.toNat_of_nonneg (Int.ediv_nonneg z1 (by decide))]⟩
structure SoA where
  c : Int
  many : Nat
abbrev spSome (K : PySem.W.Frag) (ts : List Addr) : Sp := SpX (α := SoA) K ts (fun a => a.many ≤ 1000) (fun a => [.int a.c, .int a.many]) (fun a d => ∃ l : List Nat, d = .list (natsD l) ∧ l.length = a.many)
abbrev LSo (c : Int) (many : Nat) (l : List Nat) (left : Int) (g : Bool) : Lv := [some (.d (.int c)), some (.d (.int many)), some (.own (.lst (natsD l))), some (.d (.int left)), some (.d (.bool g)), none]
set_option maxHeartbeats 4000000 in
theorem ok_law_some (T : Tx K mg base) : FnOk P w K mg base CX0 2 T.f_law_some T.d_law_some ["cell", "many"] (spSome K T.ts) := by
  refine fnX T.F_law_some sc_law_some (fun _ _ => rfl) (fun cdv A outer s H E hr => ⟨_, (pss_cons (ps_set (i := 2) sc_law_some.nd rfl (.inl rfl) (pe_lst pa_nil))
      (pss_cons (ps_set (i := 3) sc_law_some.nd rfl (.inl rfl) (pe_callB call_abs (by rfl) T.m_abs (by decide +kernel) (pa_cons (pv 0) pa_nil)))
      (pss_cons (ps_set (i := 4) sc_law_some.nd rfl (.inl rfl) (pe_cmpR op_ge (pv 3) (pe_op op_pow pe_int pe_int) (nomark _)))
      (pss_cons (ps_for PassesOwn.never rfl (pi_range1 rfl T.m_range (pa_cons (pv 1) pa_nil)) (pg_name (i := 5) sc_law_some.nd rfl (.inl rfl))
      (pss_one (ps_if (PW.pt (pw_and (pt_val (pv 4)) (pw_and1 (pt_cmpR op_gt (pv 3) pe_int (nomark _)))))
      (pss_cons (ps_expr (pe_bm PySem.F.plainAttrs_list PySem.F.slot_list_append PySem.F.type_list_append mt_append (pv 2) (pa_cons (pe_op op_mod (pv 3) pe_int) pa_nil)))
      (pss_one (ps_set (i := 3) sc_law_some.nd rfl (.inl rfl) (pe_op op_fdivW (pv 3) pe_int))))
      (pss_one (ps_expr (pe_bm PySem.F.plainAttrs_list PySem.F.slot_list_append PySem.F.type_list_append mt_append (pv 2) (pa_cons (pe_call (ok_law_stir T) (hr.mono (by decide)) (by rfl) T.g_law_stir T.F_law_stir.kp T.b_law_stir .nil pass0 (pa_cons (pv 0) (pa_cons (pv 5) pa_nil))) pa_nil)))))))
      (pss_one (ps_ret (pv 2))))))), fun a ha => ?_⟩)
  obtain ⟨c, many⟩ := a
  dsimp only at ha
  try simp only [nox_K, blk_K, cx_K]
  show S K ⟨none, T.ts⟩ H _ [some (.d _), some (.d _), none, none, none, none] _
  refine s_seq (s_ownNil ?_)
  dsimp only [List.set]
  refine s_seq (s_asg ?_)
  refine e_cb (ea_cons (e_var rfl (ea_nil (c_abs ?_))))
  dsimp only [List.set]
  obtain ⟨left0, hl0, hl1⟩ : ∃ x : Int, (if c < 0 then -c else c) = x ∧ 0 ≤ x := ⟨_, rfl, by split <;> omega⟩
  rw [hl0]
  refine s_seq (s_asg ?_)
  repeat walk_at "e"
  refine r_pow ⟨by decide, by decide, by decide⟩ ?_
  repeat walk_at "e"
  obtain ⟨g, hg⟩ : ∃ g : Bool, decide ((10 : Int) ^ (18 : Int).toNat ≤ left0) = g := ⟨_, rfl⟩
  rw [hg]
  refine s_forI (it_rng (ea_cons (e_var rfl (ea_nil ⟨(many : Int), rfl, by omega, by omega, fun i L => ∃ l left, l.length = i ∧ 0 ≤ left ∧ L = LSo c many l left g, ⟨_, Sub.refl _, [], left0, rfl, hl1, rfl⟩, fun i d L' hd ⟨l, left, e1, e2, e⟩ => ?_, fun L' ⟨l, left, e1, e2, e⟩ L4 s4 => ?_⟩))))
  · subst e
    obtain ⟨hi, rfl⟩ := rngL_get hd
    rw [Int.zero_add]
    rw [Int.toNat_natCast] at hi
    refine g_name ?_
    dsimp only [List.set]
    have other : ∀ D : Dn, (∀ L, Wk (fun i L => ∃ l left, l.length = i ∧ 0 ≤ left ∧ L = LSo c many l left g) (i + 1) L → D.nx L) → S K ⟨none, T.ts⟩ H (tDrop (tBM K "list" rAppend (tVar 2) (tCons (tCall (spStir K T.ts) [] E0 (tCons (tVar 0) (tCons (tVar 5) tNil))) tNil))) [some (.d (.int c)), some (.d (.int many)), some (.own (.lst (natsD l))), some (.d (.int left)), some (.d (.bool g)), some (.d (.int (i : Int)))] D := fun D hD => by
      refine s_appOwn rfl (by rw [nats_len]; omega) ?_
      repeat walk_at "e"
      refine ⟨⟨c, i⟩, rfl, by show i ≤ 1000; omega, ?_⟩
      rintro d ⟨q, rfl⟩
      rw [nats_app]
      exact hD _ ⟨LSo c many (l ++ [q]) left g, by repeat (first | exact Sub.nil | apply Sub.keep | apply Sub.drop), l ++ [q], left, by rw [List.length_append, e1]; rfl, e2, rfl⟩
    refine s_if ?_
    repeat walk_at "e"
    refine ⟨fun h => ?_, fun h => ⟨fun z => (by cases z), fun _ => other _ fun L h => h⟩⟩
    repeat walk_at "e"
    refine ⟨fun h2 => ?_, fun h2 => other _ fun L h => h⟩
    refine s_seq (s_appOwn rfl (by rw [nats_len]; omega) ?_)
    repeat walk_at "e"
    refine r_mod (by decide) ?_
    rw [show left % 10007 = (((left % 10007).toNat : Nat) : Int) from by rw [Int.toNat_of_nonneg (Int.emod_nonneg _ (by decide))], nats_app]
    dsimp only [List.set]
    repeat walk_at "e"
    refine r_fdivW (wide_div (b := 200) (by decide) (by decide) (by decide) (by decide)) ?_
    exact ⟨LSo c many (l ++ [(left % 10007).toNat]) (left / 10007) g, by repeat (first | exact Sub.nil | apply Sub.keep | apply Sub.drop), l ++ [(left % 10007).toNat], left / 10007, by rw [List.length_append, e1]; rfl, Int.ediv_nonneg e2 (by decide), rfl⟩
  · subst e
    rw [rngL_len, Int.toNat_natCast] at e1
    refine S.sub ?_ s4
    refine s_retL ?_
    dsimp only [lookL, lookA, List.map]
    repeat walk_at "e"
    exact e1
structure Rl where
  h : Nat
  a : Nat
  he : Option Nat
  t : Nat
  sa : Option Nat
def Rl.D (r : Rl) : PyData := .tuple [.int r.h, .int r.a, numD r.he, .int r.t, numD r.sa]
structure Rl.Ok (mo mn lt : Nat) (r : Rl) : Prop where
  h2 : r.h < 2
  a1 : r.a < if r.h = 1 then mn else mo
  t1 : r.t < if r.h = 1 then mn else mo
  he1 : ∀ v, r.he = some v → v < lt
  sa1 : ∀ v, r.sa = some v → v < lt
theorem Rl.Ok.mono {mo mn lt mo' mn' lt' : Nat} {r : Rl} (h : r.Ok mo mn lt) (h1 : mo ≤ mo') (h2 : mn ≤ mn') (h3 : lt ≤ lt') : r.Ok mo' mn' lt' := by
  have ha := h.a1
  have ht := h.t1
  refine ⟨h.h2, ?_, ?_, fun v e => Nat.lt_of_lt_of_le (h.he1 v e) h3, fun v e => Nat.lt_of_lt_of_le (h.sa1 v e) h3⟩
  · split at ha <;> rename_i q <;> simp only [q, if_true, if_false] <;> omega
  · split at ht <;> rename_i q <;> simp only [q, if_true, if_false] <;> omega
def rlsD (rs : List Rl) : List PyData := rs.map Rl.D
theorem rlsD_len (rs : List Rl) : (rlsD rs).length = rs.length := List.length_map _
structure ChA where
  turns : Nat
  letters : Nat
abbrev spChain (K : PySem.W.Frag) (ts : List Addr) : Sp := SpXN (α := ChA) K ts (fun a => a.turns ≤ 50 ∧ 1 ≤ a.letters ∧ a.letters ≤ 50) (fun a => [.int a.turns, .int a.letters]) (fun a o => ∃ rs : List Rl, o = .lst (rlsD rs) ∧ rs.length = 2 * a.turns ∧ ∀ r ∈ rs, r.Ok (a.turns + 1) (a.turns + 1) a.letters)
abbrev LCh (turns letters : Nat) (rs : List Rl) : Lv := [some (.d (.int turns)), some (.d (.int letters)), some (.own (.lst (rlsD rs))), none, none, none]
set_option maxHeartbeats 4000000 in
theorem ok_law_chain (T : Tx K mg base) : FnOk P w K mg base CX0 1 T.f_law_chain T.d_law_chain ["turns", "letters"] (spChain K T.ts) := by
  refine fnXN T.F_law_chain sc_law_chain (fun _ _ => rfl) (fun cdv A outer s H E hr => ⟨_, (pss_cons (ps_set (i := 2) sc_law_chain.nd rfl (.inl rfl) (pe_lst pa_nil))
      (pss_cons (ps_for PassesOwn.never rfl (pi_range1 rfl T.m_range (pa_cons (pv 0) pa_nil)) (pg_name (i := 3) sc_law_chain.nd rfl (.inl rfl))
      (pss_cons (ps_set (i := 4) sc_law_chain.nd rfl (.inl rfl) (pe_op op_mod (pv 3) pe_int))
      (pss_cons (ps_set (i := 5) sc_law_chain.nd rfl (.inl rfl) (pe_op op_mod (pe_op op_fdivW (pv 3) pe_int) (pv 1)))
      (pss_cons (ps_expr (pe_bm PySem.F.plainAttrs_list PySem.F.slot_list_append PySem.F.type_list_append mt_append (pv 2) (pa_cons (pe_tup (pa_cons (pv 4) (pa_cons (pv 3) (pa_cons pe_non (pa_cons (pe_op op_add (pv 3) pe_int) (pa_cons (pv 5) pa_nil)))))) pa_nil)))
      (pss_one (ps_expr (pe_bm PySem.F.plainAttrs_list PySem.F.slot_list_append PySem.F.type_list_append mt_append (pv 2) (pa_cons (pe_tup (pa_cons (pe_op op_sub pe_int (pv 4)) (pa_cons (pv 3) (pa_cons (pv 5) (pa_cons (pe_op op_add (pv 3) pe_int) (pa_cons pe_non pa_nil)))))) pa_nil))))))))
      (pss_one (ps_ret (pv 2))))), fun a ha => ?_⟩)
  obtain ⟨turns, letters⟩ := a
  obtain ⟨ht, hl1, hl2⟩ := ha
  dsimp only at ht hl1 hl2
  try simp only [nox_K, blk_K, cx_K]
  show S K ⟨none, T.ts⟩ H _ [some (.d _), some (.d _), none, none, none, none] _
  refine s_seq (s_ownNil ?_)
  dsimp only [List.set]
  refine s_seq (s_forI (it_rng (ea_cons (e_var rfl (ea_nil ⟨(turns : Int), rfl, by omega, by omega, fun i L => ∃ rs, rs.length = 2 * i ∧ (∀ r ∈ rs, r.Ok (turns + 1) (turns + 1) letters) ∧ L = LCh turns letters rs, ⟨_, Sub.refl _, [], rfl, fun r hr => (nomatch hr), rfl⟩, fun i d L' hd ⟨rs, e1, e2, e⟩ => ?_, fun L' ⟨rs, e1, e2, e⟩ L4 s4 => ?_⟩)))))
  · subst e
    obtain ⟨hi, rfl⟩ := rngL_get hd
    rw [Int.zero_add]
    rw [Int.toNat_natCast] at hi
    refine g_name ?_
    dsimp only [List.set]
    refine s_seq (s_asg ?_)
    repeat walk_at "e"
    refine r_mod (by decide) ?_
    rw [show ((i : Int) % 2) = ((i % 2 : Nat) : Int) from rfl]
    dsimp only [List.set]
    repeat walk_at "e"
    refine r_fdivW (wide_div (b := 200) (by decide) (by decide) (by decide) (by decide)) ?_
    repeat walk_at "e"
    refine r_mod (by omega) ?_
    rw [show ((i : Int) / 2 % (letters : Int)) = ((i / 2 % letters : Nat) : Int) from rfl]
    dsimp only [List.set]
    have hlt : i / 2 % letters < letters := Nat.mod_lt _ (by omega)
    have hg : i % 2 < 2 := Nat.mod_lt _ (by decide)
    refine s_seq (s_appOwn rfl (by rw [rlsD_len]; omega) ?_)
    repeat walk_at "e"
    rw [show ((i : Int) + 1) = ((i + 1 : Nat) : Int) by omega]
    rw [show rlsD rs ++ [PyData.tuple [.int ((i % 2 : Nat) : Int), .int (i : Int), .none, .int ((i + 1 : Nat) : Int), .int ((i / 2 % letters : Nat) : Int)]] = rlsD (rs ++ [⟨i % 2, i, none, i + 1, some (i / 2 % letters)⟩]) from by unfold rlsD; rw [List.map_append]; rfl]
    refine s_appOwn rfl (by rw [rlsD_len, List.length_append]; show rs.length + 1 < _; omega) ?_
    repeat walk_at "e"
    rw [show ((i : Int) + 1) = ((i + 1 : Nat) : Int) by omega, show (1 : Int) - ((i % 2 : Nat) : Int) = ((1 - i % 2 : Nat) : Int) by omega]
    rw [show rlsD (rs ++ [⟨i % 2, i, none, i + 1, some (i / 2 % letters)⟩]) ++ [PyData.tuple [.int ((1 - i % 2 : Nat) : Int), .int (i : Int), .int ((i / 2 % letters : Nat) : Int), .int ((i + 1 : Nat) : Int), .none]] = rlsD (rs ++ [⟨i % 2, i, none, i + 1, some (i / 2 % letters)⟩] ++ [⟨1 - i % 2, i, some (i / 2 % letters), i + 1, none⟩]) from by unfold rlsD; rw [List.map_append, List.map_append, List.map_append]; rfl]
    refine ⟨LCh turns letters _, by repeat (first | exact Sub.nil | apply Sub.keep | apply Sub.drop), _, by rw [List.length_append, List.length_append, e1]; show 2 * i + 1 + 1 = 2 * (i + 1); omega, fun r hr => ?_, rfl⟩
    rcases List.mem_append.mp hr with hr | hr
    · rcases List.mem_append.mp hr with hr | hr
      · exact e2 r hr
      · rw [List.mem_singleton.mp hr]
        exact ⟨hg, by dsimp only; split <;> omega, by dsimp only; split <;> omega, fun v e => (by cases e), fun v e => by cases e; exact hlt⟩
    · rw [List.mem_singleton.mp hr]
      exact ⟨by dsimp only; omega, by dsimp only; split <;> omega, by dsimp only; split <;> omega, fun v e => by cases e; exact hlt, fun v e => (by cases e)⟩
  · subst e
    rw [rngL_len, Int.toNat_natCast] at e1
    refine S.sub ?_ s4
    exact s_retO rfl ⟨rs, rfl, e1, e2⟩
structure RrA where
  l : List Nat
  mo : Nat
  mn : Nat
  lt : Nat
abbrev spRule (K : PySem.W.Frag) (ts : List Addr) : Sp := SpX (α := RrA) K ts (fun a => a.l.length = 9 ∧ 1 ≤ a.mo ∧ 1 ≤ a.mn ∧ 1 ≤ a.lt) (fun a => [.list (natsD a.l), .tuple [.int a.mo, .int a.mn], .int a.lt]) (fun a d => ∃ r : Rl, d = r.D ∧ r.Ok a.mo a.mn a.lt)
set_option maxHeartbeats 4000000 in
theorem ok_law_rule (T : Tx K mg base) : FnOk P w K mg base CX0 1 T.f_law_rule T.d_law_rule ["some", "many", "letters"] (spRule K T.ts) := by
  refine fnX T.F_law_rule sc_law_rule (fun _ _ => rfl) (fun cdv A outer s H E hr => ⟨_, (pss_cons (ps_set (i := 3) sc_law_rule.nd rfl (.inl rfl) (pe_op op_mod (pe_ix (kx_ixL K rfl) (pv 0) pe_int (fun _ _ => rfl)) pe_int))
      (pss_cons (ps_set (i := 4) sc_law_rule.nd rfl (.inl rfl) (pe_ix (kx_ixL K rfl) (pe_lst (pa_cons pe_non (pa_cons pe_non (pa_cons (pe_op op_mod (pe_ix (kx_ixL K rfl) (pv 0) pe_int (fun _ _ => rfl)) (pv 2)) pa_nil)))) (pe_op op_mod (pe_ix (kx_ixL K rfl) (pv 0) pe_int (fun _ _ => rfl)) pe_int) (fun _ _ => rfl)))
      (pss_cons (ps_set (i := 5) sc_law_rule.nd rfl (.inl rfl) (pe_ix (kx_ixL K rfl) (pe_lst (pa_cons pe_non (pa_cons (pe_op op_mod (pe_ix (kx_ixL K rfl) (pv 0) pe_int (fun _ _ => rfl)) (pv 2)) pa_nil))) (pe_op op_mod (pe_ix (kx_ixL K rfl) (pv 0) pe_int (fun _ _ => rfl)) pe_int) (fun _ _ => rfl)))
      (pss_one (ps_ret (pe_tup (pa_cons (pv 3) (pa_cons (pe_op op_mod (pe_ix (kx_ixL K rfl) (pv 0) pe_int (fun _ _ => rfl)) (pe_ix (kx_ixT K rfl) (pv 1) (pv 3) (fun _ _ => rfl))) (pa_cons (pv 4) (pa_cons (pe_op op_mod (pe_ix (kx_ixL K rfl) (pv 0) pe_int (fun _ _ => rfl)) (pe_ix (kx_ixT K rfl) (pv 1) (pv 3) (fun _ _ => rfl))) (pa_cons (pv 5) pa_nil))))))))))), fun a ha => ?_⟩)
  obtain ⟨l, mo, mn, lt⟩ := a
  obtain ⟨hl, hmo, hmn, hlt⟩ := ha
  dsimp only at hl hmo hmn hlt
  try simp only [nox_K, blk_K, cx_K]
  show S K ⟨none, T.ts⟩ H _ [some (.d _), some (.d _), some (.d _), none, none, none] _
  have modE : ∀ (x m : Nat), ((x : Int) % (m : Int)) = ((x % m : Nat) : Int) := fun _ _ => rfl
  refine s_seq (s_asg ?_)
  repeat walk_at "e"
  refine r_ixL (nats_at (i := 0) (by omega)) ?_
  repeat walk_at "e"
  refine r_mod (by decide) ?_
  rw [show (((l.getD 0 0 : Nat) : Int) % 2) = ((l.getD 0 0 % 2 : Nat) : Int) from rfl]
  have hh : l.getD 0 0 % 2 < 2 := Nat.mod_lt _ (by decide)
  generalize l.getD 0 0 % 2 = h at hh
  dsimp only [List.set]
  repeat walk_at "e"
  refine r_ixL (nats_at (i := 1) (by omega)) ?_
  repeat walk_at "e"
  refine r_mod (by omega) ?_
  repeat walk_at "e"
  refine r_ixL (nats_at (i := 2) (by omega)) ?_
  repeat walk_at "e"
  refine r_mod (by decide) ?_
  obtain ⟨he, hhe, hhe2⟩ : ∃ he : Option Nat, atI [PyData.none, .none, .int (((l.getD 1 0 : Nat) : Int) % (lt : Int))] (((l.getD 2 0 : Nat) : Int) % 3) = some (numD he) ∧ ∀ v, he = some v → v < lt := by
    have hq : l.getD 2 0 % 3 < 3 := Nat.mod_lt _ (by decide)
    rw [show (((l.getD 2 0 : Nat) : Int) % 3) = ((l.getD 2 0 % 3 : Nat) : Int) from rfl]
    generalize l.getD 2 0 % 3 = q at hq
    rcases (by omega : q = 0 ∨ q = 1 ∨ q = 2) with rfl | rfl | rfl
    · exact ⟨none, rfl, fun v e => (by cases e)⟩
    · exact ⟨none, rfl, fun v e => (by cases e)⟩
    · exact ⟨some (l.getD 1 0 % lt), rfl, fun v e => by cases e; exact Nat.mod_lt _ (by omega)⟩
  refine r_ixL hhe ?_
  dsimp only [List.set]
  repeat walk_at "e"
  refine r_ixL (nats_at (i := 3) (by omega)) ?_
  repeat walk_at "e"
  refine r_mod (by omega) ?_
  repeat walk_at "e"
  refine r_ixL (nats_at (i := 4) (by omega)) ?_
  repeat walk_at "e"
  refine r_mod (by decide) ?_
  obtain ⟨sa, hsa, hsa2⟩ : ∃ he : Option Nat, atI [PyData.none, .int (((l.getD 3 0 : Nat) : Int) % (lt : Int))] (((l.getD 4 0 : Nat) : Int) % 2) = some (numD he) ∧ ∀ v, he = some v → v < lt := by
    have hq : l.getD 4 0 % 2 < 2 := Nat.mod_lt _ (by decide)
    rw [show (((l.getD 4 0 : Nat) : Int) % 2) = ((l.getD 4 0 % 2 : Nat) : Int) from rfl]
    generalize l.getD 4 0 % 2 = q at hq
    rcases (by omega : q = 0 ∨ q = 1) with rfl | rfl
    · exact ⟨none, rfl, fun v e => (by cases e)⟩
    · exact ⟨some (l.getD 3 0 % lt), rfl, fun v e => by cases e; exact Nat.mod_lt _ (by omega)⟩
  refine r_ixL hsa ?_
  dsimp only [List.set]
  have hm : atI [PyData.int (mo : Int), .int (mn : Int)] (h : Int) = some (.int ((if h = 1 then mn else mo : Nat) : Int)) := by
    rcases (by omega : h = 0 ∨ h = 1) with rfl | rfl <;> rfl
  have hmp : 0 < (if h = 1 then mn else mo) := by split <;> omega
  repeat walk_at "e"
  refine r_ixL (nats_at (i := 5) (by omega)) ?_
  repeat walk_at "e"
  refine r_ixT hm ?_
  repeat walk_at "e"
  refine r_mod (by omega) ?_
  repeat walk_at "e"
  refine r_ixL (nats_at (i := 6) (by omega)) ?_
  repeat walk_at "e"
  refine r_ixT hm ?_
  repeat walk_at "e"
  refine r_mod (by omega) ?_
  repeat walk_at "e"
  exact ⟨⟨h, l.getD 5 0 % (if h = 1 then mn else mo), he, l.getD 6 0 % (if h = 1 then mn else mo), sa⟩, rfl, ⟨hh, Nat.mod_lt _ hmp, Nat.mod_lt _ hmp, hhe2, hsa2⟩⟩
structure CeA where
  ns : List Int
  k : Nat
abbrev spCell (K : PySem.W.Frag) (ts : List Addr) : Sp := SpX (α := CeA) K ts (fun a => a.k ≤ 1000) (fun a => [.list (intsL a.ns), .int a.k]) (fun _ d => ∃ z : Int, d = .int z)
set_option maxHeartbeats 4000000 in
theorem ok_law_cell (T : Tx K mg base) : FnOk P w K mg base CX0 1 T.f_law_cell T.d_law_cell ["script", "k"] (spCell K T.ts) := by
  refine fnX T.F_law_cell sc_law_cell (fun _ _ => rfl) (fun cdv A outer s H E hr => ⟨_, (pss_cons (ps_if (pt_cmpR op_lt (pv 1) (pe_callB (kx_len K rfl) (by rfl) T.m_len PySem.boot_len (pa_cons (pv 0) pa_nil)) (nomark _))
      (pss_one (ps_ret (pe_ix (kx_ixL K rfl) (pv 0) (pv 1) (fun _ _ => rfl))))
      pss_nil)
      (pss_one (ps_ret (pe_op op_add (pe_op op_add (pe_op op_mul pe_int (pv 1)) pe_int) (pe_callB (kx_len K rfl) (by rfl) T.m_len PySem.boot_len (pa_cons (pv 0) pa_nil)))))), fun a ha => ?_⟩)
  obtain ⟨ns, k⟩ := a
  dsimp only at ha
  try simp only [nox_K, blk_K, cx_K]
  show S K ⟨none, T.ts⟩ H _ [some (.d _), some (.d _)] _
  refine s_seq (s_if ?_)
  repeat walk_at "e"
  refine ⟨fun h => ?_, fun h => ?_⟩
  · have h := of_decide_eq_true h
    have hl : k < ns.length := by rw [show (intsL ns).length = ns.length from List.length_map _] at h; omega
    repeat walk_at "e"
    refine r_ixL (show atI (intsL ns) (k : Int) = some (.int (ns.getD k 0)) from atI_nat (by unfold intsL; rw [List.getElem?_map, List.getElem?_eq_getElem hl, List.getD_eq_getElem?_getD, List.getElem?_eq_getElem hl]; rfl)) ?_
    exact ⟨_, rfl⟩
  · refine s_next ?_
    repeat walk_at "e"
    refine r_mul (Or.inl ⟨by decide, by decide⟩) ?_
    repeat walk_at "e"
    exact ⟨_, rfl⟩
theorem mapIdx_range' {α β : Type} (g : Nat → β) : ∀ (xs : List α), xs.mapIdx (fun i _ => g i) = (List.range xs.length).map g := fun xs => by
  apply List.ext_getElem?
  intro i
  rw [List.getElem?_mapIdx, List.getElem?_map]
  by_cases h : i < xs.length
  · rw [List.getElem?_eq_getElem h, List.getElem?_range h]; rfl
  · rw [List.getElem?_eq_none (by omega), List.getElem?_eq_none (by rw [List.length_range]; omega)]; rfl
end
end K35
set_option Elab.async false
set_option linter.all false
set_option maxRecDepth 100000
namespace K35
open PySem PySem.Spec PyProof.Rows L2 Dl Wm
local macro_rules | `(tactic| walk_at "e") => `(tactic| first
  | ((with_reducible refine e_var (by with_unfolding_all exact rfl) ?_))
  | with_reducible refine e_op ?_
  | with_reducible refine ea_cons ?_
  | with_reducible refine e_int ?_
  | ((with_reducible refine s_seq ?_); (try dsimp only [List.set]))
  | with_reducible refine ea_nil ?_
  | with_reducible refine s_ret ?_
  | with_reducible refine s_if ?_
  | with_reducible refine s_asg ?_
  | with_reducible refine e_bl ?_
  | with_reducible refine e_str ?_
  | with_reducible refine e_non ?_
  | with_reducible refine e_tup ?_
  | with_reducible refine e_lst ?_
  | ((with_reducible refine e_lenOwn (by with_unfolding_all exact rfl) ?_))
  | ((with_reducible refine e_tupOwn (by with_unfolding_all exact rfl) ?_))
  | ((with_reducible refine s_aug (by with_unfolding_all exact rfl) ?_); (try dsimp only [List.set]))
  | with_reducible refine r_ipI ?_
  | with_reducible refine e_un ?_
  | with_reducible refine r_neg ?_
  | with_reducible refine gws_cons ?_
  | with_reducible refine gws_nil ?_
  | with_reducible refine gw_tup rfl ?_
  | ((with_reducible refine gw_name (by decide) ?_); (try dsimp only [List.set]))
  | with_reducible refine e_isI ?_
  | with_reducible refine e_isB ?_
  | with_reducible refine e_isTu ?_
  | with_reducible refine e_isL ?_
  | with_reducible refine e_cb ?_
  | with_reducible refine e_sl ?_
  | with_reducible refine eo_none ?_
  | with_reducible refine eo_some ?_
  | with_reducible refine et_test ?_
  | with_reducible refine et_B ?_
  | with_reducible refine et_and ?_
  | with_reducible refine et_or ?_
  | with_reducible refine et_not ?_
  | with_reducible refine et_yes ?_
  | with_reducible refine e_andV ?_
  | with_reducible refine e_orV ?_
  | with_reducible refine e_notV ?_
  | with_reducible refine e_chain ?_
  | with_reducible refine e_callX ?_
  | with_reducible refine s_next ?_
  | ((with_reducible refine s_putOwn (by with_unfolding_all exact rfl) ?_ (by with_unfolding_all exact rfl)))
  | with_reducible refine s_asgG ?_
  | with_reducible refine g_name ?_
  | with_reducible refine g_tup rfl ?_
  | with_reducible refine gs_cons ?_
  | with_reducible refine gs_nil ?_
  | with_reducible refine r_lt ?_
  | with_reducible refine r_le ?_
  | with_reducible refine r_gt ?_
  | with_reducible refine r_ge ?_
  | with_reducible refine r_add ?_
  | with_reducible refine r_sub ?_
  | with_reducible refine r_eqI ?_
  | with_reducible refine r_eqS ?_
  | with_reducible refine r_eqB ?_
  | with_reducible refine r_neI ?_
  | with_reducible refine c_intB ?_
  | with_reducible refine c_len (Or.inl rfl) ?_
  | with_reducible refine c_len (Or.inr rfl) ?_
  | with_reducible refine c_list (Or.inl rfl) ?_
  | with_reducible refine c_list (Or.inr rfl) ?_
  | with_reducible refine c_tuple (Or.inl rfl) ?_
  | with_reducible refine c_tuple (Or.inr rfl) ?_
  | with_reducible refine r_ixT (by with_unfolding_all exact rfl) ?_
  | with_reducible refine r_ixL (by with_unfolding_all exact rfl) ?_
  | with_reducible refine r_slT ?_
  | with_reducible refine r_slL ?_
  | with_reducible refine r_isNone ?_
  | with_reducible refine r_notBl ?_
  | with_reducible refine ⟨_, rfl, ?_⟩
  | with_reducible refine And.intro (Nat.le_of_ble_eq_true rfl) ?_)
local macro_rules | `(tactic| walk_at "t") => `(tactic| first
  | walk_at "e"
  | refine r_modAny (by first | omega | decide) fun z z0 z1 => ?_
  | refine r_mul (by first | exact Or.inr ⟨by decide, by decide⟩ | exact Or.inl ⟨by decide, by decide⟩ | exact Or.inl ⟨by omega, by omega⟩) ?_
  | refine r_pow ⟨by decide, by decide, by decide⟩ ?_
  | refine r_fdivW (by first | assumption | (rename_i hw _; exact hw _) | exact wide_div (b := 200) (by decide) (by decide) (by decide) (by decide)) ?_
  | with_reducible refine And.intro (by omega) ?_)
local macro_rules | `(tactic| walk_at "k") => `(tactic| first
  | walk_at "e"
  | with_reducible refine ⟨fun hb => absurd hb (by decide +kernel), fun _ => ?_⟩
  | with_reducible refine ⟨fun _ => ?_, fun hb => absurd hb (by decide +kernel)⟩
  | refine ⟨fun hb => absurd hb Bool.false_ne_true, fun _ => ?_⟩
  | refine ⟨fun _ => ?_, fun hb => absurd hb.symm Bool.false_ne_true⟩)
local macro_rules | `(tactic| walk_at "d") => `(tactic| first
  | walk_at "k"
  | refine And.intro (show WfTake _ from ⟨by omega, by omega⟩) (take_all fun k hk => ?_))
local macro_rules | `(tactic| walk_at "o") => `(tactic| first
  | with_reducible refine s_ownList ?_
  | walk_at "d"
  | with_reducible refine ⟨_, Or.inl rfl, ?_⟩)
local macro_rules | `(tactic| walk_at "c") => `(tactic| first
  | with_reducible refine e_ofL (el_catL ?_)
  | with_reducible refine e_ofL (el_sortP ?_)
  | with_reducible refine e_ofL (el_sortSetP ?_)
  | with_reducible refine e_ofL (el_revL ?_)
  | walk_at "d")

section
variable {P : Program} {w : World} {K : PySem.W.Frag} {mg : Str → Option Value} {base : Heap}
structure S4 where
  o : Nat
  n : Nat
  lo : List Int
  ln : List Int
def S4.D (s : S4) : PyData := .tuple [.int s.o, .int s.n, .tuple (intsL s.lo), .tuple (intsL s.ln)]
def sortZ (l : List Int) : List Int := l.mergeSort (fun a b => decide (a ≤ b))
theorem sortZ_is {l ms : List Int} (h1 : ms.Perm l) (h2 : ms.Pairwise (· ≤ ·)) : ms = sortZ l := by
  refine List.Perm.eq_of_pairwise (le := (· ≤ ·)) (fun a b _ _ x y => Int.le_antisymm x y) h2 ?_ (h1.trans (List.mergeSort_perm l _).symm)
  refine (List.pairwise_mergeSort (le := fun a b => decide (a ≤ b)) ?_ ?_ l).imp fun h => of_decide_eq_true h
  · intro a b c h1 h2
    exact decide_eq_true (Int.le_trans (of_decide_eq_true h1) (of_decide_eq_true h2))
  · intro a b
    rcases Int.le_total a b with h | h
    · rw [decide_eq_true h]; rfl
    · rw [decide_eq_true h, Bool.or_true]
theorem sortZ_len (l : List Int) : (sortZ l).length = l.length := List.length_mergeSort l
def withF (l : List Int) : Option Nat → List Int
  | none => l
  | some v => if (v : Int) ∈ l then l else sortZ (l ++ [(v : Int)])
theorem withF_len (l : List Int) (o : Option Nat) : (withF l o).length ≤ l.length + 1 := by
  cases o with
  | none => exact Nat.le_succ _
  | some v =>
    show (if (v : Int) ∈ l then l else sortZ (l ++ [(v : Int)])).length ≤ _
    split
    · exact Nat.le_succ _
    · rw [sortZ_len, List.length_append]; exact Nat.le_refl _
def canF (r : Rl) (s : S4) : Bool := decide (((if r.h = 1 then s.n else s.o) : Nat) = r.a) && (match r.he with | none => true | some v => decide ((v : Int) ∈ (if r.h = 1 then s.lo else s.ln)))
def stepF (r : Rl) (s : S4) : S4 := if r.h = 1 then ⟨s.o, r.t, s.lo, withF s.ln r.sa⟩ else ⟨r.t, s.n, withF s.lo r.sa, s.ln⟩
def s0 : S4 := ⟨0, 0, [], []⟩
def oneF (rs : List Rl) (d : PyData) (s : S4) : Option S4 := match d with
  | .int i => if 0 ≤ i then (match rs[i.toNat]? with | some r => if canF r s = true then some (stepF r s) else none | none => none) else none
  | _ => none
def runF (rs : List Rl) : List PyData → S4 → Option S4
  | [], s => some s
  | d :: ds, s => match oneF rs d s with | none => none | some s' => runF rs ds s'
structure CdA where
  r : Rl
  s : S4
abbrev spCan (K : PySem.W.Frag) (ts : List Addr) : Sp := SpX (α := CdA) K ts (fun a => a.r.h < 2) (fun a => [a.r.D, a.s.D]) (fun a d => d = .bool (canF a.r a.s))
theorem at2 {a b c d : PyData} {h : Nat} (hh : h < 2) : atI [a, b, c, d] (h : Int) = some (if h = 1 then b else a) := by
  rcases (by omega : h = 0 ∨ h = 1) with rfl | rfl <;> rfl
theorem at3 {a b c d : PyData} {h : Nat} (hh : h < 2) : atI [a, b, c, d] (3 - (h : Int)) = some (if h = 1 then c else d) := by
  rcases (by omega : h = 0 ∨ h = 1) with rfl | rfl <;> rfl
set_option maxHeartbeats 4000000 in
theorem ok_can_be_done (T : Tx K mg base) : FnOk P w K mg base CX0 1 T.f_can_be_done T.d_can_be_done ["rule", "state"] (spCan K T.ts) := by
  refine fnX T.F_can_be_done sc_can_be_done (fun _ _ => rfl) (fun cdv A outer s H E hr => ⟨_, (pss_cons (ps_asg (pv 0) (kx_pgT K (n := 5) rfl rfl (pgs_cons (pg_name (i := 2) sc_can_be_done.nd rfl (.inl rfl)) (pgs_cons (pg_name (i := 3) sc_can_be_done.nd rfl (.inl rfl)) (pgs_cons (pg_name (i := 4) sc_can_be_done.nd rfl (.inl rfl)) (pgs_cons (pg_name (i := 5) sc_can_be_done.nd rfl (.inl rfl)) (pgs_cons (pg_name (i := 6) sc_can_be_done.nd rfl (.inl rfl)) pgs_nil)))))))
      (pss_one (ps_ret (pe_and (pe_cmpR op_eq (pe_ix (kx_ixT K rfl) (pv 1) (pv 2) (fun _ _ => rfl)) (pv 3) (nomark _)) (pe_one (pe_or (pe_cmpR op_isN (pv 4) pe_non (nomark _)) (pe_one (pe_cmpR (kx_in K rfl) (pv 4) (pe_ix (kx_ixT K rfl) (pv 1) (pe_op op_sub pe_int (pv 2)) (fun _ _ => rfl)) (by rfl))))))))), fun a ha => ?_⟩)
  obtain ⟨⟨h, at_, he, t, sa⟩, ⟨o, n, lo, ln⟩⟩ := a
  dsimp only at ha
  try simp only [nox_K, blk_K, cx_K]
  show S K ⟨none, T.ts⟩ H _ [some (.d _), some (.d _), none, none, none, none, none] _
  dsimp only [Rl.D, S4.D]
  repeat walk_at "e"
  refine r_ixT (at2 ha) ?_
  rw [show (if h = 1 then PyData.int (n : Int) else PyData.int (o : Int)) = .int ((if h = 1 then n else o : Nat) : Int) from by split <;> rfl]
  repeat walk_at "e"
  refine ⟨fun h1 => ?_, fun h1 => ?_⟩
  · have h1 := of_decide_eq_true h1
    cases he with
    | none =>
      repeat walk_at "k"
      show PyData.bool true = .bool (decide _ && true)
      rw [Bool.and_true, decide_eq_true (show (if h = 1 then n else o) = at_ by omega)]
    | some v =>
      repeat walk_at "k"
      refine r_ixT (at3 ha) ?_
      rw [show (if h = 1 then PyData.tuple (intsL lo) else PyData.tuple (intsL ln)) = .tuple (intsL (if h = 1 then lo else ln)) from by split <;> rfl]
      refine r_inI ?_
      show PyData.bool _ = .bool (decide _ && _)
      rw [decide_eq_true (show (if h = 1 then n else o) = at_ by omega), Bool.true_and]
  · have h1 := of_decide_eq_false h1
    show PyData.bool false = .bool (decide _ && _)
    rw [decide_eq_false (show ¬ (if h = 1 then n else o) = at_ by omega), Bool.false_and]
structure LwA where
  l : List Int
  v : Option Nat
abbrev spLw (K : PySem.W.Frag) (ts : List Addr) : Sp := SpX (α := LwA) K ts (fun a => a.l.length ≤ 50000) (fun a => [.tuple (intsL a.l), numD a.v]) (fun a d => d = .tuple (intsL (withF a.l a.v)))
set_option maxHeartbeats 4000000 in
theorem ok_letters_with (T : Tx K mg base) : FnOk P w K mg base CX0 1 T.f_letters_with T.d_letters_with ["letters", "said"] (spLw K T.ts) := by
  refine fnX T.F_letters_with sc_letters_with (fun _ _ => rfl) (fun cdv A outer s H E hr => ⟨_, (pss_cons (ps_if (PW.pt (pw_or (pt_cmpR op_isN (pv 1) pe_non (nomark _)) (pw_or1 (pt_cmpR (kx_in K rfl) (pv 1) (pv 0) (by rfl)))))
      (pss_one (ps_ret (pv 0)))
      pss_nil)
      (pss_one (ps_ret (pe_callTy (kx_tuple K rfl) (by rfl) T.m_tuple (by decide +kernel) (pa_cons (pe_callB (kx_sortT (K := K) rfl) (by rfl) T.m_sorted (by decide +kernel) (pa_cons (pe_op (kx_catT K rfl) (pv 0) (pe_tup (pa_cons (pv 1) pa_nil))) pa_nil)) pa_nil))))), fun a ha => ?_⟩)
  obtain ⟨l, v⟩ := a
  dsimp only at ha
  try simp only [nox_K, blk_K, cx_K]
  show S K ⟨none, T.ts⟩ H _ [some (.d _), some (.d _)] _
  cases v with
  | none =>
    repeat walk_at "k"
    rfl
  | some v =>
    repeat walk_at "k"
    refine r_inI ?_
    refine ⟨_, rfl, fun h => ?_, fun h => ?_⟩
    · repeat walk_at "k"
      show _ = PyData.tuple (intsL (if (v : Int) ∈ l then l else sortZ (l ++ [(v : Int)])))
      rw [if_pos (of_decide_eq_true h)]
    · refine s_next (s_ret (e_cb (ea_cons (e_sortT ?_))))
      repeat walk_at "k"
      refine r_catT (by rw [show (intsL l).length = l.length from List.length_map _]; show l.length + 1 ≤ _; omega) ⟨l ++ [(v : Int)], by unfold intsL; rw [List.map_append]; rfl, by rw [List.length_append]; show l.length + 1 ≤ _; omega, fun ms h1 h2 => ?_⟩
      repeat walk_at "k"
      show _ = PyData.tuple (intsL (if (v : Int) ∈ l then l else sortZ (l ++ [(v : Int)])))
      rw [if_neg (of_decide_eq_false h), sortZ_is h1 h2]
abbrev spBy (K : PySem.W.Frag) (ts : List Addr) : Sp := SpX (α := CdA) K ts (fun a => a.r.h < 2 ∧ a.s.lo.length ≤ 50000 ∧ a.s.ln.length ≤ 50000) (fun a => [a.r.D, a.s.D]) (fun a d => d = (stepF a.r a.s).D)
set_option maxHeartbeats 4000000 in
theorem ok_state_by (T : Tx K mg base) : FnOk P w K mg base CX0 2 T.f_state_by T.d_state_by ["rule", "state"] (spBy K T.ts) := by
  refine fnX T.F_state_by sc_state_by (fun _ _ => rfl) (fun cdv A outer s H E hr => ⟨_, (pss_cons (ps_asg (pv 0) (kx_pgT K (n := 5) rfl rfl (pgs_cons (pg_name (i := 2) sc_state_by.nd rfl (.inl rfl)) (pgs_cons (pg_name (i := 3) sc_state_by.nd rfl (.inl rfl)) (pgs_cons (pg_name (i := 4) sc_state_by.nd rfl (.inl rfl)) (pgs_cons (pg_name (i := 5) sc_state_by.nd rfl (.inl rfl)) (pgs_cons (pg_name (i := 6) sc_state_by.nd rfl (.inl rfl)) pgs_nil)))))))
      (pss_cons (ps_asg (pv 1) (kx_pgT K (n := 4) rfl rfl (pgs_cons (pg_name (i := 7) sc_state_by.nd rfl (.inl rfl)) (pgs_cons (pg_name (i := 8) sc_state_by.nd rfl (.inl rfl)) (pgs_cons (pg_name (i := 9) sc_state_by.nd rfl (.inl rfl)) (pgs_cons (pg_name (i := 10) sc_state_by.nd rfl (.inl rfl)) pgs_nil))))))
      (pss_cons (ps_if (pt_cmpR op_eq (pv 2) pe_int (nomark _))
      (pss_one (ps_ret (pe_tup (pa_cons (pv 5) (pa_cons (pv 8) (pa_cons (pe_call (ok_letters_with T) (hr.mono (by decide)) (by rfl) T.g_letters_with T.F_letters_with.kp T.b_letters_with .nil pass0 (pa_cons (pv 9) (pa_cons (pv 6) pa_nil))) (pa_cons (pv 10) pa_nil)))))))
      pss_nil)
      (pss_one (ps_ret (pe_tup (pa_cons (pv 7) (pa_cons (pv 5) (pa_cons (pv 9) (pa_cons (pe_call (ok_letters_with T) (hr.mono (by decide)) (by rfl) T.g_letters_with T.F_letters_with.kp T.b_letters_with .nil pass0 (pa_cons (pv 10) (pa_cons (pv 6) pa_nil))) pa_nil)))))))))), fun a ha => ?_⟩)
  obtain ⟨⟨h, at_, he, t, sa⟩, ⟨o, n, lo, ln⟩⟩ := a
  obtain ⟨ha, hb, hc⟩ := ha
  dsimp only at ha hb hc
  try simp only [nox_K, blk_K, cx_K]
  show S K ⟨none, T.ts⟩ H _ [some (.d _), some (.d _), none, none, none, none, none, none, none, none, none] _
  dsimp only [Rl.D, S4.D]
  repeat walk_at "e"
  refine ⟨fun h1 => ?_, fun h1 => ?_⟩
  · have h1 := of_decide_eq_true h1
    have h1 : h = 0 := by omega
    subst h1
    repeat walk_at "e"
    refine ⟨⟨lo, sa⟩, rfl, hb, ?_⟩
    rintro d rfl
    repeat walk_at "e"
    rfl
  · have h1 := of_decide_eq_false h1
    have h1 : h = 1 := by omega
    subst h1
    repeat walk_at "e"
    refine ⟨⟨ln, sa⟩, rfl, hc, ?_⟩
    rintro d rfl
    repeat walk_at "e"
    rfl
end
section
variable {P : Program} {w : World} {K : PySem.W.Frag} {mg : Str → Option Value} {base : Heap}
instance : DecidableEq S4 := fun a b => by
  obtain ⟨a1, a2, a3, a4⟩ := a
  obtain ⟨b1, b2, b3, b4⟩ := b
  exact decidable_of_iff (a1 = b1 ∧ a2 = b2 ∧ a3 = b3 ∧ a4 = b4) ⟨fun ⟨h1, h2, h3, h4⟩ => by rw [h1, h2, h3, h4], fun h => by cases h; exact ⟨rfl, rfl, rfl, rfl⟩⟩
/-- what comes of a state, rule by rule -/
def wayF (rs : List Rl) (s : S4) (i : Nat) : Option (Nat × S4) := match rs[i]? with
  | none => none
  | some r => if canF r s = true then some (i, stepF r s) else none
def waysF (rs : List Rl) (s : S4) : List (Nat × S4) := (List.range rs.length).filterMap (wayF rs s)
def wayD (w : Nat × S4) : PyData := .tuple [.int w.1, w.2.D]
abbrev Cm := List (S4 × Option (S4 × Nat))
def statesOf (c : Cm) : List S4 := c.map (·.1)
def addF (s : S4) (c : Cm) (w : Nat × S4) : Cm := if w.2 ∈ statesOf c then c else c ++ [(w.2, some (s, w.1))]
def expF (rs : List Rl) (c : Cm) (s : S4) : Cm := (waysF rs s).foldl (addF s) c
def bfsF (rs : List Rl) (first : S4) : Nat → Cm
  | 0 => [(first, none)]
  | k + 1 => match (bfsF rs first k)[k]? with
    | none => bfsF rs first k
    | some e => expF rs (bfsF rs first k) e.1
theorem add_pre (s : S4) (c : Cm) (w : Nat × S4) : ∃ m, addF s c w = c ++ m := by
  unfold addF
  split
  · exact ⟨[], (List.append_nil c).symm⟩
  · exact ⟨_, rfl⟩
theorem fold_pre (s : S4) : ∀ (ws : List (Nat × S4)) (c : Cm), ∃ m, ws.foldl (addF s) c = c ++ m
  | [], c => ⟨[], (List.append_nil c).symm⟩
  | w :: ws, c => by
    obtain ⟨m, e⟩ := add_pre s c w
    obtain ⟨m2, e2⟩ := fold_pre s ws (addF s c w)
    exact ⟨m ++ m2, by rw [List.foldl_cons, e2, e, List.append_assoc]⟩
theorem bfs_pre (rs : List Rl) (first : S4) (k : Nat) : ∃ m, bfsF rs first (k + 1) = bfsF rs first k ++ m := by
  rw [bfsF]
  cases (bfsF rs first k)[k]? with
  | none => exact ⟨[], (List.append_nil _).symm⟩
  | some e => exact fold_pre _ _ _
theorem bfs_len (rs : List Rl) (first : S4) : ∀ k, 1 ≤ (bfsF rs first k).length
  | 0 => Nat.le_refl _
  | k + 1 => by
    obtain ⟨m, e⟩ := bfs_pre rs first k
    rw [e, List.length_append]
    have := bfs_len rs first k
    omega
/-- one entry: distinct from those ahead; its parent stands ahead of it, and steps to it -/
structure CmOk (rs : List Rl) (first : S4) (c : Cm) : Prop where
  nd : (statesOf c).Nodup
  hd : c[0]? = some (first, none)
  par : ∀ (i : Nat) (s : S4) (v : Option (S4 × Nat)), c[i]? = some (s, v) → 0 < i → ∃ (p : S4) (w : Nat) (j : Nat) (u : Option (S4 × Nat)), v = some (p, w) ∧ j < i ∧ c[j]? = some (p, u) ∧ wayF rs p w = some (w, s)
theorem way_at {rs : List Rl} {s : S4} {w : Nat × S4} (h : w ∈ waysF rs s) : wayF rs s w.1 = some w := by
  obtain ⟨i, hi, e⟩ := List.mem_filterMap.mp h
  have e2 : w.1 = i := by
    unfold wayF at e
    split at e
    · cases e
    · split at e
      · cases e; rfl
      · cases e
  rw [e2]
  exact e
theorem CmOk.add {rs : List Rl} {first : S4} {c : Cm} (h : CmOk rs first c) {s : S4} {j : Nat} {u : Option (S4 × Nat)} (hj : c[j]? = some (s, u)) {w : Nat × S4} (hw : w ∈ waysF rs s) : CmOk rs first (addF s c w) := by
  unfold addF
  by_cases q : w.2 ∈ statesOf c
  · rw [if_pos q]; exact h
  · rw [if_neg q]
    have hjl := (List.getElem?_eq_some_iff.mp hj).1
    refine ⟨?_, ?_, fun i t v hi h0 => ?_⟩
    · unfold statesOf
      rw [List.map_append, List.nodup_append]
      refine ⟨h.nd, List.nodup_cons.mpr ⟨List.not_mem_nil, List.nodup_nil⟩, fun x hx y hy z => ?_⟩
      rw [List.mem_singleton.mp hy] at z
      subst z
      exact q hx
    · rw [List.getElem?_append_left (by omega)]
      exact h.hd
    · rcases Nat.lt_or_ge i c.length with z | z
      · rw [List.getElem?_append_left z] at hi
        obtain ⟨p, w', j', u', e1, e2, e3, e4⟩ := h.par i t v hi h0
        exact ⟨p, w', j', u', e1, e2, by rw [List.getElem?_append_left (by omega)]; exact e3, e4⟩
      · rw [List.getElem?_append_right z] at hi
        have hi0 : i - c.length = 0 := by
          apply Classical.byContradiction
          intro z2
          rw [List.getElem?_eq_none (by show 1 ≤ _; omega)] at hi
          cases hi
        rw [hi0] at hi
        cases hi
        exact ⟨s, w.1, j, u, rfl, by omega, by rw [List.getElem?_append_left hjl]; exact hj, way_at hw⟩
theorem CmOk.fold {rs : List Rl} {first : S4} {s : S4} {j : Nat} {u : Option (S4 × Nat)} : ∀ {ws : List (Nat × S4)} {c : Cm}, CmOk rs first c → c[j]? = some (s, u) → (∀ w ∈ ws, w ∈ waysF rs s) → CmOk rs first (ws.foldl (addF s) c)
  | [], c, h, _, _ => h
  | w :: ws, c, h, hj, hw => by
    rw [List.foldl_cons]
    obtain ⟨m, e⟩ := add_pre s c w
    exact CmOk.fold (h.add hj (hw w (List.mem_cons_self ..))) (by rw [e, List.getElem?_append_left (List.getElem?_eq_some_iff.mp hj).1]; exact hj) fun x hx => hw x (List.mem_cons_of_mem _ hx)
theorem bfs_ok (rs : List Rl) (first : S4) : ∀ k, CmOk rs first (bfsF rs first k)
  | 0 => ⟨List.nodup_cons.mpr ⟨List.not_mem_nil, List.nodup_nil⟩, rfl, fun i s v hi h0 => by
    rcases i with _ | i
    · omega
    · cases hi⟩
  | k + 1 => by
    have ih := bfs_ok rs first k
    rw [bfsF]
    cases e : (bfsF rs first k)[k]? with
    | none => exact ih
    | some x =>
      obtain ⟨s, u⟩ := x
      exact CmOk.fold ih e fun w hw => hw
/-- the letters said: never more than states ahead -/
def Small (base : Nat) (c : Cm) : Prop := ∀ (i : Nat) (s : S4) v, c[i]? = some (s, v) → s.lo.length ≤ base + i ∧ s.ln.length ≤ base + i
theorem step_len {r : Rl} {s : S4} {m : Nat} (h1 : s.lo.length ≤ m) (h2 : s.ln.length ≤ m) : (stepF r s).lo.length ≤ m + 1 ∧ (stepF r s).ln.length ≤ m + 1 := by
  unfold stepF
  have a := withF_len s.lo r.sa
  have b := withF_len s.ln r.sa
  split
  · exact ⟨by dsimp only; omega, by dsimp only; omega⟩
  · exact ⟨by dsimp only; omega, by dsimp only; omega⟩
theorem way_len {rs : List Rl} {s : S4} {w : Nat × S4} {m : Nat} (h : wayF rs s w.1 = some w) (h1 : s.lo.length ≤ m) (h2 : s.ln.length ≤ m) : w.2.lo.length ≤ m + 1 ∧ w.2.ln.length ≤ m + 1 := by
  unfold wayF at h
  split at h
  · cases h
  · split at h
    · have e := congrArg (fun o : Option (Nat × S4) => o.map (·.2)) h
      have e : some (stepF _ s) = some w.2 := e
      rw [← Option.some.inj e]
      exact step_len h1 h2
    · cases h
theorem Small.ok {rs : List Rl} {first : S4} {c : Cm} {base : Nat} (h : CmOk rs first c) (h1 : first.lo.length ≤ base) (h2 : first.ln.length ≤ base) : Small base c := fun i => by
  induction i using Nat.strongRecOn with
  | ind i ih =>
    intro s v hi
    by_cases h0 : i = 0
    · subst h0
      rw [h.hd] at hi
      cases hi
      exact ⟨h1, h2⟩
    · obtain ⟨p, w, j, u, e1, e2, e3, e4⟩ := h.par i s v hi (by omega)
      obtain ⟨g1, g2⟩ := ih j e2 p u e3
      have := way_len (w := (w, s)) e4 g1 g2
      exact ⟨by have := this.1; dsimp only at this; omega, by have := this.2; dsimp only at this; omega⟩
/-! as data -/
def s4key (s : S4) : NestedKey := .tup [.num s.o, .num s.n, .tup (s.lo.map NestedKey.num), .tup (s.ln.map NestedKey.num)]
theorem datas_ints : ∀ l : List Int, NestedKey.datas (l.map NestedKey.num) = intsL l
  | [] => by rw [List.map_nil, NestedKey.datas]; rfl
  | v :: l => by rw [List.map_cons, NestedKey.datas, datas_ints l, NestedKey.data]; rfl
theorem depth_ints : ∀ l : List Int, NestedKey.depthAll (l.map NestedKey.num) = 0
  | [] => by rw [List.map_nil, NestedKey.depthAll]
  | v :: l => by rw [List.map_cons, NestedKey.depthAll, depth_ints l, NestedKey.depth]; rfl
theorem ints_inj : ∀ {l m : List Int}, (l.map NestedKey.num) = (m.map NestedKey.num) → l = m
  | [], [], _ => rfl
  | v :: l, u :: m, h => by
    rw [List.map_cons, List.map_cons] at h
    injection h with h1 h2
    injection h1 with h1
    rw [ints_inj h2, h1]
  | [], _ :: _, h => by cases h
  | _ :: _, [], h => by cases h
theorem s4_nk (s : S4) : NkD s.D (s4key s) := by
  refine ⟨?_, ?_, _, rfl⟩
  · unfold s4key S4.D
    rw [NestedKey.data]
    rw [NestedKey.datas, NestedKey.datas, NestedKey.datas, NestedKey.datas, NestedKey.datas, NestedKey.data, NestedKey.data, NestedKey.data, NestedKey.data, datas_ints, datas_ints]
  · unfold s4key
    rw [NestedKey.depth]
    rw [NestedKey.depthAll, NestedKey.depthAll, NestedKey.depthAll, NestedKey.depthAll, NestedKey.depthAll, NestedKey.depth, NestedKey.depth, NestedKey.depth, NestedKey.depth, depth_ints, depth_ints]
    decide
theorem s4_inj {s t : S4} (h : s4key s = s4key t) : s = t := by
  unfold s4key at h
  injection h with h
  injection h with h1 h
  injection h with h2 h
  injection h with h3 h
  injection h with h4 _
  injection h1 with h1
  injection h2 with h2
  injection h3 with h3
  injection h4 with h4
  obtain ⟨a1, a2, a3, a4⟩ := s
  obtain ⟨b1, b2, b3, b4⟩ := t
  have e1 : a1 = b1 := Int.ofNat.inj h1
  have e2 : a2 = b2 := Int.ofNat.inj h2
  have e3 : a3 = b3 := ints_inj h3
  have e4 : a4 = b4 := ints_inj h4
  rw [e1, e2, e3, e4]
def parD : Option (S4 × Nat) → PyData
  | none => .none
  | some p => .tuple [p.1.D, .int (p.2 : Nat)]
def cmD (c : Cm) : List (NestedKey × PyData) := c.map fun e => (s4key e.1, parD e.2)
theorem valD_ne {k k' : NestedKey} {v : PyData} {m : List (NestedKey × PyData)} (h : ¬ k' = k) : valD ((k', v) :: m) k = valD m k := by
  unfold valD
  rw [List.find?_cons]
  dsimp only
  rw [decide_eq_false h]
theorem valD_eq {k : NestedKey} {v : PyData} {m : List (NestedKey × PyData)} : valD ((k, v) :: m) k = some v := by
  unfold valD
  rw [List.find?_cons]
  dsimp only
  rw [decide_eq_true rfl]
  rfl
theorem cm_val (c : Cm) (t : S4) : (valD (cmD c) (s4key t)).isSome = decide (t ∈ statesOf c) := by
  induction c with
  | nil => rfl
  | cons e c ih =>
    unfold cmD at ih ⊢
    rw [List.map_cons]
    by_cases q : e.1 = t
    · rw [q, valD_eq]
      exact (decide_eq_true (List.mem_map.mpr ⟨e, List.mem_cons_self .., q⟩)).symm
    · rw [show valD ((s4key e.1, parD e.2) :: c.map fun e => (s4key e.1, parD e.2)) (s4key t) = valD (c.map fun e => (s4key e.1, parD e.2)) (s4key t) from valD_ne fun z => q (s4_inj z), ih]
      refine decide_eq_decide.mpr ⟨fun h => ?_, fun h => ?_⟩
      · exact List.mem_cons_of_mem _ h
      · rcases List.mem_cons.mp h with h | h
        · exact absurd h.symm q
        · exact h
theorem cm_get {c : Cm} (hn : (statesOf c).Nodup) {i : Nat} {s : S4} {v : Option (S4 × Nat)} (h : c[i]? = some (s, v)) : valD (cmD c) (s4key s) = some (parD v) := by
  induction c generalizing i with
  | nil => cases h
  | cons e c ih =>
    unfold statesOf at hn
    rw [List.map_cons, List.nodup_cons] at hn
    unfold cmD at ih ⊢
    rw [List.map_cons]
    rcases i with _ | i
    · cases h
      exact valD_eq
    · have h : c[i]? = some (s, v) := h
      have q : ¬ e.1 = s := fun z => hn.1 (by rw [z]; exact List.mem_map.mpr ⟨_, List.mem_of_getElem? h, rfl⟩)
      rw [show valD ((s4key e.1, parD e.2) :: c.map fun e => (s4key e.1, parD e.2)) (s4key s) = valD (c.map fun e => (s4key e.1, parD e.2)) (s4key s) from valD_ne fun z => q (s4_inj z)]
      exact ih hn.2 h
theorem anyN (k : NestedKey) : ∀ m : List (NestedKey × PyData), (m.any fun p => decide (p.1 = k)) = (valD m k).isSome
  | [] => rfl
  | p :: ps => by
    rw [List.any_cons, anyN k ps]
    by_cases e : p.1 = k
    · simp [valD, List.find?_cons, e]
    · simp [valD, List.find?_cons, e]
theorem cm_put {c : Cm} {t : S4} (h : t ∉ statesOf c) (v : Option (S4 × Nat)) : putD (cmD c) (s4key t) (parD v) = cmD (c ++ [(t, v)]) := by
  unfold putD
  rw [anyN, cm_val, decide_eq_false h]
  unfold cmD
  rw [List.map_append]
  rfl
structure WyA where
  b0 : PyData
  b1 : PyData
  b2 : PyData
  rs : List Rl
  s : S4
def bkD (b0 b1 b2 : PyData) (rs : List Rl) : PyData := .tuple [b0, b1, b2, .tuple (rlsD rs)]
structure WyA.Ok (a : WyA) : Prop where
  r1 : a.rs.length ≤ 1000
  r2 : ∀ r ∈ a.rs, r.h < 2
  l1 : a.s.lo.length ≤ 50000
  l2 : a.s.ln.length ≤ 50000
abbrev spWy (K : PySem.W.Frag) (ts : List Addr) : Sp := SpX (α := WyA) K ts WyA.Ok (fun a => [bkD a.b0 a.b1 a.b2 a.rs, a.s.D]) (fun a d => d = .list ((waysF a.rs a.s).map wayD))
theorem rls_at {rs : List Rl} {i : Nat} {r : Rl} (h : rs[i]? = some r) : (rlsD rs)[i]? = some r.D := by unfold rlsD; rw [List.getElem?_map, h]; rfl
theorem ways_is (rs : List Rl) (s : S4) : ((enumL (rlsD rs)).mapIdx fun i _ => (wayF rs s i).map wayD).filterMap id = (waysF rs s).map wayD := by
  rw [mapIdx_range' (fun i : Nat => (wayF rs s i).map wayD), enumL_len, rlsD_len]
  unfold waysF
  generalize List.range rs.length = l
  induction l with
  | nil => rfl
  | cons i l ih =>
    rw [List.map_cons, List.filterMap_cons, List.filterMap_cons, ih]
    cases wayF rs s i <;> rfl
set_option maxHeartbeats 4000000 in
theorem ok_ways_from (T : Tx K mg base) : FnOk P w K mg base CX0 3 T.f_ways_from T.d_ways_from ["book", "state"] (spWy K T.ts) := by
  refine fnX T.F_ways_from sc_ways_from (fun _ _ => rfl) (fun cdv A outer s H E hr => ⟨_, (pss_one (ps_ret (pe_lc (own := [("step", 2), ("rule", 3)]) rfl sc_ways_from.nd (kx_enumT rfl rfl T.m_enumerate (pa_cons (pe_ix (kx_ixT K rfl) (pv 0) pe_int (fun _ _ => rfl)) pa_nil)) (blkOk_by (own := [("step", 2), ("rule", 3)]) (N := ["book", "state", "step", "rule"]) (sc := defScope s_ways_from) (by decide +kernel)) (fun _ _ _ _ _ => (kx_pgT K (n := 2) rfl rfl (pgs_cons (pg_name (i := 2) sc_ways_from.nd rfl (.inl rfl)) (pgs_cons (pg_name (i := 3) sc_ways_from.nd rfl (.inl rfl)) pgs_nil)))) (fun _ _ _ _ _ => (pts_one (pt_val (pe_call (ok_can_be_done T) (hr.mono (by decide)) (by rfl) T.g_can_be_done T.F_can_be_done.kp T.b_can_be_done .nil pass0 (pa_cons (pv 3) (pa_cons (pv 1) pa_nil)))))) (fun _ _ _ _ _ => (pe_tup (pa_cons (pv 2) (pa_cons (pe_call (ok_state_by T) (hr.mono (by decide)) (by rfl) T.g_state_by T.F_state_by.kp T.b_state_by .nil pass0 (pa_cons (pv 3) (pa_cons (pv 1) pa_nil))) pa_nil))))))), fun a ha => ?_⟩)
  obtain ⟨b0, b1, b2, rs, s⟩ := a
  obtain ⟨hr1, hr2, hl1, hl2⟩ := ha
  dsimp only at hr1 hr2 hl1 hl2
  try simp only [nox_K, blk_K, cx_K]
  show S K ⟨none, T.ts⟩ H _ [some (.d _), some (.d _), none, none] _
  dsimp only [bkD]
  refine s_ret (e_ofL (el_lcF (fun i _ => (wayF rs s i).map wayD) (it_enumT ?_)))
  repeat walk_at "e"
  refine ⟨by rw [enumL_len, rlsD_len]; omega, fun i d hd => ?_, ?_⟩
  · obtain ⟨y, hy, rfl⟩ := enumL_get hd
    obtain ⟨hlt, hg⟩ := List.getElem?_eq_some_iff.mp hy
    have hi : i < rs.length := by rw [rlsD_len] at hlt; exact hlt
    have hri : rs[i]? = some rs[i] := List.getElem?_eq_getElem hi
    rw [rls_at hri] at hy
    cases hy
    dsimp only [List.map, wipeL, List.set]
    repeat walk_at "e"
    refine ⟨⟨rs[i], s⟩, rfl, hr2 _ (List.getElem_mem hi), ?_⟩
    rintro d rfl
    have hw : wayF rs s i = if canF rs[i] s = true then some (i, stepF rs[i] s) else none := by
      unfold wayF
      rw [hri]
    rw [hw]
    refine ⟨_, rfl, fun h => ?_, fun h => ?_⟩
    · dsimp only at h
      rw [if_pos h]
      repeat walk_at "e"
      refine ⟨⟨rs[i], s⟩, rfl, ⟨hr2 _ (List.getElem_mem hi), hl1, hl2⟩, ?_⟩
      rintro d rfl
      exact ea_nil ⟨Nat.le_of_ble_eq_true rfl, rfl⟩
    · dsimp only at h
      rw [if_neg (by rw [h]; exact Bool.false_ne_true)]
      rfl
  · rw [ways_is]
end
section
variable {P : Program} {w : World} {K : PySem.W.Frag} {mg : Str → Option Value} {base : Heap}
theorem noLs_ints : ∀ l : List Int, noLs (intsL l) = true
  | [] => rfl
  | _ :: l => noLs_ints l
theorem noL_S4 (s : S4) : noL s.D = true := by
  show (true && (true && (noLs (intsL s.lo) && (noLs (intsL s.ln) && true)))) = true
  rw [noLs_ints, noLs_ints]
  rfl
structure ReA where
  b0 : PyData
  b1 : PyData
  b2 : PyData
  rs : List Rl
  first : S4
  lim : Nat
structure ReA.Ok (a : ReA) : Prop where
  r1 : a.rs.length ≤ 1000
  r2 : ∀ r ∈ a.rs, r.h < 2
  l1 : a.first.lo.length ≤ 1000
  l2 : a.first.ln.length ≤ 1000
  m1 : 1 ≤ a.lim
  m2 : a.lim < 256
/-- as far as it goes: K states, never more than lim -/
def ReDone (rs : List Rl) (first : S4) (lim K : Nat) : Prop := (bfsF rs first K).length = K ∧ ∀ k, k < K → (bfsF rs first (k + 1)).length ≤ lim
def ReBad (rs : List Rl) (first : S4) (lim : Nat) : Prop := ∃ k, k < (bfsF rs first k).length ∧ (∀ j, j < k → (bfsF rs first (j + 1)).length ≤ lim) ∧ lim < (bfsF rs first (k + 1)).length
abbrev spRe (w : World) (K : PySem.W.Frag) (ts : List Addr) (C : Addr) : Sp := SpXRN (α := ReA) K ts C ReA.Ok (fun a => [bkD a.b0 a.b1 a.b2 a.rs, a.first.D, .int a.lim]) (fun a o => ∃ k, ReDone a.rs a.first a.lim k ∧ o = .dN w (cmD (bfsF a.rs a.first k))) (fun a => ReBad a.rs a.first a.lim)
abbrev LRe (w : World) (a : ReA) (c : Cm) (at_ : Nat) (x6 x7 x8 : Option AV) : Lv := [some (.d (bkD a.b0 a.b1 a.b2 a.rs)), some (.d a.first.D), some (.d (.int a.lim)), some (.own (.dN w (cmD c))), some (.own (.lst ((statesOf c).map S4.D))), some (.d (.int at_)), x6, x7, x8]
abbrev LRw (w : World) (a : ReA) (c : Cm) (at_ : Nat) (s : S4) : Lv := [some (.d (bkD a.b0 a.b1 a.b2 a.rs)), some (.d a.first.D), some (.d (.int a.lim)), some (.own (.dN w (cmD c))), some (.own (.lst ((statesOf c).map S4.D))), some (.d (.int at_)), some (.d s.D), none, none]
theorem fits_lim (i : Nat) (h : i < 256) : (Str.empty ++ "steps lead to more than " ++ toString (i : Int)).length ≤ sizeLine ∧ (Str.empty ++ "steps lead to more than " ++ toString (i : Int) ++ " states").length ≤ sizeLine := by
  have a : ∀ i : Fin 256, ((Str.empty ++ "steps lead to more than " ++ toString (i.val : Int)).length ≤ 1000 ∧ (Str.empty ++ "steps lead to more than " ++ toString (i.val : Int) ++ " states").length ≤ 1000) := by decide +kernel
  obtain ⟨b, c⟩ := a ⟨i, h⟩
  rw [sizeLine_eq]
  exact ⟨Nat.le_trans b (by decide), Nat.le_trans c (by decide)⟩
theorem cm_len (c : Cm) : (cmD c).length = c.length := List.length_map _
theorem st_len (c : Cm) : (statesOf c).length = c.length := List.length_map _
theorem fold_len (s : S4) : ∀ (ws : List (Nat × S4)) (c : Cm), (ws.foldl (addF s) c).length ≤ c.length + ws.length
  | [], c => Nat.le_refl _
  | w :: ws, c => by
    rw [List.foldl_cons, List.length_cons]
    have h1 := fold_len s ws (addF s c w)
    have h2 : (addF s c w).length ≤ c.length + 1 := by
      unfold addF
      split
      · omega
      · rw [List.length_append]; exact Nat.le_refl _
    omega
theorem ways_len (rs : List Rl) (s : S4) : (waysF rs s).length ≤ rs.length := by
  unfold waysF
  refine Nat.le_trans (List.length_filterMap_le _ _) ?_
  rw [List.length_range]
  exact Nat.le_refl _
set_option maxHeartbeats 16000000 in
theorem ok_reached_from (T : Tx K mg base) : FnOk P w K mg base (L2.CX P w) 4 T.f_reached_from T.d_reached_from ["book", "first", "limit"] (spRe w K T.ts T.C_TooMany) := by
  refine fnXRN T.F_reached_from sc_reached_from (fun _ _ => rfl) (fun cdv A outer s H E hr => ⟨_, (pss_cons (ps_set (i := 3) sc_reached_from.nd rfl (.inl rfl) (_root_.Gn.pe_disp1 rfl rfl (hu9_of hr) (pv 1) pe_non))
      (pss_cons (ps_set (i := 4) sc_reached_from.nd rfl (.inl rfl) (pe_lst (pa_cons (pv 1) pa_nil)))
      (pss_cons (ps_set (i := 5) sc_reached_from.nd rfl (.inl rfl) pe_int)
      (pss_cons (ps_while (passes_of rfl) (pt_cmpR op_lt (pv 5) (pe_callB (kx_len K rfl) (by rfl) T.m_len PySem.boot_len (pa_cons (pv 4) pa_nil)) (nomark _))
      (pss_cons (ps_set (i := 6) sc_reached_from.nd rfl (.inl rfl) (pe_ix (kx_ixL K rfl) (pv 4) (pv 5) (fun _ _ => rfl)))
      (pss_cons (ps_for (passes_of rfl) rfl (kx_piL K rfl (pe_call (ok_ways_from T) (hr.mono (by decide)) (by rfl) T.g_ways_from T.F_ways_from.kp T.b_ways_from .nil pass0 (pa_cons (pv 0) (pa_cons (pv 6) pa_nil)))) (kx_pgT K (n := 2) rfl rfl (pgs_cons (pg_name (i := 7) sc_reached_from.nd rfl (.inl rfl)) (pgs_cons (pg_name (i := 8) sc_reached_from.nd rfl (.inl rfl)) pgs_nil)))
      (pss_one (ps_if (pt_cmp (_root_.Gn.pc_notin rfl rfl (hu9_of hr) (pv 8) (pv 3)))
      (pss_cons (_root_.Gn.ps_put rfl rfl (hu9_of hr) (pv 3) (pv 8) (pe_tup (pa_cons (pv 6) (pa_cons (pv 7) pa_nil))) rfl)
      (pss_one (ps_expr (pe_bm PySem.F.plainAttrs_list PySem.F.slot_list_append PySem.F.type_list_append mt_append (pv 4) (pa_cons (pv 8) pa_nil)))))
      pss_nil)))
      (pss_cons (ps_if (pt_cmpR op_gt (pe_callB (_root_.Gn.call_len rfl rfl) (by rfl) T.m_len PySem.boot_len (pa_cons (pv 3) pa_nil)) (pv 2) (nomark _))
      (pss_one (ps_raise rfl (takes_of rfl rfl rfl rfl) (SkE.pmk_own1 PySem.F.excBase_ValueError T.xP_TooMany T.gC_TooMany T.kP_TooMany (raises_own T.bP_TooMany T.tP_TooMany) (by rfl) (pe_joined (.cons pe_str (.cons (pe_fmt (pv 2)) (.cons pe_str .nil)))))))
      pss_nil)
      (pss_one (ps_aug (i := 5) sc_reached_from.nd rfl (.inl rfl) pe_int ip_add))))))
      (pss_one (ps_ret (pv 3))))))), fun a ha => ?_⟩)
  obtain ⟨hr1, hr2, hl1, hl2, hm1, hm2⟩ := ha
  try simp only [nox_K, blk_K, cx_K]
  show SX K ⟨none, T.ts⟩ H _ _ _ _ [some (.d _), some (.d _), some (.d _), none, none, none, none, none, none] _
  refine sx_seq (sx_of (s_asgK (ek_disp1 (e_var rfl (e_non ⟨_, s4_nk a.first, ?_⟩)))))
  dsimp only [List.set]
  refine sx_seq (sx_of (s_ownL (el_lst (ea_cons (e_var rfl (ea_nil ⟨Nat.le_of_ble_eq_true rfl, ?_⟩))))))
  dsimp only [List.set]
  refine sx_seq (sx_of (s_asg (e_int ?_)))
  dsimp only [List.set]
  refine sx_seq (sx_while (fun m L => ∃ k x6 x7 x8, k ≤ (bfsF a.rs a.first k).length ∧ (∀ j, j < k → (bfsF a.rs a.first (j + 1)).length ≤ a.lim) ∧ m = a.lim + 2 - k ∧ L = LRe w a (bfsF a.rs a.first k) k x6 x7 x8) ⟨_, 0, none, none, none, Nat.zero_le _, fun j hj => absurd hj (Nat.not_lt_zero _), rfl, rfl⟩ fun m L' ⟨k, x6, x7, x8, hk, hle, hm, e⟩ => ?_)
  subst e
  have hcl : (bfsF a.rs a.first k).length ≤ a.lim := by
    rcases k with _ | k
    · exact hm1
    · exact hle k (Nat.lt_succ_self k)
  repeat walk_at "e"
  rw [List.length_map, st_len]
  refine ⟨fun hb => ?_, fun hb => ?_⟩
  · have hb := of_decide_eq_true hb
    have hkl : k < (bfsF a.rs a.first k).length := by omega
    obtain ⟨s0, v0, hg⟩ : ∃ s0 v0, (bfsF a.rs a.first k)[k]? = some (s0, v0) := ⟨_, _, List.getElem?_eq_getElem hkl⟩
    have hok := bfs_ok a.rs a.first k
    have hsm := Small.ok hok hl1 hl2 k s0 v0 hg
    have hstep : bfsF a.rs a.first (k + 1) = (waysF a.rs s0).foldl (addF s0) (bfsF a.rs a.first k) := by
      rw [bfsF, hg]
      rfl
    have hwl := ways_len a.rs s0
    refine sx_seq (sx_of (s_asg (e_look ?_)))
    dsimp only [lookL, lookA, List.map]
    refine e_op (e_var rfl (e_var rfl (r_ixL (atI_nat (j := k) (v := s0.D) ?_) ⟨noL_S4 s0, ?_⟩)))
    · unfold statesOf
      rw [List.map_map, List.getElem?_map, hg]
      rfl
    dsimp only [List.set]
    refine sx_seq (sx_forI (it_list ?_))
    repeat walk_at "e"
    refine ⟨⟨a.b0, a.b1, a.b2, a.rs, s0⟩, rfl, ⟨hr1, hr2, by dsimp only; omega, by dsimp only; omega⟩, ?_⟩
    rintro d rfl
    dsimp only
    refine ⟨_, rfl, fun i L => L = LRw w a (((waysF a.rs s0).take i).foldl (addF s0) (bfsF a.rs a.first k)) k s0, ⟨_, ?_, rfl⟩, fun i d L' hd e => ?_, fun L' e L4 s4 => ?_⟩
    · repeat (first | exact Sub.nil | apply Sub.keep | apply Sub.drop)
    · subst e
      rw [List.getElem?_map] at hd
      obtain ⟨wy, hwy, rfl⟩ := Option.map_eq_some_iff.mp hd
      obtain ⟨hil, hge⟩ := List.getElem?_eq_some_iff.mp hwy
      have hnext : ((waysF a.rs s0).take (i + 1)).foldl (addF s0) (bfsF a.rs a.first k) = addF s0 (((waysF a.rs s0).take i).foldl (addF s0) (bfsF a.rs a.first k)) wy := by
        rw [List.take_succ_eq_append_getElem hil, List.foldl_append, hge]
        rfl
      have hlen := fold_len s0 ((waysF a.rs s0).take i) (bfsF a.rs a.first k)
      have htl : ((waysF a.rs s0).take i).length ≤ (waysF a.rs s0).length := by rw [List.length_take]; omega
      generalize ((waysF a.rs s0).take i).foldl (addF s0) (bfsF a.rs a.first k) = c at hnext hlen
      dsimp only [wayD]
      refine g_tup rfl (gs_cons (g_name (gs_cons (g_name (gs_nil ?_)))))
      dsimp only [List.set]
      refine sx_if (et_test (e_nin (.inl rfl) (e_var rfl ⟨_, s4_nk wy.2, ?_⟩)))
      rw [cm_val]
      by_cases q : wy.2 ∈ statesOf c
      · rw [decide_eq_true q]
        refine ⟨_, rfl, fun h => absurd h (by decide), fun _ => sx_of (s_next ⟨LRw w a c k s0, by repeat (first | exact Sub.nil | apply Sub.keep | apply Sub.drop), ?_⟩)⟩
        dsimp only
        rw [hnext]
        unfold addF
        rw [if_pos q]
      · rw [decide_eq_false q]
        refine ⟨_, rfl, fun _ => ?_, fun h => absurd h (by decide)⟩
        refine sx_seq (sx_of (s_nput rfl (by rw [cm_len]; omega) (e_tup (ea_cons (e_var rfl (ea_cons (e_var rfl (ea_nil ⟨Nat.le_of_ble_eq_true rfl, e_var rfl ⟨_, s4_nk wy.2, ?_⟩⟩))))))))
        dsimp only [List.set]
        rw [show PyData.tuple [s0.D, .int (wy.1 : Nat)] = parD (some (s0, wy.1)) from rfl, cm_put q]
        refine sx_of (s_appOwn rfl (by rw [List.length_map, st_len]; omega) (e_var rfl ?_))
        dsimp only [List.set]
        refine ⟨LRw w a (c ++ [(wy.2, some (s0, wy.1))]) k s0, ?_, ?_⟩
        · rw [show (statesOf c).map S4.D ++ [wy.2.D] = (statesOf (c ++ [(wy.2, some (s0, wy.1))])).map S4.D from by unfold statesOf; rw [List.map_append, List.map_append]; rfl]
          repeat (first | exact Sub.nil | apply Sub.keep | apply Sub.drop)
        · dsimp only
          rw [hnext]
          unfold addF
          rw [if_neg q]
    · subst e
      rw [List.length_map, List.take_length, ← hstep] at s4
      refine SX.sub ?_ s4
      refine sx_seq (sx_if (et_test (e_op (e_nlen (.inl rfl) (e_var rfl (r_gt ?_))))))
      rw [cm_len]
      refine ⟨_, rfl, fun h => ?_, fun h => sx_of (s_next ?_)⟩
      · have h := of_decide_eq_true h
        refine sx_raise ⟨k, hkl, hle, by omega⟩ (e_js3 (by rw [sizeLine_eq]; decide) (e_var rfl ⟨(a.lim : Int), rfl, ?_, (fits_lim a.lim hm2).1, (fits_lim a.lim hm2).2⟩))
        show Nat.log2 a.lim < 1920
        exact Nat.lt_of_le_of_lt (Nat.log2_le_self _) (by omega)
      · have h := of_decide_eq_false h
        refine sx_of (s_aug rfl (e_int (r_ipI ?_)))
        dsimp only [List.set]
        obtain ⟨m2, e2⟩ := bfs_pre a.rs a.first k
        refine ⟨a.lim + 2 - (k + 1), by omega, k + 1, _, _, _, by rw [e2, List.length_append]; omega, fun j hj => ?_, rfl, rfl⟩
        rcases Nat.lt_or_ge j k with z | z
        · exact hle j z
        · have : j = k := by omega
          subst this
          omega
  · have hb := of_decide_eq_false hb
    refine sx_of (s_retO rfl ⟨k, ⟨by omega, hle⟩, rfl⟩)
end
section
variable {P : Program} {w : World} {K : PySem.W.Frag} {mg : Str → Option Value} {base : Heap}
theorem way_one {rs : List Rl} {p s : S4} {k : Nat} (h : wayF rs p k = some (k, s)) : oneF rs (.int (k : Nat)) p = some s := by
  unfold wayF at h
  unfold oneF
  split at h
  · cases h
  · rename_i r hr
    dsimp only
    rw [if_pos (Int.natCast_nonneg k), Int.toNat_natCast, hr]
    dsimp only
    split at h
    · rename_i hc
      rw [if_pos hc]
      cases h
      rfl
    · cases h
structure SpA where
  ad : Addr
  rs : List Rl
  first : S4
  c : Cm
  i : Nat
  s : S4
  v : Option (S4 × Nat)
structure SpA.Ok (a : SpA) : Prop where
  ok : CmOk a.rs a.first a.c
  at_ : a.c[a.i]? = some (a.s, a.v)
  len : a.c.length ≤ 1000
abbrev spSt (w : World) (K : PySem.W.Frag) (ts : List Addr) : Sp := SpXO (α := SpA) K ts SpA.Ok (fun a => [.inr (.dF a.ad w (cmD a.c)), .inl a.s.D]) (fun a d => ∃ ks : List Nat, d = .list (natsD ks) ∧ ks.length ≤ a.i ∧ runF a.rs (natsD ks) a.first = some a.s)
abbrev LSt (w : World) (a : SpA) (s : S4) (ks : List Nat) : Lv := [some (.bor (.dF a.ad w (cmD a.c))), some (.d s.D), some (.own (.lst (natsD ks))), none]
theorem nats_rev (ks : List Nat) : (natsD ks).reverse = natsD ks.reverse := by unfold natsD; rw [List.map_reverse]
theorem noLs_nats : ∀ l : List Nat, noLs (natsD l) = true
  | [] => rfl
  | _ :: l => noLs_nats l
theorem et_sub {pen : Pc} {H0 : Hp} {tt : TT} {L L' : Lv} {Pb : Bool → Prop} (h : ET K pen H0 tt L' Pb) (s : Sub L' L) : ET K pen H0 tt L Pb := fun σ G H e => h σ G H (e.sub s)
set_option maxHeartbeats 4000000 in
theorem ok_steps_to (T : Tx K mg base) : FnOk P w K mg base CX0 1 T.f_steps_to T.d_steps_to ["came", "state"] (spSt w K T.ts) := by
  refine fnXO T.F_steps_to sc_steps_to (fun _ _ => rfl) (fun cdv A outer s H E hr => ⟨_, (pss_cons (ps_set (i := 2) sc_steps_to.nd rfl (.inl rfl) (pe_lst pa_nil))
      (pss_cons (ps_while PassesOwn.never (pt_cmpR op_notN (_root_.Gn.pe_get rfl rfl (hu9_of hr) (pv 0) (pv 1) (fun _ _ => rfl)) pe_non (nomark _))
      (pss_cons (ps_asg (_root_.Gn.pe_get rfl rfl (hu9_of hr) (pv 0) (pv 1) (fun _ _ => rfl)) (kx_pgT K (n := 2) rfl rfl (pgs_cons (pg_name (i := 1) sc_steps_to.nd rfl (.inl rfl)) (pgs_cons (pg_name (i := 3) sc_steps_to.nd rfl (.inl rfl)) pgs_nil))))
      (pss_one (ps_expr (pe_bm PySem.F.plainAttrs_list PySem.F.slot_list_append PySem.F.type_list_append mt_append (pv 2) (pa_cons (pv 3) pa_nil))))))
      (pss_one (ps_ret (kx_revL (K := K) rfl (pv 2)))))), fun a ha => ?_⟩)
  obtain ⟨hok, hat, hlen⟩ := ha
  try simp only [nox_K, blk_K, cx_K]
  show S K ⟨none, T.ts⟩ H _ [some (.bor (.dF a.ad w (cmD a.c))), some (.d a.s.D), none, none] _
  refine s_seq (s_ownNil ?_)
  dsimp only [List.set]
  refine s_cut (fun L => ∃ ks : List Nat, ks.length ≤ a.i ∧ runF a.rs (natsD ks.reverse) a.first = some a.s ∧ Sub (LSt w a a.first ks) L) (s_while (fun m L => ∃ (s : S4) (v : Option (S4 × Nat)) (ks : List Nat), a.c[m]? = some (s, v) ∧ ks.length + m ≤ a.i ∧ runF a.rs (natsD ks.reverse) s = some a.s ∧ Sub (LSt w a s ks) L) ⟨a.i, a.s, a.v, [], hat, by show 0 + a.i ≤ a.i; omega, rfl, Sub.refl _⟩ fun m L' ⟨s2, v, ks, h1, h2, h3, sb⟩ => et_sub ?_ sb) fun L' ⟨ks, h1, h2, sb⟩ => S.sub ?_ sb
  · refine et_test (e_op (e_ngetF (.inr rfl) (e_var rfl ⟨_, s4_nk s2, _, cm_get hok.nd h1, e_non (r_notNone ?_)⟩)))
    refine ⟨_, rfl, fun hb => ?_, fun hb => ?_⟩
    · have hm : 0 < m := by
        rcases Nat.eq_zero_or_pos m with z | z
        · subst z
          rw [hok.hd] at h1
          cases h1
          cases hb
        · exact z
      obtain ⟨p, k, j, u, rfl, hj, hp, hw⟩ := hok.par m s2 v h1 hm
      refine S.sub ?_ sb
      refine s_seq (s_asgG (e_ngetF (.inr rfl) (e_var rfl ⟨_, s4_nk s2, _, cm_get hok.nd h1, ?_⟩)))
      refine g_tup rfl (gs_cons (g_name (gs_cons (g_name (gs_nil ?_)))))
      dsimp only [List.set]
      refine s_appOwn rfl ?_ (e_var rfl ?_)
      · have := (List.getElem?_eq_some_iff.mp hat).1
        rw [natsD_len]
        omega
      refine ⟨j, hj, p, u, ks ++ [k], hp, by rw [List.length_append]; show ks.length + 1 + j ≤ a.i; omega, ?_, ?_⟩
      · rw [List.reverse_append]
        show (match oneF a.rs (.int (k : Nat)) p with | none => none | some s' => runF a.rs (natsD ks.reverse) s') = _
        rw [way_one hw]
        exact h3
      · unfold LSt natsD
        rw [List.map_append]
        dsimp only [List.set]
        repeat (first | exact Sub.nil | apply Sub.keep | apply Sub.drop)
    · have hm : m = 0 := by
        apply Classical.byContradiction
        intro z
        obtain ⟨p, k, j, u, rfl, _⟩ := hok.par m s2 v h1 (by omega)
        cases hb
      subst hm
      rw [hok.hd] at h1
      cases h1
      exact ⟨ks, by omega, h3, sb⟩
  · refine s_retN (en_el (el_look (el_revL (e_var rfl ⟨_, rfl, ?_⟩))))
    rw [nats_rev]
    exact ⟨noLs_nats _, noLs_nats _, _, rfl, by rw [List.length_reverse]; exact h1, h2⟩
end
section
variable {P : Program} {w : World} {K : PySem.W.Frag} {mg : Str → Option Value} {base : Heap}
theorem mem3 {α : Type} {a b d : α} (h : d ∈ [a, b]) : d = a ∨ d = b := by
  rcases List.mem_cons.mp h with h | h
  · exact .inl h
  · exact .inr (List.mem_singleton.mp h)
abbrev PyData.Lay (k : Nat) (d : PyData) : Prop := d.canLay0 = true ∧ d.depth ≤ k
theorem lay_all {k : Nat} : ∀ {ds : List PyData}, (∀ d ∈ ds, PyData.Lay k d) → PyData.canLayAll0 ds = true ∧ PyData.depthAll ds ≤ k
  | [], _ => ⟨rfl, Nat.zero_le _⟩
  | d :: ds, h => by
    obtain ⟨h1, h2⟩ := lay_all fun x hx => h x (List.mem_cons_of_mem _ hx)
    obtain ⟨h3, h4⟩ := h d (List.mem_cons_self ..)
    rw [PyData.canLayAll0, PyData.depthAll, h1, h3]
    exact ⟨rfl, Nat.max_le.mpr ⟨h4, h2⟩⟩
theorem lay_tup {k : Nat} {ds : List PyData} (h : ∀ d ∈ ds, PyData.Lay k d) : PyData.Lay (k + 1) (.tuple ds) := by
  obtain ⟨h1, h2⟩ := lay_all h
  exact ⟨by rw [PyData.canLay0]; exact h1, by rw [PyData.depth]; omega⟩
theorem lay_lst {k : Nat} {ds : List PyData} (h : ∀ d ∈ ds, PyData.Lay k d) : PyData.Lay (k + 1) (.list ds) := by
  obtain ⟨h1, h2⟩ := lay_all h
  exact ⟨by rw [PyData.canLay0]; exact h1, by rw [PyData.depth]; omega⟩
theorem lay_int {k : Nat} (i : Int) : PyData.Lay k (.int i) := ⟨rfl, Nat.zero_le _⟩
theorem shaped_lay {k : Nat} {d : PyData} (h : PyData.Lay k d) (hk : k ≤ 64) : SeqAt.shaped d = true := by
  unfold SeqAt.shaped
  rw [h.1, decide_eq_true (Nat.le_trans h.2 hk)]
  rfl
theorem lay_intsT (l : List Int) : PyData.Lay 1 (.tuple (intsL l)) := lay_tup fun d hd => by
  obtain ⟨v, _, rfl⟩ := List.mem_map.mp hd
  exact lay_int _
structure Bk where
  os : List Bool
  ns : List Bool
  lt : Nat
  rs : List Rl
def blsD (l : List Bool) : List PyData := l.map PyData.bool
theorem blsD_len (l : List Bool) : (blsD l).length = l.length := List.length_map _
def Bk.D (b : Bk) : PyData := .tuple [.tuple (blsD b.os), .tuple (blsD b.ns), .int b.lt, .tuple (rlsD b.rs)]
structure Bk.Ok (b : Bk) : Prop where
  o1 : 1 ≤ b.os.length
  o2 : b.os.length ≤ 10
  n1 : 1 ≤ b.ns.length
  n2 : b.ns.length ≤ 10
  l1 : 1 ≤ b.lt
  l2 : b.lt ≤ 10
  r2 : b.rs.length ≤ 90
  rs : ∀ r ∈ b.rs, r.Ok b.os.length b.ns.length b.lt
abbrev spBook (K : PySem.W.Frag) (ts : List Addr) : Sp := SpX (α := List Int) K ts (fun ns => ns.length ≤ 63) (fun ns => [.list (intsL ns)]) (fun _ d => ∃ b : Bk, d = b.D ∧ b.Ok)
theorem cut_mid (xs : List PyData) (p q : Nat) (h1 : p ≤ q) (h2 : q ≤ xs.length) : cutD xs (some (p : Int)) (some (q : Int)) = (xs.drop p).take (q - p) := by
  unfold Dl.cutD
  rw [HT.sIx_nat, HT.sIx_nat, Nat.min_eq_left h2, Nat.min_eq_left (show p ≤ xs.length by omega)]
theorem cut_sub {xs : List PyData} {lo hi : Option Int} : (Dl.cutD xs lo hi).length ≤ xs.length ∧ ∀ x ∈ Dl.cutD xs lo hi, x ∈ xs := by
  unfold Dl.cutD
  refine ⟨?_, fun x hx => List.mem_of_mem_drop (List.mem_of_mem_take hx)⟩
  rw [List.length_take, List.length_drop]
  omega
theorem eqv_nilL (ds : List PyData) : PyData.eqv (.list ds) (.list []) = ds.isEmpty := by cases ds <;> rfl
theorem lay_num (o : Option Nat) : PyData.Lay 0 (numD o) := by cases o <;> exact ⟨rfl, Nat.le_refl _⟩
theorem lay_rls (rs : List Rl) : PyData.Lay 2 (.list (rlsD rs)) := lay_lst fun d hd => by
  obtain ⟨r, _, rfl⟩ := List.mem_map.mp hd
  refine lay_tup fun d hd => ?_
  rcases List.mem_cons.mp hd with rfl | hd
  · exact lay_int _
  rcases List.mem_cons.mp hd with rfl | hd
  · exact lay_int _
  rcases List.mem_cons.mp hd with rfl | hd
  · exact lay_num _
  rcases List.mem_cons.mp hd with rfl | hd
  · exact lay_int _
  · rw [List.mem_singleton.mp hd]; exact lay_num _
theorem rls_erase (rs : List Rl) (m : Nat) : (rlsD rs).eraseIdx m = rlsD (rs.eraseIdx m) := by
  unfold rlsD
  induction rs generalizing m with
  | nil => rfl
  | cons r rs ih =>
    cases m with
    | zero => rfl
    | succ m => show Rl.D r :: _ = Rl.D r :: _; rw [ih m]
theorem rls_ins (rs : List Rl) (m : Nat) (r : Rl) : (rlsD rs).take m ++ [r.D] ++ (rlsD rs).drop m = rlsD (rs.take m ++ [r] ++ rs.drop m) := by
  unfold rlsD
  rw [List.map_append, List.map_append, List.map_take, List.map_drop]
  rfl
theorem bls_cat (a b : List Bool) : blsD a ++ blsD b = blsD (a ++ b) := by unfold blsD; rw [List.map_append]
theorem bls_set (a : List Bool) (i : Nat) (b : Bool) : (blsD a).set i (.bool b) = blsD (a.set i b) := by unfold blsD; rw [List.map_set]
theorem lc_bools (xs : List PyData) (f : PyData → Bool) : (xs.mapIdx fun _ d => some (PyData.bool (f d))).filterMap id = blsD (xs.map f) := by
  rw [show (xs.mapIdx fun _ d => some (PyData.bool (f d))) = xs.map fun d => some (PyData.bool (f d)) from by
    apply List.ext_getElem?
    intro i
    rw [List.getElem?_mapIdx, List.getElem?_map]]
  unfold blsD
  induction xs with
  | nil => rfl
  | cons x xs ih => rw [List.map_cons, List.filterMap_cons, List.map_cons, List.map_cons, ← ih]; rfl
abbrev LB0 (ns : List Int) (l : List Nat) (t lt mo mn : Nat) (rs : List Rl) : Lv := [some (.d (.list (intsL ns))), some (.d (.list (natsD l))), some (.d (.int t)), some (.d (.int lt)), some (.own (.lst (rlsD rs))), some (.d (.tuple [.int mo, .int mn])), none, none, none, none, none, none]
def evenOf (k : Int) : PyData → Bool
  | .int v => decide (v % 2 = k)
  | _ => false
def boolOf : PyData → Bool
  | .int v => decide (v % 3 = 0)
  | _ => false
set_option maxHeartbeats 8000000 in
theorem ok_law_book (T : Tx K mg base) : FnOk P w K mg base CX0 3 T.f_law_book T.d_law_book ["script"] (spBook K T.ts) := by
  refine fnX T.F_law_book sc_law_book (fun _ _ => rfl) (fun cdv A outer s H E hr => ⟨_, (pss_cons (ps_set (i := 1) sc_law_book.nd rfl (.inl rfl) (pe_call (ok_law_some T) (hr.mono (by decide)) (by rfl) T.g_law_some T.F_law_some.kp T.b_law_some .nil pass0 (pa_cons (pe_call (ok_law_cell T) (hr.mono (by decide)) (by rfl) T.g_law_cell T.F_law_cell.kp T.b_law_cell .nil pass0 (pa_cons (pv 0) (pa_cons pe_int pa_nil))) (pa_cons pe_int pa_nil))))
      (pss_cons (ps_set (i := 2) sc_law_book.nd rfl (.inl rfl) (pe_op op_mod (pe_ix (kx_ixL K rfl) (pv 1) pe_int (fun _ _ => rfl)) pe_int))
      (pss_cons (ps_set (i := 3) sc_law_book.nd rfl (.inl rfl) (pe_op op_add pe_int (pe_op op_mod (pe_ix (kx_ixL K rfl) (pv 1) pe_int (fun _ _ => rfl)) pe_int)))
      (pss_cons (ps_set (i := 4) sc_law_book.nd rfl (.inl rfl) (pe_call (ok_law_chain T) (hr.mono (by decide)) (by rfl) T.g_law_chain T.F_law_chain.kp T.b_law_chain .nil pass0 (pa_cons (pv 2) (pa_cons (pv 3) pa_nil))))
      (pss_cons (ps_set (i := 5) sc_law_book.nd rfl (.inl rfl) (pe_tup (pa_cons (pe_op op_add (pe_op op_add (pv 2) pe_int) (pe_op op_mod (pe_ix (kx_ixL K rfl) (pv 1) pe_int (fun _ _ => rfl)) pe_int)) (pa_cons (pe_op op_add (pe_op op_add (pv 2) pe_int) (pe_op op_mod (pe_ix (kx_ixL K rfl) (pv 1) pe_int (fun _ _ => rfl)) pe_int)) pa_nil))))
      (pss_cons (ps_if (PW.pt (pw_and (pt_cmpR op_eq (pe_op op_mod (pe_ix (kx_ixL K rfl) (pv 1) pe_int (fun _ _ => rfl)) pe_int) pe_int (nomark _)) (pw_and1 (pt_cmpR (kx_neD K rfl hr.units) (pv 4) (pe_lst pa_nil) (nomark _)))))
      (pss_one (ps_expr (pe_bm PySem.F.plainAttrs_list PySem.F.slot_list_pop PySem.F.type_list_pop mt_popAt (pv 4) (pa_cons (pe_op op_mod (pe_ix (kx_ixL K rfl) (pv 1) pe_int (fun _ _ => rfl)) (pe_callB (kx_len K rfl) (by rfl) T.m_len PySem.boot_len (pa_cons (pv 4) pa_nil))) pa_nil))))
      pss_nil)
      (pss_cons (ps_for PassesOwn.never rfl (kx_enum rfl rfl T.m_enumerate (pa_cons (pe_slice (kx_slL K rfl) (pv 0) (po_some pe_int) (po_some pe_int)) pa_nil)) (kx_pgT K (n := 2) rfl rfl (pgs_cons (pg_name (i := 6) sc_law_book.nd rfl (.inl rfl)) (pgs_cons (pg_name (i := 7) sc_law_book.nd rfl (.inl rfl)) pgs_nil)))
      (pss_cons (ps_set (i := 8) sc_law_book.nd rfl (.inl rfl) (pe_call (ok_law_some T) (hr.mono (by decide)) (by rfl) T.g_law_some T.F_law_some.kp T.b_law_some .nil pass0 (pa_cons (pv 7) (pa_cons pe_int pa_nil))))
      (pss_one (ps_if (pt_cmpR op_gt (pe_op op_mod (pe_ix (kx_ixL K rfl) (pv 8) pe_int (fun _ _ => rfl)) pe_int) pe_int (nomark _))
      (pss_one (ps_expr (pe_bm PySem.F.plainAttrs_list PySem.F.slot_list_insert PySem.F.type_list_insert mt_insert (pv 4) (pa_cons (pe_op op_mod (pe_ix (kx_ixL K rfl) (pv 8) pe_int (fun _ _ => rfl)) (pe_op op_add (pe_callB (kx_len K rfl) (by rfl) T.m_len PySem.boot_len (pa_cons (pv 4) pa_nil)) pe_int)) (pa_cons (pe_call (ok_law_rule T) (hr.mono (by decide)) (by rfl) T.g_law_rule T.F_law_rule.kp T.b_law_rule .nil pass0 (pa_cons (pv 8) (pa_cons (pv 5) (pa_cons (pv 3) pa_nil)))) pa_nil)))))
      pss_nil))))
      (pss_cons (ps_set (i := 9) sc_law_book.nd rfl (.inl rfl) (pe_op (kx_catL (K := K) rfl) (pe_lc (own := [("stand", 11)]) (g := gName 11) (tt := tYes) rfl sc_law_book.nd (pi_range1 rfl T.m_range (pa_cons (pe_op op_add (pv 2) pe_int) pa_nil)) (blkOk_by (own := [("stand", 11)]) (N := ["script", "some", "turns", "letters", "rules", "many", "k", "cell", "one", "old", "new", "stand"]) (sc := defScope s_law_book) (by decide +kernel)) (fun _ _ _ _ _ => (pg_name (i := 11) sc_law_book.nd rfl (.inl rfl))) (fun _ _ _ _ _ => pts_nil) (fun _ _ _ _ _ => (pe_cmpR op_eq (pe_op op_mod (pv 11) pe_int) pe_int (nomark _)))) (pe_lc (own := [("one", 8)]) (g := gName 8) (tt := tYes) rfl sc_law_book.nd (kx_piL K rfl (pe_slice (kx_slL K rfl) (pv 1) (po_some pe_int) (po_some (pe_op op_sub (pe_op op_sub (pe_op op_add pe_int (pe_ix (kx_ixT K rfl) (pv 5) pe_int (fun _ _ => rfl))) (pv 2)) pe_int)))) (blkOk_by (own := [("one", 8)]) (N := ["script", "some", "turns", "letters", "rules", "many", "k", "cell", "one", "old", "new", "stand"]) (sc := defScope s_law_book) (by decide +kernel)) (fun _ _ _ _ _ => (pg_name (i := 8) sc_law_book.nd rfl (.inl rfl))) (fun _ _ _ _ _ => pts_nil) (fun _ _ _ _ _ => (pe_cmpR op_eq (pe_op op_mod (pv 8) pe_int) pe_int (nomark _))))))
      (pss_cons (ps_set (i := 10) sc_law_book.nd rfl (.inl rfl) (pe_op (kx_catL (K := K) rfl) (pe_lc (own := [("stand", 11)]) (g := gName 11) (tt := tYes) rfl sc_law_book.nd (pi_range1 rfl T.m_range (pa_cons (pe_op op_add (pv 2) pe_int) pa_nil)) (blkOk_by (own := [("stand", 11)]) (N := ["script", "some", "turns", "letters", "rules", "many", "k", "cell", "one", "old", "new", "stand"]) (sc := defScope s_law_book) (by decide +kernel)) (fun _ _ _ _ _ => (pg_name (i := 11) sc_law_book.nd rfl (.inl rfl))) (fun _ _ _ _ _ => pts_nil) (fun _ _ _ _ _ => (pe_cmpR op_eq (pe_op op_mod (pv 11) pe_int) pe_int (nomark _)))) (pe_lc (own := [("one", 8)]) (g := gName 8) (tt := tYes) rfl sc_law_book.nd (kx_piL K rfl (pe_slice (kx_slL K rfl) (pv 1) (po_some pe_int) (po_some (pe_op op_sub (pe_op op_sub (pe_op op_add pe_int (pe_ix (kx_ixT K rfl) (pv 5) pe_int (fun _ _ => rfl))) (pv 2)) pe_int)))) (blkOk_by (own := [("one", 8)]) (N := ["script", "some", "turns", "letters", "rules", "many", "k", "cell", "one", "old", "new", "stand"]) (sc := defScope s_law_book) (by decide +kernel)) (fun _ _ _ _ _ => (pg_name (i := 8) sc_law_book.nd rfl (.inl rfl))) (fun _ _ _ _ _ => pts_nil) (fun _ _ _ _ _ => (pe_cmpR op_eq (pe_op op_mod (pv 8) pe_int) pe_int (nomark _))))))
      (pss_cons (ps_asg (pe_cmpR op_gt (pe_op op_mod (pe_ix (kx_ixL K rfl) (pv 1) pe_int (fun _ _ => rfl)) pe_int) pe_int (nomark _)) (pg_sub (pv 9) pe_int set_list))
      (pss_cons (ps_asg (pe_cmpR op_eq (pe_op op_mod (pe_ix (kx_ixL K rfl) (pv 1) pe_int (fun _ _ => rfl)) pe_int) pe_int (nomark _)) (pg_sub (pv 10) pe_int set_list))
      (pss_one (ps_ret (pe_tup (pa_cons (pe_callTy (kx_tuple K rfl) (by rfl) T.m_tuple (by decide +kernel) (pa_cons (pv 9) pa_nil)) (pa_cons (pe_callTy (kx_tuple K rfl) (by rfl) T.m_tuple (by decide +kernel) (pa_cons (pv 10) pa_nil)) (pa_cons (pe_op op_add (pv 3) (pe_op op_mod (pe_ix (kx_ixL K rfl) (pv 1) pe_int (fun _ _ => rfl)) pe_int)) (pa_cons (pe_callTy (kx_tuple K rfl) (by rfl) T.m_tuple (by decide +kernel) (pa_cons (pv 4) pa_nil)) pa_nil)))))))))))))))))), fun ns hns => ?_⟩)
  try simp only [nox_K, blk_K, cx_K]
  show S K ⟨none, T.ts⟩ H _ [some (.d _), none, none, none, none, none, none, none, none, none, none, none] _
  refine s_seq (s_asg ?_)
  repeat walk_at "e"
  refine ⟨⟨ns, 0⟩, rfl, Nat.zero_le _, ?_⟩
  rintro d ⟨z, rfl⟩
  repeat walk_at "e"
  refine ⟨⟨z, 30⟩, rfl, by show 30 ≤ 1000; decide, ?_⟩
  rintro d ⟨l, rfl, hl⟩
  dsimp only at hl
  repeat walk_at "e"
  refine r_ixL (nats_at (i := 0) (by omega)) ?_
  repeat walk_at "e"
  refine r_mod (by decide) ?_
  rw [show (((l.getD 0 0 : Nat) : Int) % 6) = ((l.getD 0 0 % 6 : Nat) : Int) from rfl]
  have ht : l.getD 0 0 % 6 < 6 := Nat.mod_lt _ (by decide)
  generalize l.getD 0 0 % 6 = t at ht
  repeat walk_at "e"
  refine r_ixL (nats_at (i := 1) (by omega)) ?_
  repeat walk_at "e"
  refine r_mod (by decide) ?_
  rw [show (((l.getD 1 0 : Nat) : Int) % 3) = ((l.getD 1 0 % 3 : Nat) : Int) from rfl]
  have hlt0 : l.getD 1 0 % 3 < 3 := Nat.mod_lt _ (by decide)
  generalize l.getD 1 0 % 3 = lt0 at hlt0
  refine r_add ?_
  rw [show (1 : Int) + (lt0 : Int) = ((1 + lt0 : Nat) : Int) by omega]
  dsimp only [List.set]
  refine s_seq (s_asgK (ek_call ?_))
  repeat walk_at "e"
  refine ⟨⟨t, 1 + lt0⟩, rfl, ⟨by show t ≤ 50; omega, by show 1 ≤ 1 + lt0; omega, by show 1 + lt0 ≤ 50; omega⟩, ?_⟩
  rintro o ⟨rs0, rfl, hrs1, hrs2⟩
  dsimp only at hrs1 hrs2
  dsimp only [List.set]
  refine s_seq (s_asg ?_)
  repeat walk_at "e"
  refine r_ixL (nats_at (i := 2) (by omega)) ?_
  repeat walk_at "e"
  refine r_mod (by decide) ?_
  repeat walk_at "e"
  refine r_ixL (nats_at (i := 3) (by omega)) ?_
  repeat walk_at "e"
  refine r_mod (by decide) ?_
  refine r_add (ea_nil ⟨Nat.le_of_ble_eq_true rfl, ?_⟩)
  dsimp only [List.set]
  have hx2 : l.getD 2 0 % 3 < 3 := Nat.mod_lt _ (by decide)
  have hx3 : l.getD 3 0 % 3 < 3 := Nat.mod_lt _ (by decide)
  rw [show (t : Int) + 1 + ((l.getD 2 0 : Nat) : Int) % 3 = ((t + 1 + l.getD 2 0 % 3 : Nat) : Int) by omega, show (t : Int) + 1 + ((l.getD 3 0 : Nat) : Int) % 3 = ((t + 1 + l.getD 3 0 % 3 : Nat) : Int) by omega]
  obtain ⟨mo, hmo⟩ : ∃ mo, t + 1 + l.getD 2 0 % 3 = mo := ⟨_, rfl⟩
  obtain ⟨mn, hmn⟩ : ∃ mn, t + 1 + l.getD 3 0 % 3 = mn := ⟨_, rfl⟩
  rw [hmo, hmn]
  have hrs0 : ∀ r ∈ rs0, r.Ok mo mn (1 + lt0) := fun r hr => (hrs2 r hr).mono (by omega) (by omega) (Nat.le_refl _)
  refine s_cut (fun L => ∃ rs : List Rl, rs.length ≤ 12 ∧ (∀ r ∈ rs, r.Ok mo mn (1 + lt0)) ∧ Sub (LB0 ns l t (1 + lt0) mo mn rs) L) (s_if ?_) fun L' ⟨rs1, h1, h2, sb⟩ => S.sub ?_ sb
  · have no : ∃ rs : List Rl, rs.length ≤ 12 ∧ (∀ r ∈ rs, r.Ok mo mn (1 + lt0)) ∧ Sub (LB0 ns l t (1 + lt0) mo mn rs) (LB0 ns l t (1 + lt0) mo mn rs0) := ⟨rs0, by omega, hrs0, Sub.refl _⟩
    repeat walk_at "e"
    refine r_ixL (nats_at (i := 4) (by omega)) ?_
    repeat walk_at "e"
    refine r_mod (by decide) ?_
    repeat walk_at "e"
    refine ⟨fun _ => ?_, fun _ => ⟨fun z => (by cases z), fun _ => s_next no⟩⟩
    refine et_look ?_
    dsimp only [lookL, lookA, List.map]
    repeat walk_at "e"
    refine r_neD (shaped_lay (lay_rls rs0) (by decide)) rfl ?_
    rw [eqv_nilL]
    refine ⟨_, rfl, fun h => ?_, fun h => s_next no⟩
    have hpos : 0 < rs0.length := by
      cases rs0 with
      | nil => cases h
      | cons a b => exact Nat.succ_pos _
    refine s_popAtD rfl ?_
    repeat walk_at "e"
    refine r_ixL (nats_at (i := 5) (by omega)) ?_
    repeat walk_at "e"
    rw [rlsD_len]
    refine r_mod (by omega) ?_
    have hml : l.getD 5 0 % rs0.length < rs0.length := Nat.mod_lt _ hpos
    refine ⟨l.getD 5 0 % rs0.length, rfl, hml, by omega, ?_⟩
    rw [rls_erase]
    exact ⟨rs0.eraseIdx _, by rw [List.length_eraseIdx]; split <;> omega, fun r hr => hrs0 r (List.mem_of_mem_eraseIdx hr), Sub.refl _⟩
  refine s_cut (fun L => ∃ rs : List Rl, rs.length ≤ 80 ∧ (∀ r ∈ rs, r.Ok mo mn (1 + lt0)) ∧ Sub (LB0 ns l t (1 + lt0) mo mn rs) L) (s_forI (it_enum (ea_cons (e_sl (e_var rfl (eo_some (e_int ⟨_, rfl, eo_some (e_int ⟨_, rfl, r_slL (ea_nil ⟨_, rfl, ?_⟩)⟩)⟩))))))) fun L' ⟨rs2, h3, h4, sb2⟩ => S.sub ?_ sb2
  · obtain ⟨c1, c2⟩ := cut_sub (xs := intsL ns) (lo := some 1) (hi := some 9)
    have c1 : (Dl.cutD (intsL ns) (some 1) (some 9)).length ≤ 63 := Nat.le_trans c1 (by rw [show (intsL ns).length = ns.length from List.length_map _]; exact hns)
    refine ⟨fun i L => ∃ rs : List Rl, rs.length ≤ 12 + i ∧ (∀ r ∈ rs, r.Ok mo mn (1 + lt0)) ∧ L = LB0 ns l t (1 + lt0) mo mn rs, ⟨_, Sub.refl _, rs1, by omega, h2, rfl⟩, fun i d L' hd ⟨rs, e1, e2, e⟩ => ?_, fun L' ⟨rs, e1, e2, e⟩ L4 s4 => ⟨rs, by rw [enumL_len] at e1; omega, e2, e ▸ s4⟩⟩
    subst e
    obtain ⟨y, hy, rfl⟩ := enumL_get hd
    have hil : i < 63 := Nat.lt_of_lt_of_le (List.getElem?_eq_some_iff.mp hy).1 c1
    obtain ⟨v, _, rfl⟩ := List.mem_map.mp (c2 y (List.mem_of_getElem? hy))
    refine g_tup rfl (gs_cons (g_name (gs_cons (g_name (gs_nil ?_)))))
    dsimp only [List.set]
    refine s_seq (s_asg ?_)
    repeat walk_at "e"
    refine ⟨⟨v, 9⟩, rfl, by show 9 ≤ 1000; decide, ?_⟩
    rintro d ⟨q, rfl, hq⟩
    dsimp only at hq
    dsimp only [List.set]
    refine s_if ?_
    repeat walk_at "e"
    refine r_ixL (nats_at (i := 7) (by omega)) ?_
    repeat walk_at "e"
    refine r_mod (by decide) ?_
    repeat walk_at "e"
    refine ⟨fun _ => ?_, fun _ => s_next ⟨LB0 ns l t (1 + lt0) mo mn rs, by repeat (first | exact Sub.nil | apply Sub.keep | apply Sub.drop), rs, by omega, e2, rfl⟩⟩
    refine s_insOwn rfl (by rw [rlsD_len]; omega) ?_
    repeat walk_at "e"
    refine r_ixL (nats_at (i := 8) (by omega)) ?_
    repeat walk_at "e"
    rw [rlsD_len]
    refine r_mod (by omega) ?_
    repeat walk_at "e"
    refine ⟨⟨q, mo, mn, 1 + lt0⟩, rfl, ⟨hq, by show 1 ≤ mo; omega, by show 1 ≤ mn; omega, by show 1 ≤ 1 + lt0; omega⟩, ?_⟩
    rintro d ⟨r, rfl, hr⟩
    dsimp only at hr
    have hml : q.getD 8 0 % (rs.length + 1) < rs.length + 1 := Nat.mod_lt _ (Nat.succ_pos _)
    refine ⟨q.getD 8 0 % (rs.length + 1), by show PyData.int (((q.getD 8 0 : Nat) : Int) % ((rs.length : Int) + 1)) = _; rw [show ((rs.length : Int) + 1) = ((rs.length + 1 : Nat) : Int) by omega]; rfl, by omega, ?_⟩
    rw [rls_ins]
    refine ⟨LB0 ns l t (1 + lt0) mo mn _, by repeat (first | exact Sub.nil | apply Sub.keep | apply Sub.drop), _, ?_, fun u hu => ?_, rfl⟩
    · rw [List.length_append, List.length_append, List.length_take, List.length_drop]
      show _ + 1 + _ ≤ _
      omega
    · rcases List.mem_append.mp hu with hu | hu
      · rcases List.mem_append.mp hu with hu | hu
        · exact e2 u (List.mem_of_mem_take hu)
        · rw [List.mem_singleton.mp hu]; exact hr
      · exact e2 u (List.mem_of_mem_drop hu)
  refine s_seq (s_ownL (el_catL (e_ofL (el_lcF (fun _ d => some (.bool (evenOf 0 d))) (it_rng ?_)))))
  repeat walk_at "e"
  refine ⟨by omega, by omega, by rw [rngL_len]; omega, fun i d hd => ?_, ?_⟩
  · obtain ⟨hi, rfl⟩ := rngL_get hd
    refine gw_name (by decide) ?_
    dsimp only [List.map, wipeL, List.set]
    refine et_yes ⟨fun _ => ?_, fun z => (by cases z)⟩
    repeat walk_at "e"
    refine r_mod (by decide) ?_
    repeat walk_at "e"
    rfl
  rw [lc_bools]
  refine e_ofL (el_lcF (fun _ d => some (.bool (boolOf d))) (it_list (e_sl (e_var rfl (eo_some (e_int ⟨_, rfl, eo_some ?_⟩))))))
  repeat walk_at "e"
  rw [show (6 : Int) + (mo : Int) - (t : Int) - 1 = ((6 + (mo - t - 1) : Nat) : Int) by omega, show (6 : Int) = ((6 : Nat) : Int) from rfl, cut_mid _ _ _ (by omega) (by rw [nats_len]; omega)]
  refine ⟨by rw [List.length_take, List.length_drop, nats_len]; omega, fun i d hd => ?_, ?_⟩
  · obtain ⟨v, _, rfl⟩ := List.mem_map.mp (List.mem_of_mem_drop (List.mem_of_mem_take (List.mem_of_getElem? hd)))
    refine gw_name (by decide) ?_
    dsimp only [List.map, wipeL, List.set]
    refine et_yes ⟨fun _ => ?_, fun z => (by cases z)⟩
    repeat walk_at "e"
    refine r_mod (by decide) ?_
    repeat walk_at "e"
    rfl
  rw [lc_bools]
  refine ⟨_, _, rfl, rfl, by rw [blsD_len, blsD_len, List.length_map, List.length_map, rngL_len, List.length_take]; omega, ?_⟩
  rw [bls_cat]
  obtain ⟨oo, hoo, hloo⟩ : ∃ o : List Bool, (rngL 0 ((t : Int) + 1).toNat).map (evenOf 0) ++ (((natsD l).drop 6).take (6 + (mo - t - 1) - 6)).map boolOf = o ∧ o.length = mo := ⟨_, rfl, by rw [List.length_append, List.length_map, List.length_map, rngL_len, List.length_take, List.length_drop, nats_len]; omega⟩
  rw [hoo]
  dsimp only [List.set]
  refine s_seq (s_ownL (el_catL (e_ofL (el_lcF (fun _ d => some (.bool (evenOf 1 d))) (it_rng ?_)))))
  repeat walk_at "e"
  refine ⟨by omega, by omega, by rw [rngL_len]; omega, fun i d hd => ?_, ?_⟩
  · obtain ⟨hi, rfl⟩ := rngL_get hd
    refine gw_name (by decide) ?_
    dsimp only [List.map, wipeL, List.set]
    refine et_yes ⟨fun _ => ?_, fun z => (by cases z)⟩
    repeat walk_at "e"
    refine r_mod (by decide) ?_
    repeat walk_at "e"
    rfl
  rw [lc_bools]
  refine e_ofL (el_lcF (fun _ d => some (.bool (boolOf d))) (it_list (e_sl (e_var rfl (eo_some (e_int ⟨_, rfl, eo_some ?_⟩))))))
  repeat walk_at "e"
  rw [show (9 : Int) + (mn : Int) - (t : Int) - 1 = ((9 + (mn - t - 1) : Nat) : Int) by omega, show (9 : Int) = ((9 : Nat) : Int) from rfl, cut_mid _ _ _ (by omega) (by rw [nats_len]; omega)]
  refine ⟨by rw [List.length_take, List.length_drop, nats_len]; omega, fun i d hd => ?_, ?_⟩
  · obtain ⟨v, _, rfl⟩ := List.mem_map.mp (List.mem_of_mem_drop (List.mem_of_mem_take (List.mem_of_getElem? hd)))
    refine gw_name (by decide) ?_
    dsimp only [List.map, wipeL, List.set]
    refine et_yes ⟨fun _ => ?_, fun z => (by cases z)⟩
    repeat walk_at "e"
    refine r_mod (by decide) ?_
    repeat walk_at "e"
    rfl
  rw [lc_bools]
  refine ⟨_, _, rfl, rfl, by rw [blsD_len, blsD_len, List.length_map, List.length_map, rngL_len, List.length_take]; omega, ?_⟩
  rw [bls_cat]
  obtain ⟨nn, hnn, hlnn⟩ : ∃ o : List Bool, (rngL 0 ((t : Int) + 1).toNat).map (evenOf 1) ++ (((natsD l).drop 9).take (9 + (mn - t - 1) - 9)).map boolOf = o ∧ o.length = mn := ⟨_, rfl, by rw [List.length_append, List.length_map, List.length_map, rngL_len, List.length_take, List.length_drop, nats_len]; omega⟩
  rw [hnn]
  dsimp only [List.set]
  refine s_seq (s_putOwn rfl ?_)
  repeat walk_at "e"
  refine r_ixL (nats_at (i := 13) (by omega)) ?_
  repeat walk_at "e"
  refine r_mod (by decide) ?_
  repeat walk_at "e"
  refine ⟨by show 0 < (blsD oo).length; rw [blsD_len]; omega, ?_⟩
  rw [bls_set]
  dsimp only [List.set]
  refine s_seq (s_putOwn rfl ?_)
  repeat walk_at "e"
  refine r_ixL (nats_at (i := 14) (by omega)) ?_
  repeat walk_at "e"
  refine r_mod (by decide) ?_
  repeat walk_at "e"
  refine ⟨by show 0 < (blsD nn).length; rw [blsD_len]; omega, ?_⟩
  rw [bls_set]
  dsimp only [List.set]
  repeat walk_at "e"
  refine r_ixL (nats_at (i := 12) (by omega)) ?_
  repeat walk_at "e"
  refine r_mod (by decide) ?_
  repeat walk_at "e"
  have hx12 : l.getD 12 0 % 2 < 2 := Nat.mod_lt _ (by decide)
  rw [show ((1 + lt0 : Nat) : Int) + ((l.getD 12 0 : Nat) : Int) % 2 = ((1 + lt0 + l.getD 12 0 % 2 : Nat) : Int) by omega]
  refine ⟨⟨oo.set 0 _, nn.set 0 _, 1 + lt0 + l.getD 12 0 % 2, rs2⟩, rfl, ?_⟩
  refine ⟨by dsimp only; rw [List.length_set]; omega, by dsimp only; rw [List.length_set]; omega, by dsimp only; rw [List.length_set]; omega, by dsimp only; rw [List.length_set]; omega, by dsimp only; omega, by dsimp only; omega, by dsimp only; omega, fun r hr => ?_⟩
  dsimp only
  rw [List.length_set, List.length_set, hloo, hlnn]
  exact (h4 r hr).mono (Nat.le_refl _) (Nat.le_refl _) (by omega)
end
section
variable {P : Program} {w : World} {K : PySem.W.Frag} {mg : Str → Option Value} {base : Heap}
/-- the houses that run in a state -/
def runsB (b : Bk) (s : S4) (h : Nat) : Bool := if h = 1 then b.ns.getD s.n false else b.os.getD s.o false
def runsF (b : Bk) (s : S4) : List Nat := [0, 1].filter (runsB b s)
structure S4.In (b : Bk) (s : S4) : Prop where
  o : s.o < b.os.length
  n : s.n < b.ns.length
structure RuA where
  b : Bk
  s : S4
theorem bls_at {l : List Bool} {i : Nat} (h : i < l.length) : atI (blsD l) (i : Int) = some (.bool (l.getD i false)) := atI_nat (by unfold blsD; rw [List.getElem?_map, List.getElem?_eq_getElem h, List.getD_eq_getElem?_getD, List.getElem?_eq_getElem h]; rfl)
abbrev spRu (K : PySem.W.Frag) (ts : List Addr) : Sp := SpX (α := RuA) K ts (fun a => a.s.In a.b) (fun a => [a.b.D, a.s.D]) (fun a d => d = .list (natsD (runsF a.b a.s)))
theorem two_at {i : Nat} {x : PyData} (h : [PyData.int 0, .int 1][i]? = some x) : x = .int (i : Int) ∧ i < 2 := by
  rcases i with _ | _ | i
  · cases h; exact ⟨rfl, by decide⟩
  · cases h; exact ⟨rfl, by decide⟩
  · cases h
theorem if_tup (h : Nat) (a b : List PyData) : (if h = 1 then PyData.tuple a else PyData.tuple b) = .tuple (if h = 1 then a else b) := by split <;> rfl
theorem if_int (h a b : Nat) : (if h = 1 then PyData.int (a : Int) else PyData.int (b : Int)) = .int ((if h = 1 then a else b : Nat) : Int) := by split <;> rfl
theorem runs_is (b : Bk) (s : S4) : (([PyData.int 0, .int 1].mapIdx fun i _ => if runsB b s i = true then some (PyData.int (i : Int)) else none).filterMap id) = natsD (runsF b s) := by
  unfold runsF natsD
  show List.filterMap id [if runsB b s 0 = true then some (PyData.int ((0 : Nat) : Int)) else none, if runsB b s 1 = true then some (PyData.int ((1 : Nat) : Int)) else none] = _
  rw [List.filter_cons, List.filter_cons, List.filter_nil]
  cases runsB b s 0 <;> cases runsB b s 1 <;> rfl
theorem runs_hit {b : Bk} {s : S4} (hi : s.In b) {h : Nat} (h2 : h < 2) : atI (if h = 1 then blsD b.ns else blsD b.os) ((if h = 1 then s.n else s.o : Nat) : Int) = some (.bool (runsB b s h)) := by
  unfold runsB
  split
  · exact bls_at hi.n
  · exact bls_at hi.o
set_option maxHeartbeats 4000000 in
theorem ok_running_houses (T : Tx K mg base) : FnOk P w K mg base CX0 1 T.f_running_houses T.d_running_houses ["book", "state"] (spRu K T.ts) := by
  refine fnX T.F_running_houses sc_running_houses (fun _ _ => rfl) (fun cdv A outer s H E hr => ⟨_, (pss_one (ps_ret (pe_lc (own := [("house", 2)]) (g := gName 2) rfl sc_running_houses.nd (kx_piT K rfl (pe_tup (pa_cons pe_int (pa_cons pe_int pa_nil)))) (blkOk_by (own := [("house", 2)]) (N := ["book", "state", "house"]) (sc := defScope s_running_houses) (by decide +kernel)) (fun _ _ _ _ _ => (pg_name (i := 2) sc_running_houses.nd rfl (.inl rfl))) (fun _ _ _ _ _ => (pts_one (pt_val (pe_ix (kx_ixT K rfl) (pe_ix (kx_ixT K rfl) (pv 0) (pv 2) (fun _ _ => rfl)) (pe_ix (kx_ixT K rfl) (pv 1) (pv 2) (fun _ _ => rfl)) (fun _ _ => rfl))))) (fun _ _ _ _ _ => (pv 2))))), fun a ha => ?_⟩)
  obtain ⟨b, s⟩ := a
  dsimp only at ha
  try simp only [nox_K, blk_K, cx_K]
  show S K ⟨none, T.ts⟩ H _ [some (.d _), some (.d _), none] _
  dsimp only [Bk.D, S4.D]
  refine s_ret (e_ofL (el_lcF (fun i _ => if runsB b s i = true then some (.int (i : Int)) else none) (it_tup ?_)))
  repeat walk_at "e"
  refine ⟨fun i d hd => ?_, ?_⟩
  · obtain ⟨rfl, h2⟩ := two_at hd
    refine gw_name (by decide) ?_
    dsimp only [List.map, wipeL, List.set]
    repeat walk_at "e"
    refine r_ixT (at2 h2) ?_
    rw [if_tup]
    repeat walk_at "e"
    refine r_ixT (at2 h2) ?_
    rw [if_int]
    refine r_ixT (runs_hit ha h2) ?_
    refine ⟨_, rfl, fun h => ?_, fun h => ?_⟩
    · repeat walk_at "e"
      exact if_pos h
    · exact if_neg (by rw [h]; decide)
  · rw [runs_is]
set_option maxHeartbeats 4000000 in
theorem ok_law_running (T : Tx K mg base) : FnOk P w K mg base CX0 1 T.f_law_running T.d_law_running ["book", "state"] (spRu K T.ts) := by
  refine fnX T.F_law_running sc_law_running (fun _ _ => rfl) (fun cdv A outer s H E hr => ⟨_, (pss_one (ps_ret (pe_lc (own := [("house", 2)]) (g := gName 2) rfl sc_law_running.nd (pi_range1 rfl T.m_range (pa_cons pe_int pa_nil)) (blkOk_by (own := [("house", 2)]) (N := ["book", "state", "house"]) (sc := defScope s_law_running) (by decide +kernel)) (fun _ _ _ _ _ => (pg_name (i := 2) sc_law_running.nd rfl (.inl rfl))) (fun _ _ _ _ _ => (pts_one (pt_val (pe_ix (kx_ixT K rfl) (pe_ix (kx_ixT K rfl) (pv 0) (pv 2) (fun _ _ => rfl)) (pe_ix (kx_ixT K rfl) (pv 1) (pv 2) (fun _ _ => rfl)) (fun _ _ => rfl))))) (fun _ _ _ _ _ => (pv 2))))), fun a ha => ?_⟩)
  obtain ⟨b, s⟩ := a
  dsimp only at ha
  try simp only [nox_K, blk_K, cx_K]
  show S K ⟨none, T.ts⟩ H _ [some (.d _), some (.d _), none] _
  dsimp only [Bk.D, S4.D]
  refine s_ret (e_ofL (el_lcF (fun i _ => if runsB b s i = true then some (.int (i : Int)) else none) (it_rng ?_)))
  repeat walk_at "e"
  refine ⟨by decide, by decide, by decide, fun i d hd => ?_, ?_⟩
  · obtain ⟨rfl, h2⟩ := two_at hd
    refine gw_name (by decide) ?_
    dsimp only [List.map, wipeL, List.set]
    repeat walk_at "e"
    refine r_ixT (at2 h2) ?_
    rw [if_tup]
    repeat walk_at "e"
    refine r_ixT (at2 h2) ?_
    rw [if_int]
    refine r_ixT (runs_hit ha h2) ?_
    refine ⟨_, rfl, fun h => ?_, fun h => ?_⟩
    · repeat walk_at "e"
      exact if_pos h
    · exact if_neg (by rw [h]; decide)
  · exact congrArg PyData.list (runs_is b s)
structure Bk.Good (b : Bk) : Prop where
  o1 : 1 ≤ b.os.length
  n1 : 1 ≤ b.ns.length
  r2 : b.rs.length ≤ 90
  rh : ∀ r ∈ b.rs, r.h < 2
  rt : ∀ r ∈ b.rs, r.t < if r.h = 1 then b.ns.length else b.os.length
theorem Bk.Ok.good {b : Bk} (h : b.Ok) : b.Good := ⟨h.o1, h.n1, h.r2, fun r hr => (h.rs r hr).h2, fun r hr => (h.rs r hr).t1⟩
theorem step_in {b : Bk} {r : Rl} {s : S4} (ht : r.t < if r.h = 1 then b.ns.length else b.os.length) (hs : s.In b) : (stepF r s).In b := by
  unfold stepF
  split
  · rename_i h
    rw [if_pos h] at ht
    exact ⟨hs.o, ht⟩
  · rename_i h
    rw [if_neg h] at ht
    exact ⟨ht, hs.n⟩
theorem way_step {rs : List Rl} {s : S4} {w : Nat × S4} {k : Nat} (h : wayF rs s k = some w) : ∃ r, rs[k]? = some r ∧ canF r s = true ∧ w = (k, stepF r s) := by
  unfold wayF at h
  split at h
  · cases h
  · rename_i r hr
    split at h
    · rename_i hc
      exact ⟨r, hr, hc, (Option.some.inj h).symm⟩
    · cases h
theorem s0_in {b : Bk} (h : b.Good) : s0.In b := ⟨h.o1, h.n1⟩
theorem cm_in {b : Bk} {first : S4} {c : Cm} (hb : b.Good) (h : CmOk b.rs first c) (hf : first.In b) : ∀ (n i : Nat) (s : S4) (v : Option (S4 × Nat)), i ≤ n → c[i]? = some (s, v) → s.In b
  | n, i, s, v, hi, e => by
    rcases Nat.eq_zero_or_pos i with z | z
    · subst z
      rw [h.hd] at e
      cases e
      exact hf
    · obtain ⟨p, k, j, u, _, hj, hp, hw⟩ := h.par i s v e z
      obtain ⟨r, hr, _, he⟩ := way_step hw
      have e2 : s = stepF r p := congrArg Prod.snd he
      rw [e2]
      match n with
      | 0 => omega
      | n + 1 => exact step_in (hb.rt r (List.mem_of_getElem? hr)) (cm_in hb h hf n j p u (by omega) hp)
def twiceF (b : Bk) (s : S4) : Bool := decide ((runsF b s).length = 2)
abbrev spTw (K : PySem.W.Frag) (ts : List Addr) : Sp := SpX (α := RuA) K ts (fun a => a.s.In a.b) (fun a => [a.b.D, a.s.D]) (fun a d => d = .bool (twiceF a.b a.s))
theorem ok_runs_twice (T : Tx K mg base) : FnOk P w K mg base CX0 2 T.f_runs_twice T.d_runs_twice ["book", "state"] (spTw K T.ts) := by
  refine fnX T.F_runs_twice sc_runs_twice (fun _ _ => rfl) (fun cdv A outer s H E hr => ⟨_, (pss_one (ps_ret (pe_cmpR op_eq (pe_callB (kx_len K rfl) (by rfl) T.m_len PySem.boot_len (pa_cons (pe_call (ok_running_houses T) (hr.mono (by decide)) (by rfl) T.g_running_houses T.F_running_houses.kp T.b_running_houses .nil pass0 (pa_cons (pv 0) (pa_cons (pv 1) pa_nil))) pa_nil)) pe_int (nomark _)))), fun a ha => ?_⟩)
  try simp only [nox_K, blk_K, cx_K]
  repeat walk_at "k"
  refine ⟨ha, ?_⟩
  rintro d rfl
  repeat walk_at "k"
  rw [natsD_len]
  exact congrArg PyData.bool (decide_eq_decide.mpr (by omega))
end
section
variable {P : Program} {w : World} {K : PySem.W.Frag} {mg : Str → Option Value} {base : Heap}
structure TwA where
  b : Bk
  lim : Nat
structure TwA.Ok (a : TwA) : Prop where
  g : a.b.Good
  m1 : 1 ≤ a.lim
  m2 : a.lim < 256
inductive TwR (a : TwA) (c : Cm) : PyData → Prop
  | two (i : Nat) (s : S4) (v : Option (S4 × Nat)) (ks : List Nat) : c[i]? = some (s, v) → twiceF a.b s = true → ks.length ≤ i → runF a.b.rs (natsD ks) s0 = some s → TwR a c (.tuple [.str "two", .list (natsD ks)])
  | never : (∀ s ∈ statesOf c, twiceF a.b s = false) → TwR a c (.tuple [.str "never", .list ((statesOf c).map S4.D)])
abbrev spTr (K : PySem.W.Frag) (ts : List Addr) (C : Addr) : Sp := SpXRF (α := TwA) K ts C TwA.Ok (fun a => [a.b.D, .int (a.lim : Nat)]) (fun a d => ∃ k, ReDone a.b.rs s0 a.lim k ∧ TwR a (bfsF a.b.rs s0 k) d) (fun a => ReBad a.b.rs s0 a.lim)
abbrev LTr (w : World) (a : TwA) (l : Addr) (c : Cm) : Lv := [some (.d a.b.D), some (.d (.int (a.lim : Nat))), some (.bor (.dF l w (cmD c))), none]
theorem cm_keys (c : Cm) : ((cmD c).map fun q => q.1.data) = (statesOf c).map S4.D := by
  unfold cmD statesOf
  rw [List.map_map, List.map_map]
  exact List.map_congr_left fun e _ => (s4_nk e.1).1.symm
theorem noLs_S4 : ∀ l : List S4, noLs (l.map S4.D) = true
  | [] => rfl
  | s :: l => by
    rw [List.map_cons]
    show (noL s.D && noLs (l.map S4.D)) = true
    rw [noL_S4, noLs_S4 l]
    rfl
set_option maxHeartbeats 8000000 in
theorem ok_two_run (T : Tx K mg base) : FnOk P w K mg base (L2.CX P w) 5 T.f_two_run T.d_two_run ["book", "limit"] (spTr K T.ts T.C_TooMany) := by
  refine fnXRFD T.F_two_run sc_two_run (fun _ _ => rfl) (fun cdv A outer s H E hr => ⟨_, (pss_cons (ps_set (i := 2) sc_two_run.nd rfl (.inl rfl) (pe_callS (ok_reached_from T) (hr.mono (by decide)) (by rfl) T.g_reached_from T.F_reached_from.kp T.b_reached_from (fun σ => passAt (takes_of rfl rfl rfl rfl) σ) (pa_cons (pv 0) (pa_cons (pe_glob (v := .ref T.a_FIRST) (by rfl) T.c_FIRST rfl) (pa_cons (pv 1) pa_nil)))))
      (pss_cons (ps_lock (ps_for (passes_of rfl) rfl (_root_.Gn.pi_keysN rfl (pv 2)) (pg_name (i := 3) sc_two_run.nd rfl (.inl rfl))
      (pss_one (ps_if (pt_val (pe_call (ok_runs_twice T) (hr.mono (by decide)) (by rfl) T.g_runs_twice T.F_runs_twice.kp T.b_runs_twice .nil pass0 (pa_cons (pv 0) (pa_cons (pv 3) pa_nil))))
      (pss_one (ps_ret (pe_tup (pa_cons pe_str (pa_cons (pe_call (ok_steps_to T) (hr.mono (by decide)) (by rfl) T.g_steps_to T.F_steps_to.kp T.b_steps_to .nil pass0 (pa_cons (pv 2) (pa_cons (pv 3) pa_nil))) pa_nil)))))
      pss_nil))))
      (pss_one (ps_ret (pe_tup (pa_cons pe_str (pa_cons (pe_callTy (_root_.Gn.call_list rfl rfl rfl) (by rfl) T.m_list (by decide +kernel) (pa_cons (pv 2) pa_nil)) pa_nil))))))), fun a ha => ?_⟩)
  obtain ⟨hg, hm1, hm2⟩ := ha
  try simp only [nox_K, blk_K, cx_K]
  show SX K ⟨none, T.ts⟩ H _ _ _ _ [some (.d _), some (.d _), none, none] _
  refine sx_seq (sx_asgK (ea_cons (e_var rfl (ea_cons (e_cD T.D_FIRST (ea_cons (e_var rfl (ea_nil ⟨⟨.tuple (blsD a.b.os), .tuple (blsD a.b.ns), .int a.b.lt, a.b.rs, s0, a.lim⟩, rfl, ⟨Nat.le_trans hg.r2 (by decide), hg.rh, Nat.zero_le _, Nat.zero_le _, hm1, hm2⟩, fun hb => hb, ?_⟩))))))))
  rintro o ⟨k, hk, rfl⟩
  dsimp only [List.set]
  have hk : ReDone a.b.rs s0 a.lim k := hk
  have hcm := bfs_ok a.b.rs s0 k
  have hlen : (bfsF a.b.rs s0 k).length ≤ 1000 := by
    rcases Nat.eq_zero_or_pos k with z | z
    · subst z; exact by show 1 ≤ 1000; decide
    · have := hk.2 (k - 1) (by omega)
      rw [show k - 1 + 1 = k by omega] at this
      omega
  refine sx_seq (sx_of (s_forN rfl rfl fun H1 l => ⟨fun i L => (∀ (j : Nat) s v, j < i → (bfsF a.b.rs s0 k)[j]? = some (s, v) → twiceF a.b s = false) ∧ L = LTr w a l (bfsF a.b.rs s0 k), ⟨_, Sub.refl _, fun j s v h => absurd h (Nat.not_lt_zero _), rfl⟩, fun i q L' hq ⟨hno, e⟩ => ?_, fun L' ⟨hno, e⟩ => ?_⟩))
  · subst e
    unfold cmD at hq
    rw [List.getElem?_map] at hq
    obtain ⟨⟨s, v⟩, hsv, rfl⟩ := Option.map_eq_some_iff.mp hq
    show GT _ _ _ _ (s4key s).data _ _
    rw [← (s4_nk s).1]
    refine g_name ?_
    dsimp only [List.set]
    refine s_if ?_
    repeat walk_at "k"
    refine ⟨⟨a.b, s⟩, rfl, cm_in hg hcm (s0_in hg) i i s v (Nat.le_refl _) hsv, ?_⟩
    rintro d rfl
    repeat walk_at "k"
    refine ⟨fun hb => ?_, fun hb => s_next ?_⟩
    · refine s_retN (en_tup (ena_cons (en_e (e_str ⟨rfl, ena_cons (en_callO (eao_rd (.inr rfl) (eao_d (e_var rfl (eao_nil ⟨⟨l, a.b.rs, s0, bfsF a.b.rs s0 k, i, s, v⟩, rfl, ⟨hcm, hsv, hlen⟩, ?_⟩)))))⟩))))
      rintro d ⟨ks, rfl, h1, h2⟩
      exact ena_nil ⟨Nat.le_of_ble_eq_true rfl, k, hk, .two i s v ks hsv hb h1 h2⟩
    · refine ⟨LTr w a l (bfsF a.b.rs s0 k), by repeat (first | exact Sub.nil | apply Sub.keep | apply Sub.drop), fun j t u hj ht => ?_, rfl⟩
      rcases Nat.lt_or_ge j i with z | z
      · exact hno j t u z ht
      · have e : j = i := by omega
        subst e
        rw [hsv] at ht
        cases ht
        exact hb
  · subst e
    have hno2 : ∀ s ∈ statesOf (bfsF a.b.rs s0 k), twiceF a.b s = false := fun s hs => by
      obtain ⟨⟨t, v⟩, ht, rfl⟩ := List.mem_map.mp hs
      obtain ⟨j, hj⟩ := List.getElem?_of_mem ht
      refine hno j t v ?_ hj
      have := (List.getElem?_eq_some_iff.mp hj).1
      unfold cmD
      rw [List.length_map]
      exact this
    refine ⟨rfl, rfl, ?_⟩
    dsimp only [List.set]
    refine sx_of (s_retN (en_tup (ena_cons (en_e (e_str ⟨rfl, ena_cons (en_el (el_listN rfl ?_))⟩)))))
    rw [cm_keys]
    exact ⟨noLs_S4 _, ena_nil ⟨Nat.le_of_ble_eq_true rfl, k, hk, .never hno2⟩⟩
end
section
variable {P : Program} {w : World} {K : PySem.W.Frag} {mg : Str → Option Value} {base : Heap}
theorem bfs_none {rs : List Rl} {f : S4} {k : Nat} (h : (bfsF rs f k).length ≤ k) : bfsF rs f (k + 1) = bfsF rs f k := by
  rw [bfsF, List.getElem?_eq_none h]
theorem bfs_stay {rs : List Rl} {f : S4} {k : Nat} (h : (bfsF rs f k).length ≤ k) : ∀ d, bfsF rs f (k + d) = bfsF rs f k
  | 0 => rfl
  | d + 1 => by
    rw [← Nat.add_assoc, bfs_none (by rw [bfs_stay h d]; omega), bfs_stay h d]
theorem bfs_mono (rs : List Rl) (f : S4) (k : Nat) : ∀ d, (bfsF rs f k).length ≤ (bfsF rs f (k + d)).length
  | 0 => Nat.le_refl _
  | d + 1 => by
    obtain ⟨m, e⟩ := bfs_pre rs f (k + d)
    rw [← Nat.add_assoc, e, List.length_append]
    have := bfs_mono rs f k d
    omega
theorem done_lt {rs : List Rl} {f : S4} {k K : Nat} (h : (bfsF rs f k).length = k) (q : (bfsF rs f K).length = K) (z : k < K) : False := by
  have e := bfs_stay (rs := rs) (f := f) (k := k) (by omega) (K - k)
  rw [show k + (K - k) = K by omega] at e
  rw [e] at q
  omega
theorem done_one {rs : List Rl} {f : S4} {k K : Nat} (h : (bfsF rs f k).length = k) (q : (bfsF rs f K).length = K) : k = K := by
  rcases Nat.lt_trichotomy k K with z | z | z
  · exact (done_lt h q z).elim
  · exact z
  · exact (done_lt q h z).elim
theorem bfs_le {rs : List Rl} {f : S4} {K : Nat} (q : (bfsF rs f K).length = K) (j : Nat) : (bfsF rs f j).length ≤ K := by
  rcases Nat.le_total j K with z | z
  · have := bfs_mono rs f j (K - j)
    rw [show j + (K - j) = K by omega] at this
    omega
  · have := bfs_stay (rs := rs) (f := f) (k := K) (by omega) (j - K)
    rw [show K + (j - K) = j by omega] at this
    rw [this, q]
    exact Nat.le_refl _
theorem bad_of {rs : List Rl} {f : S4} {lim : Nat} (h1 : 1 ≤ lim) : ∀ {k : Nat}, lim < (bfsF rs f k).length → ReBad rs f lim
  | 0, h => by
    have : (bfsF rs f 0).length = 1 := rfl
    omega
  | k + 1, h => by
    rcases Nat.lt_or_ge lim (bfsF rs f k).length with z | z
    · exact bad_of h1 z
    · refine ⟨k, ?_, fun j hj => ?_, h⟩
      · apply Classical.byContradiction
        intro q
        rw [bfs_none (by omega)] at h
        omega
      · have := bfs_mono rs f (j + 1) (k - (j + 1))
        rw [show j + 1 + (k - (j + 1)) = k by omega] at this
        omega
theorem notbad {rs : List Rl} {f : S4} {lim K : Nat} (q : (bfsF rs f K).length = K) (h : K ≤ lim) : ¬ ReBad rs f lim := fun ⟨k, _, _, h2⟩ => by
  have := bfs_le q (k + 1)
  omega
/-- letters rising, each a letter -/
def Rise (lt : Nat) (l : List Int) : Prop := l.Pairwise (· < ·) ∧ ∀ v ∈ l, 0 ≤ v ∧ v < (lt : Int)
theorem with_rise {lt : Nat} {l : List Int} (h : Rise lt l) {o : Option Nat} (ho : ∀ v, o = some v → v < lt) : Rise lt (withF l o) := by
  cases o with
  | none => exact h
  | some v =>
    have hv := ho v rfl
    show Rise lt (if (v : Int) ∈ l then l else sortZ (l ++ [(v : Int)]))
    split
    · exact h
    · rename_i hn
      have hp : (sortZ (l ++ [(v : Int)])).Perm (l ++ [(v : Int)]) := List.mergeSort_perm _ _
      have hs : (sortZ (l ++ [(v : Int)])).Pairwise (· ≤ ·) := by
        have := List.pairwise_mergeSort (le := fun a b : Int => decide (a ≤ b)) (fun a b c h1 h2 => decide_eq_true (Int.le_trans (of_decide_eq_true h1) (of_decide_eq_true h2))) (fun a b => by rcases Int.le_total a b with z | z <;> simp [z]) (l ++ [(v : Int)])
        exact this.imp fun z => of_decide_eq_true z
      have hd : (sortZ (l ++ [(v : Int)])).Nodup := hp.nodup_iff.mpr (List.nodup_append.mpr ⟨h.1.imp fun z e => by omega, List.nodup_cons.mpr ⟨List.not_mem_nil, List.nodup_nil⟩, fun x hx y hy e => by
        rw [List.mem_singleton.mp hy] at e
        exact hn (e ▸ hx)⟩)
      refine ⟨(hs.and hd).imp fun ⟨a, b⟩ => by omega, fun u hu => ?_⟩
      rcases List.mem_append.mp (hp.mem_iff.mp hu) with z | z
      · exact h.2 u z
      · rw [List.mem_singleton.mp z]
        omega
structure S4.Fine (b : Bk) (s : S4) : Prop where
  i : s.In b
  lo : Rise b.lt s.lo
  ln : Rise b.lt s.ln
structure Bk.Fit (b : Bk) : Prop where
  g : b.Good
  sa : ∀ r ∈ b.rs, ∀ v, r.sa = some v → v < b.lt
theorem Bk.Ok.fit {b : Bk} (h : b.Ok) : b.Fit := ⟨h.good, fun r hr v e => (h.rs r hr).sa1 v e⟩
theorem step_fine {b : Bk} (hb : b.Fit) {r : Rl} (hr : r ∈ b.rs) {s : S4} (hs : s.Fine b) : (stepF r s).Fine b := by
  refine ⟨step_in (hb.g.rt r hr) hs.i, ?_, ?_⟩
  · unfold stepF
    split
    · exact hs.lo
    · exact with_rise hs.lo (hb.sa r hr)
  · unfold stepF
    split
    · exact with_rise hs.ln (hb.sa r hr)
    · exact hs.ln
theorem s0_fine {b : Bk} (h : b.Good) : s0.Fine b := ⟨s0_in h, ⟨.nil, fun v hv => nomatch hv⟩, ⟨.nil, fun v hv => nomatch hv⟩⟩
theorem cm_fine {b : Bk} {first : S4} {c : Cm} (hb : b.Fit) (h : CmOk b.rs first c) (hf : first.Fine b) : ∀ (n i : Nat) (s : S4) (v : Option (S4 × Nat)), i ≤ n → c[i]? = some (s, v) → s.Fine b
  | n, i, s, v, hi, e => by
    rcases Nat.eq_zero_or_pos i with z | z
    · subst z
      rw [h.hd] at e
      cases e
      exact hf
    · obtain ⟨p, k, j, u, _, hj, hp, hw⟩ := h.par i s v e z
      obtain ⟨r, hr, _, he⟩ := way_step hw
      have e2 : s = stepF r p := congrArg Prod.snd he
      rw [e2]
      match n with
      | 0 => omega
      | n + 1 => exact step_fine hb (List.mem_of_getElem? hr) (cm_fine hb h hf n j p u (by omega) hp)
/-- what comes of the states done is among the states -/
theorem fold_has (s : S4) : ∀ (ws : List (Nat × S4)) (c : Cm) (w : Nat × S4), w ∈ ws → w.2 ∈ statesOf (ws.foldl (addF s) c)
  | x :: ws, c, w, h => by
    rw [List.foldl_cons]
    rcases List.mem_cons.mp h with rfl | h
    · obtain ⟨m, e⟩ := fold_pre s ws (addF s c w)
      rw [e]
      unfold statesOf
      rw [List.map_append]
      refine List.mem_append.mpr (.inl ?_)
      unfold addF
      split
      · assumption
      · rw [List.map_append]
        exact List.mem_append.mpr (.inr (List.mem_singleton.mpr rfl))
    · exact fold_has s ws _ w h
theorem bfs_sub {rs : List Rl} {f : S4} {k : Nat} {s : S4} (h : s ∈ statesOf (bfsF rs f k)) : ∀ d, s ∈ statesOf (bfsF rs f (k + d))
  | 0 => h
  | d + 1 => by
    obtain ⟨m, e⟩ := bfs_pre rs f (k + d)
    rw [← Nat.add_assoc, e]
    unfold statesOf
    rw [List.map_append]
    exact List.mem_append.mpr (.inl (bfs_sub h d))
theorem bfs_closed {rs : List Rl} {f : S4} {K : Nat} (q : (bfsF rs f K).length = K) {s : S4} (hs : s ∈ statesOf (bfsF rs f K)) {r : Rl} (hr : r ∈ rs) (hc : canF r s = true) : stepF r s ∈ statesOf (bfsF rs f K) := by
  obtain ⟨⟨t, v⟩, ht, rfl⟩ := List.mem_map.mp hs
  obtain ⟨i, hi⟩ := List.getElem?_of_mem ht
  have hik : i < K := by
    have := (List.getElem?_eq_some_iff.mp hi).1
    omega
  obtain ⟨n, hn⟩ := List.getElem?_of_mem hr
  have e0 : (bfsF rs f i)[i]? = some (t, v) := by
    have hil : i < (bfsF rs f i).length := by
      apply Classical.byContradiction
      intro z
      have := bfs_stay (rs := rs) (f := f) (k := i) (by omega) (K - i)
      rw [show i + (K - i) = K by omega] at this
      rw [this] at q
      omega
    have pre : ∀ d, (bfsF rs f (i + d))[i]? = (bfsF rs f i)[i]? := fun d => by
      induction d with
      | zero => rfl
      | succ d ih =>
        obtain ⟨m, e⟩ := bfs_pre rs f (i + d)
        have := bfs_mono rs f i d
        rw [← Nat.add_assoc, e, List.getElem?_append_left (by omega), ih]
    have := pre (K - i)
    rw [show i + (K - i) = K by omega, hi] at this
    exact this.symm
  have hw : (n, stepF r t) ∈ waysF rs t := by
    unfold waysF
    refine List.mem_filterMap.mpr ⟨n, List.mem_range.mpr (List.getElem?_eq_some_iff.mp hn).1, ?_⟩
    unfold wayF
    rw [hn]
    exact if_pos hc
  have h1 : stepF r t ∈ statesOf (bfsF rs f (i + 1)) := by
    rw [bfsF, e0]
    exact fold_has t _ _ _ hw
  have h2 := bfs_sub h1 (K - (i + 1))
  rw [show i + 1 + (K - (i + 1)) = K by omega] at h2
  exact h2
end
section
variable {P : Program} {w : World} {K : PySem.W.Frag} {mg : Str → Option Value} {base : Heap}
abbrev spLCan (K : PySem.W.Frag) (ts : List Addr) : Sp := SpX (α := CdA) K ts (fun a => a.r.h < 2) (fun a => [a.s.D, a.r.D]) (fun a d => d = .bool (canF a.r a.s))
set_option maxHeartbeats 4000000 in
theorem ok_law_can (T : Tx K mg base) : FnOk P w K mg base CX0 1 T.f_law_can T.d_law_can ["state", "rule"] (spLCan K T.ts) := by
  refine fnX T.F_law_can sc_law_can (fun _ _ => rfl) (fun cdv A outer s H E hr => ⟨_, (pss_one (ps_ret (pe_and (pe_cmpR op_eq (pe_ix (kx_ixT K rfl) (pv 0) (pe_ix (kx_ixT K rfl) (pv 1) pe_int (fun _ _ => rfl)) (fun _ _ => rfl)) (pe_ix (kx_ixT K rfl) (pv 1) pe_int (fun _ _ => rfl)) (nomark _)) (pe_one (pe_or (pe_cmpR op_isN (pe_ix (kx_ixT K rfl) (pv 1) pe_int (fun _ _ => rfl)) pe_non (nomark _)) (pe_one (pe_cmpR (kx_in K rfl) (pe_ix (kx_ixT K rfl) (pv 1) pe_int (fun _ _ => rfl)) (pe_ix (kx_ixT K rfl) (pv 0) (pe_op op_sub pe_int (pe_ix (kx_ixT K rfl) (pv 1) pe_int (fun _ _ => rfl))) (fun _ _ => rfl)) (by rfl)))))))), fun a ha => ?_⟩)
  obtain ⟨⟨h, at_, he, t, sa⟩, ⟨o, n, lo, ln⟩⟩ := a
  dsimp only at ha
  try simp only [nox_K, blk_K, cx_K]
  show S K ⟨none, T.ts⟩ H _ [some (.d _), some (.d _)] _
  dsimp only [Rl.D, S4.D]
  repeat walk_at "e"
  refine r_ixT (at2 ha) ?_
  rw [show (if h = 1 then PyData.int (n : Int) else PyData.int (o : Int)) = .int ((if h = 1 then n else o : Nat) : Int) from by split <;> rfl]
  repeat walk_at "e"
  refine ⟨fun h1 => ?_, fun h1 => ?_⟩
  · have h1 := of_decide_eq_true h1
    cases he with
    | none =>
      repeat walk_at "k"
      show PyData.bool true = .bool (decide _ && true)
      rw [Bool.and_true, decide_eq_true (show (if h = 1 then n else o) = at_ by omega)]
    | some v =>
      repeat walk_at "k"
      refine r_ixT (at3 ha) ?_
      rw [show (if h = 1 then PyData.tuple (intsL lo) else PyData.tuple (intsL ln)) = .tuple (intsL (if h = 1 then lo else ln)) from by split <;> rfl]
      refine r_inI ?_
      show PyData.bool _ = .bool (decide _ && _)
      rw [decide_eq_true (show (if h = 1 then n else o) = at_ by omega), Bool.true_and]
  · have h1 := of_decide_eq_false h1
    show PyData.bool false = .bool (decide _ && _)
    rw [decide_eq_false (show ¬ (if h = 1 then n else o) = at_ by omega), Bool.false_and]
abbrev spLCo (K : PySem.W.Frag) (ts : List Addr) : Sp := SpX (α := CdA) K ts (fun a => a.r.h < 2 ∧ a.s.lo.length ≤ 50000 ∧ a.s.ln.length ≤ 50000) (fun a => [a.s.D, a.r.D]) (fun a d => d = (stepF a.r a.s).D)
set_option maxHeartbeats 4000000 in
theorem ok_law_comes (T : Tx K mg base) : FnOk P w K mg base CX0 1 T.f_law_comes T.d_law_comes ["state", "rule"] (spLCo K T.ts) := by
  refine fnX T.F_law_comes sc_law_comes (fun _ _ => rfl) (fun cdv A outer s H E hr => ⟨_, (pss_cons (ps_set (i := 2) sc_law_comes.nd rfl (.inl rfl) (pe_callTy (kx_list K rfl) (by rfl) T.m_list (by decide +kernel) (pa_cons (pv 0) pa_nil)))
      (pss_cons (ps_asg (pe_ix (kx_ixT K rfl) (pv 1) pe_int (fun _ _ => rfl)) (pg_sub (pv 2) (pe_ix (kx_ixT K rfl) (pv 1) pe_int (fun _ _ => rfl)) set_list))
      (pss_cons (ps_set (i := 3) sc_law_comes.nd rfl (.inl rfl) (pe_ix (kx_ixT K rfl) (pv 0) (pe_op op_add pe_int (pe_ix (kx_ixT K rfl) (pv 1) pe_int (fun _ _ => rfl))) (fun _ _ => rfl)))
      (pss_cons (ps_if (PW.pt (pw_and (pt_cmpR op_notN (pe_ix (kx_ixT K rfl) (pv 1) pe_int (fun _ _ => rfl)) pe_non (nomark _)) (pw_and1 (pt_cmpR (kx_notIn K rfl) (pe_ix (kx_ixT K rfl) (pv 1) pe_int (fun _ _ => rfl)) (pv 3) (by rfl)))))
      (pss_one (ps_asg (pe_callTy (kx_tuple K rfl) (by rfl) T.m_tuple (by decide +kernel) (pa_cons (pe_callB (kx_sortT (K := K) rfl) (by rfl) T.m_sorted (by decide +kernel) (pa_cons (pe_op (kx_catT K rfl) (pv 3) (pe_tup (pa_cons (pe_ix (kx_ixT K rfl) (pv 1) pe_int (fun _ _ => rfl)) pa_nil))) pa_nil)) pa_nil)) (pg_sub (pv 2) (pe_op op_add pe_int (pe_ix (kx_ixT K rfl) (pv 1) pe_int (fun _ _ => rfl))) set_list)))
      pss_nil)
      (pss_one (ps_ret (pe_callTy (kx_tuple K rfl) (by rfl) T.m_tuple (by decide +kernel) (pa_cons (pv 2) pa_nil)))))))), fun a ha => ?_⟩)
  obtain ⟨⟨h, at_, he, t, sa⟩, ⟨o, n, lo, ln⟩⟩ := a
  obtain ⟨ha, hb, hc⟩ := ha
  dsimp only at ha hb hc
  try simp only [nox_K, blk_K, cx_K]
  show S K ⟨none, T.ts⟩ H _ [some (.d _), some (.d _), none, none] _
  dsimp only [Rl.D, S4.D]
  have fin : ∀ {l : List Int} {v : Nat}, decide ((v : Int) ∈ l) = true → withF l (some v) = l := fun {l v} h => if_pos (of_decide_eq_true h)
  have fin2 : ∀ {l ms : List Int} {v : Nat}, decide ((v : Int) ∈ l) = false → ms.Perm (l ++ [(v : Int)]) → ms.Pairwise (· ≤ ·) → withF l (some v) = ms := fun {l ms v} h h1 h2 => (if_neg (of_decide_eq_false h)).trans (sortZ_is h1 h2).symm
  rcases (by omega : h = 0 ∨ h = 1) with rfl | rfl
  · refine s_seq (s_ownList ?_)
    repeat walk_at "e"
    refine ⟨_, Or.inl rfl, ?_⟩
    dsimp only [List.set]
    repeat walk_at "e"
    cases sa with
    | none =>
      refine r_notNone ?_
      repeat walk_at "k"
      rfl
    | some v =>
      refine r_notNone ?_
      repeat walk_at "k"
      refine r_notInI ?_
      refine ⟨_, rfl, fun h => ?_, fun h => ?_⟩
      · have h : decide ((v : Int) ∈ lo) = false := by
          cases hq : decide ((v : Int) ∈ lo) with
          | false => rfl
          | true => rw [hq] at h; cases h
        refine s_putOwn rfl (e_cb (ea_cons (e_sortT ?_)))
        repeat walk_at "e"
        refine r_catT (by rw [show (intsL lo).length = lo.length from List.length_map _]; show lo.length + 1 ≤ _; omega) ⟨lo ++ [(v : Int)], by unfold intsL; rw [List.map_append]; rfl, by rw [List.length_append]; show lo.length + 1 ≤ _; omega, fun ms h1 h2 => ?_⟩
        refine ea_nil (c_tuple (Or.inr rfl) (e_op (e_int (e_op (e_var rfl (e_int (r_ixT rfl (r_add ⟨2, rfl, by show 2 < 4; decide, ?_⟩))))))))
        dsimp only [List.set]
        repeat walk_at "e"
        show _ = PyData.tuple [.int (t : Int), .int (n : Int), .tuple (intsL (withF lo (some v))), .tuple (intsL ln)]
        rw [fin2 h h1 h2]
      · have h : decide ((v : Int) ∈ lo) = true := by
          cases hq : decide ((v : Int) ∈ lo) with
          | true => rfl
          | false => rw [hq] at h; cases h
        repeat walk_at "k"
        show _ = PyData.tuple [.int (t : Int), .int (n : Int), .tuple (intsL (withF lo (some v))), .tuple (intsL ln)]
        rw [fin h]
  · refine s_seq (s_ownList ?_)
    repeat walk_at "e"
    refine ⟨_, Or.inl rfl, ?_⟩
    dsimp only [List.set]
    repeat walk_at "e"
    cases sa with
    | none =>
      refine r_notNone ?_
      repeat walk_at "k"
      rfl
    | some v =>
      refine r_notNone ?_
      repeat walk_at "k"
      refine r_notInI ?_
      refine ⟨_, rfl, fun h => ?_, fun h => ?_⟩
      · have h : decide ((v : Int) ∈ ln) = false := by
          cases hq : decide ((v : Int) ∈ ln) with
          | false => rfl
          | true => rw [hq] at h; cases h
        refine s_putOwn rfl (e_cb (ea_cons (e_sortT ?_)))
        repeat walk_at "e"
        refine r_catT (by rw [show (intsL ln).length = ln.length from List.length_map _]; show ln.length + 1 ≤ _; omega) ⟨ln ++ [(v : Int)], by unfold intsL; rw [List.map_append]; rfl, by rw [List.length_append]; show ln.length + 1 ≤ _; omega, fun ms h1 h2 => ?_⟩
        refine ea_nil (c_tuple (Or.inr rfl) (e_op (e_int (e_op (e_var rfl (e_int (r_ixT rfl (r_add ⟨3, rfl, by show 3 < 4; decide, ?_⟩))))))))
        dsimp only [List.set]
        repeat walk_at "e"
        show _ = PyData.tuple [.int (o : Int), .int (t : Int), .tuple (intsL lo), .tuple (intsL (withF ln (some v)))]
        rw [fin2 h h1 h2]
      · have h : decide ((v : Int) ∈ ln) = true := by
          cases hq : decide ((v : Int) ∈ ln) with
          | true => rfl
          | false => rw [hq] at h; cases h
        repeat walk_at "k"
        show _ = PyData.tuple [.int (o : Int), .int (t : Int), .tuple (intsL lo), .tuple (intsL (withF ln (some v)))]
        rw [fin h]
structure ClA where
  b : Bk
  f : S4
  l : List S4
structure ClA.Ok (a : ClA) : Prop where
  fit : a.b.Fit
  nd : (a.l).Nodup
  fine : ∀ s ∈ a.l, s.Fine a.b
  len : a.l.length ≤ 1000
  small : ∀ s ∈ a.l, s.lo.length ≤ 50000 ∧ s.ln.length ≤ 50000
  first : a.f ∈ a.l
  closed : ∀ s ∈ a.l, ∀ r ∈ a.b.rs, canF r s = true → stepF r s ∈ a.l
def knownL (l : List S4) : List (NestedKey × PyData) := l.map fun s => (s4key s, .bool true)
theorem known_val (l : List S4) (t : S4) : (valD (knownL l) (s4key t)).isSome = decide (t ∈ l) := by
  induction l with
  | nil => rfl
  | cons s l ih =>
    show (valD ((s4key s, PyData.bool true) :: knownL l) (s4key t)).isSome = _
    by_cases e : s = t
    · subst e
      rw [valD_eq, decide_eq_true (List.mem_cons_self ..)]
      rfl
    · rw [valD_ne (fun z => e (s4_inj z)), ih]
      refine decide_eq_decide.mpr ⟨fun h => List.mem_cons_of_mem _ h, fun h => ?_⟩
      rcases List.mem_cons.mp h with z | z
      · exact absurd z.symm e
      · exact z
theorem known_put {l : List S4} {t : S4} (h : t ∉ l) : putD (knownL l) (s4key t) (.bool true) = knownL (l ++ [t]) := by
  unfold putD
  rw [anyN, known_val, decide_eq_false h]
  unfold knownL
  rw [List.map_append]
  rfl
theorem known_len (l : List S4) : (knownL l).length = l.length := List.length_map _
theorem st_at {l : List S4} {i : Nat} {d : PyData} (h : (l.map S4.D)[i]? = some d) : ∃ s, l[i]? = some s ∧ d = s.D := by
  rw [List.getElem?_map] at h
  obtain ⟨s, hs, rfl⟩ := Option.map_eq_some_iff.mp h
  exact ⟨s, hs, rfl⟩
theorem take_snoc {α : Type} {l : List α} {i : Nat} {x : α} (h : l[i]? = some x) : l.take (i + 1) = l.take i ++ [x] := by
  rw [List.take_add_one, h]
  rfl
theorem nd_take {l : List S4} (h : l.Nodup) {i : Nat} {s : S4} (hs : l[i]? = some s) : s ∉ l.take i := fun z => by
  have e := take_snoc hs
  have n : (l.take (i + 1)).Nodup := h.sublist (List.take_sublist _ _)
  rw [e, List.nodup_append] at n
  exact n.2.2 s z s (List.mem_singleton.mpr rfl) rfl
end
section
variable {P : Program} {w : World} {K : PySem.W.Frag} {mg : Str → Option Value} {base : Heap}
structure SbA where
  b0 : PyData
  b1 : PyData
  b2 : PyData
  rs : List Rl
  st : List PyData
def SbA.Ok (a : SbA) : Prop := a.rs.length ≤ 100 ∧ (∀ r ∈ a.rs, r.h < 2) ∧ a.st.length ≤ 40000
def stsD (l : List S4) : List PyData := l.map S4.D
theorem stsD_len (l : List S4) : (stsD l).length = l.length := List.length_map _
theorem stsD_app (l : List S4) (s : S4) : stsD l ++ [s.D] = stsD (l ++ [s]) := by unfold stsD; rw [List.map_append]; rfl
theorem stsD_last (l : List S4) (s : S4) : atI (stsD (l ++ [s])) (-1) = some s.D := by
  unfold atI ixN
  rw [stsD_len, List.length_append, if_neg (by decide), if_pos (by show -((l.length + 1 : Nat) : Int) ≤ -1; omega)]
  show (stsD (l ++ [s]))[(-1 + ((l.length + 1 : Nat) : Int)).toNat]? = _
  rw [show (-1 + ((l.length + 1 : Nat) : Int)).toNat = l.length by omega]
  unfold stsD
  rw [List.getElem?_map, List.getElem?_append_right (Nat.le_refl _), Nat.sub_self]
  rfl
theorem fits_step (i : Nat) (h : i < 100) : (Str.empty ++ "rule " ++ toString (i : Int)).length ≤ sizeLine ∧ (Str.empty ++ "rule " ++ toString (i : Int) ++ " can't be done where it comes").length ≤ sizeLine := by
  have a : ∀ i : Fin 100, ((Str.empty ++ "rule " ++ toString (i.val : Int)).length ≤ 1000 ∧ (Str.empty ++ "rule " ++ toString (i.val : Int) ++ " can't be done where it comes").length ≤ 1000) := by decide +kernel
  obtain ⟨b, c⟩ := a ⟨i, h⟩
  rw [sizeLine_eq]
  exact ⟨Nat.le_trans b (by decide), Nat.le_trans c (by decide)⟩
theorem rls_ai {rs : List Rl} {i : Nat} {r : Rl} (h : rs[i]? = some r) : atI (rlsD rs) (i : Int) = some r.D := atI_nat (by unfold rlsD; rw [List.getElem?_map, h]; rfl)
theorem oneF_bad {rs : List Rl} {d : PyData} {s : S4} (h : wholeIn d 0 ((rs.length : Int) - 1) = false) : oneF rs d s = none := by
  cases d with
  | int i =>
    show (if 0 ≤ i then _ else none) = none
    by_cases h0 : 0 ≤ i
    · have h : (decide (0 ≤ i) && decide (i ≤ (rs.length : Int) - 1)) = false := h
      rw [decide_eq_true h0, Bool.true_and] at h
      have h := of_decide_eq_false h
      rw [if_pos h0, List.getElem?_eq_none (by omega)]
    · rw [if_neg h0]
  | _ => rfl
theorem whole_is {rs : List Rl} {d : PyData} (h : wholeIn d 0 ((rs.length : Int) - 1) = true) : ∃ (i : Nat) (r : Rl), d = .int (i : Int) ∧ rs[i]? = some r := by
  cases d with
  | int i =>
    have h : (decide (0 ≤ i) && decide (i ≤ (rs.length : Int) - 1)) = true := h
    rw [Bool.and_eq_true] at h
    have h1 := of_decide_eq_true h.1
    have h2 := of_decide_eq_true h.2
    exact ⟨i.toNat, rs[i.toNat]'(by omega), by rw [Int.toNat_of_nonneg h1], List.getElem?_eq_getElem _⟩
  | _ => cases h
theorem oneF_at {rs : List Rl} {i : Nat} {r : Rl} {s : S4} (h : rs[i]? = some r) : oneF rs (.int (i : Int)) s = if canF r s = true then some (stepF r s) else none := by
  show (if 0 ≤ (i : Int) then (match rs[(i : Int).toNat]? with | some r => if canF r s = true then some (stepF r s) else none | none => none) else none) = _
  rw [if_pos (by omega), Int.toNat_natCast, h]
theorem runF_snoc {rs : List Rl} {d : PyData} {s' : S4} : ∀ {st : List PyData} {s s1 : S4} {i : Nat}, st[i]? = some d → runF rs (st.take i) s1 = some s → oneF rs d s = some s' → runF rs (st.take (i + 1)) s1 = some s'
  | [], _, _, _, h, _, _ => by cases h
  | x :: st, s, s1, 0, h, h1, h2 => by
    cases h
    cases h1
    show (match oneF rs d s with | none => none | some s' => runF rs (st.take 0) s') = some s'
    rw [h2]
    rfl
  | x :: st, s, s1, i + 1, h, h1, h2 => by
    have h1 : (match oneF rs x s1 with | none => none | some s' => runF rs (st.take i) s') = some s := h1
    show (match oneF rs x s1 with | none => none | some s' => runF rs (st.take (i + 1)) s') = some s'
    cases e : oneF rs x s1 with
    | none => rw [e] at h1; cases h1
    | some s2 =>
      rw [e] at h1
      exact runF_snoc (st := st) h h1 h2
/-- all states on the way -/
def Way (rs : List Rl) (st : List PyData) (l : List S4) : Prop := ∀ j s, l[j]? = some s → runF rs (st.take j) s0 = some s
theorem way_snoc {rs : List Rl} {st : List PyData} {l : List S4} {s s' : S4} {d : PyData} (h : Way rs st (l ++ [s])) (hd : st[l.length]? = some d) (ho : oneF rs d s = some s') : Way rs st (l ++ [s] ++ [s']) := fun j q hq => by
  by_cases hj : j < (l ++ [s]).length
  · rw [List.getElem?_append_left hj] at hq
    exact h j q hq
  · have hj2 : j = l.length + 1 := by
      have := (List.getElem?_eq_some_iff.mp hq).1
      rw [List.length_append, List.length_append] at this
      rw [List.length_append] at hj
      have h1 : [s].length = 1 := rfl
      have h2 : [s'].length = 1 := rfl
      omega
    subst hj2
    rw [List.getElem?_append_right (by rw [List.length_append]; exact Nat.le_refl _), List.length_append, show l.length + 1 - (l.length + [s].length) = 0 from Nat.sub_self _] at hq
    cases hq
    exact runF_snoc hd (h l.length s (by rw [List.getElem?_append_right (Nat.le_refl _), Nat.sub_self]; rfl)) ho
theorem way0 (rs : List Rl) (st : List PyData) : Way rs st ([] ++ [s0]) := fun j q hq => by
  rcases j with _ | j
  · cases hq; rfl
  · cases hq
abbrev spAl (K : PySem.W.Frag) (ts : List Addr) (C : Addr) : Sp := SpXR (α := SbA) K ts C SbA.Ok (fun a => [bkD a.b0 a.b1 a.b2 a.rs, .list a.st]) (fun a d => ∃ l s, d = .list (stsD (l ++ [s])) ∧ l.length = a.st.length ∧ Way a.rs a.st (l ++ [s]) ∧ runF a.rs a.st s0 = some s) (fun a => runF a.rs a.st s0 = none)
abbrev LAl (a : SbA) (l : List S4) : Lv := [some (.d (bkD a.b0 a.b1 a.b2 a.rs)), some (.d (.list a.st)), some (.d (.tuple (rlsD a.rs))), some (.own (.lst (stsD l))), none]
theorem runF_at {rs : List Rl} {st : List PyData} {i : Nat} {d : PyData} (hd : st[i]? = some d) (s : S4) : runF rs (st.drop i) s = match oneF rs d s with | none => none | some s' => runF rs (st.drop (i + 1)) s' := by
  obtain ⟨h1, h2⟩ := List.getElem?_eq_some_iff.mp hd
  rw [List.drop_eq_getElem_cons h1, h2]
  rfl
theorem stepF_len {r : Rl} {s : S4} {m : Nat} (h1 : s.lo.length ≤ m) (h2 : s.ln.length ≤ m) : (stepF r s).lo.length ≤ m + 1 ∧ (stepF r s).ln.length ≤ m + 1 := by
  unfold stepF
  have a := withF_len s.lo r.sa
  have b := withF_len s.ln r.sa
  split
  · exact ⟨by dsimp only; omega, by dsimp only; omega⟩
  · exact ⟨by dsimp only; omega, by dsimp only; omega⟩
set_option maxHeartbeats 8000000 in
theorem ok_states_along (T : Tx K mg base) : FnOk P w K mg base (L2.CX P w) 3 T.f_states_along T.d_states_along ["book", "steps"] (spAl K T.ts T.C_NoStep) := by
  refine fnXR T.F_states_along sc_states_along (fun _ _ => rfl) (fun cdv A outer s H E hr => ⟨_, (pss_cons (ps_set (i := 2) sc_states_along.nd rfl (.inl rfl) (pe_ix (kx_ixT K rfl) (pv 0) pe_int (fun _ _ => rfl)))
      (pss_cons (ps_set (i := 3) sc_states_along.nd rfl (.inl rfl) (pe_lst (pa_cons (pe_glob (v := .ref T.a_FIRST) (by rfl) T.c_FIRST rfl) pa_nil)))
      (pss_cons (ps_for (passes_of rfl) rfl (kx_piL K rfl (pv 1)) (pg_name (i := 4) sc_states_along.nd rfl (.inl rfl))
      (pss_cons (ps_if (pt_not (pt_val (pe_call (ok_is_whole_within T) (hr.mono (by decide)) (by rfl) T.g_is_whole_within T.F_is_whole_within.kp T.b_is_whole_within .nil pass0 (pa_cons (pv 4) (pa_cons pe_int (pa_cons (pe_op op_sub (pe_callB (kx_len K rfl) (by rfl) T.m_len PySem.boot_len (pa_cons (pv 2) pa_nil)) pe_int) pa_nil))))))
      (pss_one (ps_raise rfl (takes_of rfl rfl rfl rfl) (SkE.pmk_own1 PySem.F.excBase_ValueError T.xP_NoStep T.gC_NoStep T.kP_NoStep (raises_own T.bP_NoStep T.tP_NoStep) (by rfl) pe_str)))
      pss_nil)
      (pss_cons (ps_if (pt_not (pt_val (pe_call (ok_can_be_done T) (hr.mono (by decide)) (by rfl) T.g_can_be_done T.F_can_be_done.kp T.b_can_be_done .nil pass0 (pa_cons (pe_ix (kx_ixT K rfl) (pv 2) (pv 4) (fun _ _ => rfl)) (pa_cons (pe_ix (kx_ixL K rfl) (pv 3) (pe_un un_neg pe_int) (fun _ _ => rfl)) pa_nil)))))
      (pss_one (ps_raise rfl (takes_of rfl rfl rfl rfl) (SkE.pmk_own1 PySem.F.excBase_ValueError T.xP_NoStep T.gC_NoStep T.kP_NoStep (raises_own T.bP_NoStep T.tP_NoStep) (by rfl) (pe_joined (.cons pe_str (.cons (pe_fmt (pv 4)) (.cons pe_str .nil)))))))
      pss_nil)
      (pss_one (ps_expr (pe_bm PySem.F.plainAttrs_list PySem.F.slot_list_append PySem.F.type_list_append mt_append (pv 3) (pa_cons (pe_call (ok_state_by T) (hr.mono (by decide)) (by rfl) T.g_state_by T.F_state_by.kp T.b_state_by .nil pass0 (pa_cons (pe_ix (kx_ixT K rfl) (pv 2) (pv 4) (fun _ _ => rfl)) (pa_cons (pe_ix (kx_ixL K rfl) (pv 3) (pe_un un_neg pe_int) (fun _ _ => rfl)) pa_nil))) pa_nil)))))))
      (pss_one (ps_ret (pv 3)))))), fun a ha => ?_⟩)
  try simp only [nox_K, blk_K, cx_K]
  show SX K ⟨none, T.ts⟩ H _ _ _ _ [some (.d _), some (.d _), none, none, none] _
  obtain ⟨ha1, ha2, ha3⟩ := ha
  refine sx_seq (sx_of (s_asg ?_))
  dsimp only [bkD]
  repeat walk_at "e"
  dsimp only [List.set]
  refine sx_seq (sx_of (s_ownL (el_lst (ea_cons (e_cD T.D_FIRST (ea_nil ⟨Nat.le_of_ble_eq_true rfl, ?_⟩))))))
  dsimp only [List.set]
  refine sx_seq (sx_forI (it_list (e_var rfl ⟨_, rfl, fun i L => ∃ l s, L = LAl a (l ++ [s]) ∧ l.length = i ∧ s.lo.length ≤ i ∧ s.ln.length ≤ i ∧ runF a.rs a.st s0 = runF a.rs (a.st.drop i) s ∧ Way a.rs a.st (l ++ [s]), ⟨_, Sub.refl _, [], s0, rfl, rfl, Nat.le_refl _, Nat.le_refl _, rfl, way0 _ _⟩, fun i d L' hd ⟨l, s, e, e1, e2, e3, e4, e5⟩ => ?_, fun L' ⟨l, s, e, e1, e2, e3, e4, e5⟩ L4 s4 => ?_⟩)))
  · subst e
    have hil : i < a.st.length := (List.getElem?_eq_some_iff.mp hd).1
    rw [runF_at hd] at e4
    refine g_name ?_
    dsimp only [List.set]
    refine sx_seq (sx_if ?_)
    repeat walk_at "e"
    rw [rlsD_len]
    refine ⟨⟨d, 0, (a.rs.length : Int) - 1⟩, rfl, trivial, ?_⟩
    rintro d' rfl
    refine ⟨_, rfl, fun h => ?_, fun h => ?_⟩
    · refine sx_raise ?_ (e_str trivial)
      rw [e4, oneF_bad (by cases hw : wholeIn d 0 ((a.rs.length : Int) - 1) with | false => rfl | true => rw [hw] at h; cases h)]
    refine sx_of (s_next ?_)
    obtain ⟨k, r, rfl, hr⟩ := whole_is (rs := a.rs) (d := d) (by cases hw : wholeIn d 0 ((a.rs.length : Int) - 1) with | true => rfl | false => rw [hw] at h; cases h)
    have hk : k < a.rs.length := (List.getElem?_eq_some_iff.mp hr).1
    rw [oneF_at hr] at e4
    refine sx_seq (sx_if (et_look ?_))
    dsimp only [lookL, lookA, List.map]
    repeat walk_at "e"
    refine r_ixT (rls_ai hr) ?_
    repeat walk_at "e"
    refine r_ixL (stsD_last l s) ?_
    repeat walk_at "e"
    refine ⟨⟨r, s⟩, rfl, ha2 r (List.mem_of_getElem? hr), ?_⟩
    rintro d' rfl
    refine ⟨_, rfl, fun h => ?_, fun h => ?_⟩
    · refine sx_raise ?_ (e_js3 (by rw [sizeLine_eq]; decide) (e_var rfl ⟨(k : Int), rfl, ?_, (fits_step k (by omega)).1, (fits_step k (by omega)).2⟩))
      · rw [e4]
        cases hc : canF r s with
        | false => rfl
        | true => rw [hc] at h; cases h
      · show Nat.log2 k < 1920
        exact Nat.lt_of_le_of_lt (Nat.log2_le_self k) (by omega)
    have hc : canF r s = true := by
      cases hc : canF r s with
      | true => rfl
      | false => rw [hc] at h; cases h
    rw [if_pos hc] at e4
    have ho : oneF a.rs (.int (k : Int)) s = some (stepF r s) := by rw [oneF_at hr, if_pos hc]
    refine sx_of (s_next ?_)
    refine sx_of (s_appOwn rfl (by rw [stsD_len, List.length_append]; show l.length + 1 < _; omega) (e_look ?_))
    dsimp only [lookL, lookA, List.map]
    repeat walk_at "e"
    refine r_ixT (rls_ai hr) ?_
    repeat walk_at "e"
    refine r_ixL (stsD_last l s) ?_
    repeat walk_at "e"
    refine ⟨⟨r, s⟩, rfl, ⟨ha2 r (List.mem_of_getElem? hr), by dsimp only; omega, by dsimp only; omega⟩, ?_⟩
    rintro d' rfl
    refine ⟨noL_S4 _, ?_⟩
    rw [stsD_app]
    obtain ⟨q1, q2⟩ := stepF_len (r := r) e2 e3
    refine ⟨LAl a (l ++ [s] ++ [stepF r s]), by repeat (first | exact Sub.nil | apply Sub.keep | apply Sub.drop), l ++ [s], stepF r s, rfl, by rw [List.length_append, e1]; rfl, q1, q2, e4, way_snoc e5 (e1 ▸ hd) ho⟩
  · subst e
    refine sx_of (S.sub ?_ s4)
    refine s_retL ?_
    dsimp only [lookL, lookA, List.map]
    repeat walk_at "e"
    refine ⟨l, s, rfl, e1, e5, ?_⟩
    rw [e4, List.drop_length]
    rfl
abbrev spLAl (K : PySem.W.Frag) (ts : List Addr) : Sp := SpX (α := SbA) K ts SbA.Ok (fun a => [bkD a.b0 a.b1 a.b2 a.rs, .list a.st]) (fun a d => (∃ l s, d = .list (stsD (l ++ [s])) ∧ l.length = a.st.length ∧ Way a.rs a.st (l ++ [s]) ∧ runF a.rs a.st s0 = some s) ∨ (d = .none ∧ runF a.rs a.st s0 = none))
abbrev LLA (a : SbA) (l : List S4) : Lv := [some (.d (bkD a.b0 a.b1 a.b2 a.rs)), some (.d (.list a.st)), some (.own (.lst (stsD l))), none]
theorem oneF_neg {rs : List Rl} {i : Int} {s : S4} (h : i < 0) : oneF rs (.int i) s = none := by
  show (if 0 ≤ i then _ else none) = none
  rw [if_neg (by omega)]
theorem oneF_far {rs : List Rl} {i : Int} {s : S4} (h : (rs.length : Int) ≤ i) : oneF rs (.int i) s = none := oneF_bad (by
  show (decide (0 ≤ i) && decide (i ≤ (rs.length : Int) - 1)) = false
  rw [decide_eq_false (show ¬ i ≤ (rs.length : Int) - 1 by omega), Bool.and_false])
set_option maxHeartbeats 8000000 in
theorem ok_law_along (T : Tx K mg base) : FnOk P w K mg base CX0 2 T.f_law_along T.d_law_along ["book", "steps"] (spLAl K T.ts) := by
  refine fnX T.F_law_along sc_law_along (fun _ _ => rfl) (fun cdv A outer s H E hr => ⟨_, (pss_cons (ps_set (i := 2) sc_law_along.nd rfl (.inl rfl) (pe_lst (pa_cons (pe_tup (pa_cons pe_int (pa_cons pe_int (pa_cons (pe_tup pa_nil) (pa_cons (pe_tup pa_nil) pa_nil))))) pa_nil)))
      (pss_cons (ps_for PassesOwn.never rfl (kx_piL K rfl (pv 1)) (pg_name (i := 3) sc_law_along.nd rfl (.inl rfl))
      (pss_cons (ps_if (PW.pt (pw_or (pt_val (pe_callB (kx_isi K rfl) (by rfl) T.m_isinstance (by decide +kernel) (pa_cons (pv 3) (pa_cons (pe_bltn (v := .ty "bool") (by rfl) T.m_bool (by decide +kernel) rfl) pa_nil)))) (pw_or (pt_not (pt_val (pe_callB (kx_isi K rfl) (by rfl) T.m_isinstance (by decide +kernel) (pa_cons (pv 3) (pa_cons (pe_bltn (v := .ty "int") (by rfl) T.m_int (by decide +kernel) rfl) pa_nil))))) (pw_or (pt_cmpR op_lt (pv 3) pe_int (nomark _)) (pw_or1 (pt_cmpR op_ge (pv 3) (pe_callB (kx_len K rfl) (by rfl) T.m_len PySem.boot_len (pa_cons (pe_ix (kx_ixT K rfl) (pv 0) pe_int (fun _ _ => rfl)) pa_nil)) (nomark _)))))))
      (pss_one (ps_ret pe_non))
      pss_nil)
      (pss_cons (ps_if (pt_not (pt_val (pe_call (ok_law_can T) (hr.mono (by decide)) (by rfl) T.g_law_can T.F_law_can.kp T.b_law_can .nil pass0 (pa_cons (pe_ix (kx_ixL K rfl) (pv 2) (pe_un un_neg pe_int) (fun _ _ => rfl)) (pa_cons (pe_ix (kx_ixT K rfl) (pe_ix (kx_ixT K rfl) (pv 0) pe_int (fun _ _ => rfl)) (pv 3) (fun _ _ => rfl)) pa_nil)))))
      (pss_one (ps_ret pe_non))
      pss_nil)
      (pss_one (ps_expr (pe_bm PySem.F.plainAttrs_list PySem.F.slot_list_append PySem.F.type_list_append mt_append (pv 2) (pa_cons (pe_call (ok_law_comes T) (hr.mono (by decide)) (by rfl) T.g_law_comes T.F_law_comes.kp T.b_law_comes .nil pass0 (pa_cons (pe_ix (kx_ixL K rfl) (pv 2) (pe_un un_neg pe_int) (fun _ _ => rfl)) (pa_cons (pe_ix (kx_ixT K rfl) (pe_ix (kx_ixT K rfl) (pv 0) pe_int (fun _ _ => rfl)) (pv 3) (fun _ _ => rfl)) pa_nil))) pa_nil)))))))
      (pss_one (ps_ret (pv 2))))), fun a ha => ?_⟩)
  try simp only [nox_K, blk_K, cx_K]
  show S K ⟨none, T.ts⟩ H _ [some (.d _), some (.d _), none, none] _
  obtain ⟨ha1, ha2, ha3⟩ := ha
  refine s_seq (s_ownL (el_lst ?_))
  repeat walk_at "e"
  refine s_forI (it_list (e_var rfl ⟨_, rfl, fun i L => ∃ l s, L = LLA a (l ++ [s]) ∧ l.length = i ∧ s.lo.length ≤ i ∧ s.ln.length ≤ i ∧ runF a.rs a.st s0 = runF a.rs (a.st.drop i) s ∧ Way a.rs a.st (l ++ [s]), ⟨_, Sub.refl _, [], s0, rfl, rfl, Nat.le_refl _, Nat.le_refl _, rfl, way0 _ _⟩, fun i d L' hd ⟨l, s, e, e1, e2, e3, e4, e5⟩ => ?_, fun L' ⟨l, s, e, e1, e2, e3, e4, e5⟩ L4 s4 => ?_⟩))
  · subst e
    have hil : i < a.st.length := (List.getElem?_eq_some_iff.mp hd).1
    rw [runF_at hd] at e4
    refine g_name ?_
    dsimp only [List.set]
    have no : oneF a.rs d s = none → (∃ l s, PyData.none = .list (stsD (l ++ [s])) ∧ l.length = a.st.length ∧ Way a.rs a.st (l ++ [s]) ∧ runF a.rs a.st s0 = some s) ∨ (PyData.none = .none ∧ runF a.rs a.st s0 = none) := fun h => .inr ⟨rfl, by rw [e4, h]⟩
    cases d with
    | int k =>
      refine s_seq (s_if ?_)
      repeat walk_at "k"
      refine ⟨fun h => ?_, fun h => ?_⟩
      · repeat walk_at "k"
        exact no (oneF_neg (of_decide_eq_true h))
      have h := of_decide_eq_false h
      dsimp only [bkD]
      repeat walk_at "k"
      rw [rlsD_len]
      refine ⟨fun h2 => ?_, fun h2 => ?_⟩
      · repeat walk_at "k"
        exact no (oneF_far (of_decide_eq_true h2))
      have h2 := of_decide_eq_false h2
      obtain ⟨q, rfl⟩ : ∃ q : Nat, k = (q : Int) := ⟨k.toNat, by omega⟩
      obtain ⟨r, hr⟩ : ∃ r, a.rs[q]? = some r := ⟨a.rs[q]'(by omega), List.getElem?_eq_getElem _⟩
      rw [oneF_at hr] at e4
      refine s_next ?_
      refine s_seq (s_if (et_look ?_))
      dsimp only [lookL, lookA, List.map]
      repeat walk_at "e"
      refine r_ixL (stsD_last l s) ?_
      repeat walk_at "e"
      refine r_ixT (rls_ai hr) ?_
      repeat walk_at "e"
      refine ⟨⟨r, s⟩, rfl, ha2 r (List.mem_of_getElem? hr), ?_⟩
      rintro d' rfl
      refine ⟨_, rfl, fun h => ?_, fun h => ?_⟩
      · repeat walk_at "k"
        refine .inr ⟨rfl, ?_⟩
        rw [e4]
        cases hc : canF r s with
        | false => rfl
        | true => rw [hc] at h; cases h
      have hc : canF r s = true := by
        cases hc : canF r s with
        | true => rfl
        | false => rw [hc] at h; cases h
      rw [if_pos hc] at e4
      have ho : oneF a.rs (.int (q : Int)) s = some (stepF r s) := by rw [oneF_at hr, if_pos hc]
      refine s_next ?_
      refine s_appOwn rfl (by rw [stsD_len, List.length_append]; show l.length + 1 < _; omega) (e_look ?_)
      dsimp only [lookL, lookA, List.map]
      repeat walk_at "e"
      refine r_ixL (stsD_last l s) ?_
      repeat walk_at "e"
      refine r_ixT (rls_ai hr) ?_
      repeat walk_at "e"
      refine ⟨⟨r, s⟩, rfl, ⟨ha2 r (List.mem_of_getElem? hr), by dsimp only; omega, by dsimp only; omega⟩, ?_⟩
      rintro d' rfl
      refine ⟨noL_S4 _, ?_⟩
      rw [stsD_app]
      obtain ⟨q1, q2⟩ := stepF_len (r := r) e2 e3
      exact ⟨LLA a (l ++ [s] ++ [stepF r s]), by repeat (first | exact Sub.nil | apply Sub.keep | apply Sub.drop), l ++ [s], stepF r s, rfl, by rw [List.length_append, e1]; rfl, q1, q2, e4, way_snoc e5 (e1 ▸ hd) ho⟩
    | _ =>
      repeat walk_at "k"
      exact no rfl
  · subst e
    refine S.sub ?_ s4
    refine s_retL ?_
    dsimp only [lookL, lookA, List.map]
    repeat walk_at "e"
    refine .inl ⟨l, s, rfl, e1, e5, ?_⟩
    rw [e4, List.drop_length]
    rfl
end
section
variable {P : Program} {w : World} {K : PySem.W.Frag} {mg : Str → Option Value} {base : Heap}
/-! the house's own part of a state; the other house's steps alone -/
theorem oneF_is {rs : List Rl} {d : PyData} {s s' : S4} (h : oneF rs d s = some s') : ∃ (k : Nat) (r : Rl), d = .int (k : Int) ∧ rs[k]? = some r ∧ canF r s = true ∧ s' = stepF r s := by
  cases hw : wholeIn d 0 ((rs.length : Int) - 1) with
  | false => rw [oneF_bad hw] at h; cases h
  | true =>
    obtain ⟨k, r, rfl, hr⟩ := whole_is hw
    rw [oneF_at hr] at h
    cases hc : canF r s with
    | false => rw [if_neg (by rw [hc]; decide)] at h; cases h
    | true => rw [if_pos hc] at h; cases h; exact ⟨k, r, rfl, hr, hc, rfl⟩
theorem runF_cons {rs : List Rl} {d : PyData} {st : List PyData} {s y : S4} (h : runF rs (d :: st) s = some y) : ∃ s1, oneF rs d s = some s1 ∧ runF rs st s1 = some y := by
  have h : (match oneF rs d s with | none => none | some s' => runF rs st s') = some y := h
  cases e : oneF rs d s with
  | none => rw [e] at h; cases h
  | some s1 => rw [e] at h; exact ⟨s1, rfl, h⟩
theorem runF_put {rs : List Rl} {d : PyData} {st : List PyData} {s s1 : S4} (h : oneF rs d s = some s1) : runF rs (d :: st) s = runF rs st s1 := by
  show (match oneF rs d s with | none => none | some s' => runF rs st s') = _
  rw [h]
theorem runF_app {rs : List Rl} {b : List PyData} : ∀ {a : List PyData} {s m : S4}, runF rs a s = some m → runF rs (a ++ b) s = runF rs b m
  | [], _, _, h => by cases h; rfl
  | d :: a, s, m, h => by
    obtain ⟨s1, h1, h2⟩ := runF_cons h
    rw [List.cons_append, runF_put h1]
    exact runF_app h2
theorem in_st {c : Cm} {i : Nat} {s : S4} {v : Option (S4 × Nat)} (h : c[i]? = some (s, v)) : s ∈ statesOf c := List.mem_map.mpr ⟨_, List.mem_of_getElem? h, rfl⟩
theorem st_in {c : Cm} {s : S4} (h : s ∈ statesOf c) : ∃ (i : Nat) (v : Option (S4 × Nat)), c[i]? = some (s, v) := by
  obtain ⟨⟨t, v⟩, ht, rfl⟩ := List.mem_map.mp h
  obtain ⟨i, hi⟩ := List.getElem?_of_mem ht
  exact ⟨i, v, hi⟩
theorem way_in {rs : List Rl} {s : S4} {w : Nat × S4} (h : w ∈ waysF rs s) : ∃ r ∈ rs, canF r s = true ∧ w.2 = stepF r s := by
  obtain ⟨r, hr, hc, he⟩ := way_step (way_at h)
  exact ⟨r, List.mem_of_getElem? hr, hc, congrArg Prod.snd he⟩
theorem in_way {rs : List Rl} {s : S4} {r : Rl} (h : r ∈ rs) (hc : canF r s = true) : ∃ w ∈ waysF rs s, w.2 = stepF r s := by
  obtain ⟨i, hi⟩ := List.getElem?_of_mem h
  refine ⟨(i, stepF r s), List.mem_filterMap.mpr ⟨i, List.mem_range.mpr (List.getElem?_eq_some_iff.mp hi).1, ?_⟩, rfl⟩
  unfold wayF
  rw [hi]
  dsimp only
  rw [if_pos hc]
/-- a search ended, its states -/
structure Endd (b : Bk) (f : S4) (k : Nat) : Prop where
  k1 : (bfsF b.rs f k).length = k
  k2 : k ≤ 1000
abbrev stF (b : Bk) (f : S4) (k : Nat) : List S4 := statesOf (bfsF b.rs f k)
theorem Endd.cl {b : Bk} {f : S4} {k : Nat} (h : Endd b f k) {s : S4} (hs : s ∈ stF b f k) {w : Nat × S4} (hw : w ∈ waysF b.rs s) : w.2 ∈ stF b f k := by
  obtain ⟨r, hr, hc, e⟩ := way_in hw
  rw [e]
  exact bfs_closed h.k1 hs hr hc
theorem Endd.len {b : Bk} {f : S4} {k : Nat} (h : Endd b f k) : (stF b f k).length = k := by rw [st_len, h.k1]
end
section
variable {P : Program} {w : World} {K : PySem.W.Frag} {mg : Str → Option Value} {base : Heap}
noncomputable def DB (p : Prop) : Bool := @decide p (Classical.propDecidable p)
theorem DB_t {p : Prop} (h : p) : DB p = true := @decide_eq_true p (Classical.propDecidable p) h
theorem DB_f {p : Prop} (h : ¬ p) : DB p = false := @decide_eq_false p (Classical.propDecidable p) h
theorem DB_i {p q : Prop} (h : p ↔ q) : DB p = DB q := by rw [show p = q from propext h]
abbrev Gs : PyData → Prop := Rg.Gd 30 40000
def IsLet (lt : Nat) (d : PyData) : Prop := ∃ l, d = .tuple (intsL l) ∧ Rise lt l
def IsSt (b : Bk) (d : PyData) : Prop := ∃ s : S4, d = s.D ∧ s.Fine b
theorem intsL_inj {l m : List Int} (h : intsL l = intsL m) : l = m := by
  induction l generalizing m with
  | nil => cases m with
    | nil => rfl
    | cons _ _ => cases h
  | cons a l ih => cases m with
    | nil => cases h
    | cons b m =>
      have h1 : PyData.int a = .int b := (List.cons.inj h).1
      cases h1
      rw [ih (List.cons.inj h).2]
theorem ints_all {lt : Int} : ∀ {ds : List PyData}, (ds.all fun x => wholeIn x 0 (lt - 1)) = true → ∃ l, ds = intsL l ∧ ∀ v ∈ l, 0 ≤ v ∧ v < lt
  | [], _ => ⟨[], rfl, fun _ h => (nomatch h)⟩
  | x :: ds, h => by
    rw [List.all_cons, Bool.and_eq_true] at h
    obtain ⟨l, rfl, hl⟩ := ints_all h.2
    cases x with
    | int v =>
      have h1 : (decide (0 ≤ v) && decide (v ≤ lt - 1)) = true := h.1
      rw [Bool.and_eq_true] at h1
      refine ⟨v :: l, rfl, fun u hu => ?_⟩
      rcases List.mem_cons.mp hu with rfl | hu
      · have := of_decide_eq_true h1.1
        have := of_decide_eq_true h1.2
        omega
      · exact hl u hu
    | _ => cases h.1
theorem all_ints {lt : Int} {l : List Int} (h : ∀ v ∈ l, 0 ≤ v ∧ v < lt) : ((intsL l).all fun x => wholeIn x 0 (lt - 1)) = true := List.all_eq_true.mpr fun x hx => by
  obtain ⟨v, hv, rfl⟩ := List.mem_map.mp hx
  obtain ⟨h1, h2⟩ := h v hv
  show (decide (0 ≤ v) && decide (v ≤ lt - 1)) = true
  rw [decide_eq_true h1, decide_eq_true (show v ≤ lt - 1 by omega)]
  rfl
def adjB : List Int → Bool
  | a :: b :: r => decide (a < b) && adjB (b :: r)
  | _ => true
theorem adj_iff : ∀ l : List Int, adjB l = true ↔ l.Pairwise (· < ·)
  | [] => ⟨fun _ => .nil, fun _ => rfl⟩
  | [a] => ⟨fun _ => List.pairwise_singleton _ _, fun _ => rfl⟩
  | a :: b :: r => by
    show (decide (a < b) && adjB (b :: r)) = true ↔ _
    rw [Bool.and_eq_true, adj_iff (b :: r), decide_eq_true_iff]
    constructor
    · rintro ⟨h1, h2⟩
      refine List.pairwise_cons.mpr ⟨fun x hx => ?_, h2⟩
      rcases List.mem_cons.mp hx with rfl | hx
      · exact h1
      · exact Int.lt_trans h1 ((List.pairwise_cons.mp h2).1 x hx)
    · intro h
      exact ⟨(List.pairwise_cons.mp h).1 b (List.mem_cons_self ..), (List.pairwise_cons.mp h).2⟩
def ltP : PyData → Bool
  | .tuple [.int a, .int b] => decide (a < b)
  | _ => true
theorem zip_adj : ∀ l : List Int, ((zipL (intsL l) ((intsL l).drop 1)).all ltP) = adjB l
  | [] => rfl
  | [_] => rfl
  | a :: b :: r => by
    have ih := zip_adj (b :: r)
    show (ltP (.tuple [.int a, .int b]) && ((zipL (intsL (b :: r)) ((intsL (b :: r)).drop 1)).all ltP)) = _
    rw [ih]
    rfl
theorem cutd1 (ds : List PyData) : Dl.cutD ds (some 1) none = ds.drop 1 := by
  show (ds.drop (HT.sIx ds.length 0 (some ((1 : Nat) : Int)))).take (ds.length - HT.sIx ds.length 0 (some ((1 : Nat) : Int))) = ds.drop 1
  rw [HT.sIx_nat]
  cases ds with
  | nil => rfl
  | cons a r =>
    rw [show min 1 (a :: r).length = 1 from by rw [List.length_cons]; omega]
    exact List.take_of_length_le (by rw [List.length_drop]; exact Nat.le_refl _)
theorem sD_inj {s t : S4} (h : s.D = t.D) : s = t := by
  obtain ⟨o, n, lo, ln⟩ := s
  obtain ⟨o', n', lo', ln'⟩ := t
  have h0 := PyData.tuple.inj h
  have c1 := List.cons.inj h0
  have c2 := List.cons.inj c1.2
  have c3 := List.cons.inj c2.2
  have c4 := List.cons.inj c3.2
  have e1 : (o : Int) = (o' : Int) := PyData.int.inj c1.1
  have e2 : (n : Int) = (n' : Int) := PyData.int.inj c2.1
  have e3 : lo = lo' := intsL_inj (PyData.tuple.inj c3.1)
  have e4 : ln = ln' := intsL_inj (PyData.tuple.inj c4.1)
  have e1 : o = o' := by omega
  have e2 : n = n' := by omega
  rw [e1, e2, e3, e4]
set_option maxHeartbeats 4000000 in
theorem ok_is_rising (T : Tx K mg base) : FnOk P w K mg base CX0 2 T.f_is_rising T.d_is_rising ["things"] (SpX (α := List Int) K T.ts (fun _ => True) (fun l => [.tuple (intsL l)]) (fun l d => d = .bool (adjB l))) := by
  refine fnXc T.F_is_rising sc_is_rising (fun _ _ => rfl) (fun A outer s H E hr => ⟨_, (pss_one (ps_ret (_root_.Gx.pe_allG (own := [("one", 1), ("other", 2)]) (tt := tYes) rfl hr sc_is_rising.nd (by rfl) T.m_all (by decide +kernel) T.tb_is_rising rfl ⟨blkOk_by (own := [("one", 1), ("other", 2)]) (N := ["things", "one", "other"]) (sc := defScope s_is_rising) (by decide +kernel), rfl, by decide +kernel, rfl⟩ (kx_zip K rfl rfl T.m_zip (pa_cons (pv 0) (pa_cons (pe_slice (kx_slT K rfl) (pv 0) (po_some pe_int) po_none) pa_nil))) (fun A' s' H' cl C code fp pn hr' => (kx_pgT K (n := 2) rfl rfl (pgs_cons (pg_name (i := 1) sc_is_rising.nd rfl (.inl rfl)) (pgs_cons (pg_name (i := 2) sc_is_rising.nd rfl (.inl rfl)) pgs_nil)))) (fun A' s' H' cl C code fp pn hr' => pts_nil) (fun A' s' H' cl C code fp pn hr' => (pe_cmpR op_lt (pv 1) (pv 2) (nomark _)))))), fun l hl => ?_⟩)
  try simp only [nox_K, blk_K, cx_K]
  show S K ⟨none, T.ts⟩ H _ [some (.d _), none, none] _
  refine s_ret (e_allI ltP T.ti_is_rising (it_zip ?_))
  repeat walk_at "k"
  rw [cutd1]
  refine ⟨_, _, .inl rfl, fun x hx => ?_, ?_⟩
  · obtain ⟨i, hi⟩ := List.mem_iff_getElem?.mp hx
    obtain ⟨a, b, h1, h2, rfl⟩ := zipL_get hi
    unfold intsL at h1 h2
    rw [List.getElem?_map] at h1
    rw [List.getElem?_drop, Nat.add_comm, List.getElem?_map] at h2
    obtain ⟨c, hc, rfl⟩ := Option.map_eq_some_iff.mp h1
    obtain ⟨e, he, rfl⟩ := Option.map_eq_some_iff.mp h2
    refine gw_tup rfl (gws_cons (gw_name (by decide) (gws_cons (gw_name (by decide) (gws_nil ?_)))))
    dsimp only [List.map, wipeL, List.set]
    refine e_op (e_var rfl (e_var rfl (r_lt ?_)))
    rfl
  · rw [zip_adj]
structure AlL where
  d : PyData
  lt : Nat
set_option maxHeartbeats 4000000 in
theorem ok_are_letters (T : Tx K mg base) : FnOk P w K mg base CX0 4 T.f_are_letters T.d_are_letters ["thing", "letters"] (SpX (α := AlL) K T.ts (fun _ => True) (fun a => [a.d, .int (a.lt : Nat)]) (fun a r => r = .bool (DB (IsLet a.lt a.d)))) := by
  refine fnXc T.F_are_letters sc_are_letters (fun _ _ => rfl) (fun A outer s H E hr => ⟨_, (pss_cons (ps_if (PW.pt (pw_or (pt_not (pt_val (pe_callB (kx_isi K rfl) (by rfl) T.m_isinstance (by decide +kernel) (pa_cons (pv 0) (pa_cons (pe_bltn (v := .ty "tuple") (by rfl) T.m_tuple (by decide +kernel) rfl) pa_nil))))) (pw_or1 (pt_not (pt_val (_root_.Gx.pe_allG (own := [("letter", 2)]) (tt := tYes) rfl hr sc_are_letters.nd (by rfl) T.m_all (by decide +kernel) T.tb_are_letters rfl ⟨blkOk_by (own := [("letter", 2)]) (N := ["thing", "letters", "letter"]) (sc := defScope s_are_letters) (by decide +kernel), rfl, by decide +kernel, rfl⟩ (kx_piT K rfl (pv 0)) (fun A' s' H' cl C code fp pn hr' => (pg_name (i := 2) sc_are_letters.nd rfl (.inl rfl))) (fun A' s' H' cl C code fp pn hr' => pts_nil) (fun A' s' H' cl C code fp pn hr' => (pe_call (ok_is_whole_within T) (hr'.mono (by decide)) (by rfl) T.g_is_whole_within T.F_is_whole_within.kp T.b_is_whole_within .nil pass0 (pa_cons (pv 2) (pa_cons pe_int (pa_cons (pe_op op_sub (pv 1) pe_int) pa_nil)))))))))))
      (pss_one (ps_ret pe_bl))
      pss_nil)
      (pss_one (ps_ret (pe_call (ok_is_rising T) (hr.mono (by decide)) (by rfl) T.g_is_rising T.F_is_rising.kp T.b_is_rising .nil pass0 (pa_cons (pv 0) pa_nil))))), fun a ha => ?_⟩)
  obtain ⟨d, lt⟩ := a
  try simp only [nox_K, blk_K, cx_K]
  show S K ⟨none, T.ts⟩ H _ [some (.d d), some (.d (.int (lt : Nat))), none] _
  cases d with
  | tuple ds =>
    cases hb : ds.all fun x => wholeIn x 0 ((lt : Int) - 1) with
    | false =>
      have no : ¬ IsLet lt (.tuple ds) := fun ⟨l, e, h⟩ => by
        cases e
        have := all_ints (lt := (lt : Int)) (l := l) h.2
        rw [this] at hb
        cases hb
      refine s_seq (s_if (et_or ?_))
      repeat walk_at "k"
      refine e_allT (fun x => wholeIn x 0 ((lt : Int) - 1)) T.ti_are_letters ?_
      repeat walk_at "k"
      refine ⟨fun x hx => ?_, ?_⟩
      · dsimp only [List.set]
        repeat walk_at "k"
        refine ⟨(x, 0, (lt : Int) - 1), rfl, trivial, ?_⟩
        rintro d rfl
        rfl
      · rw [hb]
        repeat walk_at "k"
        show PyData.bool false = .bool (DB (IsLet lt (.tuple ds)))
        rw [DB_f no]
    | true =>
      obtain ⟨l, rfl, hl⟩ := ints_all hb
      refine s_cut (fun L => Sub [some (.d (.tuple (intsL l))), some (.d (.int (lt : Nat))), none] L) (s_if (et_or ?_)) fun L' sb => S.sub ?_ sb
      · repeat walk_at "k"
        refine e_allT (fun x => wholeIn x 0 ((lt : Int) - 1)) T.ti_are_letters ?_
        repeat walk_at "k"
        refine ⟨fun x hx => ?_, ?_⟩
        · dsimp only [List.set]
          repeat walk_at "k"
          refine ⟨(x, 0, (lt : Int) - 1), rfl, trivial, ?_⟩
          rintro d rfl
          rfl
        · rw [hb]
          repeat walk_at "k"
          exact Sub.refl _
      repeat walk_at "k"
      refine ⟨trivial, ?_⟩
      rintro d rfl
      show PyData.bool (adjB l) = .bool (DB (IsLet lt (.tuple (intsL l))))
      cases e : adjB l with
      | true => rw [DB_t ⟨l, rfl, (adj_iff l).mp e, hl⟩]
      | false =>
        rw [DB_f]
        rintro ⟨m, e2, h2⟩
        have e3 := intsL_inj (PyData.tuple.inj e2)
        subst e3
        rw [(adj_iff l).mpr h2.1] at e
        cases e
  | _ =>
    repeat walk_at "k"
    show PyData.bool false = .bool (DB (IsLet lt _))
    rw [DB_f (fun ⟨l, e, _⟩ => by cases e)]
end
section
variable {P : Program} {w : World} {K : PySem.W.Frag} {mg : Str → Option Value} {base : Heap}
theorem tup4 {d : PyData} (h : tupOf d 4 = true) : ∃ x y z u, d = .tuple [x, y, z, u] := by
  cases d with
  | tuple ds =>
    have h : decide ((ds.length : Int) = 4) = true := h
    have h := of_decide_eq_true h
    match ds, h with
    | [x, y, z, u], _ => exact ⟨x, y, z, u, rfl⟩
    | [], h => simp at h
    | [_], h => simp at h
    | [_, _], h => simp at h
    | [_, _, _], h => simp at h
    | _ :: _ :: _ :: _ :: _ :: _, h => simp only [List.length_cons] at h; omega
  | _ => cases h
theorem wh_int {x : PyData} {n : Nat} (h : wholeIn x 0 ((n : Int) - 1) = true) : ∃ k : Nat, x = .int (k : Nat) ∧ k < n := by
  cases x with
  | int v =>
    have h : (decide (0 ≤ v) && decide (v ≤ (n : Int) - 1)) = true := h
    rw [Bool.and_eq_true] at h
    have h1 := of_decide_eq_true h.1
    have h2 := of_decide_eq_true h.2
    exact ⟨v.toNat, by rw [show ((v.toNat : Nat) : Int) = v by omega], by omega⟩
  | _ => cases h
theorem int_wh {k n : Nat} (h : k < n) : wholeIn (.int (k : Nat)) 0 ((n : Int) - 1) = true := by
  show (decide ((0 : Int) ≤ (k : Nat)) && decide (((k : Nat) : Int) ≤ (n : Int) - 1)) = true
  rw [decide_eq_true (show (0 : Int) ≤ (k : Nat) by omega), decide_eq_true (show ((k : Nat) : Int) ≤ (n : Int) - 1 by omega)]
  rfl
theorem st4_iff {b : Bk} {x y z u : PyData} : IsSt b (.tuple [x, y, z, u]) ↔ wholeIn x 0 ((b.os.length : Int) - 1) = true ∧ wholeIn y 0 ((b.ns.length : Int) - 1) = true ∧ IsLet b.lt z ∧ IsLet b.lt u := by
  constructor
  · rintro ⟨⟨o, n, lo, ln⟩, e, hf⟩
    have c1 := List.cons.inj (PyData.tuple.inj e)
    have c2 := List.cons.inj c1.2
    have c3 := List.cons.inj c2.2
    have c4 := List.cons.inj c3.2
    rw [c1.1, c2.1, c3.1, c4.1]
    exact ⟨int_wh hf.i.o, int_wh hf.i.n, ⟨lo, rfl, hf.lo⟩, ⟨ln, rfl, hf.ln⟩⟩
  · rintro ⟨h1, h2, ⟨lo, rfl, h3⟩, ⟨ln, rfl, h4⟩⟩
    obtain ⟨o, rfl, h5⟩ := wh_int h1
    obtain ⟨n, rfl, h6⟩ := wh_int h2
    exact ⟨⟨o, n, lo, ln⟩, rfl, ⟨h5, h6⟩, h3, h4⟩
structure AiS where
  b : Bk
  d : PyData
abbrev spIsS (K : PySem.W.Frag) (ts : List Addr) : Sp := SpX (α := AiS) K ts (fun _ => True) (fun a => [a.b.D, a.d]) (fun a r => r = .bool (DB (IsSt a.b a.d)))
set_option maxHeartbeats 4000000 in
theorem ok_is_state (T : Tx K mg base) : FnOk P w K mg base CX0 5 T.f_is_state T.d_is_state ["book", "thing"] (spIsS K T.ts) := by
  refine fnX T.F_is_state sc_is_state (fun _ _ => rfl) (fun cdv A outer s H E hr => ⟨_, (pss_cons (ps_if (pt_not (pt_val (pe_call (ok_is_tuple_of T) (hr.mono (by decide)) (by rfl) T.g_is_tuple_of T.F_is_tuple_of.kp T.b_is_tuple_of .nil pass0 (pa_cons (pv 1) (pa_cons pe_int pa_nil)))))
      (pss_one (ps_ret pe_bl))
      pss_nil)
      (pss_cons (ps_asg (pv 0) (kx_pgT K (n := 4) rfl rfl (pgs_cons (pg_name (i := 2) sc_is_state.nd rfl (.inl rfl)) (pgs_cons (pg_name (i := 3) sc_is_state.nd rfl (.inl rfl)) (pgs_cons (pg_name (i := 4) sc_is_state.nd rfl (.inl rfl)) (pgs_cons (pg_name (i := 5) sc_is_state.nd rfl (.inl rfl)) pgs_nil))))))
      (pss_cons (ps_if (PW.pt (pw_or (pt_not (pt_val (pe_call (ok_is_whole_within T) (hr.mono (by decide)) (by rfl) T.g_is_whole_within T.F_is_whole_within.kp T.b_is_whole_within .nil pass0 (pa_cons (pe_ix (kx_ixT K rfl) (pv 1) pe_int (fun _ _ => rfl)) (pa_cons pe_int (pa_cons (pe_op op_sub (pe_callB (kx_len K rfl) (by rfl) T.m_len PySem.boot_len (pa_cons (pv 2) pa_nil)) pe_int) pa_nil)))))) (pw_or1 (pt_not (pt_val (pe_call (ok_is_whole_within T) (hr.mono (by decide)) (by rfl) T.g_is_whole_within T.F_is_whole_within.kp T.b_is_whole_within .nil pass0 (pa_cons (pe_ix (kx_ixT K rfl) (pv 1) pe_int (fun _ _ => rfl)) (pa_cons pe_int (pa_cons (pe_op op_sub (pe_callB (kx_len K rfl) (by rfl) T.m_len PySem.boot_len (pa_cons (pv 3) pa_nil)) pe_int) pa_nil)))))))))
      (pss_one (ps_ret pe_bl))
      pss_nil)
      (pss_one (ps_ret (pe_and (pe_call (ok_are_letters T) (hr.mono (by decide)) (by rfl) T.g_are_letters T.F_are_letters.kp T.b_are_letters .nil pass0 (pa_cons (pe_ix (kx_ixT K rfl) (pv 1) pe_int (fun _ _ => rfl)) (pa_cons (pv 4) pa_nil))) (pe_one (pe_call (ok_are_letters T) (hr.mono (by decide)) (by rfl) T.g_are_letters T.F_are_letters.kp T.b_are_letters .nil pass0 (pa_cons (pe_ix (kx_ixT K rfl) (pv 1) pe_int (fun _ _ => rfl)) (pa_cons (pv 4) pa_nil)))))))))), fun a ha => ?_⟩)
  obtain ⟨b, d⟩ := a
  try simp only [nox_K, blk_K, cx_K]
  show S K ⟨none, T.ts⟩ H _ [some (.d b.D), some (.d d), none, none, none, none] { nx := fun _ => PyData.none = .bool (DB (IsSt b d)), rt := fun r => r = .bool (DB (IsSt b d)) }
  cases hb : tupOf d 4 with
  | false =>
    have no : ¬ IsSt b d := fun ⟨s, e, _⟩ => by
      subst e
      have : tupOf s.D 4 = true := rfl
      rw [this] at hb
      cases hb
    rw [DB_f no]
    refine s_seq (s_if ?_)
    repeat walk_at "k"
    refine ⟨(d, 4), rfl, trivial, ?_⟩
    rintro _ rfl
    dsimp only
    rw [hb]
    repeat walk_at "k"
    rfl
  | true =>
    obtain ⟨x, y, z, u, rfl⟩ := tup4 hb
    refine s_cut (fun L => Sub [some (.d b.D), some (.d (.tuple [x, y, z, u])), none, none, none, none] L) (s_if ?_) fun L' sb => S.sub ?_ sb
    · repeat walk_at "k"
      refine ⟨(.tuple [x, y, z, u], 4), rfl, trivial, ?_⟩
      rintro _ rfl
      repeat walk_at "k"
      exact Sub.refl _
    dsimp only [Bk.D]
    rw [DB_i st4_iff]
    repeat walk_at "k"
    rw [blsD_len]
    refine ⟨(x, 0, ((b.os.length : Nat) : Int) - 1), rfl, trivial, ?_⟩
    rintro d rfl
    dsimp only
    cases h1 : wholeIn x 0 (((b.os.length : Nat) : Int) - 1) with
    | false =>
      repeat walk_at "k"
      rw [DB_f (fun z => by cases z.1)]
    | true =>
      repeat walk_at "k"
      rw [blsD_len]
      refine ⟨(y, 0, ((b.ns.length : Nat) : Int) - 1), rfl, trivial, ?_⟩
      rintro d rfl
      dsimp only
      cases h2 : wholeIn y 0 (((b.ns.length : Nat) : Int) - 1) with
      | false =>
        repeat walk_at "k"
        rw [DB_f (fun z => by cases z.2.1)]
      | true =>
        repeat walk_at "k"
        refine ⟨⟨z, b.lt⟩, rfl, trivial, ?_⟩
        rintro d rfl
        dsimp only
        by_cases h3 : IsLet b.lt z
        · rw [DB_t h3]
          repeat walk_at "k"
          refine ⟨⟨u, b.lt⟩, rfl, trivial, ?_⟩
          rintro d rfl
          exact congrArg PyData.bool (DB_i ⟨fun h => ⟨rfl, rfl, h3, h⟩, fun h => h.2.2.2⟩)
        · rw [DB_f h3]
          repeat walk_at "k"
          rw [DB_f (fun z => h3 z.2.2.1)]
end
section
variable {P : Program} {w : World} {K : PySem.W.Frag} {mg : Str → Option Value} {base : Heap}
/-! a list of states, each once -/
def ddL : List S4 → List S4 := fun l => l.foldl (fun u s => if s ∈ u then u else u ++ [s]) []
theorem dd_snoc (l : List S4) (s : S4) : ddL (l ++ [s]) = if s ∈ ddL l then ddL l else ddL l ++ [s] := by
  unfold ddL
  rw [List.foldl_append]
  rfl
theorem dd_all : ∀ n (l : List S4), l.length = n → (ddL l).length ≤ l.length ∧ (∀ s, s ∈ ddL l ↔ s ∈ l) ∧ ((ddL l).length = l.length → l.Nodup) ∧ (l.Nodup → ddL l = l)
  | 0, l, h => by
    rw [List.eq_nil_of_length_eq_zero h]
    exact ⟨Nat.le_refl _, fun s => Iff.rfl, fun _ => List.nodup_nil, fun _ => rfl⟩
  | n + 1, l, h => by
    have hne : l ≠ [] := fun z => by rw [z] at h; cases h
    rw [← List.dropLast_concat_getLast hne] at h ⊢
    generalize l.dropLast = m at h ⊢
    generalize l.getLast hne = s at h ⊢
    rw [List.length_append] at h
    have h : m.length + 1 = n + 1 := h
    obtain ⟨i1, i2, i3, i4⟩ := dd_all n m (by omega)
    rw [dd_snoc]
    by_cases hs : s ∈ ddL m
    · rw [if_pos hs]
      have hm := (i2 s).mp hs
      refine ⟨by rw [List.length_append]; omega, fun t => ?_, fun e => ?_, fun e => ?_⟩
      · rw [i2, List.mem_append]
        exact ⟨.inl, fun z => z.elim id fun z => by rw [List.mem_singleton.mp z]; exact hm⟩
      · rw [List.length_append] at e
        have e : (ddL m).length = m.length + 1 := e
        omega
      · exact absurd rfl ((List.nodup_append.mp e).2.2 s hm s (List.mem_singleton.mpr rfl))
    · rw [if_neg hs]
      have hm : s ∉ m := fun z => hs ((i2 s).mpr z)
      refine ⟨by rw [List.length_append, List.length_append]; exact Nat.add_le_add_right i1 _, fun t => ?_, fun e => ?_, fun e => ?_⟩
      · rw [List.mem_append, List.mem_append, i2]
      · rw [List.length_append, List.length_append] at e
        have e : (ddL m).length + 1 = m.length + 1 := e
        refine List.nodup_append.mpr ⟨i3 (by omega), List.nodup_cons.mpr ⟨List.not_mem_nil, List.nodup_nil⟩, fun x hx y hy q => ?_⟩
        rw [List.mem_singleton.mp hy] at q
        exact hm (q ▸ hx)
      · rw [i4 (List.nodup_append.mp e).1]
theorem dd_le (l : List S4) : (ddL l).length ≤ l.length := (dd_all _ l rfl).1
theorem dd_len (l : List S4) : (ddL l).length = l.length ↔ l.Nodup := ⟨(dd_all _ l rfl).2.2.1, fun h => by rw [(dd_all _ l rfl).2.2.2 h]⟩
theorem dd_nd {l : List S4} (h : l.Nodup) : ddL l = l := (dd_all _ l rfl).2.2.2 h
theorem known_put_in {l : List S4} {t : S4} (h : t ∈ l) : putD (knownL l) (s4key t) (.bool true) = knownL l := by
  unfold putD
  rw [anyN, known_val, decide_eq_true h, if_pos rfl]
  unfold knownL
  rw [List.map_map]
  refine List.map_congr_left fun s _ => ?_
  show (if s4key s = s4key t then (s4key s, PyData.bool true) else (s4key s, PyData.bool true)) = (s4key s, PyData.bool true)
  split <;> rfl
theorem subLn {α : Type} [DecidableEq α] {l m : List α} (h : l.Nodup) (hs : ∀ x ∈ l, x ∈ m) : l.length ≤ m.length := by
  induction l generalizing m with
  | nil => exact Nat.zero_le _
  | cons x l ih =>
    have hx := hs x (List.mem_cons_self ..)
    have hn := List.nodup_cons.mp h
    have := ih (m := m.erase x) hn.2 fun y hy => (List.mem_erase_of_ne (by rintro rfl; exact hn.1 hy)).mpr (hs y (List.mem_cons_of_mem _ hy))
    rw [List.length_erase_of_mem hx] at this
    have := List.length_pos_of_mem hx
    rw [List.length_cons]
    omega
theorem rise_len {lt : Nat} {l : List Int} (h : Rise lt l) : l.length ≤ lt := by
  have hn : l.Nodup := h.1.imp fun z e => by omega
  have hs : ∀ v ∈ l, v ∈ (List.range lt).map fun k : Nat => (k : Int) := fun v hv => by
    obtain ⟨h1, h2⟩ := h.2 v hv
    exact List.mem_map.mpr ⟨v.toNat, List.mem_range.mpr (by omega), by omega⟩
  have := subLn hn hs
  rw [List.length_map, List.length_range] at this
  exact this
theorem sts_inj : ∀ {l m : List S4}, l.map S4.D = m.map S4.D → l = m
  | [], [], _ => rfl
  | [], _ :: _, h => by cases h
  | _ :: _, [], h => by cases h
  | s :: l, t :: m, h => by rw [sD_inj (List.cons.inj h).1, sts_inj (List.cons.inj h).2]
theorem sts_all {b : Bk} : ∀ {ds : List PyData}, (ds.all fun x => DB (IsSt b x)) = true → ∃ l : List S4, ds = l.map S4.D ∧ ∀ s ∈ l, s.Fine b
  | [], _ => ⟨[], rfl, fun _ h => (nomatch h)⟩
  | x :: ds, h => by
    rw [List.all_cons, Bool.and_eq_true] at h
    obtain ⟨l, rfl, hl⟩ := sts_all h.2
    by_cases hx : IsSt b x
    · obtain ⟨s, rfl, hs⟩ := hx
      refine ⟨s :: l, rfl, fun t ht => ?_⟩
      rcases List.mem_cons.mp ht with rfl | ht
      · exact hs
      · exact hl t ht
    · rw [DB_f hx] at h
      cases h.1
theorem all_sts {b : Bk} {l : List S4} (h : ∀ s ∈ l, s.Fine b) : ((l.map S4.D).all fun x => DB (IsSt b x)) = true := List.all_eq_true.mpr fun x hx => by
  obtain ⟨s, hs, rfl⟩ := List.mem_map.mp hx
  exact DB_t ⟨s, rfl, h s hs⟩
def clF (b : Bk) (l : List S4) : Bool := l.all fun s => (waysF b.rs s).all fun w => decide (w.2 ∈ l)
def Closed (b : Bk) (f : S4) (d : PyData) : Prop := ∃ l : List S4, d = .list (l.map S4.D) ∧ l.Nodup ∧ (∀ s ∈ l, s.Fine b) ∧ f ∈ l ∧ clF b l = true
theorem closed_l {b : Bk} {f : S4} {l : List S4} (h : Closed b f (.list (l.map S4.D))) : l.Nodup ∧ (∀ s ∈ l, s.Fine b) ∧ f ∈ l ∧ clF b l = true := by
  obtain ⟨m, e, h⟩ := h
  rw [sts_inj (PyData.list.inj e)]
  exact h
structure AlC where
  b : Bk
  f : S4
  d : PyData
structure AlC.Ok (a : AlC) : Prop where
  fit : a.b.Fit
  lt : a.b.lt ≤ 100
  gd : ∀ ds, a.d = .list ds → ds.length ≤ 40000
abbrev spCz (K : PySem.W.Frag) (ts : List Addr) : Sp := SpX (α := AlC) K ts AlC.Ok (fun a => [a.b.D, a.f.D, a.d]) (fun a r => r = .bool (DB (Closed a.b a.f a.d)))
def intO : PyData → Option Int
  | .int i => some i
  | _ => none
def deS : PyData → Option S4
  | .tuple [.int o, .int n, .tuple lo, .tuple ln] => some ⟨o.toNat, n.toNat, lo.filterMap intO, ln.filterMap intO⟩
  | _ => none
theorem deS_ints (l : List Int) : (intsL l).filterMap intO = l := by
  induction l with
  | nil => rfl
  | cons a l ih =>
    show List.filterMap intO (PyData.int a :: intsL l) = _
    rw [List.filterMap_cons]
    exact congrArg (a :: ·) ih
theorem deS_D (s : S4) : deS s.D = some s := by
  obtain ⟨o, n, lo, ln⟩ := s
  show some (S4.mk (Int.toNat (o : Nat)) (Int.toNat (n : Nat)) ((intsL lo).filterMap intO) ((intsL ln).filterMap intO)) = _
  rw [deS_ints, deS_ints]
  rfl
/-- a truth of a state, of its data -/
def onS (G : S4 → Bool) (x : PyData) : Bool := match deS x with
  | some s => G s
  | none => true
theorem onS_D (G : S4 → Bool) (s : S4) : onS G s.D = G s := by
  unfold onS
  rw [deS_D]
theorem onS_all (G : S4 → Bool) (l : List S4) : (l.map S4.D).all (onS G) = l.all G := by
  rw [List.all_map]
  congr 1
  funext s
  exact onS_D G s
theorem onS_any (G : S4 → Bool) (l : List S4) : (l.map S4.D).any (onS G) = l.any G := by
  rw [List.any_map]
  congr 1
  funext s
  exact onS_D G s
def wayS (G : S4 → Bool) : PyData → Bool
  | .tuple [_, x] => onS G x
  | _ => true
theorem wayS_all (G : S4 → Bool) (ws : List (Nat × S4)) : (ws.map wayD).all (wayS G) = ws.all fun w => G w.2 := by
  rw [List.all_map]
  congr 1
  funext w
  exact onS_D G w.2
set_option maxHeartbeats 8000000 in
theorem ok_closes (T : Tx K mg base) : FnOk P w K mg base CX0 7 T.f_closes T.d_closes ["book", "first", "some"] (spCz K T.ts) := by
  refine fnXc T.F_closes sc_closes (fun _ _ => rfl) (fun A outer s H E hr => ⟨_, (pss_cons (ps_if (PW.pt (pw_or (pt_not (pt_val (pe_callB (kx_isi K rfl) (by rfl) T.m_isinstance (by decide +kernel) (pa_cons (pv 2) (pa_cons (pe_bltn (v := .ty "list") (by rfl) T.m_list (by decide +kernel) rfl) pa_nil))))) (pw_or1 (pt_not (pt_val (_root_.Gx.pe_allG (own := [("state", 4)]) (tt := tYes) rfl hr sc_closes.nd (by rfl) T.m_all (by decide +kernel) T.tb_closes rfl ⟨blkOk_by (own := [("state", 4)]) (N := ["book", "first", "some", "held", "state", "step", "behind"]) (sc := defScope s_closes) (by decide +kernel), rfl, by decide +kernel, rfl⟩ (kx_piL K rfl (pv 2)) (fun A' s' H' cl C code fp pn hr' => (pg_name (i := 4) sc_closes.nd rfl (.inl rfl))) (fun A' s' H' cl C code fp pn hr' => pts_nil) (fun A' s' H' cl C code fp pn hr' => (pe_call (ok_is_state T) (hr'.mono (by decide)) (by rfl) T.g_is_state T.F_is_state.kp T.b_is_state .nil pass0 (pa_cons (pv 0) (pa_cons (pv 4) pa_nil))))))))))
      (pss_one (ps_ret pe_bl))
      pss_nil)
      (pss_cons (ps_set (i := 3) sc_closes.nd rfl (.inr rfl) (_root_.Gn.pe_dcN (own := [("state", 4)]) (g := gName 4) (tt := tYes) rfl rfl (hu9_of hr) rfl sc_closes.nd (kx_piL K rfl (pv 2)) (blkOk_by (own := [("state", 4)]) (N := ["book", "first", "some", "held", "state", "step", "behind"]) (sc := defScope s_closes) (by decide +kernel)) (fun _ _ _ _ _ => (pg_name (i := 4) sc_closes.nd rfl (.inl rfl))) (fun _ _ _ _ _ => pts_nil) (fun _ _ _ _ _ => (pv 4)) (fun _ _ _ _ _ => pe_bl)))
      (pss_cons (ps_if (PW.pt (pw_or (pt_cmpR op_ne (pe_callB (_root_.Gn.call_len rfl rfl) (by rfl) T.m_len PySem.boot_len (pa_cons (pv 3) pa_nil)) (pe_callB (kx_len K rfl) (by rfl) T.m_len PySem.boot_len (pa_cons (pv 2) pa_nil)) (nomark _)) (pw_or1 (pt_cmp (_root_.Gn.pc_notin rfl rfl (hu9_of hr) (pv 1) (pv 3))))))
      (pss_one (ps_ret pe_bl))
      pss_nil)
      (pss_one (ps_ret (_root_.Gx.pe_allG2 (own := [("state", 4), ("step", 5), ("behind", 6)]) (vs2 := [5, 6]) (tt := tYes) (tt2 := tYes) rfl hr sc_closes.nd (by rfl) T.m_all (by decide +kernel) T.tb_closes rfl ⟨blkOk_by (own := [("state", 4), ("step", 5), ("behind", 6)]) (N := ["book", "first", "some", "held", "state", "step", "behind"]) (sc := defScope s_closes) (by decide +kernel), rfl, by decide +kernel, rfl⟩ (kx_piL K rfl (pv 2)) (fun A' s' H' cl C code fp pn hr' => (pg_name (i := 4) sc_closes.nd rfl (.inl rfl))) (fun A' s' H' cl C code fp pn hr' => pts_nil) (fun A' s' H' cl C code fp pn hr' => (pe_cmp (_root_.Gn.pc_in rfl rfl (hu9_of hr') (pv 6) (pv 3)) rfl)) (fun A' s' H' cl C code fp pn hr' => (kx_piL K rfl (pe_call (ok_ways_from T) (hr'.mono (by decide)) (by rfl) T.g_ways_from T.F_ways_from.kp T.b_ways_from .nil pass0 (pa_cons (pv 0) (pa_cons (pv 4) pa_nil))))) (fun A' s' H' cl C code fp pn hr' => (kx_pgT K (n := 2) rfl rfl (pgs_cons (pg_name (i := 5) sc_closes.nd rfl (.inl rfl)) (pgs_cons (pg_name (i := 6) sc_closes.nd rfl (.inl rfl)) pgs_nil)))) (fun A' s' H' cl C code fp pn hr' => pts_nil))))))), fun a ha => ?_⟩)
  obtain ⟨b, f, d⟩ := a
  obtain ⟨hfit, hlt, hgd⟩ := ha
  dsimp only at hfit hlt hgd
  try simp only [nox_K, blk_K, cx_K]
  show S K ⟨none, T.ts⟩ H _ [some (.d b.D), some (.d f.D), some (.d d), none, none, none, none] { nx := fun _ => PyData.none = .bool (DB (Closed b f d)), rt := fun r => r = .bool (DB (Closed b f d)) }
  cases d with
  | list ds =>
    cases hb : ds.all fun x => DB (IsSt b x) with
    | false =>
      have no : ¬ Closed b f (.list ds) := fun ⟨l, e, _, h, _⟩ => by
        cases e
        rw [all_sts h] at hb
        cases hb
      rw [DB_f no]
      refine s_seq (s_if (et_or ?_))
      repeat walk_at "k"
      refine e_allI (fun x => DB (IsSt b x)) T.ti_closes (it_list (e_var rfl ⟨_, rfl, fun x hx => ?_, ?_⟩))
      · refine gw_name (by decide) ?_
        dsimp only [List.map, wipeL, List.set]
        repeat walk_at "k"
        refine ⟨⟨b, x⟩, rfl, trivial, ?_⟩
        rintro d rfl
        rfl
      · rw [hb]
        repeat walk_at "k"
        rfl
    | true =>
      obtain ⟨l, rfl, hl⟩ := sts_all hb
      have hlen : l.length ≤ 100000 := by
        have := hgd _ rfl
        rw [List.length_map] at this
        omega
      refine s_cut (fun L => Sub [some (.d b.D), some (.d f.D), some (.d (.list (l.map S4.D))), none, none, none, none] L) (s_if (et_or ?_)) fun L' sb => S.sub ?_ sb
      · repeat walk_at "k"
        refine e_allI (fun x => DB (IsSt b x)) T.ti_closes (it_list (e_var rfl ⟨_, rfl, fun x hx => ?_, ?_⟩))
        · refine gw_name (by decide) ?_
          dsimp only [List.map, wipeL, List.set]
          repeat walk_at "k"
          refine ⟨⟨b, x⟩, rfl, trivial, ?_⟩
          rintro d rfl
          rfl
        · rw [hb]
          repeat walk_at "k"
          exact Sub.refl _
      refine s_seq (s_asgK (ek_dcN (it_list (e_var rfl ⟨_, rfl, by rw [List.length_map]; exact hlen, fun i m => m = knownL (ddL (l.take i)), rfl, fun i x m hx hm => ?_, fun m hm => ?_⟩))))
      · subst hm
        obtain ⟨s, hs, rfl⟩ := st_at hx
        refine gw_name (by decide) ?_
        dsimp only [List.map, wipeL, List.set]
        refine e_var rfl (e_bl ⟨_, s4_nk s, ?_⟩)
        rw [take_snoc hs, dd_snoc]
        split
        · rename_i h
          exact known_put_in h
        · rename_i h
          exact known_put h
      subst hm
      rw [List.length_map, List.take_length]
      dsimp only [List.set]
      by_cases hnd : l.Nodup
      · rw [dd_nd hnd]
        refine s_seq (s_if (et_or ?_))
        refine et_test (e_op (e_nlen (.inl rfl) ?_))
        repeat walk_at "k"
        rw [known_len, List.length_map]
        refine ⟨fun z => ?_, fun _ => ?_⟩
        · rw [decide_eq_true rfl] at z
          cases z
        refine et_test (e_nin (.inl rfl) (e_var rfl ⟨_, s4_nk f, ?_⟩))
        rw [known_val]
        refine ⟨_, rfl, fun z => ?_, fun z => s_next ?_⟩
        · have no : ¬ f ∈ l := fun e => by rw [decide_eq_true e] at z; cases z
          refine s_ret (e_bl ?_)
          rw [DB_f fun q => no (closed_l q).2.2.1]
        · have yes : f ∈ l := by
            cases e : decide (f ∈ l) with
            | true => exact of_decide_eq_true e
            | false => rw [e] at z; cases z
          have hF : ∀ s ∈ l, onS (fun s => (waysF b.rs s).all fun w => decide (w.2 ∈ l)) s.D = (waysF b.rs s).all fun w => decide (w.2 ∈ l) := fun s _ => onS_D _ s
          refine s_ret (e_all2 [4] (onS fun s => (waysF b.rs s).all fun w => decide (w.2 ∈ l)) T.ti_closes (by decide) (by decide) (it_list (e_var rfl ⟨_, rfl, fun x hx => ?_, ?_⟩)))
          · obtain ⟨s, hs, rfl⟩ := List.mem_map.mp hx
            refine gw_name (by decide) ?_
            dsimp only [List.map, wipeL, List.set]
            have hg := hfit.g
            have hs1 := rise_len (hl s hs).lo
            have hs2 := rise_len (hl s hs).ln
            refine it_list (e_callX (ea_cons (e_var rfl (ea_cons (e_var rfl (ea_nil ⟨⟨.tuple (blsD b.os), .tuple (blsD b.ns), .int b.lt, b.rs, s⟩, rfl, ⟨Nat.le_trans hg.r2 (by decide), hg.rh, by show s.lo.length ≤ 50000; omega, by show s.ln.length ≤ 50000; omega⟩, ?_⟩))))))
            rintro d rfl
            refine ⟨_, rfl, by rw [List.length_map]; exact Nat.le_trans (ways_len b.rs s) (Nat.le_trans hg.r2 (by decide)), wayS (fun t => decide (t ∈ l)), ?_, fun y hy => ?_⟩
            · rw [hF s hs]
              exact wayS_all (fun t => decide (t ∈ l)) (waysF b.rs s)
            · obtain ⟨u, hu, rfl⟩ := List.mem_map.mp hy
              unfold wayD
              refine gw_tup rfl (gws_cons (gw_name (by decide) (gws_cons (gw_name (by decide) (gws_nil ?_)))))
              dsimp only [List.set, List.map]
              refine e_nin (.inl rfl) (e_var rfl ⟨_, s4_nk u.2, ?_⟩)
              rw [known_val]
              show _ = PyData.bool (onS (fun t => decide (t ∈ l)) u.2.D)
              rw [onS_D, Bool.false_bne]
          · rw [onS_all]
            show PyData.bool (clF b l) = _
            cases e : clF b l with
            | true => rw [DB_t ⟨l, rfl, hnd, hl, yes, e⟩]
            | false =>
              rw [DB_f]
              intro q
              have := (closed_l q).2.2.2
              rw [e] at this
              cases this
      · have hne : ¬ (ddL l).length = l.length := fun e => hnd ((dd_len l).mp e)
        have hle := dd_le l
        refine s_seq (s_if (et_or ?_))
        refine et_test (e_op (e_nlen (.inl rfl) ?_))
        repeat walk_at "k"
        rw [known_len, List.length_map]
        refine ⟨fun _ => ?_, fun z => ?_⟩
        · repeat walk_at "k"
          rw [DB_f fun q => hnd (closed_l q).1]
        · rw [decide_eq_false (fun e => hne (by omega))] at z
          cases z
  | _ =>
    rw [DB_f (fun ⟨l, e, _⟩ => by cases e)]
    repeat walk_at "k"
    rfl
end
section
variable {P : Program} {w : World} {K : PySem.W.Frag} {mg : Str → Option Value} {base : Heap}
theorem ok_law_whole (T : Tx K mg base) : FnOk P w K mg base CX0 1 T.f_law_whole T.d_law_whole ["thing"] (SpX (α := PyData) K T.ts (fun _ => True) (fun x => [x]) (fun x d => d = .bool (whole x))) := by
  refine fnX T.F_law_whole sc_law_whole (fun _ _ => rfl) (fun cdv A outer s H E hr => ⟨_, (pss_one (ps_ret (pe_and (pe_callB (kx_isi K rfl) (by rfl) T.m_isinstance (by decide +kernel) (pa_cons (pv 0) (pa_cons (pe_bltn (v := .ty "int") (by rfl) T.m_int (by decide +kernel) rfl) pa_nil))) (pe_one (pe_not (pe_callB (kx_isi K rfl) (by rfl) T.m_isinstance (by decide +kernel) (pa_cons (pv 0) (pa_cons (pe_bltn (v := .ty "bool") (by rfl) T.m_bool (by decide +kernel) rfl) pa_nil)))))))), fun x _ => ?_⟩)
  try simp only [nox_K, blk_K, cx_K]
  show S K ⟨none, T.ts⟩ H _ [some (.d _)] _
  cases x <;> (repeat walk_at "k") <;> rfl
/-! the law's own judge -/
structure AlB where
  b : Bk
  d : PyData
theorem rise_at {l : List Int} (h : l.Pairwise (· < ·)) {i j : Nat} {a c : Int} (ha : l[i]? = some a) (hc : l[j]? = some c) (hij : i < j) : a < c := by
  obtain ⟨h1, h2⟩ := List.getElem?_eq_some_iff.mp ha
  obtain ⟨h3, h4⟩ := List.getElem?_eq_some_iff.mp hc
  have := List.pairwise_iff_getElem.mp h i j h1 h3 hij
  rw [h2, h4] at this
  exact this
/-- so far the letters rise, each one of them, z the last -/
structure Rs (lt : Nat) (ds : List PyData) (i : Nat) (z : Int) : Prop where
  ex : ∃ l, ds.take i = intsL l ∧ Rise lt l ∧ (∀ v ∈ l, v ≤ z) ∧ (z = -1 ∨ z ∈ l)
theorem rs0 (lt : Nat) (ds : List PyData) : Rs lt ds 0 (-1) := ⟨[], rfl, ⟨.nil, fun _ h => (nomatch h)⟩, fun _ h => (nomatch h), .inl rfl⟩
theorem rs_no {lt : Nat} {ds : List PyData} {i : Nat} {z : Int} {x : PyData} (h : Rs lt ds i z) (hx : ds[i]? = some x) (bad : ∀ v, x = .int v → v ≤ z ∨ (lt : Int) ≤ v) : ¬ IsLet lt (.tuple ds) := by
  rintro ⟨m, e, hm⟩
  cases e
  obtain ⟨l, e1, _, _, h4⟩ := h.ex
  have e1 : (intsL m).take i = intsL l := e1
  unfold intsL at hx
  rw [List.getElem?_map] at hx
  obtain ⟨v, hv, rfl⟩ := Option.map_eq_some_iff.mp hx
  obtain ⟨b1, b2⟩ := hm.2 v (List.mem_of_getElem? hv)
  rcases bad v rfl with q | q
  · rcases h4 with z1 | z1
    · omega
    · have e2 : l = m.take i := by
        refine intsL_inj ?_
        rw [← e1]
        unfold intsL
        rw [List.map_take]
      rw [e2] at z1
      obtain ⟨j, hj⟩ := List.mem_iff_getElem?.mp z1
      have hji : j < i := by
        have := (List.getElem?_eq_some_iff.mp hj).1
        rw [List.length_take] at this
        omega
      rw [List.getElem?_take_of_lt hji] at hj
      have := rise_at hm.1 hj hv hji
      omega
  · omega
theorem rs_yes {lt : Nat} {ds : List PyData} {i : Nat} {z v : Int} (h : Rs lt ds i z) (hx : ds[i]? = some (.int v)) (h1 : z < v) (h2 : v < (lt : Int)) : Rs lt ds (i + 1) v := by
  obtain ⟨l, e1, e2, e3, e4⟩ := h.ex
  refine ⟨l ++ [v], ?_, ⟨List.pairwise_append.mpr ⟨e2.1, List.pairwise_singleton _ _, fun a ha c hc => ?_⟩, fun u hu => ?_⟩, fun u hu => ?_, .inr (List.mem_append.mpr (.inr (List.mem_singleton.mpr rfl)))⟩
  · rw [take_snoc hx, e1]
    unfold intsL
    rw [List.map_append]
    rfl
  · rw [List.mem_singleton.mp hc]
    have := e3 a ha
    omega
  · rcases List.mem_append.mp hu with hu | hu
    · exact e2.2 u hu
    · rw [List.mem_singleton.mp hu]
      rcases e4 with q | q
      · omega
      · have := (e2.2 z q).1
        omega
  · rcases List.mem_append.mp hu with hu | hu
    · have := e3 u hu
      omega
    · rw [List.mem_singleton.mp hu]
      exact Int.le_refl _
theorem rs_end {lt : Nat} {ds : List PyData} {z : Int} (h : Rs lt ds ds.length z) : IsLet lt (.tuple ds) := by
  obtain ⟨l, e1, e2, _⟩ := h.ex
  rw [List.take_length] at e1
  exact ⟨l, by rw [e1], e2⟩
abbrev spLl (K : PySem.W.Frag) (ts : List Addr) : Sp := SpX (α := AlB) K ts (fun _ => True) (fun a => [a.b.D, a.d]) (fun a r => r = .bool (DB (IsLet a.b.lt a.d)))
set_option maxHeartbeats 4000000 in
theorem ok_law_is_letters (T : Tx K mg base) : FnOk P w K mg base CX0 2 T.f_law_is_letters T.d_law_is_letters ["book", "thing"] (spLl K T.ts) := by
  refine fnX T.F_law_is_letters sc_law_is_letters (fun _ _ => rfl) (fun cdv A outer s H E hr => ⟨_, (pss_cons (ps_if (pt_not (pt_val (pe_callB (kx_isi K rfl) (by rfl) T.m_isinstance (by decide +kernel) (pa_cons (pv 1) (pa_cons (pe_bltn (v := .ty "tuple") (by rfl) T.m_tuple (by decide +kernel) rfl) pa_nil)))))
      (pss_one (ps_ret pe_bl))
      pss_nil)
      (pss_cons (ps_set (i := 2) sc_law_is_letters.nd rfl (.inl rfl) (pe_un un_neg pe_int))
      (pss_cons (ps_for PassesOwn.never rfl (kx_piT K rfl (pv 1)) (pg_name (i := 3) sc_law_is_letters.nd rfl (.inl rfl))
      (pss_cons (ps_if (PW.pt (pw_or (pt_not (pt_val (pe_call (ok_law_whole T) (hr.mono (by decide)) (by rfl) T.g_law_whole T.F_law_whole.kp T.b_law_whole .nil pass0 (pa_cons (pv 3) pa_nil)))) (pw_or (pt_cmpR op_le (pv 3) (pv 2) (nomark _)) (pw_or1 (pt_cmpR op_ge (pv 3) (pe_ix (kx_ixT K rfl) (pv 0) pe_int (fun _ _ => rfl)) (nomark _))))))
      (pss_one (ps_ret pe_bl))
      pss_nil)
      (pss_one (ps_set (i := 2) sc_law_is_letters.nd rfl (.inl rfl) (pv 3)))))
      (pss_one (ps_ret pe_bl))))), fun a ha => ?_⟩)
  obtain ⟨b, d⟩ := a
  try simp only [nox_K, blk_K, cx_K]
  show S K ⟨none, T.ts⟩ H _ [some (.d b.D), some (.d d), none, none] { nx := fun _ => PyData.none = .bool (DB (IsLet b.lt d)), rt := fun r => r = .bool (DB (IsLet b.lt d)) }
  cases d with
  | tuple ds =>
    repeat walk_at "k"
    refine s_forI (it_tup (e_var rfl ⟨_, rfl, fun i L => ∃ z : Int, Rs b.lt ds i z ∧ L = [some (.d b.D), some (.d (.tuple ds)), some (.d (.int z)), none], ⟨_, Sub.refl _, -1, rs0 _ _, rfl⟩, fun i x L' hd ⟨z, hz, e⟩ => ?_, fun L' ⟨z, hz, e⟩ L4 s4 => ?_⟩))
    · subst e
      refine g_name ?_
      dsimp only [List.set]
      have no : (∀ v, x = .int v → v ≤ z ∨ (b.lt : Int) ≤ v) → PyData.bool false = .bool (DB (IsLet b.lt (.tuple ds))) := fun h => by rw [DB_f (rs_no hz hd h)]
      refine s_seq (s_if (et_or ?_))
      dsimp only [Bk.D]
      repeat walk_at "k"
      refine ⟨trivial, ?_⟩
      rintro _ rfl
      cases x with
      | int v =>
        repeat walk_at "k"
        refine ⟨fun hb => ?_, fun hb => ?_⟩
        · repeat walk_at "k"
          exact no fun u e => by cases e; exact .inl (of_decide_eq_true hb)
        repeat walk_at "k"
        refine ⟨fun hb2 => ?_, fun hb2 => s_next ?_⟩
        · repeat walk_at "k"
          exact no fun u e => by cases e; exact .inr (of_decide_eq_true hb2)
        have hb := of_decide_eq_false hb
        have hb2 := of_decide_eq_false hb2
        refine s_asg (e_var rfl ⟨[some (.d b.D), some (.d (.tuple ds)), some (.d (.int v)), none], ?_, v, rs_yes hz hd (by omega) (by omega), rfl⟩)
        dsimp only [List.set, Bk.D]
        repeat (first | exact Sub.nil | apply Sub.keep | apply Sub.drop)
      | _ =>
        repeat walk_at "k"
        exact no fun u e => by cases e
    · subst e
      refine S.sub ?_ s4
      repeat walk_at "k"
      rw [DB_t (rs_end hz)]
  | _ =>
    rw [DB_f (fun ⟨l, e, _⟩ => by cases e)]
    repeat walk_at "k"
    rfl
abbrev spIs (K : PySem.W.Frag) (ts : List Addr) : Sp := SpX (α := AiS) K ts (fun _ => True) (fun a => [a.b.D, a.d]) (fun a r => r = .bool (DB (IsSt a.b a.d)))
set_option maxHeartbeats 8000000 in
theorem ok_law_is_state (T : Tx K mg base) : FnOk P w K mg base CX0 3 T.f_law_is_state T.d_law_is_state ["book", "thing"] (spIs K T.ts) := by
  refine fnX T.F_law_is_state sc_law_is_state (fun _ _ => rfl) (fun cdv A outer s H E hr => ⟨_, (pss_cons (ps_if (PW.pt (pw_or (pt_not (pt_val (pe_callB (kx_isi K rfl) (by rfl) T.m_isinstance (by decide +kernel) (pa_cons (pv 1) (pa_cons (pe_bltn (v := .ty "tuple") (by rfl) T.m_tuple (by decide +kernel) rfl) pa_nil))))) (pw_or1 (pt_cmpR op_ne (pe_callB (kx_len K rfl) (by rfl) T.m_len PySem.boot_len (pa_cons (pv 1) pa_nil)) pe_int (nomark _)))))
      (pss_one (ps_ret pe_bl))
      pss_nil)
      (pss_cons (ps_for PassesOwn.never rfl (pi_range1 rfl T.m_range (pa_cons pe_int pa_nil)) (pg_name (i := 2) sc_law_is_state.nd rfl (.inl rfl))
      (pss_one (ps_if (PW.pt (pw_or (pt_not (pt_val (pe_call (ok_law_whole T) (hr.mono (by decide)) (by rfl) T.g_law_whole T.F_law_whole.kp T.b_law_whole .nil pass0 (pa_cons (pe_ix (kx_ixT K rfl) (pv 1) (pv 2) (fun _ _ => rfl)) pa_nil)))) (pw_or1 (pt_not (pt_chain op_le op_lt pe_int (pe_ix (kx_ixT K rfl) (pv 1) (pv 2) (fun _ _ => rfl)) (pe_callB (kx_len K rfl) (by rfl) T.m_len PySem.boot_len (pa_cons (pe_ix (kx_ixT K rfl) (pv 0) (pv 2) (fun _ _ => rfl)) pa_nil)))))))
      (pss_one (ps_ret pe_bl))
      pss_nil)))
      (pss_one (ps_ret (pe_and (pe_call (ok_law_is_letters T) (hr.mono (by decide)) (by rfl) T.g_law_is_letters T.F_law_is_letters.kp T.b_law_is_letters .nil pass0 (pa_cons (pv 0) (pa_cons (pe_ix (kx_ixT K rfl) (pv 1) pe_int (fun _ _ => rfl)) pa_nil))) (pe_one (pe_call (ok_law_is_letters T) (hr.mono (by decide)) (by rfl) T.g_law_is_letters T.F_law_is_letters.kp T.b_law_is_letters .nil pass0 (pa_cons (pv 0) (pa_cons (pe_ix (kx_ixT K rfl) (pv 1) pe_int (fun _ _ => rfl)) pa_nil))))))))), fun a ha => ?_⟩)
  obtain ⟨b, d⟩ := a
  try simp only [nox_K, blk_K, cx_K]
  show S K ⟨none, T.ts⟩ H _ [some (.d b.D), some (.d d), none] { nx := fun _ => PyData.none = .bool (DB (IsSt b d)), rt := fun r => r = .bool (DB (IsSt b d)) }
  cases hb : tupOf d 4 with
  | false =>
    have no : ¬ IsSt b d := fun ⟨s, e, _⟩ => by
      subst e
      have : tupOf s.D 4 = true := rfl
      rw [this] at hb
      cases hb
    rw [DB_f no]
    cases d with
    | tuple ds =>
      have hb : decide ((ds.length : Int) = 4) = false := hb
      have hb := of_decide_eq_false hb
      repeat walk_at "k"
      rw [decide_eq_false (show ¬ ((ds.length : Int) = 4) from hb)]
      repeat walk_at "k"
      rfl
    | _ =>
      repeat walk_at "k"
      rfl
  | true =>
    obtain ⟨x, y, z, u, rfl⟩ := tup4 hb
    rw [DB_i st4_iff]
    have fin : ∀ i : Nat, Wk (fun j L => (1 ≤ j → wholeIn x 0 ((b.os.length : Int) - 1) = true) ∧ (2 ≤ j → wholeIn y 0 ((b.ns.length : Int) - 1) = true) ∧ L = [some (.d b.D), some (.d (.tuple [x, y, z, u])), none]) 0 [some (.d b.D), some (.d (.tuple [x, y, z, u])), none] := fun _ => ⟨_, Sub.refl _, fun h => absurd h (by decide), fun h => absurd h (by decide), rfl⟩
    refine s_seq (s_if (et_or ?_))
    repeat walk_at "k"
    refine s_forI (it_rng (ea_cons (e_int (ea_nil ⟨2, rfl, by decide, by decide, fun j L => (1 ≤ j → wholeIn x 0 ((b.os.length : Int) - 1) = true) ∧ (2 ≤ j → wholeIn y 0 ((b.ns.length : Int) - 1) = true) ∧ L = [some (.d b.D), some (.d (.tuple [x, y, z, u])), none], fin 0, fun i d L' hd ⟨q1, q2, e⟩ => ?_, fun L' ⟨q1, q2, e⟩ L4 s4 => ?_⟩))))
    · subst e
      obtain ⟨hi, rfl⟩ := rngL_get hd
      have hi : i < 2 := hi
      have wh : ∀ {v : Int} {n : Nat}, 0 ≤ v → v < (n : Int) → wholeIn (.int v) 0 ((n : Int) - 1) = true := fun {v n} h1 h2 => by
        show (decide (0 ≤ v) && decide (v ≤ (n : Int) - 1)) = true
        rw [decide_eq_true h1, decide_eq_true (show v ≤ (n : Int) - 1 by omega)]
        rfl
      have nw : ∀ {v : Int} {n : Nat}, (¬ 0 ≤ v ∨ ¬ v < (n : Int)) → ¬ wholeIn (.int v) 0 ((n : Int) - 1) = true := fun {v n} h q => by
        have q : (decide (0 ≤ v) && decide (v ≤ (n : Int) - 1)) = true := q
        rw [Bool.and_eq_true] at q
        have h1 := of_decide_eq_true q.1
        have h2 := of_decide_eq_true q.2
        omega
      rcases (by omega : i = 0 ∨ i = 1) with rfl | rfl
      · show GT _ _ _ _ (.int 0) _ _
        refine g_name ?_
        dsimp only [List.set, Bk.D]
        refine s_if (et_or ?_)
        repeat walk_at "k"
        refine ⟨trivial, ?_⟩
        rintro _ rfl
        cases x with
        | int v =>
          repeat walk_at "k"
          refine ⟨fun hb => ?_, fun hb => ?_⟩
          · have hb := of_decide_eq_true hb
            repeat walk_at "k"
            rw [blsD_len]
            refine ⟨fun q => ?_, fun q => s_next ?_⟩
            · have q := of_decide_eq_false (Bool.not_eq_true' _ ▸ q)
              repeat walk_at "k"
              rw [DB_f (fun z => nw (.inr q) z.1)]
            · have q : v < ((b.os.length : Nat) : Int) := by
                cases e : decide (v < ((b.os.length : Nat) : Int)) with
                | true => exact of_decide_eq_true e
                | false => rw [e] at q; cases q
              exact ⟨[some (.d b.D), some (.d (.tuple [_, _, z, u])), none], by repeat (first | exact Sub.nil | apply Sub.keep | apply Sub.drop), fun _ => wh hb q, fun h => absurd h (by decide), rfl⟩
          · have hb := of_decide_eq_false hb
            repeat walk_at "k"
            rw [DB_f (fun z => nw (.inl hb) z.1)]
        | _ =>
          repeat walk_at "k"
          rw [DB_f (fun z => by cases z.1)]
      · show GT _ _ _ _ (.int 1) _ _
        refine g_name ?_
        dsimp only [List.set, Bk.D]
        refine s_if (et_or ?_)
        repeat walk_at "k"
        refine ⟨trivial, ?_⟩
        rintro _ rfl
        cases y with
        | int v =>
          repeat walk_at "k"
          refine ⟨fun hb => ?_, fun hb => ?_⟩
          · have hb := of_decide_eq_true hb
            repeat walk_at "k"
            rw [blsD_len]
            refine ⟨fun q => ?_, fun q => s_next ?_⟩
            · have q := of_decide_eq_false (Bool.not_eq_true' _ ▸ q)
              repeat walk_at "k"
              rw [DB_f (fun z => nw (.inr q) z.2.1)]
            · have q : v < ((b.ns.length : Nat) : Int) := by
                cases e : decide (v < ((b.ns.length : Nat) : Int)) with
                | true => exact of_decide_eq_true e
                | false => rw [e] at q; cases q
              exact ⟨[some (.d b.D), some (.d (.tuple [_, _, z, u])), none], by repeat (first | exact Sub.nil | apply Sub.keep | apply Sub.drop), fun _ => q1 (Nat.le_refl _), fun _ => wh hb q, rfl⟩
          · have hb := of_decide_eq_false hb
            repeat walk_at "k"
            rw [DB_f (fun z => nw (.inl hb) z.2.1)]
        | _ =>
          repeat walk_at "k"
          rw [DB_f (fun z => by cases z.2.1)]
    · subst e
      show S K ⟨none, T.ts⟩ H _ L4 _
      refine S.sub ?_ s4
      have q1 := q1 (by decide)
      have q2 := q2 (by decide)
      dsimp only [Bk.D]
      repeat walk_at "k"
      refine ⟨⟨b, z⟩, rfl, trivial, ?_⟩
      rintro d rfl
      dsimp only
      by_cases h3 : IsLet b.lt z
      · rw [DB_t h3]
        repeat walk_at "k"
        refine ⟨⟨b, u⟩, rfl, trivial, ?_⟩
        rintro d rfl
        exact congrArg PyData.bool (DB_i ⟨fun h => ⟨q1, q2, h3, h⟩, fun h => h.2.2.2⟩)
      · rw [DB_f h3]
        repeat walk_at "k"
        rw [DB_f (fun z => h3 z.2.2.1)]
end
section
variable {P : Program} {w : World} {K : PySem.W.Frag} {mg : Str → Option Value} {base : Heap}
theorem clF_iff {b : Bk} {l : List S4} : clF b l = true ↔ ∀ s ∈ l, ∀ r ∈ b.rs, canF r s = true → stepF r s ∈ l := by
  unfold clF
  rw [List.all_eq_true]
  constructor
  · intro h s hs r hr hc
    obtain ⟨w, hw, e⟩ := in_way hr hc
    rw [← e]
    exact of_decide_eq_true (List.all_eq_true.mp (h s hs) w hw)
  · intro h s hs
    refine List.all_eq_true.mpr fun w hw => ?_
    obtain ⟨r, hr, hc, e⟩ := way_in hw
    rw [e]
    exact decide_eq_true (h s hs r hr hc)
theorem sts_take {m : List S4} {i : Nat} {l : List S4} (h : (m.map S4.D).take i = l.map S4.D) : l = m.take i := sts_inj (by rw [← h, List.map_take])
abbrev LCd (w : World) (b : Bk) (f : S4) (d : PyData) (l : List S4) : Lv := [some (.d b.D), some (.d f.D), some (.d d), some (.own (.dN w (knownL l))), none, none]
abbrev spCl (K : PySem.W.Frag) (ts : List Addr) : Sp := SpX (α := AlC) K ts AlC.Ok (fun a => [a.b.D, a.f.D, a.d]) (fun a r => r = .bool (DB (Closed a.b a.f a.d)))
set_option maxHeartbeats 8000000 in
theorem ok_law_closed (T : Tx K mg base) : FnOk P w K mg base CX0 4 T.f_law_closed T.d_law_closed ["book", "first", "things"] (spCl K T.ts) := by
  refine fnX T.F_law_closed sc_law_closed (fun _ _ => rfl) (fun cdv A outer s H E hr => ⟨_, (pss_cons (ps_if (pt_not (pt_val (pe_callB (kx_isi K rfl) (by rfl) T.m_isinstance (by decide +kernel) (pa_cons (pv 2) (pa_cons (pe_bltn (v := .ty "list") (by rfl) T.m_list (by decide +kernel) rfl) pa_nil)))))
      (pss_one (ps_ret pe_bl))
      pss_nil)
      (pss_cons (ps_set (i := 3) sc_law_closed.nd rfl (.inl rfl) (_root_.Gn.pe_new rfl))
      (pss_cons (ps_for PassesOwn.never rfl (kx_piL K rfl (pv 2)) (pg_name (i := 4) sc_law_closed.nd rfl (.inl rfl))
      (pss_cons (ps_if (PW.pt (pw_or (pt_not (pt_val (pe_call (ok_law_is_state T) (hr.mono (by decide)) (by rfl) T.g_law_is_state T.F_law_is_state.kp T.b_law_is_state .nil pass0 (pa_cons (pv 0) (pa_cons (pv 4) pa_nil))))) (pw_or1 (pt_cmp (_root_.Gn.pc_in rfl rfl (hu9_of hr) (pv 4) (pv 3))))))
      (pss_one (ps_ret pe_bl))
      pss_nil)
      (pss_one (_root_.Gn.ps_put rfl rfl (hu9_of hr) (pv 3) (pv 4) pe_bl rfl))))
      (pss_cons (ps_for PassesOwn.never rfl (kx_piL K rfl (pv 2)) (pg_name (i := 4) sc_law_closed.nd rfl (.inl rfl))
      (pss_one (ps_for PassesOwn.never rfl (kx_piT K rfl (pe_ix (kx_ixT K rfl) (pv 0) pe_int (fun _ _ => rfl))) (pg_name (i := 5) sc_law_closed.nd rfl (.inl rfl))
      (pss_one (ps_if (PW.pt (pw_and (pt_val (pe_call (ok_law_can T) (hr.mono (by decide)) (by rfl) T.g_law_can T.F_law_can.kp T.b_law_can .nil pass0 (pa_cons (pv 4) (pa_cons (pv 5) pa_nil)))) (pw_and1 (pt_cmp (_root_.Gn.pc_notin rfl rfl (hu9_of hr) (pe_call (ok_law_comes T) (hr.mono (by decide)) (by rfl) T.g_law_comes T.F_law_comes.kp T.b_law_comes .nil pass0 (pa_cons (pv 4) (pa_cons (pv 5) pa_nil))) (pv 3))))))
      (pss_one (ps_ret pe_bl))
      pss_nil)))))
      (pss_one (ps_ret (pe_cmp (_root_.Gn.pc_in rfl rfl (hu9_of hr) (pv 1) (pv 3)) rfl))))))), fun a ha => ?_⟩)
  obtain ⟨b, f, d⟩ := a
  obtain ⟨hfit, hlt, hgd⟩ := ha
  dsimp only at hfit hlt hgd
  try simp only [nox_K, blk_K, cx_K]
  show S K ⟨none, T.ts⟩ H _ [some (.d b.D), some (.d f.D), some (.d d), none, none, none] { nx := fun _ => PyData.none = .bool (DB (Closed b f d)), rt := fun r => r = .bool (DB (Closed b f d)) }
  cases d with
  | list ds =>
    have hlen : ds.length ≤ 100000 := Nat.le_trans (hgd _ rfl) (by decide)
    refine s_cut (fun L => Sub [some (.d b.D), some (.d f.D), some (.d (.list ds)), none, none, none] L) (s_if ?_) fun L' sb => S.sub ?_ sb
    · repeat walk_at "k"
      exact Sub.refl _
    refine s_seq (s_nnew ?_)
    dsimp only [List.set]
    refine s_cut (fun L => ∃ l : List S4, ds = l.map S4.D ∧ (∀ s ∈ l, s.Fine b) ∧ l.Nodup ∧ Sub (LCd w b f (.list ds) l) L) (s_forI (it_list (e_var rfl ⟨_, rfl, fun i L => ∃ l : List S4, ds.take i = l.map S4.D ∧ (∀ s ∈ l, s.Fine b) ∧ l.Nodup ∧ L = LCd w b f (.list ds) l, ⟨_, Sub.refl _, [], rfl, fun _ h => (nomatch h), List.nodup_nil, rfl⟩, fun i x L' hd ⟨l, h1, h2, h3, e⟩ => ?_, fun L' ⟨l, h1, h2, h3, e⟩ L4 s4 => ?_⟩))) fun L' ⟨l, h1, h2, h3, sb⟩ => S.sub ?_ sb
    · subst e
      have hil := (List.getElem?_eq_some_iff.mp hd).1
      have hll : l.length = i := by
        have := congrArg List.length h1
        rw [List.length_take, List.length_map] at this
        omega
      refine g_name ?_
      dsimp only [List.set]
      refine s_seq (s_if (et_or ?_))
      repeat walk_at "k"
      refine ⟨⟨b, x⟩, rfl, trivial, ?_⟩
      rintro d rfl
      by_cases hx : IsSt b x
      · obtain ⟨s, rfl, hs⟩ := hx
        dsimp only
        rw [DB_t ⟨s, rfl, hs⟩]
        repeat walk_at "k"
        refine e_nin (.inl rfl) (e_var rfl ⟨_, s4_nk s, ?_⟩)
        rw [known_val]
        by_cases hm : s ∈ l
        · rw [decide_eq_true hm]
          repeat walk_at "k"
          rw [DB_f]
          rintro ⟨m, e, hnd, _⟩
          have e := PyData.list.inj e
          subst e
          have e2 := sts_take h1
          rw [e2] at hm
          obtain ⟨t, ht, e3⟩ := st_at hd
          have e3 := sD_inj e3
          subst e3
          exact nd_take hnd ht hm
        · rw [decide_eq_false hm]
          repeat walk_at "k"
          refine s_nput rfl (by rw [known_len]; omega) (e_bl (e_var rfl ⟨_, s4_nk s, ?_⟩))
          rw [known_put hm]
          refine ⟨LCd w b f (.list ds) (l ++ [s]), by dsimp only [List.set]; repeat (first | exact Sub.nil | apply Sub.keep | apply Sub.drop), l ++ [s], ?_, fun t ht => ?_, ?_, rfl⟩
          · rw [take_snoc hd, h1, List.map_append]
            rfl
          · rcases List.mem_append.mp ht with ht | ht
            · exact h2 t ht
            · rw [List.mem_singleton.mp ht]; exact hs
          · refine List.nodup_append.mpr ⟨h3, List.nodup_cons.mpr ⟨List.not_mem_nil, List.nodup_nil⟩, fun u hu y hy q => ?_⟩
            rw [List.mem_singleton.mp hy] at q
            exact hm (q ▸ hu)
      · dsimp only
        rw [DB_f hx]
        repeat walk_at "k"
        rw [DB_f]
        rintro ⟨m, e, _, hf, _⟩
        have e := PyData.list.inj e
        subst e
        obtain ⟨t, ht, rfl⟩ := st_at hd
        exact hx ⟨t, rfl, hf t (List.mem_of_getElem? ht)⟩
    · subst e
      rw [List.take_length] at h1
      exact ⟨l, h1, h2, h3, s4⟩
    subst h1
    have hll : l.length ≤ 100000 := by rw [List.length_map] at hlen; exact hlen
    have hno : ∀ (s : S4) (r : Rl), s ∈ l → r ∈ b.rs → canF r s = true → stepF r s ∉ l → ¬ Closed b f (.list (l.map S4.D)) := fun s r hs hr hc hn q => hn (clF_iff.mp (closed_l q).2.2.2 s hs r hr hc)
    refine s_cut (fun L => clF b l = true ∧ Sub (LCd w b f (.list (l.map S4.D)) l) L) (s_forI (it_list (e_var rfl ⟨_, rfl, fun i L => (∀ s ∈ l.take i, ∀ r ∈ b.rs, canF r s = true → stepF r s ∈ l) ∧ L = LCd w b f (.list (l.map S4.D)) l, ⟨_, Sub.refl _, fun _ h => (nomatch h), rfl⟩, fun i x L' hd ⟨hdn, e⟩ => ?_, fun L' ⟨hdn, e⟩ L4 s4 => ?_⟩))) fun L' ⟨hcl, sb⟩ => S.sub ?_ sb
    · subst e
      obtain ⟨s, hs, rfl⟩ := st_at hd
      have hm := List.mem_of_getElem? hs
      refine g_name ?_
      dsimp only [List.set]
      refine s_forI (it_tup (e_op (e_var rfl (e_int (r_ixT (show atI _ _ = some (PyData.tuple (rlsD b.rs)) from rfl) ?_)))))
      refine ⟨_, rfl, fun j L => (∀ r ∈ b.rs.take j, canF r s = true → stepF r s ∈ l) ∧ L = [some (.d b.D), some (.d f.D), some (.d (.list (l.map S4.D))), some (.own (.dN w (knownL l))), some (.d s.D), none], ⟨_, Sub.refl _, fun _ h => (nomatch h), rfl⟩, fun j d L' hd ⟨hdj, e⟩ => ?_, fun L' ⟨hdj, e⟩ L4 s4 => ⟨LCd w b f (.list (l.map S4.D)) l, ?_, fun t ht r hr hc => ?_, rfl⟩⟩
      · subst e
        unfold rlsD at hd
        rw [List.getElem?_map] at hd
        obtain ⟨r, hr0, rfl⟩ := Option.map_eq_some_iff.mp hd
        have hrm := List.mem_of_getElem? hr0
        have hh := hfit.g.rh r hrm
        have hs1 := rise_len (h2 s hm).lo
        have hs2 := rise_len (h2 s hm).ln
        refine g_name ?_
        dsimp only [List.set]
        have fin : (canF r s = true → stepF r s ∈ l) → Wk (fun j L => (∀ r ∈ b.rs.take j, canF r s = true → stepF r s ∈ l) ∧ L = [some (.d b.D), some (.d f.D), some (.d (.list (l.map S4.D))), some (.own (.dN w (knownL l))), some (.d s.D), none]) (j + 1) [some (.d b.D), some (.d f.D), some (.d (.list (l.map S4.D))), some (.own (.dN w (knownL l))), some (.d s.D), some (.d r.D)] := fun hq => ⟨_, by repeat (first | exact Sub.nil | apply Sub.keep | apply Sub.drop), fun r' hr' => by
          rw [take_snoc hr0] at hr'
          rcases List.mem_append.mp hr' with z | z
          · exact hdj r' z
          · rw [List.mem_singleton.mp z]; exact hq, rfl⟩
        refine s_if (et_and ?_)
        repeat walk_at "k"
        refine ⟨⟨r, s⟩, rfl, hh, ?_⟩
        rintro d rfl
        repeat walk_at "k"
        refine ⟨fun hc => ?_, fun hc => ⟨fun z => (by cases z), fun _ => s_next (fin fun z => by rw [show canF r s = false from hc] at z; cases z)⟩⟩
        refine et_test (e_nin (.inl rfl) ?_)
        repeat walk_at "k"
        refine ⟨⟨r, s⟩, rfl, ⟨hh, by show s.lo.length ≤ 50000; omega, by show s.ln.length ≤ 50000; omega⟩, ?_⟩
        rintro d rfl
        refine ⟨_, s4_nk _, ?_⟩
        rw [known_val]
        by_cases hin : stepF r s ∈ l
        · rw [decide_eq_true hin]
          repeat walk_at "k"
          exact fin fun _ => hin
        · rw [decide_eq_false hin]
          repeat walk_at "k"
          rw [DB_f (hno s r hm hrm hc hin)]
      · subst e
        refine Sub.trans ?_ s4
        repeat (first | exact Sub.nil | apply Sub.keep | apply Sub.drop)
      · subst e
        rw [take_snoc hs] at ht
        rcases List.mem_append.mp ht with z | z
        · exact hdn t z r hr hc
        · have e := List.mem_singleton.mp z
          subst e
          refine hdj r ?_ hc
          rw [rlsD_len, List.take_length]
          exact hr
    · subst e
      rw [List.length_map, List.take_length] at hdn
      exact ⟨clF_iff.mpr hdn, s4⟩
    · refine s_ret (e_nin (.inl rfl) (e_var rfl ⟨_, s4_nk f, ?_⟩))
      rw [known_val]
      by_cases hf : f ∈ l
      · rw [decide_eq_true hf, DB_t ⟨l, rfl, h3, h2, hf, hcl⟩]
        rfl
      · rw [decide_eq_false hf, DB_f (fun q => hf (closed_l q).2.2.1)]
        rfl
  | _ =>
    rw [DB_f (fun ⟨l, e, _⟩ => by cases e)]
    repeat walk_at "k"
    rfl
end
section
variable {P : Program} {w : World} {K : PySem.W.Frag} {mg : Str → Option Value} {base : Heap}
abbrev spStb (K : PySem.W.Frag) (ts : List Addr) (C : Addr) : Sp := SpXR (α := SbA) K ts C SbA.Ok (fun a => [bkD a.b0 a.b1 a.b2 a.rs, .list a.st]) (fun a d => ∃ s, d = s.D ∧ runF a.rs a.st s0 = some s) (fun a => runF a.rs a.st s0 = none)
set_option maxHeartbeats 8000000 in
theorem ok_stand_behind (T : Tx K mg base) : FnOk P w K mg base (L2.CX P w) 4 T.f_stand_behind T.d_stand_behind ["book", "steps"] (spStb K T.ts T.C_NoStep) := by
  refine fnXR T.F_stand_behind sc_stand_behind (fun _ _ => rfl) (fun cdv A outer s H E hr => ⟨_, (pss_one (ps_ret (pe_ix (kx_ixL K rfl) (pe_callS (ok_states_along T) (hr.mono (by decide)) (by rfl) T.g_states_along T.F_states_along.kp T.b_states_along (fun σ => passAt (takes_of rfl rfl rfl rfl) σ) (pa_cons (pv 0) (pa_cons (pv 1) pa_nil))) (pe_un un_neg pe_int) (fun _ _ => rfl)))), fun a ha => ?_⟩)
  try simp only [nox_K, blk_K, cx_K]
  show SX K ⟨none, T.ts⟩ H _ _ _ _ [some (.d _), some (.d _)] _
  refine sx_ret (ex_op (ex_call ?_))
  repeat walk_at "e"
  refine ⟨ha, id, ?_⟩
  rintro d ⟨l, s, rfl, _, _, hs⟩
  repeat walk_at "e"
  refine r_ixL (stsD_last l s) ?_
  exact ⟨s, rfl, hs⟩
def EndsAt (b : Bk) (d : PyData) (s : S4) : Prop := ∃ st, d = .list st ∧ runF b.rs st s0 = some s
theorem ends_one {b : Bk} {d : PyData} {s t : S4} (h1 : EndsAt b d s) (h2 : EndsAt b d t) : s = t := by
  obtain ⟨st, rfl, h1⟩ := h1
  obtain ⟨st', e, h2⟩ := h2
  cases e
  rw [h1] at h2
  exact Option.some.inj h2
abbrev spEo (K : PySem.W.Frag) (ts : List Addr) : Sp := SpX (α := AiS) K ts (fun a => a.b.Good ∧ Gs a.d) (fun a => [a.b.D, a.d]) (fun a r => (∃ s, r = s.D ∧ EndsAt a.b a.d s) ∨ (r = .none ∧ ∀ s, ¬ EndsAt a.b a.d s))
set_option maxHeartbeats 8000000 in
theorem ok_end_of (T : Tx K mg base) : FnOk P w K mg base CX0 5 T.f_end_of T.d_end_of ["book", "steps"] (spEo K T.ts) := by
  refine fnX T.F_end_of sc_end_of (fun _ _ => rfl) (fun cdv A outer s H E hr => ⟨_, (pss_cons (ps_if (pt_not (pt_val (pe_callB (kx_isi K rfl) (by rfl) T.m_isinstance (by decide +kernel) (pa_cons (pv 1) (pa_cons (pe_bltn (v := .ty "list") (by rfl) T.m_list (by decide +kernel) rfl) pa_nil)))))
      (pss_one (ps_ret pe_non))
      pss_nil)
      (pss_one (ps_try_only rfl rfl ⟨by rfl, by decide, .inl T.gC_NoStep⟩ takes0 (fun W pn xe tk _ => (pss_one (ps_ret (pe_callS (ok_stand_behind T) (hr.mono (by decide)) (by rfl) T.g_stand_behind T.F_stand_behind.kp T.b_stand_behind (fun σ => passAt tk σ) (pa_cons (pv 0) (pa_cons (pv 1) pa_nil))))))
      (fun a oe cls d pn _ _ => (pss_one (ps_ret pe_non)))))), fun a ha => ?_⟩)
  obtain ⟨b, d⟩ := a
  obtain ⟨hg, hgd⟩ := ha
  dsimp only at hg hgd
  try simp only [nox_K, blk_K, cx_K]
  show S K ⟨none, T.ts⟩ H _ [some (.d b.D), some (.d d)] _
  cases d with
  | list st =>
    have hlen := hgd.lst.2
    refine s_cut (fun L => Sub [some (.d b.D), some (.d (.list st))] L) (s_if ?_) fun L' sb => S.sub ?_ sb
    · repeat walk_at "k"
      exact Sub.refl _
    refine s_tryRet T.e3 ?_
    repeat walk_at "k"
    refine ⟨⟨.tuple (blsD b.os), .tuple (blsD b.ns), .int b.lt, b.rs, st⟩, rfl, ⟨Nat.le_trans hg.r2 (by decide), hg.rh, hlen⟩, ?_⟩
    refine ⟨fun d ⟨s, e, h⟩ => .inl ⟨s, e, st, rfl, h⟩, fun hb a => ?_⟩
    repeat walk_at "k"
    exact .inr ⟨rfl, fun s ⟨st', e, h⟩ => by cases e; rw [hb] at h; cases h⟩
  | _ =>
    repeat walk_at "k"
    exact .inr ⟨rfl, fun s ⟨st, e, _⟩ => by cases e⟩
end
section
variable {P : Program} {w : World} {K : PySem.W.Frag} {mg : Str → Option Value} {base : Heap}
theorem runF_in {b : Bk} (hg : b.Good) : ∀ {st : List PyData} {s t : S4}, runF b.rs st s = some t → s.In b → t.In b
  | [], s, t, h, hs => by cases h; exact hs
  | d :: st, s, t, h, hs => by
    obtain ⟨s1, h1, h2⟩ := runF_cons h
    obtain ⟨k, r, _, hr, _, rfl⟩ := oneF_is h1
    exact runF_in hg h2 (step_in (hg.rt r (List.mem_of_getElem? hr)) hs)
def NeverAt (b : Bk) (x : PyData) : Prop := Closed b s0 x ∧ ∀ l : List S4, x = .list (l.map S4.D) → ∀ s ∈ l, twiceF b s = false
def TwoAt (b : Bk) (x : PyData) : Prop := ∃ s, EndsAt b x s ∧ twiceF b s = true
def Due2 (b : Bk) (d : PyData) : Prop := (∃ x, d = .tuple [.str "never", x] ∧ NeverAt b x) ∨ (∃ x, d = .tuple [.str "two", x] ∧ TwoAt b x)
theorem eqv_strS {w : PyData} {t : Str} (h : PyData.eqv w (.str t) = true) : w = .str t := by
  cases w with
  | str a =>
    have h : (a == t) = true := h
    rw [beq_iff_eq] at h
    rw [h]
  | _ => cases h
theorem tup2 {d : PyData} (h : tupOf d 2 = true) : ∃ x y, d = .tuple [x, y] := by
  cases d with
  | tuple ds =>
    have h := of_decide_eq_true (show decide ((ds.length : Int) = 2) = true from h)
    match ds, h with
    | [x, y], _ => exact ⟨x, y, rfl⟩
    | [], h => simp at h
    | [_], h => simp at h
    | _ :: _ :: _ :: _, h => simp only [List.length_cons] at h; omega
  | _ => cases h
abbrev spD2 (K : PySem.W.Frag) (ts : List Addr) : Sp := SpX (α := AiS) K ts (fun a => a.b.Fit ∧ a.b.lt ≤ 100 ∧ Gs a.d) (fun a => [a.b.D, a.d]) (fun a r => r = .bool (DB (Due2 a.b a.d)))
theorem never_iff {b : Bk} {l : List S4} (hc : Closed b s0 (.list (l.map S4.D))) : NeverAt b (.list (l.map S4.D)) ↔ l.any (twiceF b) = false := by
  constructor
  · intro ⟨_, h⟩
    cases e : l.any (twiceF b) with
    | false => rfl
    | true =>
      obtain ⟨s, hs, h1⟩ := List.any_eq_true.mp e
      rw [h l rfl s hs] at h1
      cases h1
  · intro e
    refine ⟨hc, fun m hm s hs => ?_⟩
    have e2 := sts_inj (PyData.list.inj hm)
    subst e2
    cases h1 : twiceF b s with
    | false => rfl
    | true =>
      rw [List.any_eq_true.mpr ⟨s, hs, h1⟩] at e
      cases e
theorem due2_never {b : Bk} {x : PyData} : Due2 b (.tuple [.str "never", x]) ↔ NeverAt b x := by
  constructor
  · rintro (⟨y, e, h⟩ | ⟨y, e, h⟩)
    · cases e
      exact h
    · cases e
  · exact fun h => .inl ⟨x, rfl, h⟩
theorem due2_two {b : Bk} {x : PyData} : Due2 b (.tuple [.str "two", x]) ↔ TwoAt b x := by
  constructor
  · rintro (⟨y, e, h⟩ | ⟨y, e, h⟩)
    · cases e
    · cases e
      exact h
  · exact fun h => .inr ⟨x, rfl, h⟩
theorem due2_no {b : Bk} {w x : PyData} (h1 : w ≠ .str "never") (h2 : w ≠ .str "two") : ¬ Due2 b (.tuple [w, x]) := by
  rintro (⟨y, e, h⟩ | ⟨y, e, h⟩)
  · cases e
    exact h1 rfl
  · cases e
    exact h2 rfl
theorem strS_ne {w : PyData} {t : Str} (h : PyData.eqv w (.str t) = false) : w ≠ .str t := fun e => by
  subst e
  have : (t == t) = false := h
  rw [beq_self_eq_true] at this
  cases this
set_option maxHeartbeats 16000000 in
theorem ok_is_two_run (T : Tx K mg base) : FnOk P w K mg base CX0 8 T.f_is_two_run T.d_is_two_run ["book", "thing"] (spD2 K T.ts) := by
  refine fnXc T.F_is_two_run sc_is_two_run (fun _ _ => rfl) (fun A outer s H E hr => ⟨_, (pss_cons (ps_if (pt_not (pt_val (pe_call (ok_is_tuple_of T) (hr.mono (by decide)) (by rfl) T.g_is_tuple_of T.F_is_tuple_of.kp T.b_is_tuple_of .nil pass0 (pa_cons (pv 1) (pa_cons pe_int pa_nil)))))
      (pss_one (ps_ret pe_bl))
      pss_nil)
      (pss_cons (ps_asg (pv 1) (kx_pgT K (n := 2) rfl rfl (pgs_cons (pg_name (i := 2) sc_is_two_run.nd rfl (.inl rfl)) (pgs_cons (pg_name (i := 3) sc_is_two_run.nd rfl (.inl rfl)) pgs_nil))))
      (pss_cons (ps_if (pt_cmpR (kx_eqD K rfl hr.units) (pv 2) pe_str (nomark _))
      (pss_one (ps_ret (pe_and (pe_call (ok_closes T) (hr.mono (by decide)) (by rfl) T.g_closes T.F_closes.kp T.b_closes .nil pass0 (pa_cons (pv 0) (pa_cons (pe_glob (v := .ref T.a_FIRST) (by rfl) T.c_FIRST rfl) (pa_cons (pv 3) pa_nil)))) (pe_one (pe_not (_root_.Gx.pe_anyGT (K := K) (own := [("state", 5)]) (tt := tYes) rfl rfl hr sc_is_two_run.nd (by rfl) T.m_any (by decide +kernel) T.tb_is_two_run rfl ⟨blkOk_by (own := [("state", 5)]) (N := ["book", "thing", "word", "shown", "end", "state"]) (sc := defScope s_is_two_run) (by decide +kernel), rfl, by decide +kernel, rfl⟩ (kx_piL K rfl (pv 3)) (fun A' s' H' cl C code fp pn hr' => (pg_name (i := 5) sc_is_two_run.nd rfl (.inl rfl))) (fun A' s' H' cl C code fp pn hr' => pts_nil) (fun A' s' H' cl C code fp pn hr' => (pe_call (ok_runs_twice T) (hr'.mono (by decide)) (by rfl) T.g_runs_twice T.F_runs_twice.kp T.b_runs_twice .nil pass0 (pa_cons (pv 0) (pa_cons (pv 5) pa_nil))))))))))
      pss_nil)
      (pss_cons (ps_if (pt_cmpR (kx_eqD K rfl hr.units) (pv 2) pe_str (nomark _))
      (pss_cons (ps_set (i := 4) sc_is_two_run.nd rfl (.inl rfl) (pe_call (ok_end_of T) (hr.mono (by decide)) (by rfl) T.g_end_of T.F_end_of.kp T.b_end_of .nil pass0 (pa_cons (pv 0) (pa_cons (pv 3) pa_nil))))
      (pss_one (ps_ret (pe_and (pe_cmpR op_notN (pv 4) pe_non (nomark _)) (pe_one (pe_call (ok_runs_twice T) (hr.mono (by decide)) (by rfl) T.g_runs_twice T.F_runs_twice.kp T.b_runs_twice .nil pass0 (pa_cons (pv 0) (pa_cons (pv 4) pa_nil))))))))
      pss_nil)
      (pss_one (ps_ret pe_bl)))))), fun x hx => ?_⟩)
  obtain ⟨b, d⟩ := x
  obtain ⟨hfit, hlt, hgd⟩ := hx
  dsimp only at hfit hlt hgd
  try simp only [nox_K, blk_K, cx_K]
  show S K ⟨none, T.ts⟩ H _ [some (.d b.D), some (.d d), none, none, none, none] { nx := fun _ => PyData.none = .bool (DB (Due2 b d)), rt := fun r => r = .bool (DB (Due2 b d)) }
  refine s_cut (fun L => (∃ u v, d = .tuple [u, v]) ∧ Sub [some (.d b.D), some (.d d), none, none, none, none] L) (s_if ?_) fun L' ⟨⟨u, v, e⟩, sb⟩ => S.sub ?_ sb
  · repeat walk_at "k"
    refine ⟨(d, 2), rfl, trivial, ?_⟩
    rintro _ rfl
    refine ⟨_, rfl, fun h => ?_, fun h => s_next ?_⟩
    · have h : (!tupOf d 2) = true := h
      repeat walk_at "k"
      rw [DB_f]
      rintro (⟨x, e, _⟩ | ⟨x, e, _⟩)
      · rw [e] at h; cases h
      · rw [e] at h; cases h
    · have h : (!tupOf d 2) = false := h
      exact ⟨tup2 (by cases e : tupOf d 2 with | true => rfl | false => rw [e] at h; cases h), Sub.refl _⟩
  subst e
  have hu := hgd.tup.1 u (List.mem_cons_self ..)
  have hv := hgd.tup.1 v (List.mem_cons_of_mem _ (List.mem_cons_self ..))
  refine s_seq (s_asgG ?_)
  repeat walk_at "k"
  refine r_eqD (hu.shaped (by decide)) (by decide +kernel) ⟨_, rfl, fun z => ?_, fun z => s_next ?_⟩
  · have e := eqv_strS z
    subst e
    rw [DB_i due2_never]
    repeat walk_at "k"
    refine e_cD T.D_FIRST ?_
    repeat walk_at "k"
    refine ⟨⟨b, s0, v⟩, rfl, ⟨hfit, hlt, fun ds e => by have e : v = .list ds := e; subst e; exact hv.lst.2⟩, ?_⟩
    rintro d rfl
    dsimp only
    by_cases hcl : Closed b s0 v
    · rw [DB_t hcl]
      repeat walk_at "k"
      obtain ⟨l, rfl, hnd, hfi, hfl, hcc⟩ := id hcl
      refine e_anyL (onS (twiceF b)) T.ti_is_two_run (it_list (e_var rfl ⟨_, rfl, fun x hx => ?_, ?_⟩))
      · obtain ⟨s, hs, rfl⟩ := List.mem_map.mp hx
        refine gw_name (by decide) ?_
        dsimp only [List.map, wipeL, List.set]
        repeat walk_at "k"
        refine ⟨⟨b, s⟩, rfl, (hfi s hs).i, ?_⟩
        rintro d rfl
        exact .inl (by rw [onS_D])
      · rw [onS_any]
        repeat walk_at "k"
        rw [DB_i (never_iff hcl)]
        cases e : l.any (twiceF b) with
        | true =>
          rw [DB_f (fun z => by cases z)]
          rfl
        | false =>
          rw [DB_t rfl]
          rfl
    · rw [DB_f hcl]
      repeat walk_at "k"
      rw [DB_f fun q => hcl q.1]
  · have hne := strS_ne z
    show S K _ H _ _ _
    refine s_seq (s_if ?_)
    repeat walk_at "k"
    refine r_eqD (hu.shaped (by decide)) (by decide +kernel) ⟨_, rfl, fun z => ?_, fun z => s_next ?_⟩
    · have e := eqv_strS z
      subst e
      rw [DB_i due2_two]
      refine s_seq (s_asg (e_callX (ea_cons (e_var rfl (ea_cons (e_var rfl (ea_nil ⟨⟨b, v⟩, rfl, ⟨hfit.g, hv⟩, fun d hd => ?_⟩)))))))
      dsimp only [List.set]
      rcases hd with ⟨f, rfl, hf⟩ | ⟨rfl, hno⟩
      · repeat walk_at "k"
        refine r_notNone ?_
        repeat walk_at "k"
        obtain ⟨st, rfl, hrun⟩ := id hf
        refine ⟨⟨b, f⟩, rfl, runF_in hfit.g hrun (s0_in hfit.g), ?_⟩
        rintro d rfl
        show PyData.bool (twiceF b f) = _
        cases e : twiceF b f with
        | true => rw [DB_t ⟨f, hf, e⟩]
        | false =>
          rw [DB_f]
          rintro ⟨s, hs, h1⟩
          rw [ends_one hs hf, e] at h1
          cases h1
      · repeat walk_at "k"
        refine r_notNone ?_
        repeat walk_at "k"
        rw [DB_f fun ⟨s, hs, _⟩ => hno s hs]
    · have hne2 := strS_ne z
      show S K _ H _ _ _
      repeat walk_at "k"
      rw [DB_f (due2_no hne hne2)]
end
section
variable {P : Program} {w : World} {K : PySem.W.Frag} {mg : Str → Option Value} {base : Heap}
theorem lay_S4w (s : S4) : PyData.Lay 2 s.D := lay_tup fun d hd => by
  rcases List.mem_cons.mp hd with rfl | hd
  · exact lay_int _
  rcases List.mem_cons.mp hd with rfl | hd
  · exact lay_int _
  rcases List.mem_cons.mp hd with rfl | hd
  · exact lay_intsT _
  · rw [List.mem_singleton.mp hd]; exact lay_intsT _
set_option maxHeartbeats 16000000 in
theorem ok_law_due (T : Tx K mg base) : FnOk P w K mg base CX0 5 T.f_law_due T.d_law_due ["book", "thing"] (spD2 K T.ts) := by
  refine fnX T.F_law_due sc_law_due (fun _ _ => rfl) (fun cdv A outer s H E hr => ⟨_, (pss_cons (ps_if (PW.pt (pw_or (pt_not (pt_val (pe_callB (kx_isi K rfl) (by rfl) T.m_isinstance (by decide +kernel) (pa_cons (pv 1) (pa_cons (pe_bltn (v := .ty "tuple") (by rfl) T.m_tuple (by decide +kernel) rfl) pa_nil))))) (pw_or (pt_cmpR op_ne (pe_callB (kx_len K rfl) (by rfl) T.m_len PySem.boot_len (pa_cons (pv 1) pa_nil)) pe_int (nomark _)) (pw_or1 (pt_not (pt_val (pe_callB (kx_isi K rfl) (by rfl) T.m_isinstance (by decide +kernel) (pa_cons (pe_ix (kx_ixT K rfl) (pv 1) pe_int (fun _ _ => rfl)) (pa_cons (pe_bltn (v := .ty "list") (by rfl) T.m_list (by decide +kernel) rfl) pa_nil)))))))))
      (pss_one (ps_ret pe_bl))
      pss_nil)
      (pss_cons (ps_if (pt_cmpR (kx_eqD K rfl hr.units) (pe_ix (kx_ixT K rfl) (pv 1) pe_int (fun _ _ => rfl)) pe_str (nomark _))
      (pss_cons (ps_set (i := 2) sc_law_due.nd rfl (.inl rfl) (pe_call (ok_law_along T) (hr.mono (by decide)) (by rfl) T.g_law_along T.F_law_along.kp T.b_law_along .nil pass0 (pa_cons (pv 0) (pa_cons (pe_ix (kx_ixT K rfl) (pv 1) pe_int (fun _ _ => rfl)) pa_nil))))
      (pss_one (ps_ret (pe_and (pe_cmpR op_notN (pv 2) pe_non (nomark _)) (pe_one (pe_cmpR op_eq (pe_callB (kx_len K rfl) (by rfl) T.m_len PySem.boot_len (pa_cons (pe_call (ok_law_running T) (hr.mono (by decide)) (by rfl) T.g_law_running T.F_law_running.kp T.b_law_running .nil pass0 (pa_cons (pv 0) (pa_cons (pe_ix (kx_ixL K rfl) (pv 2) (pe_un un_neg pe_int) (fun _ _ => rfl)) pa_nil))) pa_nil)) pe_int (nomark _)))))))
      pss_nil)
      (pss_cons (ps_if (PW.pt (pw_or (pt_cmpR (kx_neD K rfl hr.units) (pe_ix (kx_ixT K rfl) (pv 1) pe_int (fun _ _ => rfl)) pe_str (nomark _)) (pw_or1 (pt_not (pt_val (pe_call (ok_law_closed T) (hr.mono (by decide)) (by rfl) T.g_law_closed T.F_law_closed.kp T.b_law_closed .nil pass0 (pa_cons (pv 0) (pa_cons (pe_tup (pa_cons pe_int (pa_cons pe_int (pa_cons (pe_tup pa_nil) (pa_cons (pe_tup pa_nil) pa_nil))))) (pa_cons (pe_ix (kx_ixT K rfl) (pv 1) pe_int (fun _ _ => rfl)) pa_nil)))))))))
      (pss_one (ps_ret pe_bl))
      pss_nil)
      (pss_one (ps_ret (pe_cmpR (kx_eqD K rfl hr.units) (pe_lc (own := [("one", 3)]) (g := gName 3) rfl sc_law_due.nd (kx_piL K rfl (pe_ix (kx_ixT K rfl) (pv 1) pe_int (fun _ _ => rfl))) (blkOk_by (own := [("one", 3)]) (N := ["book", "thing", "states", "one"]) (sc := defScope s_law_due) (by decide +kernel)) (fun _ _ _ _ _ => (pg_name (i := 3) sc_law_due.nd rfl (.inl rfl))) (fun _ _ _ _ _ => (pts_one (pt_cmpR op_eq (pe_callB (kx_len K rfl) (by rfl) T.m_len PySem.boot_len (pa_cons (pe_call (ok_law_running T) (hr.mono (by decide)) (by rfl) T.g_law_running T.F_law_running.kp T.b_law_running .nil pass0 (pa_cons (pv 0) (pa_cons (pv 3) pa_nil))) pa_nil)) pe_int (nomark _)))) (fun _ _ _ _ _ => (pv 3))) (pe_lst pa_nil) (nomark _))))))), fun a ha => ?_⟩)
  obtain ⟨b, d⟩ := a
  obtain ⟨hfit, hlt, hgd⟩ := ha
  dsimp only at hfit hlt hgd
  try simp only [nox_K, blk_K, cx_K]
  show S K ⟨none, T.ts⟩ H _ [some (.d b.D), some (.d d), none, none] { nx := fun _ => PyData.none = .bool (DB (Due2 b d)), rt := fun r => r = .bool (DB (Due2 b d)) }
  have nt : ∀ {u v : PyData}, (∀ l, v ≠ .list l) → ¬ Due2 b (.tuple [u, v]) := fun {u v} hn => by
    rintro (⟨x, e, ⟨l, e2, _⟩, _⟩ | ⟨x, e, s, ⟨st, e2, _⟩, _⟩)
    · cases e
      exact hn _ e2
    · cases e
      exact hn _ e2
  cases d with
  | tuple ds =>
    by_cases hl : ds.length = 2
    · obtain ⟨u, v, rfl⟩ : ∃ u v, ds = [u, v] := by
        match ds, hl with
        | [u, v], _ => exact ⟨u, v, rfl⟩
      have hu := hgd.tup.1 u (List.mem_cons_self ..)
      have hv := hgd.tup.1 v (List.mem_cons_of_mem _ (List.mem_cons_self ..))
      cases v with
      | list st =>
        refine s_cut (fun L => Sub [some (.d b.D), some (.d (.tuple [u, .list st])), none, none] L) (s_if (et_or ?_)) fun L' sb => S.sub ?_ sb
        · repeat walk_at "k"
          exact Sub.refl _
        refine s_seq (s_if ?_)
        repeat walk_at "k"
        refine r_eqD (hu.shaped (by decide)) (by decide +kernel) ⟨_, rfl, fun z => ?_, fun z => s_next ?_⟩
        · have e := eqv_strS z
          subst e
          rw [DB_i due2_two]
          repeat walk_at "k"
          refine ⟨⟨.tuple (blsD b.os), .tuple (blsD b.ns), .int b.lt, b.rs, st⟩, rfl, ⟨Nat.le_trans hfit.g.r2 (by decide), hfit.g.rh, hv.lst.2⟩, fun d hd => ?_⟩
          rcases hd with ⟨l, s', rfl, _, _, h6⟩ | ⟨rfl, h6⟩
          · have hE : EndsAt b (.list st) s' := ⟨st, rfl, h6⟩
            dsimp only [List.set]
            show S K _ H _ _ _
            repeat walk_at "k"
            refine r_notNone ?_
            repeat walk_at "k"
            refine r_ixL (stsD_last l s') ?_
            repeat walk_at "k"
            refine ⟨⟨b, s'⟩, rfl, runF_in hfit.g h6 (s0_in hfit.g), ?_⟩
            rintro d rfl
            repeat walk_at "k"
            rw [natsD_len, show decide (((runsF b s').length : Int) = 2) = twiceF b s' from decide_eq_decide.mpr (by omega)]
            show PyData.bool (twiceF b s') = _
            cases e : twiceF b s' with
            | true => rw [DB_t ⟨s', hE, e⟩]
            | false =>
              rw [DB_f]
              rintro ⟨s, hs, h1⟩
              rw [ends_one hs hE, e] at h1
              cases h1
          · dsimp only [List.set]
            show S K _ H _ _ _
            repeat walk_at "k"
            refine r_notNone ?_
            repeat walk_at "k"
            rw [DB_f]
            rintro ⟨s, ⟨st', e, h⟩, _⟩
            cases e
            rw [h6] at h
            cases h
        · have hne := strS_ne z
          show S K _ H _ _ _
          refine s_seq (s_if (et_or ?_))
          repeat walk_at "k"
          refine r_neD (hu.shaped (by decide)) (by decide +kernel) ?_
          cases he : PyData.eqv u (.str "never") with
          | false =>
            repeat walk_at "k"
            rw [DB_f (due2_no (strS_ne he) hne)]
          | true =>
            have e := eqv_strS he
            subst e
            rw [DB_i due2_never]
            repeat walk_at "k"
            refine ⟨⟨b, s0, .list st⟩, rfl, ⟨hfit, hlt, fun ds e => by have e : PyData.list st = .list ds := e; cases e; exact hv.lst.2⟩, ?_⟩
            rintro d rfl
            dsimp only
            by_cases hcl : Closed b s0 (.list st)
            · rw [DB_t hcl]
              obtain ⟨l, e, hnd, hfi, hfl, hcc⟩ := id hcl
              cases e
              have hlen := hv.lst.2
              rw [List.length_map] at hlen
              refine ⟨_, rfl, fun z => (by cases z), fun _ => s_next ?_⟩
              show S K _ H _ _ _
              refine s_ret (e_op (e_lcI (it_list ?_)))
              repeat walk_at "k"
              refine ⟨by rw [List.length_map]; omega, fun i acc => acc = ((l.take i).filter (twiceF b)).map S4.D, rfl, fun i d acc hd e => ?_, fun acc e => ?_⟩
              · subst e
                obtain ⟨s, hs, rfl⟩ := st_at hd
                refine gw_name (by decide) ?_
                dsimp only [List.map, wipeL, List.set]
                repeat walk_at "k"
                refine ⟨⟨b, s⟩, rfl, (hfi s (List.mem_of_getElem? hs)).i, ?_⟩
                rintro d rfl
                repeat walk_at "k"
                have e1 : l.take (i + 1) = l.take i ++ [s] := by rw [List.take_add_one, hs]; rfl
                rw [natsD_len, show decide (((runsF b s).length : Int) = 2) = twiceF b s from decide_eq_decide.mpr (by omega)]
                dsimp only
                rw [e1, List.filter_append]
                refine ⟨fun h => ?_, fun h => ?_⟩
                · repeat walk_at "k"
                  rw [List.filter_cons, if_pos h, List.filter_nil, List.map_append]
                  rfl
                · rw [List.filter_cons, if_neg (by rw [h]; decide), List.filter_nil, List.append_nil]
              · subst e
                rw [List.length_map, List.take_length]
                repeat walk_at "k"
                refine r_eqD (shaped_lay (k := 3) (lay_lst fun d hd => by
                  obtain ⟨s, _, rfl⟩ := List.mem_map.mp hd
                  exact lay_S4w s) (by decide)) (by decide +kernel) ?_
                rw [DB_i (never_iff hcl)]
                show PyData.bool (PyData.eqv (.list ((l.filter (twiceF b)).map S4.D)) (.list [])) = _
                cases e2 : l.filter (twiceF b) with
                | nil =>
                  rw [DB_t (by
                    cases e3 : l.any (twiceF b) with
                    | false => rfl
                    | true =>
                      obtain ⟨s, hs, h1⟩ := List.any_eq_true.mp e3
                      have : s ∈ l.filter (twiceF b) := List.mem_filter.mpr ⟨hs, h1⟩
                      rw [e2] at this
                      cases this)]
                  rfl
                | cons s m =>
                  have hs : s ∈ l.filter (twiceF b) := by rw [e2]; exact List.mem_cons_self ..
                  have hs := List.mem_filter.mp hs
                  rw [DB_f (by rw [List.any_eq_true.mpr ⟨s, hs.1, hs.2⟩]; intro z; cases z)]
                  rfl
            · rw [DB_f hcl]
              repeat walk_at "k"
              rw [DB_f fun q => hcl q.1]
      | _ =>
        rw [DB_f (nt fun l e => by cases e)]
        repeat walk_at "k"
        rfl
    · have no : ¬ Due2 b (.tuple ds) := by
        rintro (⟨x, e, _⟩ | ⟨x, e, _⟩)
        · cases e
          exact hl rfl
        · cases e
          exact hl rfl
      rw [DB_f no]
      repeat walk_at "k"
      rw [decide_eq_false (show ¬ ((ds.length : Int) = 2) by omega)]
      repeat walk_at "k"
      rfl
  | _ =>
    rw [DB_f (by rintro (⟨x, e, _⟩ | ⟨x, e, _⟩) <;> cases e)]
    repeat walk_at "k"
    rfl
end
section
variable {P : Program} {w : World} {K : PySem.W.Frag} {mg : Str → Option Value} {base : Heap}
abbrev spHe (K : PySem.W.Frag) (ts : List Addr) : Sp := SpX (α := AiS) K ts (fun a => a.b.Fit ∧ a.b.lt ≤ 100 ∧ Gs a.d) (fun a => [a.b.D, a.d]) (fun a r => r = .bool true)
set_option maxHeartbeats 4000000 in
theorem ok_law_held (T : Tx K mg base) : Rg.FnG P w K mg base CX0 9 T.f_law_held T.d_law_held ["book", "thing"] (spHe K T.ts) := by
  refine Rg.fnXG T.F_law_held sc_law_held (fun _ _ => rfl) (fun cdv A outer s H E hg hr => ⟨_, (pss_cons (ps_set (i := 2) sc_law_held.nd rfl (.inl rfl) (pe_callB (Rg.kx_repr (K := K) rfl hg hr.units) (by rfl) T.m_repr (by decide +kernel) (pa_cons (pv 1) pa_nil)))
      (pss_cons (ps_set (i := 3) sc_law_held.nd rfl (.inl rfl) (pe_call (ok_is_two_run T) (hr.mono (by decide)) (by rfl) T.g_is_two_run T.F_is_two_run.kp T.b_is_two_run .nil pass0 (pa_cons (pv 0) (pa_cons (pv 1) pa_nil))))
      (pss_one (ps_ret (pe_and (pe_callB (kx_isi K rfl) (by rfl) T.m_isinstance (by decide +kernel) (pa_cons (pv 3) (pa_cons (pe_bltn (v := .ty "bool") (by rfl) T.m_bool (by decide +kernel) rfl) pa_nil))) (pe_and (pe_cmpR op_eq (pe_callB (Rg.kx_repr (K := K) rfl hg hr.units) (by rfl) T.m_repr (by decide +kernel) (pa_cons (pv 1) pa_nil)) (pv 2) (nomark _)) (pe_one (pe_cmpR op_eq (pv 3) (pe_call (ok_law_due T) (hr.mono (by decide)) (by rfl) T.g_law_due T.F_law_due.kp T.b_law_due .nil pass0 (pa_cons (pv 0) (pa_cons (pv 1) pa_nil))) (nomark _))))))))), fun a ha => ?_⟩)
  obtain ⟨b, d⟩ := a
  obtain ⟨hfit, hlt, hgd⟩ := ha
  dsimp only at hfit hlt hgd
  try simp only [nox_K, blk_K, cx_K]
  show S K ⟨none, T.ts⟩ H _ [some (.d b.D), some (.d d), none, none] _
  refine s_seq (s_asg ?_)
  repeat walk_at "k"
  refine Rg.c_repr hgd (by decide) (by decide) ?_
  repeat walk_at "k"
  refine ⟨⟨b, d⟩, rfl, ⟨hfit, hlt, hgd⟩, ?_⟩
  rintro d1 rfl
  dsimp only
  repeat walk_at "k"
  refine Rg.c_repr hgd (by decide) (by decide) ?_
  repeat walk_at "k"
  rw [decide_eq_true rfl]
  repeat walk_at "k"
  refine ⟨⟨b, d⟩, rfl, ⟨hfit, hlt, hgd⟩, ?_⟩
  rintro d1 rfl
  dsimp only
  refine r_eqB ?_
  rw [decide_eq_true rfl]
end
section
variable {P : Program} {w : World} {K : PySem.W.Frag} {mg : Str → Option Value} {base : Heap}
open Rg (Gd gd_tup gd_lst gd_int gd_none gd_bool gd_str)
theorem gd_t2 {k n1 n2 : Nat} {a c : PyData} (h1 : Gd k n1 a) (h2 : Gd k n2 c) : Gd (k + 1) (n1 + n2 + 2) (.tuple [a, c]) := by
  have := gd_tup (k := k) (m := n1 + n2) (c := 2) (ds := [a, c]) (fun d hd => by
    rcases mem3 hd with rfl | rfl
    · exact h1.mono (Nat.le_refl _) (by omega)
    · exact h2.mono (Nat.le_refl _) (by omega)) (Nat.le_refl _)
  refine ⟨this.lay, this.shw, this.leaf, ?_⟩
  have e1 := h1.wt
  have e2 := h2.wt
  simp only [PyData.weight, PyData.weightAll]
  omega
theorem gd_t4 {k n1 n2 n3 n4 : Nat} {a c d e : PyData} (h1 : Gd k n1 a) (h2 : Gd k n2 c) (h3 : Gd k n3 d) (h4 : Gd k n4 e) : Gd (k + 1) (n1 + n2 + n3 + n4 + 4) (.tuple [a, c, d, e]) := by
  have := gd_tup (k := k) (m := n1 + n2 + n3 + n4) (c := 4) (ds := [a, c, d, e]) (fun x hx => by
    rcases List.mem_cons.mp hx with rfl | hx
    · exact h1.mono (Nat.le_refl _) (by omega)
    rcases List.mem_cons.mp hx with rfl | hx
    · exact h2.mono (Nat.le_refl _) (by omega)
    rcases mem3 hx with rfl | rfl
    · exact h3.mono (Nat.le_refl _) (by omega)
    · exact h4.mono (Nat.le_refl _) (by omega)) (Nat.le_refl _)
  refine ⟨this.lay, this.shw, this.leaf, ?_⟩
  have e1 := h1.wt
  have e2 := h2.wt
  have e3 := h3.wt
  have e4 := h4.wt
  simp only [PyData.weight, PyData.weightAll]
  omega
/-- a small state -/
structure Sm (s : S4) : Prop where
  o : s.o < 16
  n : s.n < 16
  lo : s.lo.length ≤ 10 ∧ ∀ v ∈ s.lo, v.natAbs < 16
  ln : s.ln.length ≤ 10 ∧ ∀ v ∈ s.ln, v.natAbs < 16
theorem gd_nat {k n : Nat} {i : Nat} (h : i < 16) (hn : 4 ≤ n) : Gd k n (.int (i : Nat)) := gd_int (m := 4) (by rw [Int.natAbs_natCast]; exact h) (by decide) hn
theorem gd_ints {l : List Int} (h : l.length ≤ 10 ∧ ∀ v ∈ l, v.natAbs < 16) : (∀ d ∈ intsL l, Gd 0 4 d) ∧ (intsL l).length ≤ 10 := ⟨fun d hd => by
  obtain ⟨v, hv, rfl⟩ := List.mem_map.mp hd
  exact gd_int (m := 4) (h.2 v hv) (by decide) (Nat.le_refl _), by rw [show (intsL l).length = l.length from List.length_map _]; exact h.1⟩
theorem gd_S {s : S4} (h : Sm s) : Gd 2 112 s.D := (gd_t4 (k := 1) (gd_nat (n := 4) h.o (Nat.le_refl _)) (gd_nat (n := 4) h.n (Nat.le_refl _)) (gd_tup (gd_ints h.lo).1 (gd_ints h.lo).2) (gd_tup (gd_ints h.ln).1 (gd_ints h.ln).2)).mono (Nat.le_refl _) (by decide)
section
variable {pen : Pc} {P : PyData → Prop}
theorem at_mem {ds : List PyData} {i : Nat} (h : i < ds.length) : ∃ d, atI ds (i : Int) = some d ∧ d ∈ ds := ⟨ds[i], atI_nat (List.getElem?_eq_getElem h), List.getElem_mem h⟩
theorem r_ixLm {ds : List PyData} {i : Nat} (h : i < ds.length) (p : ∀ d ∈ ds, P d) : R2d K pen (rIxL K) (.list ds) (.int (i : Nat)) P := by
  obtain ⟨d, hd, hm⟩ := at_mem h
  exact r_ixL hd (p d hm)
theorem all0 : ∀ d ∈ ([] : List PyData), P d := fun d h => (nomatch h)
theorem allc {a : PyData} {l : List PyData} (h1 : P a) (h2 : ∀ d ∈ l, P d) : ∀ d ∈ a :: l, P d := fun d hd => by
  rcases List.mem_cons.mp hd with rfl | hd
  · exact h1
  · exact h2 d hd
theorem all_app {l m : List PyData} (h1 : ∀ d ∈ l, P d) (h2 : ∀ d ∈ m, P d) : ∀ d ∈ l ++ m, P d := fun d hd => (List.mem_append.mp hd).elim (h1 d) (h2 d)
end
end
section
variable {P : Program} {w : World} {K : PySem.W.Frag} {mg : Str → Option Value} {base : Heap}
open Rg (Gd gd_tup gd_lst gd_int gd_none gd_bool gd_str)
abbrev spBs (K : PySem.W.Frag) (ts : List Addr) : Sp := SpX (α := Bk × S4 × List Nat) K ts (fun a => (1 ≤ a.1.os.length ∧ a.1.os.length ≤ 10 ∧ a.1.ns.length ≤ 10 ∧ a.1.lt ≤ 10) ∧ Sm a.2.1 ∧ a.2.2.length = 15) (fun a => [a.1.D, a.2.1.D, .list (natsD a.2.2)]) (fun a d => Gd 6 304 d)
set_option maxHeartbeats 16000000 in
theorem ok_law_bent_state (T : Tx K mg base) : FnOk P w K mg base CX0 1 T.f_law_bent_state T.d_law_bent_state ["book", "state", "some"] (spBs K T.ts) := by
  refine fnX T.F_law_bent_state sc_law_bent_state (fun _ _ => rfl) (fun cdv A outer s H E hr => ⟨_, (pss_cons (ps_asg (pv 1) (kx_pgT K (n := 4) rfl rfl (pgs_cons (pg_name (i := 3) sc_law_bent_state.nd rfl (.inl rfl)) (pgs_cons (pg_name (i := 4) sc_law_bent_state.nd rfl (.inl rfl)) (pgs_cons (pg_name (i := 5) sc_law_bent_state.nd rfl (.inl rfl)) (pgs_cons (pg_name (i := 6) sc_law_bent_state.nd rfl (.inl rfl)) pgs_nil))))))
      (pss_cons (ps_if (pt_cmpR op_eq (pe_op op_mod (pe_op op_fdivW (pe_ix (kx_ixL K rfl) (pv 2) pe_int (fun _ _ => rfl)) pe_int) pe_int) pe_int (nomark _))
      (pss_cons (ps_set (i := 7) sc_law_bent_state.nd rfl (.inl rfl) (pe_lst (pa_cons (pe_tup (pa_cons (pv 3) (pa_cons pe_bl (pa_cons (pv 5) (pa_cons (pv 6) pa_nil))))) (pa_cons (pe_tup (pa_cons (pv 3) (pa_cons (pe_cmpR (kx_eqD K rfl hr.units) (pv 4) pe_int (nomark _)) (pa_cons (pv 5) (pa_cons (pv 6) pa_nil))))) (pa_cons (pe_tup (pa_cons (pv 3) (pa_cons (pe_un un_neg pe_int) (pa_cons (pv 5) (pa_cons (pv 6) pa_nil))))) pa_nil)))))
      (pss_cons (ps_set (i := 7) sc_law_bent_state.nd rfl (.inl rfl) (pe_op (kx_catL (K := K) rfl) (pv 7) (pe_lst (pa_cons (pe_tup (pa_cons (pv 3) (pa_cons pe_non (pa_cons (pv 5) (pa_cons (pv 6) pa_nil))))) (pa_cons (pe_tup (pa_cons (pv 3) (pa_cons pe_str (pa_cons (pv 5) (pa_cons (pv 6) pa_nil))))) (pa_cons (pe_tup (pa_cons (pe_callB (kx_len K rfl) (by rfl) T.m_len PySem.boot_len (pa_cons (pe_ix (kx_ixT K rfl) (pv 0) pe_int (fun _ _ => rfl)) pa_nil)) (pa_cons (pv 4) (pa_cons (pv 5) (pa_cons (pv 6) pa_nil))))) pa_nil))))))
      (pss_cons (ps_set (i := 7) sc_law_bent_state.nd rfl (.inl rfl) (pe_op (kx_catL (K := K) rfl) (pv 7) (pe_lst (pa_cons (pe_tup (pa_cons pe_non (pa_cons (pv 4) (pa_cons (pv 5) (pa_cons (pv 6) pa_nil))))) (pa_cons (pe_tup (pa_cons (pv 3) (pa_cons (pv 4) (pa_cons (pe_tup (pa_cons pe_bl pa_nil)) (pa_cons (pv 6) pa_nil))))) (pa_cons (pe_tup (pa_cons (pv 3) (pa_cons (pv 4) (pa_cons (pe_tup (pa_cons (pe_un un_neg pe_int) pa_nil)) (pa_cons (pv 6) pa_nil))))) pa_nil))))))
      (pss_cons (ps_set (i := 7) sc_law_bent_state.nd rfl (.inl rfl) (pe_op (kx_catL (K := K) rfl) (pv 7) (pe_lst (pa_cons (pe_tup (pa_cons (pv 3) (pa_cons (pv 4) (pa_cons (pe_tup (pa_cons pe_non (pa_cons pe_int pa_nil))) (pa_cons (pv 6) pa_nil))))) (pa_cons (pe_tup (pa_cons (pv 3) (pa_cons (pv 4) (pa_cons (pv 5) (pa_cons (pe_tup (pa_cons pe_str (pa_cons pe_int pa_nil))) pa_nil))))) (pa_cons (pe_tup (pa_cons (pv 3) (pa_cons (pv 4) (pa_cons (pe_tup (pa_cons (pe_lst pa_nil) pa_nil)) (pa_cons (pv 6) pa_nil))))) pa_nil))))))
      (pss_cons (ps_set (i := 7) sc_law_bent_state.nd rfl (.inl rfl) (pe_op (kx_catL (K := K) rfl) (pv 7) (pe_lst (pa_cons (pe_tup (pa_cons (pv 3) (pa_cons (pv 4) (pa_cons (pv 5) (pa_cons (pe_callTy (kx_list K rfl) (by rfl) T.m_list (by decide +kernel) (pa_cons (pv 6) pa_nil)) pa_nil))))) (pa_cons (pe_tup (pa_cons (pv 3) (pa_cons (pv 4) (pa_cons pe_non (pa_cons (pv 6) pa_nil))))) (pa_cons (pe_tup (pa_cons (pv 3) (pa_cons (pv 4) (pa_cons (pv 5) (pa_cons pe_non pa_nil))))) pa_nil))))))
      (pss_one (ps_ret (pe_ix (kx_ixL K rfl) (pv 7) (pe_op op_mod (pe_ix (kx_ixL K rfl) (pv 2) pe_int (fun _ _ => rfl)) pe_int) (fun _ _ => rfl)))))))))
      pss_nil)
      (pss_cons (ps_if (pt_cmpR op_eq (pe_op op_mod (pe_ix (kx_ixL K rfl) (pv 2) pe_int (fun _ _ => rfl)) pe_int) pe_int (nomark _))
      (pss_one (ps_ret (pe_tup (pa_cons (pv 3) (pa_cons (pv 4) (pa_cons (Rv.kx_tupRevT (K := K) rfl rfl (by rfl) T.m_tuple (by rfl) T.m_reversed (pv 5)) (pa_cons (pv 6) pa_nil)))))))
      pss_nil)
      (pss_cons (ps_if (pt_cmpR op_eq (pe_op op_mod (pe_ix (kx_ixL K rfl) (pv 2) pe_int (fun _ _ => rfl)) pe_int) pe_int (nomark _))
      (pss_one (ps_ret (pe_tup (pa_cons (pe_cmpR (kx_eqD K rfl hr.units) (pv 3) pe_int (nomark _)) (pa_cons (pv 4) (pa_cons (pv 5) (pa_cons (pv 6) pa_nil)))))))
      pss_nil)
      (pss_cons (ps_if (pt_cmpR op_eq (pe_op op_mod (pe_ix (kx_ixL K rfl) (pv 2) pe_int (fun _ _ => rfl)) pe_int) pe_int (nomark _))
      (pss_one (ps_ret (pe_lst (pa_cons (pv 3) (pa_cons (pv 4) (pa_cons (pv 5) (pa_cons (pv 6) pa_nil)))))))
      pss_nil)
      (pss_cons (ps_if (pt_cmpR op_eq (pe_op op_mod (pe_ix (kx_ixL K rfl) (pv 2) pe_int (fun _ _ => rfl)) pe_int) pe_int (nomark _))
      (pss_one (ps_ret (pe_tup (pa_cons (pv 3) (pa_cons (pe_op op_mod (pe_ix (kx_ixL K rfl) (pv 2) pe_int (fun _ _ => rfl)) (pe_op op_add (pe_callB (kx_len K rfl) (by rfl) T.m_len PySem.boot_len (pa_cons (pe_ix (kx_ixT K rfl) (pv 0) pe_int (fun _ _ => rfl)) pa_nil)) pe_int)) (pa_cons (pv 5) (pa_cons (pv 6) pa_nil)))))))
      pss_nil)
      (pss_cons (ps_if (pt_cmpR op_eq (pe_op op_mod (pe_ix (kx_ixL K rfl) (pv 2) pe_int (fun _ _ => rfl)) pe_int) pe_int (nomark _))
      (pss_one (ps_ret (pe_tup (pa_cons (pv 3) (pa_cons (pv 4) (pa_cons (pv 5) (pa_cons (pe_op (kx_catT K rfl) (pv 6) (pe_tup (pa_cons (pe_op op_mod (pe_ix (kx_ixL K rfl) (pv 2) pe_int (fun _ _ => rfl)) (pe_op op_add (pe_ix (kx_ixT K rfl) (pv 0) pe_int (fun _ _ => rfl)) pe_int)) pa_nil))) pa_nil)))))))
      pss_nil)
      (pss_one (ps_ret (pe_tup (pa_cons (pe_op op_mod (pe_ix (kx_ixL K rfl) (pv 2) pe_int (fun _ _ => rfl)) (pe_callB (kx_len K rfl) (by rfl) T.m_len PySem.boot_len (pa_cons (pe_ix (kx_ixT K rfl) (pv 0) pe_int (fun _ _ => rfl)) pa_nil))) (pa_cons (pv 4) (pa_cons (pv 5) (pa_cons (pv 6) pa_nil)))))))))))))), fun a ha => ?_⟩)
  obtain ⟨b, s, so⟩ := a
  obtain ⟨⟨ho1, ho2, hn2, hlt⟩, hs, hso⟩ := ha
  dsimp only at ho1 ho2 hn2 hlt hs hso
  try simp only [nox_K, blk_K, cx_K]
  have hO : ∀ {k : Nat}, Gd k 50 (.int (s.o : Nat)) := fun {k} => gd_nat (k := k) (n := 50) hs.o (by decide)
  have hN : ∀ {k : Nat}, Gd k 50 (.int (s.n : Nat)) := fun {k} => gd_nat (k := k) (n := 50) hs.n (by decide)
  have hl1 : (intsL s.lo).length ≤ 10 := (gd_ints hs.lo).2
  have hl2 : (intsL s.ln).length ≤ 10 := (gd_ints hs.ln).2
  have hLo : Gd 3 60 (.tuple (intsL s.lo)) := (gd_tup (gd_ints hs.lo).1 (gd_ints hs.lo).2).mono (by decide) (by decide)
  have hLn : Gd 3 60 (.tuple (intsL s.ln)) := (gd_tup (gd_ints hs.ln).1 (gd_ints hs.ln).2).mono (by decide) (by decide)
  have hMn : Gd 3 60 (.list (intsL s.ln)) := (gd_lst (gd_ints hs.ln).1 (gd_ints hs.ln).2).mono (by decide) (by decide)
  have hRo : Gd 3 60 (.tuple (intsL s.lo).reverse) := (gd_tup (fun d hd => (gd_ints hs.lo).1 d (List.mem_reverse.mp hd)) (by rw [List.length_reverse]; exact hl1)).mono (by decide) (by decide)
  have ht : ∀ {ds : List PyData}, (∀ d ∈ ds, Gd 3 60 d) → ds.length ≤ 4 → Gd 6 304 (.tuple ds) := fun h1 h2 => (gd_tup h1 h2).mono (by decide) (by decide)
  have hli : ∀ {ds : List PyData}, (∀ d ∈ ds, Gd 3 60 d) → ds.length ≤ 4 → Gd 6 304 (.list ds) := fun h1 h2 => (gd_lst h1 h2).mono (by decide) (by decide)
  have hi : ∀ {k n : Nat} (i : Int), i.natAbs < 128 → 7 ≤ n → Gd k n (.int i) := fun i h h2 => gd_int (m := 7) h (by decide) h2
  have hs1 : ∀ {k n : Nat}, 1 ≤ n → Gd k n (.str "0") := fun h => gd_str (by decide +kernel) (Nat.le_trans (by decide +kernel) h) (by decide +kernel)
  have hin : ∀ {ds : List PyData}, (∀ d ∈ ds, Gd 2 9 d) → ds.length ≤ 4 → Gd 3 60 (.tuple ds) := fun h1 h2 => (gd_tup h1 h2).mono (Nat.le_refl _) (by decide)
  have he : ∀ {k n : Nat}, Gd (k + 1) n (.list []) := fun {k n} => (gd_lst (k := k) (m := 0) (c := 0) (ds := []) all0 (Nat.le_refl _)).mono (Nat.le_refl _) (Nat.zero_le _)
  have eo : (blsD b.os).length = b.os.length := List.length_map _
  dsimp only [S4.D, Bk.D]
  show S K ⟨none, T.ts⟩ H _ [some (.d (.tuple [.tuple (blsD b.os), .tuple (blsD b.ns), .int b.lt, .tuple (rlsD b.rs)])), some (.d (.tuple [.int s.o, .int s.n, .tuple (intsL s.lo), .tuple (intsL s.ln)])), some (.d (.list (natsD so))), none, none, none, none, none] { nx := fun _ => Gd 6 304 .none, rt := fun d => Gd 6 304 d }
  repeat walk_at "k"
  refine r_ixL (nats_at (i := 3) (by omega)) ?_
  repeat walk_at "k"
  refine r_fdivW (wide_div (b := 200) (by decide) (by decide) (by decide) (by decide)) ?_
  repeat walk_at "k"
  refine r_modAny (by decide) fun z _ _ => ?_
  repeat walk_at "k"
  refine ⟨fun _ => ?_, fun _ => ?_⟩
  · repeat (first | walk_at "k" | (refine r_eqD rfl rfl ?_) | (refine r_catL (Nat.le_of_ble_eq_true rfl) ?_))
    refine r_ixL (nats_at (i := 4) (by omega)) ?_
    repeat walk_at "k"
    refine r_modAny (by decide) fun z z0 z1 => ?_
    obtain ⟨y, rfl⟩ : ∃ n : Nat, z = (n : Int) := ⟨z.toNat, by omega⟩
    refine r_ixLm (show y < 15 by omega) ?_
    repeat' (first | refine all_app ?_ ?_ | refine allc ?_ ?_ | exact all0)
    all_goals refine ht ?_ (by exact Nat.le_of_ble_eq_true rfl)
    repeat' (first | refine allc ?_ ?_ | exact all0)
    all_goals first
      | exact hO.mono (Nat.le_refl _) (by decide)
      | exact hN.mono (Nat.le_refl _) (by decide)
      | exact hLo
      | exact hLn
      | exact hMn
      | exact gd_none
      | exact gd_bool _
      | exact hs1 (by decide)
      | exact hi _ (by decide) (by decide)
      | exact hi _ (by omega) (by decide)
      | refine hin ?_ (by exact Nat.le_of_ble_eq_true rfl)
    repeat' (first | refine allc ?_ ?_ | exact all0)
    all_goals first
      | exact gd_none
      | exact gd_bool _
      | exact hs1 (by decide)
      | exact he
      | exact hi _ (by decide) (by decide)
  repeat walk_at "k"
  refine r_ixL (nats_at (i := 3) (by omega)) ?_
  repeat walk_at "k"
  refine r_modAny (by decide) fun z _ _ => ?_
  repeat walk_at "k"
  refine ⟨fun _ => ?_, fun _ => ?_⟩
  · repeat walk_at "k"
    refine Dl.e_tupRevT ?_
    repeat walk_at "k"
    exact ht (allc (hO.mono (Nat.le_refl _) (by decide)) (allc (hN.mono (Nat.le_refl _) (by decide)) (allc hRo (allc hLn all0)))) (by exact Nat.le_of_ble_eq_true rfl)
  repeat walk_at "k"
  refine r_ixL (nats_at (i := 3) (by omega)) ?_
  repeat walk_at "k"
  refine r_modAny (by decide) fun z _ _ => ?_
  repeat walk_at "k"
  refine ⟨fun _ => ?_, fun _ => ?_⟩
  · repeat (first | walk_at "k" | (refine r_eqD rfl rfl ?_))
    exact ht (allc (gd_bool _) (allc (hN.mono (Nat.le_refl _) (by decide)) (allc hLo (allc hLn all0)))) (by exact Nat.le_of_ble_eq_true rfl)
  repeat walk_at "k"
  refine r_ixL (nats_at (i := 3) (by omega)) ?_
  repeat walk_at "k"
  refine r_modAny (by decide) fun z _ _ => ?_
  repeat walk_at "k"
  refine ⟨fun _ => ?_, fun _ => ?_⟩
  · repeat walk_at "k"
    exact hli (allc (hO.mono (Nat.le_refl _) (by decide)) (allc (hN.mono (Nat.le_refl _) (by decide)) (allc hLo (allc hLn all0)))) (by exact Nat.le_of_ble_eq_true rfl)
  repeat walk_at "k"
  refine r_ixL (nats_at (i := 3) (by omega)) ?_
  repeat walk_at "k"
  refine r_modAny (by decide) fun z _ _ => ?_
  repeat walk_at "k"
  refine ⟨fun _ => ?_, fun _ => ?_⟩
  · repeat walk_at "k"
    refine r_ixL (nats_at (i := 4) (by omega)) ?_
    repeat walk_at "k"
    have e1 : (blsD b.ns).length = b.ns.length := List.length_map _
    rw [e1]
    refine r_modAny (by omega) fun z z0 z1 => ?_
    repeat walk_at "k"
    exact ht (allc (hO.mono (Nat.le_refl _) (by decide)) (allc (hi _ (by omega) (by decide)) (allc hLo (allc hLn all0)))) (by exact Nat.le_of_ble_eq_true rfl)
  repeat walk_at "k"
  refine r_ixL (nats_at (i := 3) (by omega)) ?_
  repeat walk_at "k"
  refine r_modAny (by decide) fun z _ _ => ?_
  repeat walk_at "k"
  refine ⟨fun _ => ?_, fun _ => ?_⟩
  · repeat walk_at "k"
    refine r_ixL (nats_at (i := 4) (by omega)) ?_
    repeat walk_at "k"
    refine r_modAny (by omega) fun z z0 z1 => ?_
    repeat walk_at "k"
    refine r_catT (by rw [List.length_cons, List.length_nil]; omega) ?_
    repeat walk_at "k"
    refine ht (allc (hO.mono (Nat.le_refl _) (by decide)) (allc (hN.mono (Nat.le_refl _) (by decide)) (allc hLo (allc ?_ all0)))) (by exact Nat.le_of_ble_eq_true rfl)
    refine (gd_tup (k := 0) (m := 4) (c := 11) (all_app (gd_ints hs.ln).1 (allc (gd_int (m := 4) ?_ (by decide) (Nat.le_refl _)) all0)) ?_).mono (by decide) (by decide)
    · have : (2 : Nat) ^ 4 = 16 := by decide
      omega
    · rw [List.length_append, List.length_cons, List.length_nil]; omega
  repeat walk_at "k"
  refine r_ixL (nats_at (i := 4) (by omega)) ?_
  repeat walk_at "k"
  have e1 : (blsD b.os).length = b.os.length := List.length_map _
  rw [e1]
  refine r_modAny (by omega) fun z z0 z1 => ?_
  repeat walk_at "k"
  exact ht (allc (hi _ (by omega) (by decide)) (allc (hN.mono (Nat.le_refl _) (by decide)) (allc hLo (allc hLn all0)))) (by exact Nat.le_of_ble_eq_true rfl)
end
section
variable {P : Program} {w : World} {K : PySem.W.Frag} {mg : Str → Option Value} {base : Heap}
open Rg (Gd gd_tup gd_lst gd_int gd_none gd_bool gd_str)
theorem gd_on {k n : Nat} (h : 2 ≤ n) : Gd k n (.str "on") := gd_str (by decide +kernel) (Nat.le_trans (by decide +kernel) h) (by decide +kernel)
theorem gd_row {s : S4} (h : Sm s) : Gd 6 304 s.D := (gd_S h).mono (by decide) (by decide)
theorem ls_ok {ds : List PyData} (h : ∀ d ∈ ds, Gd 6 304 d) (hl : ds.length ≤ 122) : Gd 7 37210 (.list ds) := gd_lst h hl
theorem st_ok {ks : List Nat} (h : ks.length ≤ 61) (h2 : ∀ k ∈ ks, k < 128) : (∀ d ∈ natsD ks, Gd 3 10 d) ∧ (natsD ks).length ≤ 61 := ⟨fun d hd => by
  obtain ⟨k, hk, rfl⟩ := List.mem_map.mp hd
  exact gd_int (m := 7) (by rw [Int.natAbs_natCast]; exact h2 k hk) (by decide) (by decide), by rw [nats_len]; exact h⟩
theorem fin2 {w x : PyData} (hw : Gd 7 800 w) (hx : Gd 7 37210 x) : Gs (.tuple [w, x]) := (gd_t2 hw hx).mono (by decide) (by decide)
theorem srows {l : List S4} (h : l.length ≤ 121 ∧ ∀ s ∈ l, Sm s) : (∀ d ∈ l.map S4.D, Gd 6 304 d) ∧ (l.map S4.D).length ≤ 121 := ⟨fun d hd => by
  obtain ⟨e, he, rfl⟩ := List.mem_map.mp hd
  exact gd_row (h.2 e he), by rw [List.length_map]; exact h.1⟩
theorem cut_row {ds : List PyData} {lo hi : Option Int} {P : PyData → Prop} (h : ∀ d ∈ ds, P d) : ∀ d ∈ Dl.cutD ds lo hi, P d := fun d hd => h d (cut_sub.2 d hd)
theorem cut_pre (ds : List PyData) (i : Nat) : (Dl.cutD ds none (some (i : Int))).length ≤ i := by
  unfold Dl.cutD
  rw [HT.sIx_nat]
  have h0 : HT.sIx ds.length 0 none = 0 := rfl
  rw [h0, List.drop_zero, List.length_take]
  omega
theorem cut_suf (ds : List PyData) (i : Nat) : (Dl.cutD ds (some (i : Int)) none).length ≤ ds.length - i := by
  unfold Dl.cutD
  rw [HT.sIx_nat]
  have h0 : HT.sIx ds.length ds.length none = ds.length := rfl
  rw [h0, List.length_take, List.length_drop]
  omega
theorem gsL {ds : List PyData} (h : ∀ d ∈ ds, Gd 7 37210 d) (hl : (ds.map PyData.weight).sum ≤ 39000) (hn : ds.length ≤ 10) : Gd 8 40000 (.tuple ds) ∧ Gd 8 40000 (.list ds) := by
  have e : PyData.weightAll ds ≤ 40000 := by
    have : ∀ l : List PyData, PyData.weightAll l = (l.map PyData.weight).sum + l.length := fun l => by
      induction l with
      | nil => rfl
      | cons a l ih => simp only [PyData.weightAll, List.map_cons, List.sum_cons, List.length_cons, ih]; omega
    rw [this]
    omega
  have h1 := gd_tup h hn
  have h2 := gd_lst h hn
  exact ⟨⟨h1.lay, h1.shw, h1.leaf, by simp only [PyData.weight]; exact e⟩, ⟨h2.lay, h2.shw, h2.leaf, by simp only [PyData.weight]; exact e⟩⟩
theorem gs8 {d : PyData} (h : Gd 8 40000 d) : Gs d := h.mono (by decide) (Nat.le_refl _)
inductive Th5
  | never (l : List S4)
  | two (ks : List Nat)
def Th5.word : Th5 → Str
  | .never _ => "never"
  | .two _ => "two"
def Th5.rows : Th5 → List PyData
  | .never l => l.map S4.D
  | .two ks => natsD ks
def Th5.D (t : Th5) : PyData := .tuple [.str t.word, .list t.rows]
def Th5.Ok : Th5 → Prop
  | .never l => l.length ≤ 121 ∧ ∀ s ∈ l, Sm s
  | .two ks => ks.length ≤ 61 ∧ ∀ k ∈ ks, k < 128
theorem Th5.row {t : Th5} (h : t.Ok) : (∀ d ∈ t.rows, Gd 6 304 d) ∧ t.rows.length ≤ 121 ∧ ∀ (i : Nat) d, t.rows[i]? = some d → (∃ s : S4, d = s.D ∧ Sm s) ∨ ∃ k : Nat, d = .int (k : Nat) := by
  cases t with
  | never l =>
    obtain ⟨h1, h2⟩ := srows h
    exact ⟨h1, h2, fun i d hd => by
      obtain ⟨s, hs, rfl⟩ := st_at hd
      exact .inl ⟨s, rfl, h.2 s (List.mem_of_getElem? hs)⟩⟩
  | two ks =>
    obtain ⟨h1, h2⟩ := st_ok h.1 h.2
    exact ⟨fun d hd => (h1 d hd).mono (by decide) (by decide), Nat.le_trans h2 (by decide), fun i d hd => by
      obtain ⟨k, _, rfl⟩ := List.mem_map.mp (List.mem_of_getElem? hd)
      exact .inr ⟨k, rfl⟩⟩
theorem Th5.wd (t : Th5) : ∀ {k n : Nat}, 5 ≤ n → Gd k n (.str t.word) := fun {k n} h => by
  cases t with
  | never _ => exact show Gd k n (.str "never") from gd_str (by decide +kernel) (Nat.le_trans (by decide +kernel) h) (by decide +kernel)
  | two _ => exact show Gd k n (.str "two") from gd_str (by decide +kernel) (Nat.le_trans (by decide +kernel) h) (by decide +kernel)
theorem Th5.gs {t : Th5} (h : t.Ok) : Gs t.D := fin2 (t.wd (by decide)) (ls_ok (Th5.row h).1 (Nat.le_trans (Th5.row h).2.1 (by decide)))
structure B5 where
  b : Bk
  t : Th5
  so : List Nat
structure B5.Ok (a : B5) : Prop where
  o1 : 1 ≤ a.b.os.length
  o2 : a.b.os.length ≤ 10
  n2 : a.b.ns.length ≤ 10
  lt : a.b.lt ≤ 10
  r2 : a.b.rs.length ≤ 90
  t : a.t.Ok
  so : a.so.length = 15
abbrev spB5 (K : PySem.W.Frag) (ts : List Addr) : Sp := SpX (α := B5) K ts B5.Ok (fun a => [a.b.D, a.t.D, .list (natsD a.so)]) (fun a d => Gs d)
set_option maxHeartbeats 16000000 in
theorem ok_law_bent (T : Tx K mg base) : FnOk P w K mg base CX0 2 T.f_law_bent T.d_law_bent ["book", "thing", "some"] (spB5 K T.ts) := by
  refine fnX T.F_law_bent sc_law_bent (fun _ _ => rfl) (fun cdv A outer s H E hr => ⟨_, (pss_cons (ps_asg (pv 1) (kx_pgT K (n := 2) rfl rfl (pgs_cons (pg_name (i := 3) sc_law_bent.nd rfl (.inl rfl)) (pgs_cons (pg_name (i := 4) sc_law_bent.nd rfl (.inl rfl)) pgs_nil))))
      (pss_cons (ps_set (i := 5) sc_law_bent.nd rfl (.inl rfl) (pe_op op_mod (pe_ix (kx_ixL K rfl) (pv 2) pe_int (fun _ _ => rfl)) (pe_op op_add (pe_callB (kx_len K rfl) (by rfl) T.m_len PySem.boot_len (pa_cons (pv 4) pa_nil)) pe_int)))
      (pss_cons (ps_set (i := 6) sc_law_bent.nd rfl (.inl rfl) (pe_op op_mod (pe_ix (kx_ixL K rfl) (pv 2) pe_int (fun _ _ => rfl)) pe_int))
      (pss_cons (ps_if (pt_cmpR op_eq (pv 6) pe_int (nomark _))
      (pss_one (ps_ret (pe_tup (pa_cons (pv 3) (pa_cons (pe_op (kx_catL (K := K) rfl) (pe_slice (kx_slL K rfl) (pv 4) po_none (po_some (pv 5))) (pe_slice (kx_slL K rfl) (pv 4) (po_some (pe_op op_add (pv 5) pe_int)) po_none)) pa_nil)))))
      pss_nil)
      (pss_cons (ps_if (pt_cmpR op_eq (pv 6) pe_int (nomark _))
      (pss_one (ps_ret (pe_tup (pa_cons (pv 3) (pa_cons (pe_op (kx_catL (K := K) rfl) (pv 4) (pe_slice (kx_slL K rfl) (pv 4) po_none (po_some pe_int))) pa_nil)))))
      pss_nil)
      (pss_cons (ps_if (pt_cmpR op_eq (pv 6) pe_int (nomark _))
      (pss_one (ps_ret (pe_tup (pa_cons (pe_ix (kx_ixL K rfl) (pe_lst (pa_cons pe_str (pa_cons pe_str (pa_cons pe_str (pa_cons pe_str (pa_cons pe_non (pa_cons pe_int (pa_cons (pe_lst (pa_cons pe_str pa_nil)) pa_nil)))))))) (pe_op op_mod (pe_op op_add (pe_callTy call_int1 (by rfl) T.m_int (by decide +kernel) (pa_cons (pe_cmpR op_eq (pv 3) pe_str (nomark _)) pa_nil)) (pe_op op_mod (pe_ix (kx_ixL K rfl) (pv 2) pe_int (fun _ _ => rfl)) pe_int)) pe_int) (fun _ _ => rfl)) (pa_cons (pv 4) pa_nil)))))
      pss_nil)
      (pss_cons (ps_if (pt_cmpR op_eq (pv 6) pe_int (nomark _))
      (pss_cons (ps_set (i := 7) sc_law_bent.nd rfl (.inl rfl) (pe_ix (kx_ixL K rfl) (pe_lst (pa_cons pe_non (pa_cons pe_int (pa_cons (pe_tup pa_nil) (pa_cons pe_str (pa_cons pe_bl (pa_cons (pe_tup (pa_cons (pe_tup (pa_cons pe_int (pa_cons pe_int (pa_cons (pe_tup pa_nil) (pa_cons (pe_tup pa_nil) pa_nil))))) pa_nil)) pa_nil))))))) (pe_op op_mod (pe_ix (kx_ixL K rfl) (pv 2) pe_int (fun _ _ => rfl)) pe_int) (fun _ _ => rfl)))
      (pss_cons (ps_set (i := 8) sc_law_bent.nd rfl (.inl rfl) (pe_lst (pa_cons (pe_lst (pa_cons (pv 3) (pa_cons (pv 4) pa_nil))) (pa_cons (pe_tup (pa_cons (pv 3) (pa_cons (pv 4) (pa_cons pe_int pa_nil)))) (pa_cons (pe_tup (pa_cons (pv 3) (pa_cons (pe_callTy (kx_tuple K rfl) (by rfl) T.m_tuple (by decide +kernel) (pa_cons (pv 4) pa_nil)) pa_nil))) (pa_cons pe_non (pa_cons (pv 3) (pa_cons (pe_tup (pa_cons (pv 3) pa_nil)) (pa_cons (pe_tup (pa_cons (pv 3) (pa_cons (pv 7) pa_nil))) pa_nil)))))))))
      (pss_one (ps_ret (pe_ix (kx_ixL K rfl) (pv 8) (pe_op op_mod (pe_ix (kx_ixL K rfl) (pv 2) pe_int (fun _ _ => rfl)) pe_int) (fun _ _ => rfl))))))
      pss_nil)
      (pss_cons (ps_if (pt_cmpR op_eq (pv 6) pe_int (nomark _))
      (pss_one (ps_ret (pe_tup (pa_cons (pv 3) (pa_cons (Rv.kx_lstRev (K := K) rfl rfl (by rfl) T.m_list (by rfl) T.m_reversed (pv 4)) pa_nil)))))
      pss_nil)
      (pss_cons (ps_if (PW.pt (pw_or (pt_cmpR op_eq (pv 6) pe_int (nomark _)) (pw_or1 (pt_cmpR op_eq (pv 5) (pe_callB (kx_len K rfl) (by rfl) T.m_len PySem.boot_len (pa_cons (pv 4) pa_nil)) (nomark _)))))
      (pss_cons (ps_set (i := 7) sc_law_bent.nd rfl (.inl rfl) (pe_ix (kx_ixL K rfl) (pe_lst (pa_cons pe_int (pa_cons (pe_callB (kx_len K rfl) (by rfl) T.m_len PySem.boot_len (pa_cons (pe_ix (kx_ixT K rfl) (pv 0) pe_int (fun _ _ => rfl)) pa_nil)) (pa_cons pe_bl (pa_cons pe_non (pa_cons (pe_tup (pa_cons pe_int (pa_cons pe_int (pa_cons (pe_tup pa_nil) (pa_cons (pe_tup pa_nil) pa_nil))))) (pa_cons (pe_tup (pa_cons pe_int (pa_cons pe_int (pa_cons (pe_tup pa_nil) (pa_cons (pe_tup pa_nil) pa_nil))))) pa_nil))))))) (pe_op op_mod (pe_ix (kx_ixL K rfl) (pv 2) pe_int (fun _ _ => rfl)) pe_int) (fun _ _ => rfl)))
      (pss_one (ps_ret (pe_tup (pa_cons (pv 3) (pa_cons (pe_op (kx_catL (K := K) rfl) (pv 4) (pe_lst (pa_cons (pv 7) pa_nil))) pa_nil))))))
      pss_nil)
      (pss_cons (ps_if (pt_val (pe_callB (kx_isi K rfl) (by rfl) T.m_isinstance (by decide +kernel) (pa_cons (pe_ix (kx_ixL K rfl) (pv 4) (pv 5) (fun _ _ => rfl)) (pa_cons (pe_bltn (v := .ty "tuple") (by rfl) T.m_tuple (by decide +kernel) rfl) pa_nil))))
      (pss_cons (ps_set (i := 7) sc_law_bent.nd rfl (.inl rfl) (pe_call (ok_law_bent_state T) (hr.mono (by decide)) (by rfl) T.g_law_bent_state T.F_law_bent_state.kp T.b_law_bent_state .nil pass0 (pa_cons (pv 0) (pa_cons (pe_ix (kx_ixL K rfl) (pv 4) (pv 5) (fun _ _ => rfl)) (pa_cons (pv 2) pa_nil)))))
      (pss_one (ps_ret (pe_tup (pa_cons (pv 3) (pa_cons (pe_op (kx_catL (K := K) rfl) (pe_op (kx_catL (K := K) rfl) (pe_slice (kx_slL K rfl) (pv 4) po_none (po_some (pv 5))) (pe_lst (pa_cons (pv 7) pa_nil))) (pe_slice (kx_slL K rfl) (pv 4) (po_some (pe_op op_add (pv 5) pe_int)) po_none)) pa_nil))))))
      pss_nil)
      (pss_cons (ps_set (i := 9) sc_law_bent.nd rfl (.inl rfl) (pe_slice (kx_slL K rfl) (pv 4) (po_some (pe_op op_add (pv 5) pe_int)) po_none))
      (pss_one (ps_ret (pe_tup (pa_cons (pv 3) (pa_cons (pe_op (kx_catL (K := K) rfl) (pe_op (kx_catL (K := K) rfl) (pe_op (kx_catL (K := K) rfl) (pe_slice (kx_slL K rfl) (pv 4) po_none (po_some (pv 5))) (pe_slice (kx_slL K rfl) (pv 9) po_none (po_some pe_int))) (pe_lst (pa_cons (pe_ix (kx_ixL K rfl) (pv 4) (pv 5) (fun _ _ => rfl)) pa_nil))) (pe_slice (kx_slL K rfl) (pv 9) (po_some pe_int) po_none)) pa_nil)))))))))))))))), fun a ha => ?_⟩)
  obtain ⟨b, t, so⟩ := a
  obtain ⟨ho1, ho2, hn2, hlt, hrs, ht, hso⟩ := ha
  dsimp only at ho1 ho2 hn2 hlt hrs ht hso
  try simp only [nox_K, blk_K, cx_K]
  obtain ⟨hr1, hr2, hat⟩ := Th5.row ht
  have hw : ∀ {k n : Nat}, 5 ≤ n → Gd k n (.str t.word) := fun h => t.wd h
  unfold Th5.D
  generalize t.word = wd at hw
  generalize t.rows = rows at hr1 hr2 hat
  have hi : ∀ {k n : Nat} (i : Int), i.natAbs < 4096 → 12 ≤ n → Gd k n (.int i) := fun i h h2 => gd_int (m := 12) h (by decide) h2
  have hx1 : ∀ {k n : Nat}, 5 ≤ n → Gd k n (.str "x") := fun h => gd_str (by decide +kernel) (Nat.le_trans (by decide +kernel) h) (by decide +kernel)
  have htw : ∀ {k n : Nat}, 5 ≤ n → Gd k n (.str "two") := fun h => gd_str (by decide +kernel) (Nat.le_trans (by decide +kernel) h) (by decide +kernel)
  have hnv : ∀ {k n : Nat}, 5 ≤ n → Gd k n (.str "never") := fun h => gd_str (by decide +kernel) (Nat.le_trans (by decide +kernel) h) (by decide +kernel)
  have hem : ∀ {k n : Nat}, Gd k n (.str "") := gd_str (by decide +kernel) (Nat.le_trans (by decide +kernel) (Nat.zero_le _)) (by decide +kernel)
  have ht0 : ∀ {k n : Nat}, Gd (k + 1) n (.tuple []) := fun {k n} => (gd_tup (k := k) (m := 0) (c := 0) (ds := []) all0 (Nat.le_refl _)).mono (Nat.le_refl _) (Nat.zero_le _)
  have hL : Gd 7 37210 (.list rows) := ls_ok hr1 (by omega)
  have hTu : Gd 7 37210 (.tuple rows) := (gd_tup hr1 hr2).mono (by decide) (by decide)
  show S K ⟨none, T.ts⟩ H _ [some (.d b.D), some (.d (.tuple [.str wd, .list rows])), some (.d (.list (natsD so))), none, none, none, none, none, none, none] { nx := fun _ => Gs .none, rt := fun d => Gs d }
  repeat walk_at "k"
  refine r_ixL (nats_at (i := 1) (by omega)) ?_
  repeat walk_at "k"
  refine r_modAny (by omega) fun z z0 z1 => ?_
  obtain ⟨at_, rfl⟩ : ∃ n : Nat, z = (n : Int) := ⟨z.toNat, by omega⟩
  have z1 : at_ ≤ rows.length := by omega
  show S K _ H _ _ _
  dsimp only [List.set]
  refine s_seq (s_asg ?_)
  repeat walk_at "k"
  refine r_ixL (nats_at (i := 0) (by omega)) ?_
  repeat walk_at "k"
  refine r_modAny (by decide) fun z _ _ => ?_
  show S K _ H _ _ _
  dsimp only [List.set]
  have p1 := cut_pre rows at_
  have p2 := cut_suf rows (at_ + 1)
  repeat walk_at "k"
  refine ⟨fun _ => ?_, fun _ => ?_⟩
  · repeat walk_at "k"
    rw [show (at_ : Int) + 1 = ((at_ + 1 : Nat) : Int) by omega]
    refine r_catL (by omega) ?_
    repeat walk_at "k"
    exact fin2 (hw (by decide)) (ls_ok (all_app (cut_row hr1) (cut_row hr1)) (by rw [List.length_append]; omega))
  repeat walk_at "k"
  refine ⟨fun _ => ?_, fun _ => ?_⟩
  · have p3 := cut_pre rows 1
    have p3 : (Dl.cutD rows none (some 1)).length ≤ 1 := p3
    repeat walk_at "k"
    refine r_catL (by omega) ?_
    repeat walk_at "k"
    exact fin2 (hw (by decide)) (ls_ok (all_app hr1 (cut_row hr1)) (by rw [List.length_append]; omega))
  repeat walk_at "k"
  refine ⟨fun _ => ?_, fun _ => ?_⟩
  · repeat walk_at "k"
    refine r_ixL (nats_at (i := 2) (by omega)) ?_
    repeat walk_at "k"
    refine r_modAny (by decide) fun z z3 z4 => ?_
    repeat walk_at "k"
    refine r_modAny (by decide) fun z z3 z4 => ?_
    obtain ⟨y, rfl⟩ : ∃ n : Nat, z = (n : Int) := ⟨z.toNat, by omega⟩
    refine r_ixLm (show y < 7 by omega) ?_
    intro word hword
    have hword : Gd 7 100 word := by
      refine (show ∀ d ∈ _, Gd 7 100 d from ?_) word hword
      repeat' (first | refine allc ?_ ?_ | exact all0)
      all_goals first
        | exact gd_none
        | exact htw (by decide)
        | exact hnv (by decide)
        | exact gd_on (by decide)
        | exact hem
        | exact hi _ (by decide) (by decide)
        | exact (gd_lst (k := 5) (m := 12) (c := 1) (allc (htw (by decide)) all0) (Nat.le_refl _)).mono (by decide) (by decide)
    repeat walk_at "k"
    exact fin2 (hword.mono (by decide) (by decide)) hL
  repeat walk_at "k"
  refine ⟨fun _ => ?_, fun _ => ?_⟩
  · repeat walk_at "k"
    refine r_ixL (nats_at (i := 3) (by omega)) ?_
    repeat walk_at "k"
    refine r_modAny (by decide) fun z z3 z4 => ?_
    obtain ⟨y2, rfl⟩ : ∃ n : Nat, z = (n : Int) := ⟨z.toNat, by omega⟩
    refine r_ixLm (show y2 < 6 by omega) ?_
    intro other hoth
    have hoth : Gd 7 100 other := by
      refine (show ∀ d ∈ _, Gd 7 100 d from ?_) other hoth
      repeat' (first | refine allc ?_ ?_ | exact all0)
      all_goals first
        | exact gd_none
        | exact gd_bool _
        | exact ht0
        | exact hx1 (by decide)
        | exact hi _ (by decide) (by decide)
        | skip
      refine (gd_tup (k := 5) (m := 90) (c := 1) (allc ?_ all0) (Nat.le_refl _)).mono (by decide) (by decide)
      refine (gd_tup (k := 4) (m := 12) (c := 4) ?_ (Nat.le_refl _)).mono (by decide) (by decide)
      repeat' (first | refine allc ?_ ?_ | exact all0)
      all_goals first
        | exact ht0
        | exact hi _ (by decide) (by decide)
    show S K _ H _ _ _
    dsimp only [List.set]
    repeat walk_at "k"
    refine r_ixL (nats_at (i := 2) (by omega)) ?_
    repeat walk_at "k"
    refine r_modAny (by decide) fun z z5 z6 => ?_
    obtain ⟨y3, rfl⟩ : ∃ n : Nat, z = (n : Int) := ⟨z.toNat, by omega⟩
    refine r_ixLm (show y3 < 7 by omega) ?_
    have hw1 := hL.wt
    have hw4 := hTu.wt
    have hw3 := hoth.wt
    have hwo : PyData.weight (.str wd) ≤ 12 := (hw (k := 7) (n := 12) (by decide)).wt
    have hw0 : PyData.weight (.int 0) ≤ 12 := (hi (k := 7) (n := 12) 0 (by decide) (Nat.le_refl _)).wt
    have fin : ∀ {ds : List PyData}, (∀ d ∈ ds, Gd 7 37210 d) → (ds.map PyData.weight).sum ≤ 39000 → ds.length ≤ 10 → Gs (.tuple ds) := fun h1 h2 h3 => gs8 (gsL h1 h2 h3).1
    have finL : ∀ {ds : List PyData}, (∀ d ∈ ds, Gd 7 37210 d) → (ds.map PyData.weight).sum ≤ 39000 → ds.length ≤ 10 → Gs (.list ds) := fun h1 h2 h3 => gs8 (gsL h1 h2 h3).2
    repeat' (first | refine all_app ?_ ?_ | refine allc ?_ ?_ | exact all0)
    all_goals first
      | exact gd_none
      | exact hw (by decide)
      | refine fin ?_ ?_ (by exact Nat.le_of_ble_eq_true rfl)
      | refine finL ?_ ?_ (by exact Nat.le_of_ble_eq_true rfl)
    repeat' (first | refine all_app ?_ ?_ | refine allc ?_ ?_ | exact all0)
    all_goals first
      | exact hL
      | exact hTu
      | exact hoth.mono (Nat.le_refl _) (by decide)
      | exact hw (by decide)
      | exact hi _ (by decide) (by decide)
      | skip
    all_goals simp only [List.map_append, List.map_cons, List.map_nil, List.sum_append, List.sum_cons, List.sum_nil]
    all_goals omega
  repeat walk_at "k"
  refine ⟨fun _ => ?_, fun _ => ?_⟩
  · repeat walk_at "k"
    refine Dl.e_lstRev ?_
    repeat walk_at "k"
    exact fin2 (hw (by decide)) (ls_ok (fun d hd => hr1 d (List.mem_reverse.mp hd)) (by rw [List.length_reverse]; omega))
  repeat walk_at "k"
  have hrl : (rlsD b.rs).length = b.rs.length := rlsD_len _
  have hother : ∀ d ∈ [PyData.int 0, .int ((rlsD b.rs).length : Nat), .bool true, .none, .tuple [.int 0, .int 0, .tuple [], .tuple []], .tuple [.int 9, .int 9, .tuple [], .tuple []]], Gd 6 304 d := by
    repeat' (first | refine allc ?_ ?_ | exact all0)
    all_goals first
      | exact gd_none
      | exact gd_bool _
      | exact hi _ (by omega) (by decide)
      | skip
    all_goals refine (gd_tup (k := 4) (m := 12) (c := 4) ?_ (Nat.le_refl _)).mono (by decide) (by decide)
    all_goals repeat' (first | refine allc ?_ ?_ | exact all0)
    all_goals first
      | exact ht0
      | exact hi _ (by decide) (by decide)
  refine ⟨fun _ => ⟨fun _ => ?_, fun q => (by cases q)⟩, fun _ => ?_⟩
  · repeat walk_at "k"
    refine r_ixT (ds := [PyData.tuple (blsD b.os), .tuple (blsD b.ns), .int b.lt, .tuple (rlsD b.rs)]) (i := 3) rfl ?_
    repeat walk_at "k"
    refine r_ixL (nats_at (i := 2) (by omega)) ?_
    repeat walk_at "k"
    refine r_modAny (by decide) fun z z3 z4 => ?_
    obtain ⟨y, rfl⟩ : ∃ n : Nat, z = (n : Int) := ⟨z.toNat, by omega⟩
    refine r_ixLm (show y < 6 by omega) ?_
    intro other hoth
    have hoth := hother other hoth
    show S K _ H _ _ _
    dsimp only [List.set]
    repeat walk_at "k"
    refine r_catL (by rw [List.length_cons, List.length_nil]; omega) ?_
    repeat walk_at "k"
    exact fin2 (hw (by decide)) (ls_ok (all_app hr1 (allc hoth all0)) (by rw [List.length_append, List.length_cons, List.length_nil]; omega))
  repeat walk_at "k"
  refine ⟨fun _ => ?_, fun hne => s_next ?_⟩
  · repeat walk_at "k"
    refine r_ixT (ds := [PyData.tuple (blsD b.os), .tuple (blsD b.ns), .int b.lt, .tuple (rlsD b.rs)]) (i := 3) rfl ?_
    repeat walk_at "k"
    refine r_ixL (nats_at (i := 2) (by omega)) ?_
    repeat walk_at "k"
    refine r_modAny (by decide) fun z z3 z4 => ?_
    obtain ⟨y, rfl⟩ : ∃ n : Nat, z = (n : Int) := ⟨z.toNat, by omega⟩
    refine r_ixLm (show y < 6 by omega) ?_
    intro other hoth
    have hoth := hother other hoth
    show S K _ H _ _ _
    dsimp only [List.set]
    repeat walk_at "k"
    refine r_catL (by rw [List.length_cons, List.length_nil]; omega) ?_
    repeat walk_at "k"
    exact fin2 (hw (by decide)) (ls_ok (all_app hr1 (allc hoth all0)) (by rw [List.length_append, List.length_cons, List.length_nil]; omega))
  have hne := of_decide_eq_false hne
  have hlt2 : at_ < rows.length := by omega
  obtain ⟨d0, hd0⟩ : ∃ d, rows[at_]? = some d := ⟨_, List.getElem?_eq_getElem hlt2⟩
  show S K _ H _ _ _
  refine s_seq (s_if ?_)
  repeat walk_at "k"
  refine r_ixL (atI_nat hd0) ?_
  repeat walk_at "k"
  rcases hat at_ d0 hd0 with ⟨s', rfl, hs'⟩ | ⟨k, rfl⟩
  · refine ⟨fun _ => ?_, fun q => (by cases q)⟩
    repeat walk_at "k"
    refine r_ixL (atI_nat hd0) ?_
    repeat walk_at "k"
    refine ⟨(b, s', so), rfl, ⟨⟨ho1, ho2, hn2, hlt⟩, hs', hso⟩, ?_⟩
    intro other hoth
    have hoth : Gd 6 304 other := hoth
    show S K _ H _ _ _
    dsimp only [List.set]
    repeat walk_at "k"
    refine r_catL (by rw [List.length_cons, List.length_nil]; omega) ?_
    repeat walk_at "k"
    rw [show (at_ : Int) + 1 = ((at_ + 1 : Nat) : Int) by omega]
    refine r_catL (by rw [List.length_append, List.length_cons, List.length_nil]; omega) ?_
    repeat walk_at "k"
    exact fin2 (hw (by decide)) (ls_ok (all_app (all_app (cut_row hr1) (allc hoth all0)) (cut_row hr1)) (by rw [List.length_append, List.length_append, List.length_cons, List.length_nil]; omega))
  · refine ⟨fun q => (by cases q), fun _ => s_next ?_⟩
    show S K _ H _ _ _
    repeat walk_at "k"
    rw [show (at_ : Int) + 1 = ((at_ + 1 : Nat) : Int) by omega]
    dsimp only [List.set]
    have ha1 := cut_row (lo := some ((at_ + 1 : Nat) : Int)) (hi := none) hr1
    generalize Dl.cutD rows (some ((at_ + 1 : Nat) : Int)) none = af at p2 ha1
    have p3 := cut_pre af 1
    have p3 : (Dl.cutD af none (some 1)).length ≤ 1 := p3
    have p4 := cut_suf af 1
    have p4 : (Dl.cutD af (some 1) none).length ≤ af.length - 1 := p4
    repeat walk_at "k"
    refine r_catL (by omega) ?_
    repeat walk_at "k"
    refine r_ixL (atI_nat hd0) ?_
    repeat walk_at "k"
    refine r_catL (by rw [List.length_append, List.length_cons, List.length_nil]; omega) ?_
    repeat walk_at "k"
    refine r_catL (by rw [List.length_append, List.length_append, List.length_cons, List.length_nil]; omega) ?_
    repeat walk_at "k"
    have hk := hr1 _ (List.mem_of_getElem? hd0)
    exact fin2 (hw (by decide)) (ls_ok (all_app (all_app (all_app (cut_row hr1) (cut_row ha1)) (allc hk all0)) (cut_row ha1)) (by rw [List.length_append, List.length_append, List.length_append, List.length_cons, List.length_nil]; omega))
end
section
variable {P : Program} {w : World} {K : PySem.W.Frag} {mg : Str → Option Value} {base : Heap}
open Rg (Gd gd_tup gd_lst gd_int gd_none gd_bool gd_str)
def farR : List Rl := ((List.range 24).map fun k => (⟨0, k, none, k + 1, none⟩ : Rl)) ++ (List.range 24).map fun k => ⟨1, k, none, k + 1, none⟩
def grB : Bk := ⟨true :: List.replicate 24 false, List.replicate 25 false, 0, farR⟩
def grL : List S4 := (List.range 625).map fun at_ => ⟨at_ / 25, at_ % 25, [], []⟩
theorem gr_fit : grB.Fit := by
  have h : ∀ r ∈ farR, r.h < 2 ∧ r.t < 25 ∧ r.sa = none := by decide +kernel
  refine ⟨⟨by show 1 ≤ 25; decide, by show 1 ≤ 25; decide, by show farR.length ≤ 90; decide, fun r hr => (h r hr).1, fun r hr => ?_⟩, fun r hr v e => ?_⟩
  · show r.t < if r.h = 1 then 25 else 25
    have := (h r hr).2.1
    split <;> exact this
  · rw [(h r hr).2.2] at e
    cases e
def grMem (s : S4) : Bool := decide (s.o < 25) && decide (s.n < 25) && s.lo.isEmpty && s.ln.isEmpty
theorem gr_mem {s : S4} : s ∈ grL ↔ grMem s = true := by
  unfold grL grMem
  rw [List.mem_map]
  constructor
  · rintro ⟨i, hi, rfl⟩
    have := List.mem_range.mp hi
    rw [decide_eq_true (show i / 25 < 25 by omega), decide_eq_true (show i % 25 < 25 by omega)]
    rfl
  · intro h
    obtain ⟨o, n, lo, ln⟩ := s
    simp only [Bool.and_eq_true, decide_eq_true_iff, List.isEmpty_iff] at h
    obtain ⟨⟨⟨h1, h2⟩, rfl⟩, rfl⟩ := h
    exact ⟨o * 25 + n, List.mem_range.mpr (by omega), by rw [show (o * 25 + n) / 25 = o by omega, show (o * 25 + n) % 25 = n by omega]⟩
theorem gr_nd : grL.Nodup := by
  unfold grL
  refine List.nodup_range.map _ (fun a b ne h => ne ?_)
  have h1 : a / 25 = b / 25 := congrArg S4.o h
  have h2 : a % 25 = b % 25 := congrArg S4.n h
  omega
theorem gr_len : grL.length = 625 := by unfold grL; rw [List.length_map, List.length_range]
theorem gr_fine {s : S4} (hs : grMem s = true) : s.Fine grB := by
  obtain ⟨o, n, lo, ln⟩ := s
  unfold grMem at hs
  simp only [Bool.and_eq_true, decide_eq_true_iff, List.isEmpty_iff] at hs
  obtain ⟨⟨⟨h1, h2⟩, rfl⟩, rfl⟩ := hs
  exact ⟨⟨h1, h2⟩, ⟨.nil, fun v hv => nomatch hv⟩, ⟨.nil, fun v hv => nomatch hv⟩⟩
theorem gr_way {s : S4} (hs : grMem s = true) {r : Rl} (hr : r ∈ grB.rs) : grMem (stepF r s) = true := by
  have h : ∀ r ∈ farR, r.t < 25 ∧ r.sa = none := by decide +kernel
  obtain ⟨ht, hsa⟩ := h r hr
  obtain ⟨o, n, lo, ln⟩ := s
  unfold grMem at hs ⊢
  simp only [Bool.and_eq_true, decide_eq_true_iff, List.isEmpty_iff] at hs ⊢
  obtain ⟨⟨⟨h1, h2⟩, rfl⟩, rfl⟩ := hs
  unfold stepF
  rw [hsa]
  split
  · exact ⟨⟨⟨h1, ht⟩, rfl⟩, rfl⟩
  · exact ⟨⟨⟨ht, h2⟩, rfl⟩, rfl⟩
theorem gr_once {s : S4} : twiceF grB s = false := by
  unfold twiceF runsF
  have h1 : runsB grB s 1 = false := by
    show (List.replicate 25 false).getD s.n false = false
    rw [List.getD_eq_getElem?_getD, List.getElem?_replicate]
    split <;> rfl
  refine decide_eq_false fun z => ?_
  rw [List.filter_cons, List.filter_cons, h1, List.filter_nil] at z
  split at z <;> cases z
theorem gr_closed : Closed grB s0 (.list (grL.map S4.D)) :=
  ⟨grL, rfl, gr_nd, fun s hs => gr_fine (gr_mem.mp hs), gr_mem.mpr rfl, clF_iff.mpr fun s hs r hr _ => gr_mem.mpr (gr_way (gr_mem.mp hs) hr)⟩
theorem gr_due : Due2 grB (.tuple [.str "never", .list (grL.map S4.D)]) := .inl ⟨_, rfl, gr_closed, fun _ _ _ _ => gr_once⟩
theorem gr_cut : ¬ Due2 grB (.tuple [.str "never", .list ((grL.map S4.D).take 624)]) := by
  have h1 : (⟨24, 23, [], []⟩ : S4) ∈ grL.take 624 := by
    refine List.mem_of_getElem? (i := 623) ?_
    rw [List.getElem?_take, if_pos (by decide)]
    unfold grL
    rw [List.getElem?_map, List.getElem?_range (by decide)]
    rfl
  have h2 : (⟨24, 24, [], []⟩ : S4) ∉ grL.take 624 := fun h => by
    obtain ⟨i, hi⟩ := List.getElem?_of_mem h
    have hl := (List.getElem?_eq_some_iff.mp hi).1
    rw [List.length_take] at hl
    rw [List.getElem?_take, if_pos (by omega)] at hi
    unfold grL at hi
    rw [List.getElem?_map, List.getElem?_range (by omega)] at hi
    have e := Option.some.inj hi
    have e1 : i / 25 = 24 := congrArg S4.o e
    have e2 : i % 25 = 24 := congrArg S4.n e
    omega
  rw [due2_never, ← List.map_take]
  rintro ⟨hc, _⟩
  obtain ⟨_, _, _, hcl⟩ := closed_l hc
  have := clF_iff.mp hcl _ h1 ⟨1, 23, none, 24, none⟩ (show _ ∈ farR from List.mem_append.mpr (.inr (List.mem_map.mpr ⟨23, List.mem_range.mpr (by decide), rfl⟩))) (by decide +kernel)
  exact h2 this
theorem cut_last (l : List PyData) : Dl.cutD l none (some (-1)) = l.take (l.length - 1) := by
  unfold Dl.cutD HT.sIx
  simp only [List.drop_zero, Nat.sub_zero]
  rw [if_pos (by decide)]
  congr 1
  omega
abbrev odd1 : List PyData := [.tuple [], .tuple [.str "on"], .tuple [.str "still"], .tuple [.str "never"], .tuple [.str "two"], .int 7, .int 0, .bool true, .str "on", .str "never", .list [], .tuple [.tuple []], .tuple [.str "on", .list [], .list [], .list []]]
def oddL : List PyData := odd1 ++ [.tuple [.list [.str "on"], .list []], .tuple [.list [.str "still"], .list [], .list []]]
theorem odd_not {d : PyData} (h : d ∈ oddL) (b : Bk) : ¬ Due2 b d := by
  unfold oddL at h
  simp only [List.mem_append, List.mem_cons, List.not_mem_nil, or_false] at h
  rintro (⟨x, e, _⟩ | ⟨x, e, _⟩)
  all_goals
    subst e
    rcases h with (h | h | h | h | h | h | h | h | h | h | h | h | h) | (h | h) <;> cases h
theorem odd_gs {d : PyData} (h : d ∈ oddL) : Gs d := by
  have k : ∀ d ∈ oddL, (PyData.canLay0 d && decide (d.depth ≤ 30) && d.showable && PyData.leavesShort 70 d && decide (d.weight ≤ 40000)) = true := by decide +kernel
  have k := k d h
  simp only [Bool.and_eq_true, decide_eq_true_iff] at k
  exact ⟨⟨k.1.1.1.1, k.1.1.1.2⟩, k.1.1.2, k.1.2, k.2⟩
theorem gr_gs {n : Nat} : Gs (.tuple [.str "never", .list ((grL.map S4.D).take n)]) := by
  have h5 : ∀ {k : Nat} {i : Nat}, i < 25 → Gd k 5 (.int (i : Nat)) := fun {k i} h => gd_int (m := 5) (by rw [Int.natAbs_natCast]; exact Nat.lt_of_lt_of_le h (by decide)) (by decide) (Nat.le_refl _)
  have ht0 : ∀ {k n : Nat}, Gd (k + 1) n (.tuple []) := fun {k n} => (gd_tup (k := k) (m := 0) (c := 0) (ds := []) all0 (Nat.le_refl _)).mono (Nat.le_refl _) (Nat.zero_le _)
  have hs : ∀ d ∈ (grL.map S4.D).take n, Gd 3 24 d := fun d hd => by
    obtain ⟨s, hs, rfl⟩ := List.mem_map.mp (List.mem_of_mem_take hd)
    have hs := gr_mem.mp hs
    obtain ⟨o, n, lo, ln⟩ := s
    unfold grMem at hs
    simp only [Bool.and_eq_true, decide_eq_true_iff, List.isEmpty_iff] at hs
    obtain ⟨⟨⟨h1, h2⟩, rfl⟩, rfl⟩ := hs
    exact (gd_t4 (k := 2) (h5 h1) (h5 h2) (ht0 (n := 5)) (ht0 (n := 5))).mono (Nat.le_refl _) (by decide)
  have hl : ((grL.map S4.D).take n).length ≤ 625 := by
    rw [List.length_take, List.length_map, gr_len]
    omega
  have h1 := gd_lst hs hl
  exact (gd_t2 (k := 4) (n1 := 5) (gd_str (by decide +kernel) (by decide +kernel) (by decide +kernel)) h1).mono (by decide) (by decide)
theorem mapIdx_rng {β : Type} (f : Nat → β) : ∀ (l : List PyData), l.mapIdx (fun i _ => f i) = (List.range l.length).map f := fun l => by
  apply List.ext_getElem?
  intro i
  rw [List.getElem?_mapIdx, List.getElem?_map]
  by_cases h : i < l.length
  · rw [List.getElem?_eq_getElem h, List.getElem?_range h]
    rfl
  · rw [List.getElem?_eq_none (by omega), List.getElem?_eq_none (by rw [List.length_range]; omega)]
    rfl
theorem rng_lc (n : Nat) (f : Nat → PyData) : (((rngL 0 n).mapIdx fun i _ => some (f i)).filterMap id) = (List.range n).map f := by
  rw [mapIdx_rng, rngL_len]
  generalize List.range n = l
  induction l with
  | nil => rfl
  | cons a l ih =>
    rw [List.map_cons, List.map_cons, List.filterMap_cons]
    exact congrArg _ ih
theorem far_is : ((List.range 24).map fun k : Nat => PyData.tuple [.int 0, .int (k : Nat), .none, .int ((k : Nat) + 1), .none]) ++ ((List.range 24).map fun k : Nat => PyData.tuple [.int 1, .int (k : Nat), .none, .int ((k : Nat) + 1), .none]) = rlsD farR := by
  unfold rlsD farR
  rw [List.map_append, List.map_map, List.map_map]
  rfl
theorem great_is : PyData.tuple [.tuple ([PyData.bool true] ++ (List.replicate 24 [PyData.bool false]).flatten), .tuple (List.replicate 25 [PyData.bool false]).flatten, .int 0, .tuple (rlsD farR)] = grB.D := by
  have e1 : [PyData.bool true] ++ (List.replicate 24 [PyData.bool false]).flatten = blsD (true :: List.replicate 24 false) := rfl
  have e2 : (List.replicate 25 [PyData.bool false]).flatten = blsD (List.replicate 25 false) := rfl
  rw [e1, e2]
  rfl
theorem states_is : ((List.range 625).map fun i : Nat => PyData.tuple [.int ((i / 25 : Nat) : Int), .int ((i % 25 : Nat) : Int), .tuple [], .tuple []]) = grL.map S4.D := by
  unfold grL
  rw [List.map_map]
  rfl
structure OdA where
  b : Bk
  far : Bool
abbrev spOdR (K : PySem.W.Frag) (ts : List Addr) : Sp := SpX (α := OdA) K ts (fun a => a.b.Fit ∧ a.b.lt ≤ 100) (fun a => [a.b.D, .bool a.far]) (fun _ d => d = .bool true)
set_option maxHeartbeats 8000000 in
theorem ok_law_odd_right (T : Tx K mg base) : FnOk P w K mg base CX0 9 T.f_law_odd_right T.d_law_odd_right ["book", "far"] (spOdR K T.ts) := by
  refine fnX T.F_law_odd_right sc_law_odd_right (fun _ _ => rfl) (fun cdv A outer s H E hr => ⟨_, (pss_cons (ps_set (i := 2) sc_law_odd_right.nd rfl (.inl rfl) (pe_lst (pa_cons (pe_tup pa_nil) (pa_cons (pe_tup (pa_cons pe_str pa_nil)) (pa_cons (pe_tup (pa_cons pe_str pa_nil)) (pa_cons (pe_tup (pa_cons pe_str pa_nil)) (pa_cons (pe_tup (pa_cons pe_str pa_nil)) (pa_cons pe_int (pa_cons pe_int (pa_cons pe_bl (pa_cons pe_str (pa_cons pe_str (pa_cons (pe_lst pa_nil) (pa_cons (pe_tup (pa_cons (pe_tup pa_nil) pa_nil)) (pa_cons (pe_tup (pa_cons pe_str (pa_cons (pe_lst pa_nil) (pa_cons (pe_lst pa_nil) (pa_cons (pe_lst pa_nil) pa_nil))))) pa_nil)))))))))))))))
      (pss_cons (ps_for PassesOwn.never rfl (kx_piL K rfl (pe_op (kx_catL (K := K) rfl) (pv 2) (pe_lst (pa_cons (pe_tup (pa_cons (pe_lst (pa_cons pe_str pa_nil)) (pa_cons (pe_lst pa_nil) pa_nil))) (pa_cons (pe_tup (pa_cons (pe_lst (pa_cons pe_str pa_nil)) (pa_cons (pe_lst pa_nil) (pa_cons (pe_lst pa_nil) pa_nil)))) pa_nil))))) (pg_name (i := 3) sc_law_odd_right.nd rfl (.inl rfl))
      (pss_one (ps_if (pt_cmpR op_notBl (pe_call (ok_is_two_run T) (hr.mono (by decide)) (by rfl) T.g_is_two_run T.F_is_two_run.kp T.b_is_two_run .nil pass0 (pa_cons (pv 0) (pa_cons (pv 3) pa_nil))) pe_bl (nomark _))
      (pss_one (ps_ret pe_bl))
      pss_nil)))
      (pss_cons (ps_if (pt_not (pt_val (pv 1)))
      (pss_one (ps_ret pe_bl))
      pss_nil)
      (pss_cons (ps_set (i := 4) sc_law_odd_right.nd rfl (.inl rfl) (pe_op (kx_catL (K := K) rfl) (pe_lc (own := [("k", 8)]) (g := gName 8) (tt := tYes) rfl sc_law_odd_right.nd (pi_range1 rfl T.m_range (pa_cons pe_int pa_nil)) (blkOk_by (own := [("k", 8)]) (N := ["book", "far", "odd", "thing", "rules", "great", "states", "at", "k"]) (sc := defScope s_law_odd_right) (by decide +kernel)) (fun _ _ _ _ _ => (pg_name (i := 8) sc_law_odd_right.nd rfl (.inl rfl))) (fun _ _ _ _ _ => pts_nil) (fun _ _ _ _ _ => (pe_tup (pa_cons pe_int (pa_cons (pv 8) (pa_cons pe_non (pa_cons (pe_op op_add (pv 8) pe_int) (pa_cons pe_non pa_nil)))))))) (pe_lc (own := [("k", 8)]) (g := gName 8) (tt := tYes) rfl sc_law_odd_right.nd (pi_range1 rfl T.m_range (pa_cons pe_int pa_nil)) (blkOk_by (own := [("k", 8)]) (N := ["book", "far", "odd", "thing", "rules", "great", "states", "at", "k"]) (sc := defScope s_law_odd_right) (by decide +kernel)) (fun _ _ _ _ _ => (pg_name (i := 8) sc_law_odd_right.nd rfl (.inl rfl))) (fun _ _ _ _ _ => pts_nil) (fun _ _ _ _ _ => (pe_tup (pa_cons pe_int (pa_cons (pv 8) (pa_cons pe_non (pa_cons (pe_op op_add (pv 8) pe_int) (pa_cons pe_non pa_nil))))))))))
      (pss_cons (ps_set (i := 5) sc_law_odd_right.nd rfl (.inl rfl) (pe_tup (pa_cons (pe_op (kx_catT K rfl) (pe_tup (pa_cons pe_bl pa_nil)) (pe_op (kx_repA (K := K) rfl) (pe_tup (pa_cons pe_bl pa_nil)) pe_int)) (pa_cons (pe_op (kx_repA (K := K) rfl) (pe_tup (pa_cons pe_bl pa_nil)) pe_int) (pa_cons pe_int (pa_cons (pe_callTy (kx_tuple K rfl) (by rfl) T.m_tuple (by decide +kernel) (pa_cons (pv 4) pa_nil)) pa_nil))))))
      (pss_cons (ps_setLc (i := 6) (own := [("at", 7)]) (g := gName 7) (tt := tYes) rfl sc_law_odd_right.nd rfl rfl (sw_true rfl rfl rfl (by decide +kernel)) (pi_range1 rfl T.m_range (pa_cons pe_int pa_nil)) (blkOk_by (own := [("at", 7)]) (N := ["book", "far", "odd", "thing", "rules", "great", "states", "at", "k"]) (sc := defScope s_law_odd_right) (by decide +kernel)) (fun _ _ _ _ _ => (pg_name (i := 7) sc_law_odd_right.nd rfl (.inl rfl))) (fun _ _ _ _ _ => pts_nil) (fun _ _ _ _ _ => (pe_tup (pa_cons (pe_op op_fdivW (pv 7) pe_int) (pa_cons (pe_op op_mod (pv 7) pe_int) (pa_cons (pe_tup pa_nil) (pa_cons (pe_tup pa_nil) pa_nil)))))))
      (pss_cons (ps_if (pt_cmpR op_notBl (pe_call (ok_is_two_run T) (hr.mono (by decide)) (by rfl) T.g_is_two_run T.F_is_two_run.kp T.b_is_two_run .nil pass0 (pa_cons (pv 5) (pa_cons (pe_tup (pa_cons pe_str (pa_cons (pv 6) pa_nil))) pa_nil))) pe_bl (nomark _))
      (pss_one (ps_ret pe_bl))
      pss_nil)
      (pss_one (ps_ret (pe_cmpR op_isBl (pe_call (ok_is_two_run T) (hr.mono (by decide)) (by rfl) T.g_is_two_run T.F_is_two_run.kp T.b_is_two_run .nil pass0 (pa_cons (pv 5) (pa_cons (pe_tup (pa_cons pe_str (pa_cons (pe_slice (kx_slL K rfl) (pv 6) po_none (po_some (pe_un un_neg pe_int))) pa_nil))) pa_nil))) pe_bl (nomark _))))))))))), fun a ha => ?_⟩)
  obtain ⟨b, far⟩ := a
  obtain ⟨hfit, hlt⟩ := ha
  dsimp only at hfit hlt
  try simp only [nox_K, blk_K, cx_K]
  show S K ⟨none, T.ts⟩ H _ [some (.d b.D), some (.d (.bool far)), none, none, none, none, none, none, none] _
  refine s_cut (fun L => Sub [some (.d b.D), some (.d (.bool far)), some (.d (.list odd1)), none, none, none, none, none, none] L) (s_asg ?_) fun L' sb => S.sub ?_ sb
  · repeat walk_at "k"
    exact Sub.refl _
  refine s_cut (fun L => Sub [some (.d b.D), some (.d (.bool far)), none, none, none, none, none, none, none] L) (s_forI (it_list ?_)) fun L' sb => S.sub ?_ sb
  · repeat walk_at "k"
    refine r_catL (Nat.le_of_ble_eq_true rfl) ?_
    refine ⟨oddL, rfl, fun i L => L = [some (.d b.D), some (.d (.bool far)), none, none, none, none, none, none, none], ⟨_, by repeat (first | exact Sub.nil | apply Sub.keep | apply Sub.drop), rfl⟩, fun i d L' hd e => ?_, fun L' e L4 s4 => by subst e; exact s4⟩
    subst e
    have hm := List.mem_of_getElem? hd
    refine g_name ?_
    dsimp only [List.set]
    repeat walk_at "k"
    refine ⟨⟨b, d⟩, rfl, ⟨hfit, hlt, odd_gs hm⟩, ?_⟩
    rintro d1 rfl
    dsimp only
    rw [DB_f (odd_not hm b)]
    repeat walk_at "k"
    refine ⟨_, ?_, rfl⟩
    repeat (first | exact Sub.nil | apply Sub.keep | apply Sub.drop)
  refine s_seq (s_if (et_not (et_B (e_var rfl ⟨far, rfl, fun z => ?_, fun z => s_next ?_⟩))))
  · repeat walk_at "k"
    rfl
  refine s_cut (fun L => Sub [some (.d b.D), none, none, none, some (.d (.list (rlsD farR))), none, none, none, none] L) (s_asg ?_) fun L' sb => S.sub ?_ sb
  · have one : ∀ h : Int, (((rngL 0 (Int.toNat 24)).mapIdx fun i _ => some (PyData.tuple [.int h, .int (i : Nat), .none, .int ((i : Nat) + 1), .none])).filterMap id) = (List.range 24).map fun k => PyData.tuple [.int h, .int (k : Nat), .none, .int ((k : Nat) + 1), .none] := fun h => rng_lc 24 _
    refine e_op (e_ofL (el_lcF (fun i _ => some (.tuple [.int 0, .int (i : Nat), .none, .int ((i : Nat) + 1), .none])) (it_rng ?_)))
    repeat walk_at "k"
    refine ⟨by decide, by decide, by decide, fun i d hd => ?_, ?_⟩
    · obtain ⟨hi, rfl⟩ := rngL_get hd
      refine gw_name (by decide) ?_
      dsimp only [List.map, wipeL, List.set]
      repeat walk_at "k"
      rw [Int.zero_add]
    rw [one]
    refine e_ofL (el_lcF (fun i _ => some (.tuple [.int 1, .int (i : Nat), .none, .int ((i : Nat) + 1), .none])) (it_rng ?_))
    repeat walk_at "k"
    refine ⟨by decide, by decide, by decide, fun i d hd => ?_, ?_⟩
    · obtain ⟨hi, rfl⟩ := rngL_get hd
      refine gw_name (by decide) ?_
      dsimp only [List.map, wipeL, List.set]
      repeat walk_at "k"
      rw [Int.zero_add]
    rw [one]
    refine r_catL (by rw [List.length_map, List.length_map, List.length_range]; decide) ?_
    rw [far_is]
    dsimp only [List.set]
    repeat (first | exact Sub.nil | apply Sub.keep | apply Sub.drop)
  refine s_cut (fun L => Sub [none, none, none, none, none, some (.d grB.D), none, none, none] L) (s_asg ?_) fun L' sb => S.sub ?_ sb
  · repeat walk_at "k"
    refine r_repA (k := 24) (by simp) (by decide) (by decide) (by decide) ?_
    refine r_catT (Nat.le_of_ble_eq_true rfl) ?_
    repeat walk_at "k"
    refine r_repA (k := 25) (by simp) (by decide) (by decide) (by decide) ?_
    repeat walk_at "k"
    dsimp only [List.set]
    rw [great_is]
    repeat (first | exact Sub.nil | apply Sub.keep | apply Sub.drop)
  refine s_cut (fun L => Sub [none, none, none, none, none, some (.d grB.D), some (.d (.list (grL.map S4.D))), none, none] L) (s_asg (e_ofL (el_lcF (fun i _ => some (.tuple [.int ((i / 25 : Nat) : Int), .int ((i % 25 : Nat) : Int), .tuple [], .tuple []])) (it_rng ?_)))) fun L' sb => S.sub ?_ sb
  · repeat walk_at "k"
    refine ⟨by decide, by decide, by decide, fun i d hd => ?_, ?_⟩
    · obtain ⟨hi, rfl⟩ := rngL_get hd
      refine gw_name (by decide) ?_
      dsimp only [List.map, wipeL, List.set]
      repeat walk_at "k"
      refine r_fdivW (by first | assumption | exact wide_div (b := 200) (by decide) (by decide) (by decide) (by decide)) ?_
      repeat walk_at "k"
      refine r_mod (by decide) ?_
      repeat walk_at "k"
      rw [show ((0 : Int) + (i : Nat)) / 25 = ((i / 25 : Nat) : Int) by omega, show ((0 : Int) + (i : Nat)) % 25 = ((i % 25 : Nat) : Int) by omega]
    · rw [show (((rngL 0 (Int.toNat 625)).mapIdx fun i _ => some (PyData.tuple [.int ((i / 25 : Nat) : Int), .int ((i % 25 : Nat) : Int), .tuple [], .tuple []])).filterMap id) = grL.map S4.D from (rng_lc 625 _).trans states_is]
      dsimp only [List.set]
      repeat (first | exact Sub.nil | apply Sub.keep | apply Sub.drop)
  have hl : (grL.map S4.D).length = 625 := by rw [List.length_map]; exact gr_len
  refine s_seq (s_if ?_)
  repeat walk_at "k"
  refine ⟨⟨grB, .tuple [.str "never", .list (grL.map S4.D)]⟩, rfl, ⟨gr_fit, by show 0 ≤ 100; decide, by
    have := gr_gs (n := 625)
    rw [List.take_of_length_le (by rw [hl]; exact Nat.le_refl _)] at this
    exact this⟩, ?_⟩
  rintro d rfl
  dsimp only
  rw [DB_t gr_due]
  repeat walk_at "k"
  rw [cut_last, hl]
  refine ⟨⟨grB, .tuple [.str "never", .list ((grL.map S4.D).take (625 - 1))]⟩, rfl, ⟨gr_fit, by show 0 ≤ 100; decide, gr_gs⟩, ?_⟩
  rintro d rfl
  dsimp only
  rw [DB_f gr_cut]
  repeat walk_at "k"
  refine r_isBl ?_
  rfl
end
section
variable {P : Program} {w : World} {K : PySem.W.Frag} {mg : Str → Option Value} {base : Heap}
structure GoA where
  b : Bk
  l : List S4
structure GoA.Ok (a : GoA) : Prop where
  fit : a.b.Fit
  lt : a.b.lt ≤ 100
  fine : ∀ s ∈ a.l, s.Fine a.b
  ne : a.l ≠ []
  len : a.l.length ≤ 100
abbrev spGo (K : PySem.W.Frag) (ts : List Addr) : Sp := SpX (α := GoA) K ts GoA.Ok (fun a => [a.b.D, .list (a.l.map S4.D), .int 120]) (fun a d => ∃ l : List S4, d = .list (l.map S4.D) ∧ l ≠ [] ∧ l.length ≤ 120 ∧ ∀ s ∈ l, s.Fine a.b)
abbrev LGo (w : World) (b : Bk) (st : List S4) (l : List S4) (x6 : Option AV) : Lv := [some (.d b.D), some (.d (.list (st.map S4.D))), some (.d (.int 120)), some (.own (.lst (l.map S4.D))), some (.own (.dN w (knownL l))), none, x6, none, none]
structure GoS (b : Bk) (l : List S4) : Prop where
  nd : l.Nodup
  fine : ∀ s ∈ l, s.Fine b
theorem GoS.put {b : Bk} {l : List S4} {s : S4} (h : GoS b l) (hn : s ∉ l) (hs : s.Fine b) : GoS b (l ++ [s]) := by
  refine ⟨List.nodup_append.mpr ⟨h.nd, List.nodup_cons.mpr ⟨List.not_mem_nil, List.nodup_nil⟩, fun x hx y hy q => ?_⟩, fun t ht => ?_⟩
  · rw [List.mem_singleton.mp hy] at q
    exact hn (q ▸ hx)
  · rcases List.mem_append.mp ht with ht | ht
    · exact h.fine t ht
    · rw [List.mem_singleton.mp ht]; exact hs
theorem sts_snoc (l : List S4) (s : S4) : l.map S4.D ++ [s.D] = (l ++ [s]).map S4.D := by rw [List.map_append]; rfl
set_option maxHeartbeats 16000000 in
theorem ok_law_gone_on (T : Tx K mg base) : FnOk P w K mg base CX0 2 T.f_law_gone_on T.d_law_gone_on ["book", "starts", "most"] (spGo K T.ts) := by
  refine fnX T.F_law_gone_on sc_law_gone_on (fun _ _ => rfl) (fun cdv A outer s H E hr => ⟨_, (pss_cons (ps_set (i := 3) sc_law_gone_on.nd rfl (.inl rfl) (pe_lst pa_nil))
      (pss_cons (ps_set (i := 4) sc_law_gone_on.nd rfl (.inl rfl) (_root_.Gn.pe_new rfl))
      (pss_cons (ps_for PassesOwn.never rfl (kx_piL K rfl (pv 1)) (pg_name (i := 5) sc_law_gone_on.nd rfl (.inl rfl))
      (pss_one (ps_if (pt_cmp (_root_.Gn.pc_notin rfl rfl (hu9_of hr) (pv 5) (pv 4)))
      (pss_cons (_root_.Gn.ps_put rfl rfl (hu9_of hr) (pv 4) (pv 5) pe_bl rfl)
      (pss_one (ps_expr (pe_bm PySem.F.plainAttrs_list PySem.F.slot_list_append PySem.F.type_list_append mt_append (pv 3) (pa_cons (pv 5) pa_nil)))))
      pss_nil)))
      (pss_cons (ps_set (i := 6) sc_law_gone_on.nd rfl (.inl rfl) pe_int)
      (pss_cons (ps_while PassesOwn.never (PW.pt (pw_and (pt_cmpR op_lt (pv 6) (pe_callB (kx_len K rfl) (by rfl) T.m_len PySem.boot_len (pa_cons (pv 3) pa_nil)) (nomark _)) (pw_and1 (pt_cmpR op_le (pe_callB (kx_len K rfl) (by rfl) T.m_len PySem.boot_len (pa_cons (pv 3) pa_nil)) (pv 2) (nomark _)))))
      (pss_cons (ps_for PassesOwn.never rfl (kx_piT K rfl (pe_ix (kx_ixT K rfl) (pv 0) pe_int (fun _ _ => rfl))) (pg_name (i := 7) sc_law_gone_on.nd rfl (.inl rfl))
      (pss_one (ps_if (pt_val (pe_call (ok_law_can T) (hr.mono (by decide)) (by rfl) T.g_law_can T.F_law_can.kp T.b_law_can .nil pass0 (pa_cons (pe_ix (kx_ixL K rfl) (pv 3) (pv 6) (fun _ _ => rfl)) (pa_cons (pv 7) pa_nil))))
      (pss_cons (ps_set (i := 8) sc_law_gone_on.nd rfl (.inl rfl) (pe_call (ok_law_comes T) (hr.mono (by decide)) (by rfl) T.g_law_comes T.F_law_comes.kp T.b_law_comes .nil pass0 (pa_cons (pe_ix (kx_ixL K rfl) (pv 3) (pv 6) (fun _ _ => rfl)) (pa_cons (pv 7) pa_nil))))
      (pss_one (ps_if (pt_cmp (_root_.Gn.pc_notin rfl rfl (hu9_of hr) (pv 8) (pv 4)))
      (pss_cons (_root_.Gn.ps_put rfl rfl (hu9_of hr) (pv 4) (pv 8) pe_bl rfl)
      (pss_one (ps_expr (pe_bm PySem.F.plainAttrs_list PySem.F.slot_list_append PySem.F.type_list_append mt_append (pv 3) (pa_cons (pv 8) pa_nil)))))
      pss_nil)))
      pss_nil)))
      (pss_one (ps_set (i := 6) sc_law_gone_on.nd rfl (.inl rfl) (pe_op op_add (pv 6) pe_int)))))
      (pss_cons (ps_if (pt_cmpR op_gt (pe_callB (kx_len K rfl) (by rfl) T.m_len PySem.boot_len (pa_cons (pv 3) pa_nil)) (pv 2) (nomark _))
      (pss_one (ps_ret (pe_callTy (kx_list K rfl) (by rfl) T.m_list (by decide +kernel) (pa_cons (pv 1) pa_nil))))
      pss_nil)
      (pss_one (ps_ret (pv 3))))))))), fun a ha => ?_⟩)
  obtain ⟨b, st⟩ := a
  obtain ⟨hfit, hlt, hfi, hne, hlen⟩ := ha
  dsimp only at hfit hlt hfi hne hlen
  try simp only [nox_K, blk_K, cx_K]
  have hg := hfit.g
  have hr2 := hg.r2
  show S K ⟨none, T.ts⟩ H _ [some (.d b.D), some (.d (.list (st.map S4.D))), some (.d (.int 120)), none, none, none, none, none, none] { nx := fun _ => ∃ l : List S4, PyData.none = .list (l.map S4.D) ∧ l ≠ [] ∧ l.length ≤ 120 ∧ ∀ s ∈ l, s.Fine b, rt := fun d => ∃ l : List S4, d = .list (l.map S4.D) ∧ l ≠ [] ∧ l.length ≤ 120 ∧ ∀ s ∈ l, s.Fine b }
  refine s_seq (s_ownNil ?_)
  dsimp only [List.set]
  refine s_seq (s_nnew ?_)
  dsimp only [List.set]
  have put : ∀ {l : List S4} {s : S4} {x5 x7 : Option AV} {D : Dn}, True := fun {_ _ _ _ _} => trivial
  refine s_cut (fun L => ∃ l, GoS b l ∧ l ≠ [] ∧ l.length ≤ 100 ∧ Sub (LGo w b st l none) L) (s_forI (it_list (e_var rfl ⟨_, rfl, fun i L => ∃ l, GoS b l ∧ (i ≠ 0 → l ≠ []) ∧ l.length ≤ i ∧ L = LGo w b st l none, ⟨_, Sub.refl _, [], ⟨List.nodup_nil, fun _ h => (nomatch h)⟩, fun h => absurd rfl h, Nat.le_refl _, rfl⟩, fun i d L' hd ⟨l, h1, h2, h3, e⟩ => ?_, fun L' ⟨l, h1, h2, h3, e⟩ L4 s4 => ?_⟩))) fun L' ⟨l, h1, h2, h3, sb⟩ => S.sub ?_ sb
  · subst e
    obtain ⟨s, hs, rfl⟩ := st_at hd
    have hsm := List.mem_of_getElem? hs
    have hil := (List.getElem?_eq_some_iff.mp hs).1
    refine g_name ?_
    dsimp only [List.set]
    refine s_if (et_test (e_nin (.inl rfl) (e_var rfl ⟨_, s4_nk s, ?_⟩)))
    rw [known_val]
    by_cases hm : s ∈ l
    · rw [decide_eq_true hm]
      refine ⟨_, rfl, fun z => (by cases z), fun _ => s_next ?_⟩
      exact ⟨LGo w b st l none, by repeat (first | exact Sub.nil | apply Sub.keep | apply Sub.drop), l, h1, (fun _ z => by rw [z] at hm; cases hm), by omega, rfl⟩
    · rw [decide_eq_false hm]
      refine ⟨_, rfl, fun _ => ?_, fun z => (by cases z)⟩
      refine s_seq (s_nput rfl (by rw [known_len]; omega) (e_bl (e_var rfl ⟨_, s4_nk s, ?_⟩)))
      rw [known_put hm]
      dsimp only [List.set]
      refine s_appOwn rfl (by rw [List.length_map]; omega) ?_
      repeat walk_at "k"
      rw [sts_snoc]
      refine ⟨LGo w b st (l ++ [s]) none, ?_, l ++ [s], h1.put hm (hfi s hsm), fun _ z => ?_, ?_, rfl⟩
      · dsimp only [List.set]
        repeat (first | exact Sub.nil | apply Sub.keep | apply Sub.drop)
      · have := congrArg List.length z
        rw [List.length_append] at this
        cases this
      · rw [List.length_append]
        show l.length + 1 ≤ i + 1
        omega
  · subst e
    rw [List.length_map] at h2 h3
    have : st.length ≠ 0 := fun z => hne (List.eq_nil_of_length_eq_zero z)
    exact ⟨l, h1, h2 this, by omega, s4⟩
  refine s_seq (s_asg (e_int ?_))
  dsimp only [List.set]
  refine s_cut (fun L => ∃ l k, GoS b l ∧ l ≠ [] ∧ Sub (LGo w b st l (some (.d (.int (k : Nat))))) L) (s_while (fun m L => ∃ (l : List S4) (k : Nat), GoS b l ∧ l ≠ [] ∧ l.length ≤ 230 ∧ k ≤ l.length ∧ Sub (LGo w b st l (some (.d (.int (k : Nat))))) L ∧ m = 1000 - k) ⟨_, l, 0, h1, h2, by omega, Nat.zero_le _, Sub.refl _, rfl⟩ fun m L' ⟨l, k, h1, h2, h3, h4, sb, hm⟩ => et_sub ?_ sb) fun L' ⟨l, k, h1, h2, sb⟩ => S.sub ?_ sb
  · refine et_and ?_
    repeat walk_at "k"
    rw [List.length_map]
    refine ⟨fun hb => ?_, fun hb => ?_⟩
    · have hb := of_decide_eq_true hb
      repeat walk_at "k"
      rw [List.length_map]
      refine ⟨fun hb2 => ?_, fun hb2 => ?_⟩
      · have hb2 := of_decide_eq_true hb2
        have hkl : k < l.length := by omega
        obtain ⟨s, hs⟩ : ∃ s, l[k]? = some s := ⟨_, List.getElem?_eq_getElem hkl⟩
        have hsf := h1.fine s (List.mem_of_getElem? hs)
        have hs1 := rise_len hsf.lo
        have hs2 := rise_len hsf.ln
        refine S.sub ?_ sb
        refine s_seq (s_forI (it_tup (e_op (e_var rfl (e_int (r_ixT (show atI _ _ = some (PyData.tuple (rlsD b.rs)) from rfl) ⟨_, rfl, fun i L => ∃ l2, GoS b l2 ∧ (∃ t, l2 = l ++ t) ∧ l2.length ≤ l.length + i ∧ L = LGo w b st l2 (some (.d (.int (k : Nat)))), ⟨_, Sub.refl _, l, h1, ⟨[], (List.append_nil l).symm⟩, Nat.le_refl _, rfl⟩, fun i d L' hd ⟨l2, g1, ⟨t, g2⟩, g3, e⟩ => ?_, fun L' ⟨l2, g1, ⟨t, g2⟩, g3, e⟩ L4 s4 => ?_⟩))))))
        · subst e
          unfold rlsD at hd
          rw [List.getElem?_map] at hd
          obtain ⟨r, hr0, rfl⟩ := Option.map_eq_some_iff.mp hd
          have hrm := List.mem_of_getElem? hr0
          have hh := hg.rh r hrm
          have hil := (List.getElem?_eq_some_iff.mp hr0).1
          have hat : (l2.map S4.D)[k]? = some s.D := by
            rw [List.getElem?_map, g2, List.getElem?_append_left hkl, hs]
            rfl
          refine g_name ?_
          dsimp only [List.set]
          refine s_if (et_B (e_callX (ea_cons (e_look ?_))))
          dsimp only [lookL, lookA, List.map]
          refine e_op (e_var rfl (e_var rfl (r_ixL (atI_nat (j := k) hat) ⟨noL_S4 s, ?_⟩)))
          repeat walk_at "k"
          refine ⟨⟨r, s⟩, rfl, hh, ?_⟩
          rintro d rfl
          have stay : Wk (fun i L => ∃ l2, GoS b l2 ∧ (∃ t, l2 = l ++ t) ∧ l2.length ≤ l.length + i ∧ L = LGo w b st l2 (some (.d (.int (k : Nat))))) (i + 1) (LGo w b st l2 (some (.d (.int (k : Nat))))) := ⟨_, Sub.refl _, l2, g1, ⟨t, g2⟩, by omega, rfl⟩
          refine ⟨_, rfl, fun hc => ?_, fun hc => s_next ?_⟩
          · refine s_seq (s_asg (e_callX (ea_cons (e_look ?_))))
            dsimp only [lookL, lookA, List.map]
            refine e_op (e_var rfl (e_var rfl (r_ixL (atI_nat (j := k) hat) ⟨noL_S4 s, ?_⟩)))
            repeat walk_at "k"
            refine ⟨⟨r, s⟩, rfl, ⟨hh, by show s.lo.length ≤ 50000; omega, by show s.ln.length ≤ 50000; omega⟩, ?_⟩
            rintro d rfl
            dsimp only [List.set]
            refine s_if (et_test (e_nin (.inl rfl) (e_var rfl ⟨_, s4_nk _, ?_⟩)))
            rw [known_val]
            by_cases hm2 : stepF r s ∈ l2
            · rw [decide_eq_true hm2]
              refine ⟨_, rfl, fun z => (by cases z), fun _ => s_next ?_⟩
              exact ⟨LGo w b st l2 (some (.d (.int (k : Nat)))), by repeat (first | exact Sub.nil | apply Sub.keep | apply Sub.drop), l2, g1, ⟨t, g2⟩, by omega, rfl⟩
            · rw [decide_eq_false hm2]
              refine ⟨_, rfl, fun _ => ?_, fun z => (by cases z)⟩
              refine s_seq (s_nput rfl (by rw [known_len]; omega) (e_bl (e_var rfl ⟨_, s4_nk _, ?_⟩)))
              rw [known_put hm2]
              dsimp only [List.set]
              refine s_appOwn rfl (by rw [List.length_map]; omega) ?_
              repeat walk_at "k"
              rw [sts_snoc]
              refine ⟨LGo w b st (l2 ++ [stepF r s]) (some (.d (.int (k : Nat)))), ?_, l2 ++ [stepF r s], g1.put hm2 (step_fine hfit hrm hsf), ⟨t ++ [stepF r s], by rw [g2, List.append_assoc]⟩, ?_, rfl⟩
              · dsimp only [List.set]
                repeat (first | exact Sub.nil | apply Sub.keep | apply Sub.drop)
              · rw [List.length_append]
                show l2.length + 1 ≤ _
                omega
          · exact ⟨LGo w b st l2 (some (.d (.int (k : Nat)))), by repeat (first | exact Sub.nil | apply Sub.keep | apply Sub.drop), l2, g1, ⟨t, g2⟩, by omega, rfl⟩
        · subst e
          rw [rlsD_len] at g3
          refine S.sub ?_ s4
          have hl2 : k < l2.length := by rw [g2, List.length_append]; omega
          refine s_asg ?_
          repeat walk_at "k"
          refine ⟨1000 - (k + 1), by omega, l2, k + 1, g1, (fun z => by rw [z] at hl2; cases hl2), by omega, by omega, ?_, rfl⟩
          exact Sub.refl _
      · exact ⟨l, k, h1, h2, sb⟩
    · exact ⟨fun z => (by cases z), fun _ => ⟨l, k, h1, h2, sb⟩⟩
  refine s_seq (s_if ?_)
  repeat walk_at "k"
  rw [List.length_map]
  refine ⟨fun hb => ?_, fun hb => ?_⟩
  · repeat walk_at "k"
    exact ⟨hne, by omega, hfi⟩
  · have hb := of_decide_eq_false hb
    refine s_next ?_
    show S K _ H _ _ _
    refine s_retL (e_var rfl ⟨l, rfl, h2, by omega, h1.fine⟩)
end
section
variable {P : Program} {w : World} {K : PySem.W.Frag} {mg : Str → Option Value} {base : Heap}
abbrev spLs (K : PySem.W.Frag) (ts : List Addr) : Sp := SpX (α := Bk × Nat) K ts (fun a => a.1.lt ≤ 100) (fun a => [a.1.D, .int (a.2 : Nat)]) (fun a d => ∃ l, d = .tuple (intsL l) ∧ Rise a.1.lt l)
set_option maxHeartbeats 8000000 in
theorem ok_law_letters (T : Tx K mg base) : FnOk P w K mg base CX0 2 T.f_law_letters T.d_law_letters ["book", "one"] (spLs K T.ts) := by
  refine fnX T.F_law_letters sc_law_letters (fun _ _ => rfl) (fun cdv A outer s H E hr => ⟨_, (pss_one (ps_ret (pe_callTy (kx_tuple K rfl) (by rfl) T.m_tuple (by decide +kernel) (pa_cons (pe_lc (own := [("k", 2)]) (g := gName 2) rfl sc_law_letters.nd (pi_range1 rfl T.m_range (pa_cons (pe_ix (kx_ixT K rfl) (pv 0) pe_int (fun _ _ => rfl)) pa_nil)) (blkOk_by (own := [("k", 2)]) (N := ["book", "one", "k"]) (sc := defScope s_law_letters) (by decide +kernel)) (fun _ _ _ _ _ => (pg_name (i := 2) sc_law_letters.nd rfl (.inl rfl))) (fun _ _ _ _ _ => (pts_one (pt_cmpR op_eq (pe_op op_mod (pe_call (ok_law_stir T) (hr.mono (by decide)) (by rfl) T.g_law_stir T.F_law_stir.kp T.b_law_stir .nil pass0 (pa_cons (pv 1) (pa_cons (pv 2) pa_nil))) pe_int) pe_int (nomark _)))) (fun _ _ _ _ _ => (pv 2))) pa_nil)))), fun a ha => ?_⟩)
  obtain ⟨b, one⟩ := a
  have ha : b.lt ≤ 100 := ha
  try simp only [nox_K, blk_K, cx_K]
  show S K ⟨none, T.ts⟩ H _ [some (.d b.D), some (.d (.int (one : Nat))), none] _
  dsimp only [Bk.D]
  repeat walk_at "k"
  refine e_lcI (it_rng ?_)
  repeat walk_at "k"
  refine ⟨by omega, by omega, by rw [rngL_len]; omega, fun i acc => ∃ l : List Int, acc = intsL l ∧ l.Pairwise (· < ·) ∧ ∀ v ∈ l, 0 ≤ v ∧ v < (i : Int), ⟨[], rfl, .nil, fun v hv => (nomatch hv)⟩, fun i d acc hd ⟨l, e1, e2, e3⟩ => ?_, fun acc ⟨l, e1, e2, e3⟩ => ?_⟩
  · subst e1
    obtain ⟨hi, rfl⟩ := rngL_get hd
    refine gw_name (by decide) ?_
    dsimp only [List.map, wipeL, List.set]
    rw [show (0 : Int) + (i : Nat) = (i : Nat) by omega]
    repeat walk_at "k"
    refine ⟨⟨(one : Nat), i⟩, rfl, by show i ≤ 1000; omega, ?_⟩
    rintro d ⟨q, rfl⟩
    repeat walk_at "k"
    refine r_modAny (by decide) fun z _ _ => ?_
    repeat walk_at "k"
    refine ⟨fun _ => ?_, fun _ => ?_⟩
    · repeat walk_at "k"
      refine ⟨l ++ [(i : Int)], by unfold intsL; rw [List.map_append]; rfl, List.pairwise_append.mpr ⟨e2, List.pairwise_singleton _ _, fun a ha c hc => by rw [List.mem_singleton.mp hc]; exact (e3 a ha).2⟩, fun v hv => ?_⟩
      rcases List.mem_append.mp hv with hv | hv
      · have := e3 v hv
        omega
      · rw [List.mem_singleton.mp hv]
        omega
    · exact ⟨l, rfl, e2, fun v hv => by have := e3 v hv; omega⟩
  · subst e1
    rw [rngL_len] at e3
    repeat walk_at "k"
    exact ⟨e2, fun v hv => by have := e3 v hv; omega⟩
structure StA6 where
  b : Bk
  l : List S4
  so : List Nat
structure StA6.Ok (a : StA6) : Prop where
  fit : a.b.Fit
  lt : a.b.lt ≤ 20
  fine : ∀ s ∈ a.l, s.Fine a.b
  ne : a.l ≠ []
  len : a.l.length ≤ 100
  so : 5 ≤ a.so.length
abbrev spSta (K : PySem.W.Frag) (ts : List Addr) : Sp := SpX (α := StA6) K ts StA6.Ok (fun a => [a.b.D, .list (a.l.map S4.D), .list (natsD a.so)]) (fun a d => ∃ s : S4, d = s.D ∧ s.Fine a.b)
set_option maxHeartbeats 8000000 in
theorem ok_law_start (T : Tx K mg base) : FnOk P w K mg base CX0 3 T.f_law_start T.d_law_start ["book", "found", "some"] (spSta K T.ts) := by
  refine fnX T.F_law_start sc_law_start (fun _ _ => rfl) (fun cdv A outer s H E hr => ⟨_, (pss_cons (ps_if (pt_cmpR op_eq (pe_op op_mod (pe_ix (kx_ixL K rfl) (pv 2) pe_int (fun _ _ => rfl)) pe_int) pe_int (nomark _))
      (pss_cons (ps_asg (pe_ix (kx_ixL K rfl) (pv 1) (pe_op op_mod (pe_ix (kx_ixL K rfl) (pv 2) pe_int (fun _ _ => rfl)) (pe_callB (kx_len K rfl) (by rfl) T.m_len PySem.boot_len (pa_cons (pv 1) pa_nil))) (fun _ _ => rfl)) (kx_pgT K (n := 4) rfl rfl (pgs_cons (pg_name (i := 3) sc_law_start.nd rfl (.inl rfl)) (pgs_cons (pg_name (i := 4) sc_law_start.nd rfl (.inl rfl)) (pgs_cons (pg_name (i := 5) sc_law_start.nd rfl (.inl rfl)) (pgs_cons (pg_name (i := 6) sc_law_start.nd rfl (.inl rfl)) pgs_nil))))))
      (pss_cons (ps_set (i := 7) sc_law_start.nd rfl (.inl rfl) (pe_callTy (kx_tuple K rfl) (by rfl) T.m_tuple (by decide +kernel) (pa_cons (pe_callB (kx_sortedSet (w := w) rfl rfl) (by rfl) T.m_sorted (by decide +kernel) (pa_cons (pe_callTy (kx_setI (K := K) (w := w) rfl rfl rfl) (by rfl) T.m_set (by decide +kernel) (pa_cons (pe_op (kx_catT K rfl) (pv 5) (pe_call (ok_law_letters T) (hr.mono (by decide)) (by rfl) T.g_law_letters T.F_law_letters.kp T.b_law_letters .nil pass0 (pa_cons (pv 0) (pa_cons (pe_ix (kx_ixL K rfl) (pv 2) pe_int (fun _ _ => rfl)) pa_nil)))) pa_nil)) pa_nil)) pa_nil)))
      (pss_one (ps_ret (pe_tup (pa_cons (pv 3) (pa_cons (pv 4) (pa_cons (pv 7) (pa_cons (pv 6) pa_nil)))))))))
      pss_nil)
      (pss_cons (ps_set (i := 8) sc_law_start.nd rfl (.inl rfl) (pe_tup (pa_cons (pe_op op_mod (pe_ix (kx_ixL K rfl) (pv 2) pe_int (fun _ _ => rfl)) (pe_callB (kx_len K rfl) (by rfl) T.m_len PySem.boot_len (pa_cons (pe_ix (kx_ixT K rfl) (pv 0) pe_int (fun _ _ => rfl)) pa_nil))) (pa_cons (pe_op op_mod (pe_ix (kx_ixL K rfl) (pv 2) pe_int (fun _ _ => rfl)) (pe_callB (kx_len K rfl) (by rfl) T.m_len PySem.boot_len (pa_cons (pe_ix (kx_ixT K rfl) (pv 0) pe_int (fun _ _ => rfl)) pa_nil))) pa_nil))))
      (pss_one (ps_ret (pe_op (kx_catT K rfl) (pv 8) (pe_tup (pa_cons (pe_call (ok_law_letters T) (hr.mono (by decide)) (by rfl) T.g_law_letters T.F_law_letters.kp T.b_law_letters .nil pass0 (pa_cons (pv 0) (pa_cons (pe_ix (kx_ixL K rfl) (pv 2) pe_int (fun _ _ => rfl)) pa_nil))) (pa_cons (pe_call (ok_law_letters T) (hr.mono (by decide)) (by rfl) T.g_law_letters T.F_law_letters.kp T.b_law_letters .nil pass0 (pa_cons (pv 0) (pa_cons (pe_ix (kx_ixL K rfl) (pv 2) pe_int (fun _ _ => rfl)) pa_nil))) pa_nil)))))))), fun a ha => ?_⟩)
  obtain ⟨b, l, so⟩ := a
  obtain ⟨hfit, hlt, hfi, hne, hlen, hso⟩ := ha
  dsimp only at hfit hlt hfi hne hlen hso
  try simp only [nox_K, blk_K, cx_K]
  have hpos : 0 < l.length := List.length_pos_iff.mpr hne
  have ho1 := hfit.g.o1
  have hn1 := hfit.g.n1
  show S K ⟨none, T.ts⟩ H _ [some (.d b.D), some (.d (.list (l.map S4.D))), some (.d (.list (natsD so))), none, none, none, none, none, none] { nx := fun _ => ∃ s : S4, PyData.none = s.D ∧ s.Fine b, rt := fun d => ∃ s : S4, d = s.D ∧ s.Fine b }
  refine s_seq (s_if ?_)
  repeat walk_at "k"
  refine r_ixL (nats_at (i := 0) (by omega)) ?_
  repeat walk_at "k"
  refine r_modAny (by decide) fun z _ _ => ?_
  repeat walk_at "k"
  refine ⟨fun _ => ?_, fun _ => ?_⟩
  · refine s_seq (s_asgG ?_)
    repeat walk_at "k"
    refine r_ixL (nats_at (i := 1) (by omega)) ?_
    repeat walk_at "k"
    rw [List.length_map]
    refine r_modAny (by omega) fun z z0 z1 => ?_
    obtain ⟨at_, rfl⟩ : ∃ n : Nat, z = (n : Int) := ⟨z.toNat, by omega⟩
    obtain ⟨s, hs⟩ : ∃ e, l[at_]? = some e := ⟨_, List.getElem?_eq_getElem (by omega)⟩
    have hsf := hfi s (List.mem_of_getElem? hs)
    have hs1 := rise_len hsf.lo
    have hs2 := rise_len hsf.ln
    refine r_ixL (d := .tuple [.int (s.o : Nat), .int (s.n : Nat), .tuple (intsL s.lo), .tuple (intsL s.ln)]) (atI_nat (by rw [List.getElem?_map, hs]; rfl)) ?_
    refine g_tup rfl (gs_cons (g_name (gs_cons (g_name (gs_cons (g_name (gs_cons (g_name (gs_nil ?_)))))))))
    show S K _ H _ _ _
    dsimp only [List.set]
    refine s_seq (s_asg ?_)
    refine e_cb (ea_cons (e_sortSet ?_))
    repeat walk_at "k"
    refine r_ixL (nats_at (i := 2) (by omega)) ?_
    repeat walk_at "k"
    refine ⟨(b, so.getD 2 0), rfl, by show b.lt ≤ 100; omega, ?_⟩
    rintro d ⟨l2, rfl, hl2⟩
    have hl3 := rise_len hl2
    have hl3 : l2.length ≤ b.lt := hl3
    refine r_catT (by rw [show (intsL s.lo).length = s.lo.length from List.length_map _, show (intsL l2).length = l2.length from List.length_map _]; omega) ?_
    refine ⟨s.lo ++ l2, by unfold intsL; rw [List.map_append], by rw [List.length_append]; omega, fun ms h1 h2 => ?_⟩
    have hms : Rise b.lt ms := ⟨h1, fun v hv => by
      rcases List.mem_append.mp ((h2 v).mp hv) with q | q
      · exact hsf.lo.2 v q
      · exact hl2.2 v q⟩
    repeat walk_at "k"
    exact ⟨⟨s.o, s.n, ms, s.ln⟩, rfl, ⟨hsf.i.o, hsf.i.n⟩, hms, hsf.ln⟩
  · refine s_next ?_
    show S K _ H _ _ _
    refine s_seq (s_asg ?_)
    dsimp only [Bk.D]
    repeat walk_at "k"
    refine r_ixL (nats_at (i := 1) (by omega)) ?_
    repeat walk_at "k"
    rw [blsD_len]
    refine r_modAny (by omega) fun z z0 z1 => ?_
    obtain ⟨o, rfl⟩ : ∃ n : Nat, z = (n : Int) := ⟨z.toNat, by omega⟩
    repeat walk_at "k"
    refine r_ixL (nats_at (i := 2) (by omega)) ?_
    repeat walk_at "k"
    rw [blsD_len]
    refine r_modAny (by omega) fun z z2 z3 => ?_
    obtain ⟨n, rfl⟩ : ∃ n : Nat, z = (n : Int) := ⟨z.toNat, by omega⟩
    repeat walk_at "k"
    refine r_ixL (nats_at (i := 3) (by omega)) ?_
    repeat walk_at "k"
    refine ⟨(b, so.getD 3 0), rfl, by show b.lt ≤ 100; omega, ?_⟩
    rintro d ⟨l1, rfl, hl1⟩
    repeat walk_at "k"
    refine r_ixL (nats_at (i := 4) (by omega)) ?_
    repeat walk_at "k"
    refine ⟨(b, so.getD 4 0), rfl, by show b.lt ≤ 100; omega, ?_⟩
    rintro d ⟨l2, rfl, hl2⟩
    repeat walk_at "k"
    refine r_catT (Nat.le_of_ble_eq_true rfl) ?_
    exact ⟨⟨o, n, l1, l2⟩, rfl, ⟨by show o < b.os.length; omega, by show n < b.ns.length; omega⟩, hl1, hl2⟩
end
section
variable {P : Program} {w : World} {K : PySem.W.Frag} {mg : Str → Option Value} {base : Heap}
def waysT (rs : List Rl) (s : S4) (i : Nat) : List (Nat × S4) := (List.range i).filterMap (wayF rs s)
theorem waysT_succ (rs : List Rl) (s : S4) (i : Nat) : waysT rs s (i + 1) = waysT rs s i ++ (wayF rs s i).toList := by
  unfold waysT
  rw [List.range_succ, List.filterMap_append]
  cases h : wayF rs s i <;> simp [h]
theorem st_add (s : S4) (c : Cm) (w : Nat × S4) : statesOf (addF s c w) = if w.2 ∈ statesOf c then statesOf c else statesOf c ++ [w.2] := by
  unfold addF
  split
  · rfl
  · unfold statesOf
    rw [List.map_append]
    rfl
structure AlA where
  b : Bk
  most : Nat
abbrev spAll (K : PySem.W.Frag) (ts : List Addr) : Sp := SpX (α := AlA) K ts (fun a => a.b.Good ∧ a.most ≤ 1000) (fun a => [a.b.D, .int (a.most : Nat)]) (fun a d => ∃ k, d = .list ((statesOf (bfsF a.b.rs s0 k)).map S4.D) ∧ ((bfsF a.b.rs s0 k).length = k ∨ a.most < (bfsF a.b.rs s0 k).length) ∧ (bfsF a.b.rs s0 k).length ≤ a.most + 91)
abbrev LAll (w : World) (a : AlA) (c : Cm) (k : Nat) : Lv := [some (.d a.b.D), some (.d (.int (a.most : Nat))), some (.own (.lst ((statesOf c).map S4.D))), some (.own (.dN w (knownL (statesOf c)))), some (.d (.int (k : Nat))), none, none]
set_option maxHeartbeats 16000000 in
theorem ok_law_all (T : Tx K mg base) : FnOk P w K mg base CX0 2 T.f_law_all T.d_law_all ["book", "most"] (spAll K T.ts) := by
  refine fnX T.F_law_all sc_law_all (fun _ _ => rfl) (fun cdv A outer s H E hr => ⟨_, (pss_cons (ps_set (i := 2) sc_law_all.nd rfl (.inl rfl) (pe_lst (pa_cons (pe_tup (pa_cons pe_int (pa_cons pe_int (pa_cons (pe_tup pa_nil) (pa_cons (pe_tup pa_nil) pa_nil))))) pa_nil)))
      (pss_cons (ps_set (i := 3) sc_law_all.nd rfl (.inl rfl) (_root_.Gn.pe_disp1 rfl rfl (hu9_of hr) (pe_ix (kx_ixL K rfl) (pv 2) pe_int (fun _ _ => rfl)) pe_bl))
      (pss_cons (ps_set (i := 4) sc_law_all.nd rfl (.inl rfl) pe_int)
      (pss_cons (ps_while PassesOwn.never (PW.pt (pw_and (pt_cmpR op_lt (pv 4) (pe_callB (kx_len K rfl) (by rfl) T.m_len PySem.boot_len (pa_cons (pv 2) pa_nil)) (nomark _)) (pw_and1 (pt_cmpR op_le (pe_callB (kx_len K rfl) (by rfl) T.m_len PySem.boot_len (pa_cons (pv 2) pa_nil)) (pv 1) (nomark _)))))
      (pss_cons (ps_for PassesOwn.never rfl (kx_piT K rfl (pe_ix (kx_ixT K rfl) (pv 0) pe_int (fun _ _ => rfl))) (pg_name (i := 5) sc_law_all.nd rfl (.inl rfl))
      (pss_one (ps_if (pt_val (pe_call (ok_law_can T) (hr.mono (by decide)) (by rfl) T.g_law_can T.F_law_can.kp T.b_law_can .nil pass0 (pa_cons (pe_ix (kx_ixL K rfl) (pv 2) (pv 4) (fun _ _ => rfl)) (pa_cons (pv 5) pa_nil))))
      (pss_cons (ps_set (i := 6) sc_law_all.nd rfl (.inl rfl) (pe_call (ok_law_comes T) (hr.mono (by decide)) (by rfl) T.g_law_comes T.F_law_comes.kp T.b_law_comes .nil pass0 (pa_cons (pe_ix (kx_ixL K rfl) (pv 2) (pv 4) (fun _ _ => rfl)) (pa_cons (pv 5) pa_nil))))
      (pss_one (ps_if (pt_cmp (_root_.Gn.pc_notin rfl rfl (hu9_of hr) (pv 6) (pv 3)))
      (pss_cons (_root_.Gn.ps_put rfl rfl (hu9_of hr) (pv 3) (pv 6) pe_bl rfl)
      (pss_one (ps_expr (pe_bm PySem.F.plainAttrs_list PySem.F.slot_list_append PySem.F.type_list_append mt_append (pv 2) (pa_cons (pv 6) pa_nil)))))
      pss_nil)))
      pss_nil)))
      (pss_one (ps_set (i := 4) sc_law_all.nd rfl (.inl rfl) (pe_op op_add (pv 4) pe_int)))))
      (pss_one (ps_ret (pv 2))))))), fun a ha => ?_⟩)
  obtain ⟨hg, hmo⟩ := ha
  try simp only [nox_K, blk_K, cx_K]
  show S K ⟨none, T.ts⟩ H _ [some (.d _), some (.d _), none, none, none, none, none] _
  refine s_cut (fun L => Sub [some (.d a.b.D), some (.d (.int (a.most : Nat))), some (.own (.lst [s0.D])), none, none, none, none] L) (s_ownL (el_lst ?_)) fun L' sb => S.sub ?_ sb
  · repeat walk_at "k"
    exact Sub.refl _
  refine s_seq (s_asgK (ek_disp1 (e_look (e_op (e_var rfl (e_int (r_ixL (d := s0.D) rfl ⟨noL_S4 s0, e_bl ⟨_, s4_nk s0, ?_⟩⟩)))))))
  dsimp only [List.set]
  refine s_seq (s_asg (e_int ?_))
  dsimp only [List.set]
  refine s_seq (s_while (fun m L => ∃ k, m = a.most + 100 - k ∧ k ≤ (bfsF a.b.rs s0 k).length ∧ k ≤ a.most + 91 ∧ (bfsF a.b.rs s0 k).length ≤ a.most + 91 ∧ Sub (LAll w a (bfsF a.b.rs s0 k) k) L) ⟨_, 0, rfl, Nat.zero_le _, Nat.zero_le _, by show 1 ≤ a.most + 91; omega, Sub.refl _⟩ fun m L' ⟨k, hm, hk, hk2, hl, sb⟩ => et_sub ?_ sb)
  have hsl : ((statesOf (bfsF a.b.rs s0 k)).map S4.D).length = (bfsF a.b.rs s0 k).length := by rw [List.length_map, st_len]
  refine et_and ?_
  repeat walk_at "k"
  rw [hsl]
  refine ⟨fun hb => ?_, fun hb => ?_⟩
  · have hb := of_decide_eq_true hb
    repeat walk_at "k"
    rw [hsl]
    refine ⟨fun hb2 => ?_, fun hb2 => ?_⟩
    · have hle := of_decide_eq_true hb2
      have hkl : k < (bfsF a.b.rs s0 k).length := by omega
      obtain ⟨s, v, hgk⟩ : ∃ s v, (bfsF a.b.rs s0 k)[k]? = some (s, v) := ⟨_, _, List.getElem?_eq_getElem hkl⟩
      have hok := bfs_ok a.b.rs s0 k
      have hsm := Small.ok (base := 0) hok (Nat.le_refl _) (Nat.le_refl _) k s v hgk
      have hstep : bfsF a.b.rs s0 (k + 1) = (waysF a.b.rs s).foldl (addF s) (bfsF a.b.rs s0 k) := by
        rw [bfsF, hgk]
        rfl
      have hwl := ways_len a.b.rs s
      have hrl := hg.r2
      refine S.sub ?_ sb
      refine s_seq (s_forI (it_tup (e_op (e_var rfl (e_int (r_ixT (show atI _ _ = some (PyData.tuple (rlsD a.b.rs)) from rfl) ⟨_, rfl, fun i L => L = LAll w a ((waysT a.b.rs s i).foldl (addF s) (bfsF a.b.rs s0 k)) k, ⟨_, Sub.refl _, rfl⟩, fun i d L' hd e => ?_, fun L' e L4 s4 => ?_⟩))))))
      · subst e
        unfold rlsD at hd
        rw [List.getElem?_map] at hd
        obtain ⟨r, hr0, rfl⟩ := Option.map_eq_some_iff.mp hd
        have hrm := List.mem_of_getElem? hr0
        have hh := hg.rh r hrm
        have hil := (List.getElem?_eq_some_iff.mp hr0).1
        have hnext : (waysT a.b.rs s (i + 1)).foldl (addF s) (bfsF a.b.rs s0 k) = (wayF a.b.rs s i).toList.foldl (addF s) ((waysT a.b.rs s i).foldl (addF s) (bfsF a.b.rs s0 k)) := by
          rw [waysT_succ, List.foldl_append]
        have hway : wayF a.b.rs s i = if canF r s = true then some (i, stepF r s) else none := by
          unfold wayF
          rw [hr0]
        have hclen := fold_len s (waysT a.b.rs s i) (bfsF a.b.rs s0 k)
        have htl : (waysT a.b.rs s i).length ≤ i := by
          unfold waysT
          exact Nat.le_trans (List.length_filterMap_le ..) (by rw [List.length_range]; exact Nat.le_refl _)
        obtain ⟨mm, hpre⟩ := fold_pre s (waysT a.b.rs s i) (bfsF a.b.rs s0 k)
        generalize (waysT a.b.rs s i).foldl (addF s) (bfsF a.b.rs s0 k) = c at hclen hpre hnext ⊢
        have hat : ((statesOf c).map S4.D)[k]? = some s.D := by
          rw [hpre]
          unfold statesOf
          rw [List.map_map, List.getElem?_map, List.getElem?_append_left hkl, hgk]
          rfl
        refine g_name ?_
        dsimp only [List.set]
        refine s_if (et_B (e_callX (ea_cons (e_look ?_))))
        dsimp only [lookL, lookA, List.map]
        refine e_op (e_var rfl (e_var rfl (r_ixL (atI_nat (j := k) hat) ⟨noL_S4 s, ?_⟩)))
        repeat walk_at "k"
        refine ⟨⟨r, s⟩, rfl, hh, ?_⟩
        rintro d rfl
        refine ⟨_, rfl, fun hc => ?_, fun hc => s_next ?_⟩
        · refine s_seq (s_asg (e_callX (ea_cons (e_look ?_))))
          dsimp only [lookL, lookA, List.map]
          refine e_op (e_var rfl (e_var rfl (r_ixL (atI_nat (j := k) hat) ⟨noL_S4 s, ?_⟩)))
          repeat walk_at "k"
          refine ⟨⟨r, s⟩, rfl, ⟨hh, by dsimp only; omega, by dsimp only; omega⟩, ?_⟩
          rintro d rfl
          dsimp only [List.set]
          have hw2 : (wayF a.b.rs s i).toList.foldl (addF s) c = addF s c (i, stepF r s) := by
            rw [hway, if_pos hc]
            rfl
          have hsa := st_add s c (i, stepF r s)
          refine s_if (et_test (e_nin (.inl rfl) (e_var rfl ⟨_, s4_nk _, ?_⟩)))
          rw [known_val]
          by_cases q : stepF r s ∈ statesOf c
          · rw [decide_eq_true q]
            refine ⟨_, rfl, fun z => (by cases z), fun _ => s_next ?_⟩
            refine ⟨LAll w a ((waysT a.b.rs s (i + 1)).foldl (addF s) (bfsF a.b.rs s0 k)) k, ?_, rfl⟩
            rw [hnext, hw2]
            unfold LAll
            rw [hsa, if_pos q]
            repeat (first | exact Sub.nil | apply Sub.keep | apply Sub.drop)
          · rw [decide_eq_false q]
            refine ⟨_, rfl, fun _ => ?_, fun z => (by cases z)⟩
            have hsl2 : (statesOf c).length = c.length := List.length_map _
            refine s_seq (s_nput rfl (by rw [known_len, hsl2]; omega) (e_bl (e_var rfl ⟨_, s4_nk _, ?_⟩)))
            dsimp only [List.set]
            rw [known_put q]
            refine s_appOwn rfl (by rw [List.length_map, hsl2]; omega) (e_var rfl ?_)
            refine ⟨LAll w a ((waysT a.b.rs s (i + 1)).foldl (addF s) (bfsF a.b.rs s0 k)) k, ?_, rfl⟩
            rw [hnext, hw2]
            unfold LAll
            rw [hsa, if_neg q, List.map_append]
            dsimp only [List.set]
            repeat (first | exact Sub.nil | apply Sub.keep | apply Sub.drop)
        · have hw2 : (wayF a.b.rs s i).toList.foldl (addF s) c = c := by
            have hc : canF r s = false := hc
            rw [hway, hc]
            rfl
          refine ⟨LAll w a ((waysT a.b.rs s (i + 1)).foldl (addF s) (bfsF a.b.rs s0 k)) k, ?_, rfl⟩
          rw [hnext, hw2]
          repeat (first | exact Sub.nil | apply Sub.keep | apply Sub.drop)
      · subst e
        have e1 : waysT a.b.rs s (rlsD a.b.rs).length = waysF a.b.rs s := by
          unfold waysT waysF rlsD
          rw [List.length_map]
        rw [e1, ← hstep] at s4
        refine S.sub ?_ s4
        refine s_asg ?_
        repeat walk_at "k"
        have h2 := fold_len s (waysF a.b.rs s) (bfsF a.b.rs s0 k)
        rw [← hstep] at h2
        have h3 := bfs_mono a.b.rs s0 k 1
        refine ⟨a.most + 100 - (k + 1), by omega, k + 1, rfl, by omega, by omega, by omega, ?_⟩
        rw [show (k : Int) + 1 = ((k + 1 : Nat) : Int) by omega]
        repeat (first | exact Sub.nil | apply Sub.keep | apply Sub.drop)
    · have hb2 := of_decide_eq_false hb2
      refine S.sub ?_ sb
      refine s_retL (e_var rfl ⟨k, rfl, .inr (by omega), hl⟩)
  · have hb := of_decide_eq_false hb
    refine ⟨fun z => (by cases z), fun _ => ?_⟩
    refine S.sub ?_ sb
    refine s_retL (e_var rfl ⟨k, rfl, .inl (by omega), hl⟩)
end
section
variable {P : Program} {w : World} {K : PySem.W.Frag} {mg : Str → Option Value} {base : Heap}
structure WkA where
  a : SbA
  some_ : List Nat
abbrev spWk (K : PySem.W.Frag) (ts : List Addr) : Sp := SpX (α := WkA) K ts (fun x => x.a.Ok ∧ x.some_.length ≤ 100) (fun x => [bkD x.a.b0 x.a.b1 x.a.b2 x.a.rs, .list (natsD x.some_)]) (fun x d => ∃ (ks : List Nat) (s : S4), d = .list (natsD ks) ∧ ks.length ≤ x.some_.length ∧ runF x.a.rs (natsD ks) s0 = some s)
abbrev LWk (x : WkA) (s : S4) (ks : List Nat) : Lv := [some (.d (bkD x.a.b0 x.a.b1 x.a.b2 x.a.rs)), some (.d (.list (natsD x.some_))), some (.d s.D), some (.own (.lst (natsD ks))), none, none, none, none]
def cansF (rs : List Rl) (s : S4) : List Nat := (List.range rs.length).filter fun i => ((rs[i]?).map fun r => canF r s).getD false
theorem cans_is (rs : List Rl) (s : S4) : (((enumL (rlsD rs)).mapIdx fun i _ => if ((rs[i]?).map fun r => canF r s).getD false = true then some (PyData.int (i : Int)) else none).filterMap id) = natsD (cansF rs s) := by
  rw [show (enumL (rlsD rs)).mapIdx (fun i _ => if ((rs[i]?).map fun r => canF r s).getD false = true then some (PyData.int (i : Int)) else none) = (List.range rs.length).map (fun i : Nat => if ((rs[i]?).map fun r => canF r s).getD false = true then some (PyData.int (i : Int)) else none) from by
    apply List.ext_getElem?
    intro i
    rw [List.getElem?_mapIdx, List.getElem?_map]
    by_cases h : i < rs.length
    · rw [List.getElem?_eq_getElem (l := enumL (rlsD rs)) (i := i) (by rw [enumL_len, rlsD_len]; exact h), List.getElem?_range h]; rfl
    · rw [List.getElem?_eq_none (l := enumL (rlsD rs)) (i := i) (by rw [enumL_len, rlsD_len]; omega), List.getElem?_eq_none (l := List.range rs.length) (i := i) (by rw [List.length_range]; omega)]; rfl]
  unfold cansF natsD
  generalize List.range rs.length = l
  induction l with
  | nil => rfl
  | cons i l ih =>
    rw [List.map_cons, List.filterMap_cons, List.filter_cons, ih]
    by_cases h : ((rs[i]?).map fun r => canF r s).getD false = true
    · rw [if_pos h, if_pos h]; rfl
    · rw [if_neg h, if_neg h]; rfl
theorem cans_mem {rs : List Rl} {s : S4} {i : Nat} (h : i ∈ cansF rs s) : ∃ r, rs[i]? = some r ∧ canF r s = true := by
  have h1 := List.mem_range.mp (List.mem_filter.mp h).1
  have h2 := (List.mem_filter.mp h).2
  rw [List.getElem?_eq_getElem h1] at h2
  exact ⟨rs[i], List.getElem?_eq_getElem h1, h2⟩
theorem walk_on {rs : List Rl} {ks : List Nat} {s : S4} {v : Nat} {r : Rl} (h : runF rs (natsD ks) s0 = some s) (hr : rs[v]? = some r) (hc : canF r s = true) : runF rs (natsD (ks ++ [v])) s0 = some (stepF r s) := by
  rw [← nats_app, runF_app h, runF_put (s1 := stepF r s) (by rw [oneF_at hr, if_pos hc])]
  rfl
theorem nats_last (l : List Nat) (v : Nat) : atI (natsD (l ++ [v])) (-1) = some (.int (v : Int)) := by
  unfold atI ixN
  rw [nats_len, List.length_append, if_neg (by decide), if_pos (by show -((l.length + 1 : Nat) : Int) ≤ -1; omega)]
  show (natsD (l ++ [v]))[(-1 + ((l.length + 1 : Nat) : Int)).toNat]? = _
  rw [show (-1 + ((l.length + 1 : Nat) : Int)).toNat = l.length by omega]
  unfold natsD
  rw [List.getElem?_map, List.getElem?_append_right (Nat.le_refl _), Nat.sub_self]
  rfl
theorem lay_nats33 (l : List Nat) : PyData.Lay 1 (.list (natsD l)) := lay_lst fun d hd => by
  obtain ⟨v, _, rfl⟩ := List.mem_map.mp hd
  exact lay_int _
set_option maxHeartbeats 8000000 in
theorem ok_law_walk (T : Tx K mg base) : FnOk P w K mg base CX0 2 T.f_law_walk T.d_law_walk ["book", "some"] (spWk K T.ts) := by
  refine fnX T.F_law_walk sc_law_walk (fun _ _ => rfl) (fun cdv A outer s H E hr => ⟨_, (pss_cons (ps_set (i := 2) sc_law_walk.nd rfl (.inr rfl) (pe_tup (pa_cons pe_int (pa_cons pe_int (pa_cons (pe_tup pa_nil) (pa_cons (pe_tup pa_nil) pa_nil))))))
      (pss_cons (ps_set (i := 3) sc_law_walk.nd rfl (.inl rfl) (pe_lst pa_nil))
      (pss_cons (ps_for PassesOwn.never rfl (kx_piL K rfl (pv 1)) (pg_name (i := 4) sc_law_walk.nd rfl (.inl rfl))
      (pss_cons (ps_setLc (i := 5) (own := [("k", 6), ("rule", 7)]) rfl sc_law_walk.nd rfl rfl (sw_true rfl rfl rfl (by decide +kernel)) (kx_enumT rfl rfl T.m_enumerate (pa_cons (pe_ix (kx_ixT K rfl) (pv 0) pe_int (fun _ _ => rfl)) pa_nil)) (blkOk_by (own := [("k", 6), ("rule", 7)]) (N := ["book", "some", "state", "steps", "one", "can", "k", "rule"]) (sc := defScope s_law_walk) (by decide +kernel)) (fun _ _ _ _ _ => (kx_pgT K (n := 2) rfl rfl (pgs_cons (pg_name (i := 6) sc_law_walk.nd rfl (.inl rfl)) (pgs_cons (pg_name (i := 7) sc_law_walk.nd rfl (.inl rfl)) pgs_nil)))) (fun _ _ _ _ _ => (pts_one (pt_val (pe_call (ok_law_can T) (hr.mono (by decide)) (by rfl) T.g_law_can T.F_law_can.kp T.b_law_can .nil pass0 (pa_cons (pv 2) (pa_cons (pv 7) pa_nil)))))) (fun _ _ _ _ _ => (pv 6)))
      (pss_cons (ps_if (pt_cmpR (kx_eqD K rfl hr.units) (pv 5) (pe_lst pa_nil) (nomark _))
      (pss_one (ps_ret (pv 3)))
      pss_nil)
      (pss_cons (ps_expr (pe_bm PySem.F.plainAttrs_list PySem.F.slot_list_append PySem.F.type_list_append mt_append (pv 3) (pa_cons (pe_ix (kx_ixL K rfl) (pv 5) (pe_op op_mod (pv 4) (pe_callB (kx_len K rfl) (by rfl) T.m_len PySem.boot_len (pa_cons (pv 5) pa_nil))) (fun _ _ => rfl)) pa_nil)))
      (pss_one (ps_set (i := 2) sc_law_walk.nd rfl (.inr rfl) (pe_call (ok_law_comes T) (hr.mono (by decide)) (by rfl) T.g_law_comes T.F_law_comes.kp T.b_law_comes .nil pass0 (pa_cons (pv 2) (pa_cons (pe_ix (kx_ixT K rfl) (pe_ix (kx_ixT K rfl) (pv 0) pe_int (fun _ _ => rfl)) (pe_ix (kx_ixL K rfl) (pv 3) (pe_un un_neg pe_int) (fun _ _ => rfl)) (fun _ _ => rfl)) pa_nil)))))))))
      (pss_one (ps_ret (pv 3)))))), fun x hx => ?_⟩)
  try simp only [nox_K, blk_K, cx_K]
  show S K ⟨none, T.ts⟩ H _ [some (.d _), some (.d _), none, none, none, none, none, none] _
  obtain ⟨⟨ha1, ha2, ha3⟩, hz⟩ := hx
  refine s_cut (fun L => Sub [some (.d (bkD x.a.b0 x.a.b1 x.a.b2 x.a.rs)), some (.d (.list (natsD x.some_))), some (.d s0.D), none, none, none, none, none] L) (s_asg ?_) fun L' sb => S.sub ?_ sb
  · repeat walk_at "e"
    exact Sub.refl _
  refine s_seq (s_ownNil ?_)
  dsimp only [List.set]
  refine s_seq (s_forI (it_list (e_var rfl ⟨_, rfl, fun i L => ∃ s ks, L = LWk x s ks ∧ ks.length = i ∧ s.lo.length ≤ i ∧ s.ln.length ≤ i ∧ runF x.a.rs (natsD ks) s0 = some s, ⟨_, Sub.refl _, s0, [], rfl, rfl, Nat.le_refl _, Nat.le_refl _, rfl⟩, fun i d L' hd ⟨s, ks, e, e1, e2, e3, e4⟩ => ?_, fun L' ⟨s, ks, e, e1, e2, e3, e4⟩ L4 s4 => ?_⟩)))
  · subst e
    have hil : i < (natsD x.some_).length := (List.getElem?_eq_some_iff.mp hd).1
    rw [nats_len] at hil
    obtain ⟨one, _, rfl⟩ := List.mem_map.mp (List.mem_of_getElem? hd)
    refine g_name ?_
    dsimp only [List.set]
    refine s_seq (s_asg (e_ofL (el_lcF (fun i _ => if ((x.a.rs[i]?).map fun r => canF r s).getD false = true then some (.int (i : Int)) else none) (it_enumT (ea_cons ?_)))))
    dsimp only [bkD]
    repeat walk_at "e"
    refine ⟨by rw [enumL_len, rlsD_len]; omega, fun j d hd => ?_, ?_⟩
    · obtain ⟨y, hy, rfl⟩ := enumL_get hd
      have hj : j < x.a.rs.length := by have := (List.getElem?_eq_some_iff.mp hy).1; rw [rlsD_len] at this; exact this
      have hr := List.getElem?_eq_getElem hj
      have hy2 : y = (x.a.rs[j]).D := by
        unfold rlsD at hy
        rw [List.getElem?_map, hr] at hy
        exact (Option.some.inj hy).symm
      subst hy2
      repeat walk_at "e"
      refine ⟨⟨x.a.rs[j], s⟩, rfl, ha2 _ (List.getElem_mem _), ?_⟩
      rintro d rfl
      refine ⟨_, rfl, fun h => ?_, fun h => ?_⟩
      · repeat walk_at "e"
        rw [hr]
        exact if_pos h
      · rw [hr]
        exact if_neg (by show ¬ canF x.a.rs[j] s = true; rw [h]; decide)
    rw [cans_is]
    dsimp only [List.set]
    have hcm : ∀ i ∈ cansF x.a.rs s, ∃ r, x.a.rs[i]? = some r ∧ canF r s = true := fun i h => cans_mem h
    generalize cansF x.a.rs s = cs at hcm
    refine s_seq (s_if ?_)
    repeat walk_at "e"
    refine r_eqD (shaped_lay (lay_nats33 _) (by decide)) rfl ?_
    rw [eqv_nilL]
    refine ⟨_, rfl, fun h => ?_, fun h => ?_⟩
    · refine s_retL ?_
      dsimp only [lookL, lookA, List.map]
      repeat walk_at "e"
      exact ⟨ks, s, rfl, by omega, e4⟩
    have hpos : 0 < cs.length := by
      cases cs with
      | nil => cases h
      | cons a b => exact Nat.succ_pos _
    refine s_next ?_
    refine s_seq (s_appOwn rfl (by rw [nats_len]; omega) ?_)
    repeat walk_at "e"
    rw [nats_len]
    refine r_mod (by omega) ?_
    have hml : one % cs.length < cs.length := Nat.mod_lt _ hpos
    refine r_ixL (show atI (natsD cs) ((one : Int) % (cs.length : Int)) = _ from nats_at (i := one % cs.length) hml) ?_
    obtain ⟨r, hr, hc⟩ := hcm (cs.getD (one % cs.length) 0) (by rw [List.getD_eq_getElem?_getD, List.getElem?_eq_getElem hml]; exact List.getElem_mem _)
    generalize cs.getD (one % cs.length) 0 = v at hr
    rw [nats_app]
    dsimp only [List.set]
    refine s_asg (e_look ?_)
    dsimp only [lookL, lookA, List.map, bkD]
    repeat walk_at "e"
    refine r_ixL (nats_last ks v) ?_
    repeat walk_at "e"
    refine r_ixT (rls_ai hr) ?_
    repeat walk_at "e"
    refine ⟨⟨r, s⟩, rfl, ⟨ha2 _ (List.mem_of_getElem? hr), by dsimp only; omega, by dsimp only; omega⟩, ?_⟩
    rintro d rfl
    refine ⟨noL_S4 _, ?_⟩
    dsimp only [List.set]
    obtain ⟨q1, q2⟩ := stepF_len (r := r) e2 e3
    exact ⟨LWk x (stepF r s) (ks ++ [v]), by repeat (first | exact Sub.nil | apply Sub.keep | apply Sub.drop), _, _, rfl, by rw [List.length_append, e1]; rfl, q1, q2, walk_on e4 hr hc⟩
  · subst e
    refine S.sub ?_ s4
    refine s_retL ?_
    dsimp only [lookL, lookA, List.map]
    repeat walk_at "e"
    rw [nats_len] at e1
    exact ⟨ks, s, rfl, by omega, e4⟩
end
section
variable {P : Program} {w : World} {K : PySem.W.Frag} {mg : Str → Option Value} {base : Heap}
def withG (l : List Int) (o : Option Nat) : List Int := match l, o with
  | [], some v => [(v : Int)]
  | l, o => withF l o
def stepG (r : Rl) (s : S4) : S4 := if r.h = 1 then ⟨s.o, r.t, s.lo, withG s.ln r.sa⟩ else ⟨r.t, s.n, withG s.lo r.sa, s.ln⟩
theorem withG_is (l : List Int) (o : Option Nat) : withG l o = withF l o := by
  cases l with
  | cons x l => cases o <;> rfl
  | nil =>
    cases o with
    | none => rfl
    | some v =>
      show [(v : Int)] = if (v : Int) ∈ ([] : List Int) then [] else sortZ ([] ++ [(v : Int)])
      rw [if_neg (List.not_mem_nil)]
      exact sortZ_is (List.Perm.refl _) (List.pairwise_singleton _ _)
theorem stepG_is (r : Rl) (s : S4) : stepG r s = stepF r s := by
  unfold stepG stepF
  rw [withG_is, withG_is]
def chk (rs : List Rl) (g : List S4) (q : Nat × Nat) (i : Nat) : Bool := match g[q.1]?, rs[q.2]?, g[i]? with
  | some p, some r, some t => decide (q.1 < i) && canF r p && decide (stepG r p = t)
  | _, _, _ => false
structure Grid (rs : List Rl) (g : List S4) (pr : Nat → Nat × Nat) : Prop where
  h0 : g[0]? = some s0
  nd : g.Nodup
  cl : ∀ p ∈ g, ∀ r ∈ rs, canF r p = true → stepG r p ∈ g
  ch : ∀ i ∈ List.range (g.length - 1), chk rs g (pr (i + 1)) (i + 1) = true
section
variable {rs : List Rl} {g : List S4} {pr : Nat → Nat × Nat}
theorem Grid.sub (h : Grid rs g pr) (k : Nat) : ∀ (n i : Nat) (s : S4) (v : Option (S4 × Nat)), i ≤ n → (bfsF rs s0 k)[i]? = some (s, v) → s ∈ g
  | n, i, s, v, hi, e => by
    have hok := bfs_ok rs s0 k
    rcases Nat.eq_zero_or_pos i with z | z
    · subst z
      rw [hok.hd] at e
      cases e
      exact List.mem_of_getElem? h.h0
    · obtain ⟨p, q, j, u, _, hj, hp, hw⟩ := hok.par i s v e z
      obtain ⟨r, hr, hc, he⟩ := way_step hw
      have e2 : s = stepF r p := congrArg Prod.snd he
      rw [e2, ← stepG_is]
      match n with
      | 0 => omega
      | n + 1 => exact h.cl p (h.sub k n j p u (by omega) hp) r (List.mem_of_getElem? hr) hc
theorem Grid.sub' (h : Grid rs g pr) {k : Nat} {s : S4} (hs : s ∈ statesOf (bfsF rs s0 k)) : s ∈ g := by
  obtain ⟨⟨t, v⟩, ht, rfl⟩ := List.mem_map.mp hs
  obtain ⟨i, hi⟩ := List.getElem?_of_mem ht
  exact h.sub k i i t v (Nat.le_refl _) hi
theorem Grid.len (h : Grid rs g pr) (k : Nat) : (bfsF rs s0 k).length ≤ g.length := by
  have := subLn (bfs_ok rs s0 k).nd fun x hx => h.sub' hx
  rw [st_len] at this
  exact this
end
def fbR : List Rl := [⟨0, 0, none, 1, some 0⟩, ⟨1, 0, some 0, 1, none⟩, ⟨1, 0, none, 0, some 0⟩]
def fbB : Bk := ⟨[true, false], [false, true], 1, fbR⟩
def fbG : List S4 := [s0, ⟨1, 0, [0], []⟩, ⟨0, 0, [], [0]⟩, ⟨1, 1, [0], []⟩, ⟨1, 0, [0], [0]⟩, ⟨1, 1, [0], [0]⟩]
def fbP : Nat → Nat × Nat
  | 1 => (0, 0)
  | 2 => (0, 2)
  | 3 => (1, 1)
  | 4 => (1, 2)
  | 5 => (4, 1)
  | _ => (0, 0)
theorem fb_grid : Grid fbR fbG fbP := ⟨rfl, by decide +kernel, by decide +kernel, by decide +kernel⟩
theorem fb_good : fbB.Good := ⟨by decide, by decide, by decide, by decide, by decide⟩
theorem fb_fit : fbB.Fit := ⟨fb_good, fun r hr v e => by
  have : ∀ r ∈ fbR, (r.sa.all fun v => decide (v < 1)) = true := by decide
  have := this r hr
  rw [e] at this
  exact of_decide_eq_true this⟩
theorem cut_from (ds : List PyData) {i : Nat} (h : i ≤ ds.length) : Dl.cutD ds (some (i : Int)) none = ds.drop i := by
  show (ds.drop (HT.sIx ds.length 0 (some (i : Int)))).take (ds.length - HT.sIx ds.length 0 (some (i : Int))) = ds.drop i
  rw [HT.sIx_nat, Nat.min_eq_left h]
  exact List.take_of_length_le (by rw [List.length_drop]; exact Nat.le_refl _)
theorem cutN (l : List Nat) {i : Nat} (h : i ≤ l.length) : Dl.cutD (natsD l) (some (i : Int)) none = natsD (l.drop i) := by
  rw [cut_from _ (by rw [nats_len]; exact h)]
  unfold natsD
  rw [List.map_drop]
theorem e_callRF {α : Type} {pen0 : Option Pn} {ts : List Addr} {H0 : Hp} {L : Lv} {tl : TA} {C : Addr} {Wf : α → Prop} {enc : α → List PyData} {res : α → PyData → Prop} {bad : α → Prop} {P : PyData → Prop} {X : XK} (h : EA K ⟨pen0, ts⟩ H0 tl L fun ds => ∃ x, ds = enc x ∧ Wf x ∧ ¬ bad x ∧ ∀ d, res x d → P d) : E K ⟨pen0, ts⟩ H0 (tCall (SpXRF K ts C Wf enc res bad) [] X tl) L P := fun σ G H e Q q =>
  h σ G H e _ fun vs ds G1 H1 go hd ⟨x, hx, h1, hb, h2⟩ => ⟨x, G1, go.vw.plain, by rw [List.append_nil, ← hx]; exact hd, h1, fun v d G' H' go2 hd2 p => by
    have g3 := Go.see go.vw (go2.lift go.vw)
    exact q v d _ H' (go.trans g3) (dp_mono vnew_max _ _ (nd_dp _ _ hd2)) (h2 d p), fun z => absurd z hb⟩
theorem endd_cl {b : Bk} {f : S4} {k : Nat} (h : Endd b f k) : ∀ s ∈ stF b f k, ∀ r ∈ b.rs, canF r s = true → stepF r s ∈ stF b f k := fun _ hs _ hr hc => bfs_closed h.k1 hs hr hc
theorem endd_fine {b : Bk} {f : S4} {k : Nat} (h : Endd b f k) (hfit : b.Fit) (hf : f.Fine b) : ∀ s ∈ stF b f k, s.Fine b := fun s hs => by
  obtain ⟨i, v, hi⟩ := st_in hs
  exact cm_fine hfit (bfs_ok b.rs f k) hf i i s v (Nat.le_refl _) hi
theorem endd_closed {b : Bk} {f : S4} {k : Nat} (h : Endd b f k) (hfit : b.Fit) (hf : f.Fine b) : Closed b f (.list ((stF b f k).map S4.D)) :=
  ⟨_, rfl, (bfs_ok b.rs f k).nd, endd_fine h hfit hf, in_st (bfs_ok b.rs f k).hd, clF_iff.mpr (endd_cl h)⟩
theorem runF_lt {rs : List Rl} : ∀ {ks : List Nat} {s t : S4}, runF rs (natsD ks) s = some t → ∀ k ∈ ks, k < rs.length
  | [], _, _, _, _, h => (nomatch h)
  | k :: ks, s, t, h, j, hj => by
    have h : (match oneF rs (.int (k : Nat)) s with | none => none | some s' => runF rs (natsD ks) s') = some t := h
    have hk : k < rs.length := by
      apply Classical.byContradiction
      intro z
      rw [oneF_far (by omega)] at h
      cases h
    rcases List.mem_cons.mp hj with rfl | hj
    · exact hk
    · cases e : oneF rs (.int (k : Nat)) s with
      | none => rw [e] at h; cases h
      | some s' => rw [e] at h; exact runF_lt h j hj
theorem fine_sm {b : Bk} {s : S4} (h : s.Fine b) (ho : b.os.length ≤ 10) (hn : b.ns.length ≤ 10) (hl : b.lt ≤ 10) : Sm s := by
  have h1 := rise_len h.lo
  have h2 := rise_len h.ln
  have h3 := h.i.o
  have h4 := h.i.n
  exact ⟨by omega, by omega, ⟨by omega, fun v hv => by have := h.lo.2 v hv; omega⟩, ⟨by omega, fun v hv => by have := h.ln.2 v hv; omega⟩⟩
/-- a book, all states to which steps lead: few -/
structure Few (b : Bk) (k : Nat) : Prop where
  fit : b.Fit
  o2 : b.os.length ≤ 10
  n2 : b.ns.length ≤ 10
  l2 : b.lt ≤ 10
  e : Endd b s0 k
  k60 : k ≤ 60
theorem Few.fine {b : Bk} {k : Nat} (h : Few b k) : ∀ s ∈ stF b s0 k, s.Fine b := endd_fine h.e h.fit (s0_fine h.fit.g)
theorem Few.pos {b : Bk} {k : Nat} (h : Few b k) : 1 ≤ k := by
  have := (List.getElem?_eq_some_iff.mp (bfs_ok b.rs s0 k).hd).1
  rw [h.e.k1] at this
  omega
theorem cut_nats (l : List Nat) (i j : Option Int) : ∃ m : List Nat, Dl.cutD (natsD l) i j = natsD m ∧ m.length ≤ l.length := by
  unfold Dl.cutD
  refine ⟨(l.drop (HT.sIx (natsD l).length 0 i)).take (HT.sIx (natsD l).length (natsD l).length j - HT.sIx (natsD l).length 0 i), ?_, ?_⟩
  · unfold natsD
    rw [List.map_take, List.map_drop]
  · rw [List.length_take, List.length_drop]
    omega
theorem told_at {b : Bk} {k : Nat} (hf : Few b k) {d : PyData} (h : ∃ j, ReDone b.rs s0 200 j ∧ TwR ⟨b, 200⟩ (bfsF b.rs s0 j) d) : (∃ th : Th5, d = th.D ∧ th.Ok) ∧ Due2 b d := by
  obtain ⟨j, hj, ht⟩ := h
  have hjk : j = k := done_one hj.1 hf.e.k1
  subst hjk
  have hk60 := hf.k60
  have hlen := hf.e.len
  have hr2 := hf.fit.g.r2
  cases ht with
  | two i s v ks h1 h2 h3 h4 =>
    have hil := (List.getElem?_eq_some_iff.mp h1).1
    rw [hf.e.k1] at hil
    have hk2 : ∀ x ∈ ks, x < b.rs.length := runF_lt h4
    exact ⟨⟨.two ks, rfl, by omega, fun x hx => by have := hk2 x hx; omega⟩, .inr ⟨_, rfl, s, ⟨_, rfl, h4⟩, h2⟩⟩
  | never h1 =>
    refine ⟨⟨.never (stF b s0 j), rfl, by omega, fun s hs => fine_sm (hf.fine s hs) hf.o2 hf.n2 hf.l2⟩, .inl ⟨_, rfl, endd_closed hf.e hf.fit (s0_fine hf.fit.g), fun l e s hs => ?_⟩⟩
    have e2 := sts_inj (PyData.list.inj e)
    rw [← e2] at hs
    exact h1 s hs
abbrev L0 (ns : List Int) : Lv := [some (.d (.list (intsL ns))), none, none, none, none, none, none, none, none, none]
abbrev L1 (ns : List Int) (b : Bk) (k : Nat) (x3 : Option AV) : Lv := [some (.d (.list (intsL ns))), some (.d b.D), some (.d (.list ((stF b s0 k).map S4.D))), x3, none, none, none, none, none, none]
set_option maxHeartbeats 32000000 in
theorem ok_law {f : Addr} {fd : FuncData} (F : Fun K "law" "law" s_law f fd) (T : Tx K mg base) : Rg.FnG P w K mg base CX0 10 f fd ["script"] (spLawT K T.ts) := by
  refine Rg.fnG_of F sc_law (fun vs H Q E h => ?_) (fun cdv A outer s H vs Q E hg hr h => ?_)
  · obtain ⟨a, ns, rfl, _⟩ := h
    rfl
  · obtain ⟨a, ns, rfl, hS, hlen, hT, q⟩ := h
    refine ⟨_, PSs.nox ((pss_cons (ps_set (i := 1) sc_law.nd rfl (.inl rfl) (pe_call (ok_law_book T) (hr.mono (by decide)) (by rfl) T.g_law_book T.F_law_book.kp T.b_law_book .nil pass0 (pa_cons (pv 0) pa_nil)))
      (pss_cons (ps_set (i := 2) sc_law.nd rfl (.inl rfl) (pe_call (ok_law_all T) (hr.mono (by decide)) (by rfl) T.g_law_all T.F_law_all.kp T.b_law_all .nil pass0 (pa_cons (pv 1) (pa_cons pe_int pa_nil))))
      (pss_cons (ps_if (pt_cmpR op_gt (pe_callB (kx_len K rfl) (by rfl) T.m_len PySem.boot_len (pa_cons (pv 2) pa_nil)) pe_int (nomark _))
      (pss_cons (ps_set (i := 1) sc_law.nd rfl (.inl rfl) (pe_tup (pa_cons (pe_tup (pa_cons pe_bl (pa_cons pe_bl pa_nil))) (pa_cons (pe_tup (pa_cons pe_bl (pa_cons pe_bl pa_nil))) (pa_cons pe_int (pa_cons (pe_tup (pa_cons (pe_tup (pa_cons pe_int (pa_cons pe_int (pa_cons pe_non (pa_cons pe_int (pa_cons pe_int pa_nil)))))) (pa_cons (pe_tup (pa_cons pe_int (pa_cons pe_int (pa_cons pe_int (pa_cons pe_int (pa_cons pe_non pa_nil)))))) (pa_cons (pe_tup (pa_cons pe_int (pa_cons pe_int (pa_cons pe_non (pa_cons pe_int (pa_cons pe_int pa_nil)))))) pa_nil)))) pa_nil))))))
      (pss_one (ps_set (i := 2) sc_law.nd rfl (.inl rfl) (pe_call (ok_law_all T) (hr.mono (by decide)) (by rfl) T.g_law_all T.F_law_all.kp T.b_law_all .nil pass0 (pa_cons (pv 1) (pa_cons pe_int pa_nil))))))
      pss_nil)
      (pss_cons (ps_set (i := 3) sc_law.nd rfl (.inl rfl) (pe_callD (ok_two_run T) (hr.mono (by decide)) (by rfl) T.g_two_run T.F_two_run.kp T.bd_two_run T.vd_two_run passL (pv 1)))
      (pss_cons (ps_if (pt_cmpR op_notBl (pe_call (ok_is_two_run T) (hr.mono (by decide)) (by rfl) T.g_is_two_run T.F_is_two_run.kp T.b_is_two_run .nil pass0 (pa_cons (pv 1) (pa_cons (pv 3) pa_nil))) pe_bl (nomark _))
      (pss_one (ps_ret pe_bl))
      pss_nil)
      (pss_cons (ps_for PassesOwn.never rfl (pi_range1 rfl T.m_range (pa_cons pe_int pa_nil)) (pg_name (i := 4) sc_law.nd rfl (.inl rfl))
      (pss_cons (ps_set (i := 5) sc_law.nd rfl (.inl rfl) (pe_slice (kx_slL K rfl) (pe_call (ok_law_some T) (hr.mono (by decide)) (by rfl) T.g_law_some T.F_law_some.kp T.b_law_some .nil pass0 (pa_cons (pe_call (ok_law_cell T) (hr.mono (by decide)) (by rfl) T.g_law_cell T.F_law_cell.kp T.b_law_cell .nil pass0 (pa_cons (pv 0) (pa_cons (pv 4) pa_nil))) (pa_cons pe_int pa_nil))) (po_some pe_int) po_none))
      (pss_cons (ps_set (i := 6) sc_law.nd rfl (.inl rfl) (pe_call (ok_law_walk T) (hr.mono (by decide)) (by rfl) T.g_law_walk T.F_law_walk.kp T.b_law_walk .nil pass0 (pa_cons (pv 1) (pa_cons (pe_slice (kx_slL K rfl) (pv 5) (po_some pe_int) (po_some pe_int)) pa_nil))))
      (pss_cons (ps_set (i := 7) sc_law.nd rfl (.inl rfl) (pe_call (ok_law_gone_on T) (hr.mono (by decide)) (by rfl) T.g_law_gone_on T.F_law_gone_on.kp T.b_law_gone_on .nil pass0 (pa_cons (pv 1) (pa_cons (pe_op (kx_catL (K := K) rfl) (pv 2) (pe_lst (pa_cons (pe_call (ok_law_start T) (hr.mono (by decide)) (by rfl) T.g_law_start T.F_law_start.kp T.b_law_start .nil pass0 (pa_cons (pv 1) (pa_cons (pv 2) (pa_cons (pe_slice (kx_slL K rfl) (pv 5) (po_some pe_int) po_none) pa_nil)))) pa_nil))) (pa_cons pe_int pa_nil)))))
      (pss_cons (ps_set (i := 8) sc_law.nd rfl (.inl rfl) (pe_ix (kx_ixL K rfl) (pe_lst (pa_cons (pv 3) (pa_cons (pe_tup (pa_cons pe_str (pa_cons (pv 7) pa_nil))) (pa_cons (pe_tup (pa_cons pe_str (pa_cons (pv 6) pa_nil))) (pa_cons (pe_tup (pa_cons pe_str (pa_cons (pv 7) pa_nil))) pa_nil))))) (pe_op op_mod (pe_ix (kx_ixL K rfl) (pv 5) pe_int (fun _ _ => rfl)) pe_int) (fun _ _ => rfl)))
      (pss_cons (ps_set (i := 9) sc_law.nd rfl (.inl rfl) (pe_call (ok_law_bent T) (hr.mono (by decide)) (by rfl) T.g_law_bent T.F_law_bent.kp T.b_law_bent .nil pass0 (pa_cons (pv 1) (pa_cons (pv 8) (pa_cons (pv 5) pa_nil)))))
      (pss_one (ps_if (PW.pt (pw_or (pt_not (pt_val (Rg.pe_callG (ok_law_held T) hg (hr.mono (by decide)) (by rfl) T.g_law_held T.F_law_held.kp T.b_law_held .nil pass0 (pa_cons (pv 1) (pa_cons (pv 8) pa_nil))))) (pw_or1 (pt_not (pt_val (Rg.pe_callG (ok_law_held T) hg (hr.mono (by decide)) (by rfl) T.g_law_held T.F_law_held.kp T.b_law_held .nil pass0 (pa_cons (pv 1) (pa_cons (pv 9) pa_nil))))))))
      (pss_one (ps_ret pe_bl))
      pss_nil))))))))
      (pss_one (ps_ret (pe_call (ok_law_odd_right T) (hr.mono (by decide)) (by rfl) T.g_law_odd_right T.F_law_odd_right.kp T.b_law_odd_right .nil pass0 (pa_cons (pv 1) (pa_cons (pe_cmpR op_eq (pe_op op_mod (pe_callB (kx_len K rfl) (by rfl) T.m_len PySem.boot_len (pa_cons (pv 0) pa_nil)) pe_int) pe_int (nomark _)) pa_nil)))))))))))), ?_⟩
    refine law_start (K := K) (ts := T.ts) (L := L0 ns) hS rfl (fun i av hi => ?_) hT ?_ q
    · rcases i with _ | i
      · cases hi
        exact ⟨rfl, rfl⟩
      · iterate 9 (rcases i with _ | i; (· cases hi))
        cases hi
    try simp only [nox_K, blk_K, cx_K]
    refine s_seq (s_asg ?_)
    repeat walk_at "k"
    refine ⟨hlen, ?_⟩
    rintro d ⟨b1, rfl, hb1⟩
    dsimp only [List.set]
    refine s_seq (s_asg ?_)
    repeat walk_at "k"
    refine ⟨⟨b1, 60⟩, rfl, ⟨hb1.good, by show 60 ≤ 1000; decide⟩, ?_⟩
    rintro d ⟨k1, rfl, hk1, hlim⟩
    dsimp only at hk1 hlim
    dsimp only [List.set]
    refine s_cut (fun L => ∃ b k, Few b k ∧ Sub (L1 ns b k none) L) (s_if ?_) fun L' ⟨b, k, hf, sb⟩ => S.sub ?_ sb
    · repeat walk_at "k"
      rw [List.length_map, st_len]
      refine ⟨fun hb => ?_, fun hb => s_next ?_⟩
      · refine s_seq (s_asg ?_)
        repeat walk_at "k"
        refine ⟨⟨fbB, 60⟩, rfl, ⟨fb_good, by show 60 ≤ 1000; decide⟩, ?_⟩
        rintro d ⟨k2, rfl, hk2, _⟩
        dsimp only at hk2
        have h3 := fb_grid.len k2
        have h3 : (bfsF fbB.rs s0 k2).length ≤ 6 := h3
        have hk2 : (bfsF fbB.rs s0 k2).length = k2 := by omega
        refine ⟨fbB, k2, ⟨fb_fit, by decide, by decide, by decide, ⟨hk2, by omega⟩, by omega⟩, ?_⟩
        repeat (first | exact Sub.nil | apply Sub.keep | apply Sub.drop)
      · have hb := of_decide_eq_false hb
        have hk1 : (bfsF b1.rs s0 k1).length = k1 := by omega
        exact ⟨b1, k1, ⟨hb1.fit, hb1.o2, hb1.n2, hb1.l2, ⟨hk1, by omega⟩, by omega⟩, by repeat (first | exact Sub.nil | apply Sub.keep | apply Sub.drop)⟩
    have hg := hf.fit.g
    have hk60 := hf.k60
    have hk1 := hf.pos
    have hlen2 := hf.e.len
    have h100 : b.lt ≤ 100 := Nat.le_trans hf.l2 (by decide)
    refine s_seq (s_asg (e_callRF ?_))
    repeat walk_at "k"
    refine ⟨⟨b, 200⟩, rfl, ⟨hg, by show 1 ≤ 200; decide, by show 200 < 256; decide⟩, notbad hf.e.k1 (by show k ≤ 200; omega), fun d hd => ?_⟩
    obtain ⟨⟨th, e1, hth⟩, hdue⟩ := told_at hf hd
    have hgd : Gs d := by rw [e1]; exact Th5.gs hth
    dsimp only [List.set]
    refine s_seq (s_if ?_)
    repeat walk_at "k"
    refine ⟨⟨b, d⟩, rfl, ⟨hf.fit, h100, hgd⟩, ?_⟩
    rintro d1 rfl
    dsimp only
    rw [DB_t hdue]
    repeat walk_at "k"
    refine s_forI (it_rng (ea_cons (e_int (ea_nil ⟨6, rfl, by decide, by decide, fun _ L => L = L1 ns b k (some (.d d)), ⟨_, Sub.refl _, rfl⟩, fun i d0 L' hd0 e => ?_, fun L' e L4 s4 => ?_⟩))))
    · subst e
      obtain ⟨_, rfl⟩ := rngL_get hd0
      refine g_name ?_
      dsimp only [List.set]
      rw [show (0 : Int) + (i : Nat) = (i : Nat) by omega]
      refine s_seq (s_asg ?_)
      repeat walk_at "k"
      refine ⟨⟨ns, i⟩, rfl, by show i ≤ 1000; omega, ?_⟩
      rintro d1 ⟨z, rfl⟩
      repeat walk_at "k"
      refine ⟨⟨z, 24⟩, rfl, by show 24 ≤ 1000; decide, ?_⟩
      rintro d1 ⟨l, rfl, hl⟩
      dsimp only at hl
      repeat walk_at "k"
      rw [show Dl.cutD (natsD l) (some 9) none = natsD (l.drop 9) from cutN l (i := 9) (by omega)]
      have hl9 : (l.drop 9).length = 15 := by rw [List.length_drop]; omega
      generalize l.drop 9 = so at hl9
      obtain ⟨s8, e8, h8⟩ := cut_nats so (some 5) (some 13)
      rw [e8]
      dsimp only [List.set]
      refine ⟨⟨⟨.tuple (blsD b.os), .tuple (blsD b.ns), .int b.lt, b.rs, []⟩, s8⟩, rfl, ⟨⟨Nat.le_trans hg.r2 (by decide), hg.rh, Nat.zero_le _⟩, by show s8.length ≤ 100; omega⟩, ?_⟩
      rintro d1 ⟨ks, s', rfl, hks, hrun⟩
      dsimp only at hks hrun
      repeat walk_at "k"
      rw [show Dl.cutD (natsD so) (some 5) none = natsD (so.drop 5) from cutN so (i := 5) (by omega)]
      refine ⟨⟨b, stF b s0 k, so.drop 5⟩, rfl, ⟨hf.fit, by show b.lt ≤ 20; have := hf.l2; omega, hf.fine, fun z => ?_, by show (stF b s0 k).length ≤ 100; omega, by show 5 ≤ (so.drop 5).length; rw [List.length_drop]; omega⟩, ?_⟩
      · have z : stF b s0 k = [] := z
        rw [z] at hlen2
        have hlen2 : 0 = k := hlen2
        omega
      rintro d1 ⟨s2, rfl, hs2⟩
      repeat walk_at "k"
      refine r_catL (by rw [List.length_map, List.length_cons, List.length_nil]; omega) ?_
      have ea : (stF b s0 k).map S4.D ++ [s2.D] = (stF b s0 k ++ [s2]).map S4.D := by rw [List.map_append]; rfl
      rw [ea]
      repeat walk_at "k"
      refine ⟨⟨b, stF b s0 k ++ [s2]⟩, rfl, ⟨hf.fit, h100, fun s hs => (List.mem_append.mp hs).elim (hf.fine s) (fun h => by rw [List.mem_singleton.mp h]; exact hs2), (fun z => absurd (List.append_eq_nil_iff.mp z).2 (List.cons_ne_nil _ _)), by show (stF b s0 k ++ [s2]).length ≤ 100; rw [List.length_append, List.length_cons, List.length_nil]; omega⟩, ?_⟩
      rintro d1 ⟨mo, rfl, _, hm1, hm2⟩
      dsimp only at hm2
      have hM : (Th5.never mo).Ok := ⟨by omega, fun s hs => fine_sm (hm2 s hs) hf.o2 hf.n2 hf.l2⟩
      have hr2 := hg.r2
      have hW : (Th5.two ks).Ok := ⟨by omega, fun x hx => by have : x < b.rs.length := runF_lt hrun x hx; omega⟩
      show S K _ H _ _ _
      repeat walk_at "k"
      refine r_ixL (nats_at (i := 13) (by omega)) ?_
      repeat walk_at "k"
      refine r_modAny (by decide) fun z z0 z1 => ?_
      obtain ⟨y, rfl⟩ : ∃ n : Nat, z = (n : Int) := ⟨z.toNat, by omega⟩
      refine r_ixLm (show y < 4 by omega) ?_
      intro thing hthing
      have hthing : ∃ t : Th5, thing = t.D ∧ t.Ok := by
        refine (show ∀ d ∈ _, ∃ t : Th5, d = t.D ∧ t.Ok from ?_) thing hthing
        exact allc ⟨th, e1, hth⟩ (allc ⟨_, rfl, hM⟩ (allc ⟨_, rfl, hW⟩ (allc ⟨_, rfl, hM⟩ all0)))
      obtain ⟨t, rfl, ht⟩ := hthing
      show S K _ H _ _ _
      dsimp only [List.set]
      repeat walk_at "k"
      refine ⟨⟨b, t, so⟩, rfl, ⟨hg.o1, hf.o2, hf.n2, hf.l2, hg.r2, ht, hl9⟩, ?_⟩
      intro bent hbent
      have hbent : Gs bent := hbent
      show S K _ H _ _ _
      dsimp only [List.set]
      repeat walk_at "k"
      refine ⟨⟨b, t.D⟩, rfl, ⟨hf.fit, h100, Th5.gs ht⟩, ?_⟩
      rintro d1 rfl
      repeat walk_at "k"
      refine ⟨⟨b, bent⟩, rfl, ⟨hf.fit, h100, hbent⟩, ?_⟩
      rintro d1 rfl
      repeat walk_at "k"
      refine ⟨_, ?_, rfl⟩
      repeat (first | exact Sub.nil | apply Sub.keep | apply Sub.drop)
    · subst e
      show S K _ H _ _ _
      refine S.sub ?_ s4
      repeat walk_at "k"
      refine r_mod (by decide) ?_
      repeat walk_at "k"
      refine ⟨⟨b, _⟩, rfl, ⟨hf.fit, h100⟩, ?_⟩
      rintro d1 rfl
      rfl
end
end K35
set_option Elab.async false
set_option linter.all false
set_option maxRecDepth 100000
namespace K35
open PySem PySem.Spec PyProof.Rows L2 Dl
set_option maxHeartbeats 0 in
theorem all_mk {l : PySem.W.OpenLaw} {q : Program} {w : World} {K : PySem.W.Frag} {h : Heap} {mg : Str → Option Value} {fa f1 f2 f3 f4 f5 f6 f7 f8 f9 f10 f11 f12 f13 f14 f15 f16 f17 f18 f19 f20 f21 f22 f23 f24 f25 f26 f27 f28 f29 f30 f31 f32 f33 f34 f35 f36 f37 f38 f39 f40 f41 f42 f43 f44 f45 kc1 pt1 kc5 pt5 kc18 pt18 kc20 pt20 : Addr} (X : K.In h) (G : h.Ns mainGlobals mg) (hfa : mg "law" = some (.ref fa)) (AT : Dl.AllTabs q K mg h)
    {od1 an1 od2 an2 od3 an3 od4 an4 od5 an5 od6 an6 od7 an7 od8 an8 od9 an9 od10 an10 od11 an11 od12 an12 od13 an13 od14 an14 od15 an15 od16 an16 od17 an17 od18 an18 od19 an19 od20 an20 od21 an21 od22 an22 od23 an23 od24 an24 od25 an25 od26 an26 od27 an27 od28 an28 od29 an29 od30 an30 od31 an31 od32 an32 od33 an33 od34 an34 od35 an35 od36 an36 od37 an37 od38 an38 od39 an39 od40 an40 od41 an41 od42 an42 od43 an43 od44 an44 od45 an45 : Option Addr} {sl1 sl2 sl3 sl4 sl5 sl6 sl7 sl8 sl9 sl10 sl11 sl12 sl13 sl14 sl15 sl16 sl17 sl18 sl19 sl20 sl21 sl22 sl23 sl24 sl25 sl26 sl27 sl28 sl29 sl30 sl31 sl32 sl33 sl34 sl35 sl36 sl37 sl38 sl39 sl40 sl41 sl42 sl43 sl44 sl45 : Array (Option Value)} {oc1 kV1 dc1 pm1 ct1 oc2 kV2 dc2 pm2 ct2 cd2 oc3 kV3 dc3 pm3 ct3 cd3 oc4 kV4 dc4 pm4 ct4 cd4 oc5 kV5 dc5 pm5 ct5 oc6 kV6 dc6 pm6 ct6 cd6 oc7 kV7 dc7 pm7 ct7 cd7 oc8 kV8 dc8 pm8 ct8 cd8 oc9 kV9 dc9 pm9 ct9 cd9 oc10 kV10 dc10 pm10 ct10 cd10 oc11 kV11 dc11 pm11 ct11 cd11 oc12 kV12 dc12 pm12 ct12 cd12 oc13 kV13 dc13 pm13 ct13 cd13 oc14 kV14 dc14 pm14 ct14 cd14 oc15 kV15 dc15 pm15 ct15 cd15 oc16 kV16 dc16 pm16 ct16 cd16 oc17 kV17 dc17 pm17 ct17 cd17 oc18 kV18 dc18 pm18 ct18 oc19 kV19 dc19 pm19 ct19 cd19 oc20 kV20 dc20 pm20 ct20 oc21 kV21 dc21 pm21 ct21 cd21 oc22 kV22 dc22 pm22 ct22 cd22 oc23 kV23 dc23 pm23 ct23 cd23 oc24 kV24 dc24 pm24 ct24 cd24 oc25 kV25 dc25 pm25 ct25 cd25 oc26 kV26 dc26 pm26 ct26 cd26 oc27 kV27 dc27 pm27 ct27 cd27 oc28 kV28 dc28 pm28 ct28 cd28 oc29 kV29 dc29 pm29 ct29 cd29 oc30 kV30 dc30 pm30 ct30 cd30 oc31 kV31 dc31 pm31 ct31 cd31 oc32 kV32 dc32 pm32 ct32 cd32 oc33 kV33 dc33 pm33 ct33 cd33 oc34 kV34 dc34 pm34 ct34 cd34 oc35 kV35 dc35 pm35 ct35 cd35 oc36 kV36 dc36 pm36 ct36 cd36 oc37 kV37 dc37 pm37 ct37 cd37 oc38 kV38 dc38 pm38 ct38 cd38 oc39 kV39 dc39 pm39 ct39 cd39 oc40 kV40 dc40 pm40 ct40 cd40 oc41 kV41 dc41 pm41 ct41 cd41 oc42 kV42 dc42 pm42 ct42 cd42 oc43 kV43 dc43 pm43 ct43 cd43 oc44 kV44 dc44 pm44 ct44 cd44 oc45 kV45 dc45 pm45 ct45 cd45 : Value}
    {dt17 : Addr} {dk17 : Tok} {dd17 : Option Addr} {dn17 : Nat} {dl17 : Array (Option Value)}
    {te1 te5 te18 te20 : Value} {td1 td5 td18 td20 : Option Addr} {tv1 tv5 tv18 tv20 : Array Value} {tl1 tl5 tl18 tl20 : Array (Option Value)}
    {a_FIRST ad_FIRST_0_2 ad_FIRST_0_3 : Addr} {ti_FIRST_0_0 ti_FIRST_0_1 : Tok} {td_FIRST_0 td_FIRST_1 td_FIRST_2 : Option Addr} {tn_FIRST_0 tn_FIRST_1 tn_FIRST_2 : Nat} {tl_FIRST_0 tl_FIRST_1 tl_FIRST_2 : Array (Option Value)}
    (y_FIRST : PySem.W.nsIn K mainGlobals "FIRST" = some (some (.ref a_FIRST)))
    (lk_FIRST_0 : K.lookup a_FIRST = some ⟨.type "tuple", td_FIRST_0, .seq #[.int 0 ti_FIRST_0_0, .int 0 ti_FIRST_0_1, .ref ad_FIRST_0_2, .ref ad_FIRST_0_3] tn_FIRST_0, tl_FIRST_0⟩)
    (lk_FIRST_1 : K.lookup ad_FIRST_0_2 = some ⟨.type "tuple", td_FIRST_1, .seq #[] tn_FIRST_1, tl_FIRST_1⟩)
    (lk_FIRST_2 : K.lookup ad_FIRST_0_3 = some ⟨.type "tuple", td_FIRST_2, .seq #[] tn_FIRST_2, tl_FIRST_2⟩)
    {C_NoStep C_TooMany : Addr}
    (yC_NoStep : PySem.W.nsIn K mainGlobals "NoStep" = some (some (.ref C_NoStep)))
    (yC_TooMany : PySem.W.nsIn K mainGlobals "TooMany" = some (some (.ref C_TooMany)))
    (xP_NoStep : PySem.W.excIn K C_NoStep [.type "ValueError", .type "Exception", .type "BaseException", .type "object"] "ValueError.__new__" = true)
    (kP_NoStep : PySem.W.keepIn K (.ref C_NoStep) = true)
    (bP_NoStep : PySem.W.subIn K (.ref C_NoStep) (.type "BaseException") = some true)
    (tP_NoStep : PySem.W.typeIn K (.ref C_NoStep) = some (.type "type"))
    (xP_TooMany : PySem.W.excIn K C_TooMany [.type "ValueError", .type "Exception", .type "BaseException", .type "object"] "ValueError.__new__" = true)
    (kP_TooMany : PySem.W.keepIn K (.ref C_TooMany) = true)
    (bP_TooMany : PySem.W.subIn K (.ref C_TooMany) (.type "BaseException") = some true)
    (tP_TooMany : PySem.W.typeIn K (.ref C_TooMany) = some (.type "type"))
    (hg_NoStep : PySem.W.findIn K (.ref C_NoStep) "__getattribute__" = some (some (.builtin "BaseException.__getattribute__")))
    (hk_NoStep : PySem.W.findIn K (.ref C_NoStep) "__getattr__" = some none)
    (hs_NoStep : PySem.W.subIn K (.ref C_NoStep) (.type "BaseException") = some true)
    (hd_NoStep : PySem.W.hasDictIn K C_NoStep = true)
    (ha_NoStep : PySem.W.findIn K (.ref C_NoStep) "__class__" = some (some (.builtin "object.__class__")))
    (hn_NoStep : PySem.W.specialIn K (.builtin "object.__class__") "__get__" = some (some (.builtin "getset_descriptor.__get__")))
    (ht_NoStep : PySem.W.takesIn K (.builtin "object.__class__") = some true)
    (hm_NoStep : PySem.W.mroIn K C_NoStep (.type "object") = some true)
    (hg_TooMany : PySem.W.findIn K (.ref C_TooMany) "__getattribute__" = some (some (.builtin "BaseException.__getattribute__")))
    (hk_TooMany : PySem.W.findIn K (.ref C_TooMany) "__getattr__" = some none)
    (hs_TooMany : PySem.W.subIn K (.ref C_TooMany) (.type "BaseException") = some true)
    (hd_TooMany : PySem.W.hasDictIn K C_TooMany = true)
    (ha_TooMany : PySem.W.findIn K (.ref C_TooMany) "__class__" = some (some (.builtin "object.__class__")))
    (hn_TooMany : PySem.W.specialIn K (.builtin "object.__class__") "__get__" = some (some (.builtin "getset_descriptor.__get__")))
    (ht_TooMany : PySem.W.takesIn K (.builtin "object.__class__") = some true)
    (hm_TooMany : PySem.W.mroIn K C_TooMany (.type "object") = some true)
    (e2 : PySem.W.exmOne K (.ref C_TooMany) (.ref C_TooMany) = some true)
    (e3 : PySem.W.exmOne K (.ref C_NoStep) (.ref C_NoStep) = some true)
    (a1 : PySem.W.nsIn K mainGlobals "is_rising" = some (some (.ref f1))) (l1 : K.lookup f1 = some ⟨oc1, od1, .func (PySem.W.fnOf "is_rising" "is_rising" (defArgs s_is_rising) (defBody s_is_rising) (defScope s_is_rising) .none kV1 dc1 pm1 an1 (.ref kc1) ct1), sl1⟩) (c1 : PySem.W.codeIn K (.ref kc1) "is_rising" = true) (k1 : PySem.W.keepIn K (.ref f1) = true)
    (h1 : K.lookup kc1 = some ⟨te1, td1, .fields tv1, tl1⟩) (v1 : tv1[11]? = some (.ref pt1)) (n1 : K.lookup pt1 = none) (q1 : PySem.W.codeHdIn K kc1 pt1 = true) (r1 : ((recsOf q).any fun e => e.name == "is_rising") = true)
    (a2 : PySem.W.nsIn K mainGlobals "is_whole" = some (some (.ref f2))) (l2 : K.lookup f2 = some ⟨oc2, od2, .func (PySem.W.fnOf "is_whole" "is_whole" (defArgs s_is_whole) (defBody s_is_whole) (defScope s_is_whole) .none kV2 dc2 pm2 an2 cd2 ct2), sl2⟩) (c2 : PySem.W.codeIn K cd2 "is_whole" = true) (k2 : PySem.W.keepIn K (.ref f2) = true)
    (a3 : PySem.W.nsIn K mainGlobals "is_whole_within" = some (some (.ref f3))) (l3 : K.lookup f3 = some ⟨oc3, od3, .func (PySem.W.fnOf "is_whole_within" "is_whole_within" (defArgs s_is_whole_within) (defBody s_is_whole_within) (defScope s_is_whole_within) .none kV3 dc3 pm3 an3 cd3 ct3), sl3⟩) (c3 : PySem.W.codeIn K cd3 "is_whole_within" = true) (k3 : PySem.W.keepIn K (.ref f3) = true)
    (a4 : PySem.W.nsIn K mainGlobals "is_tuple_of" = some (some (.ref f4))) (l4 : K.lookup f4 = some ⟨oc4, od4, .func (PySem.W.fnOf "is_tuple_of" "is_tuple_of" (defArgs s_is_tuple_of) (defBody s_is_tuple_of) (defScope s_is_tuple_of) .none kV4 dc4 pm4 an4 cd4 ct4), sl4⟩) (c4 : PySem.W.codeIn K cd4 "is_tuple_of" = true) (k4 : PySem.W.keepIn K (.ref f4) = true)
    (a5 : PySem.W.nsIn K mainGlobals "are_letters" = some (some (.ref f5))) (l5 : K.lookup f5 = some ⟨oc5, od5, .func (PySem.W.fnOf "are_letters" "are_letters" (defArgs s_are_letters) (defBody s_are_letters) (defScope s_are_letters) .none kV5 dc5 pm5 an5 (.ref kc5) ct5), sl5⟩) (c5 : PySem.W.codeIn K (.ref kc5) "are_letters" = true) (k5 : PySem.W.keepIn K (.ref f5) = true)
    (h5 : K.lookup kc5 = some ⟨te5, td5, .fields tv5, tl5⟩) (v5 : tv5[11]? = some (.ref pt5)) (n5 : K.lookup pt5 = none) (q5 : PySem.W.codeHdIn K kc5 pt5 = true) (r5 : ((recsOf q).any fun e => e.name == "are_letters") = true)
    (a6 : PySem.W.nsIn K mainGlobals "is_state" = some (some (.ref f6))) (l6 : K.lookup f6 = some ⟨oc6, od6, .func (PySem.W.fnOf "is_state" "is_state" (defArgs s_is_state) (defBody s_is_state) (defScope s_is_state) .none kV6 dc6 pm6 an6 cd6 ct6), sl6⟩) (c6 : PySem.W.codeIn K cd6 "is_state" = true) (k6 : PySem.W.keepIn K (.ref f6) = true)
    (a7 : PySem.W.nsIn K mainGlobals "can_be_done" = some (some (.ref f7))) (l7 : K.lookup f7 = some ⟨oc7, od7, .func (PySem.W.fnOf "can_be_done" "can_be_done" (defArgs s_can_be_done) (defBody s_can_be_done) (defScope s_can_be_done) .none kV7 dc7 pm7 an7 cd7 ct7), sl7⟩) (c7 : PySem.W.codeIn K cd7 "can_be_done" = true) (k7 : PySem.W.keepIn K (.ref f7) = true)
    (a8 : PySem.W.nsIn K mainGlobals "letters_with" = some (some (.ref f8))) (l8 : K.lookup f8 = some ⟨oc8, od8, .func (PySem.W.fnOf "letters_with" "letters_with" (defArgs s_letters_with) (defBody s_letters_with) (defScope s_letters_with) .none kV8 dc8 pm8 an8 cd8 ct8), sl8⟩) (c8 : PySem.W.codeIn K cd8 "letters_with" = true) (k8 : PySem.W.keepIn K (.ref f8) = true)
    (a9 : PySem.W.nsIn K mainGlobals "state_by" = some (some (.ref f9))) (l9 : K.lookup f9 = some ⟨oc9, od9, .func (PySem.W.fnOf "state_by" "state_by" (defArgs s_state_by) (defBody s_state_by) (defScope s_state_by) .none kV9 dc9 pm9 an9 cd9 ct9), sl9⟩) (c9 : PySem.W.codeIn K cd9 "state_by" = true) (k9 : PySem.W.keepIn K (.ref f9) = true)
    (a10 : PySem.W.nsIn K mainGlobals "states_along" = some (some (.ref f10))) (l10 : K.lookup f10 = some ⟨oc10, od10, .func (PySem.W.fnOf "states_along" "states_along" (defArgs s_states_along) (defBody s_states_along) (defScope s_states_along) .none kV10 dc10 pm10 an10 cd10 ct10), sl10⟩) (c10 : PySem.W.codeIn K cd10 "states_along" = true) (k10 : PySem.W.keepIn K (.ref f10) = true)
    (a11 : PySem.W.nsIn K mainGlobals "stand_behind" = some (some (.ref f11))) (l11 : K.lookup f11 = some ⟨oc11, od11, .func (PySem.W.fnOf "stand_behind" "stand_behind" (defArgs s_stand_behind) (defBody s_stand_behind) (defScope s_stand_behind) .none kV11 dc11 pm11 an11 cd11 ct11), sl11⟩) (c11 : PySem.W.codeIn K cd11 "stand_behind" = true) (k11 : PySem.W.keepIn K (.ref f11) = true)
    (a12 : PySem.W.nsIn K mainGlobals "running_houses" = some (some (.ref f12))) (l12 : K.lookup f12 = some ⟨oc12, od12, .func (PySem.W.fnOf "running_houses" "running_houses" (defArgs s_running_houses) (defBody s_running_houses) (defScope s_running_houses) .none kV12 dc12 pm12 an12 cd12 ct12), sl12⟩) (c12 : PySem.W.codeIn K cd12 "running_houses" = true) (k12 : PySem.W.keepIn K (.ref f12) = true)
    (a13 : PySem.W.nsIn K mainGlobals "runs_twice" = some (some (.ref f13))) (l13 : K.lookup f13 = some ⟨oc13, od13, .func (PySem.W.fnOf "runs_twice" "runs_twice" (defArgs s_runs_twice) (defBody s_runs_twice) (defScope s_runs_twice) .none kV13 dc13 pm13 an13 cd13 ct13), sl13⟩) (c13 : PySem.W.codeIn K cd13 "runs_twice" = true) (k13 : PySem.W.keepIn K (.ref f13) = true)
    (a14 : PySem.W.nsIn K mainGlobals "ways_from" = some (some (.ref f14))) (l14 : K.lookup f14 = some ⟨oc14, od14, .func (PySem.W.fnOf "ways_from" "ways_from" (defArgs s_ways_from) (defBody s_ways_from) (defScope s_ways_from) .none kV14 dc14 pm14 an14 cd14 ct14), sl14⟩) (c14 : PySem.W.codeIn K cd14 "ways_from" = true) (k14 : PySem.W.keepIn K (.ref f14) = true)
    (a15 : PySem.W.nsIn K mainGlobals "reached_from" = some (some (.ref f15))) (l15 : K.lookup f15 = some ⟨oc15, od15, .func (PySem.W.fnOf "reached_from" "reached_from" (defArgs s_reached_from) (defBody s_reached_from) (defScope s_reached_from) .none kV15 dc15 pm15 an15 cd15 ct15), sl15⟩) (c15 : PySem.W.codeIn K cd15 "reached_from" = true) (k15 : PySem.W.keepIn K (.ref f15) = true)
    (a16 : PySem.W.nsIn K mainGlobals "steps_to" = some (some (.ref f16))) (l16 : K.lookup f16 = some ⟨oc16, od16, .func (PySem.W.fnOf "steps_to" "steps_to" (defArgs s_steps_to) (defBody s_steps_to) (defScope s_steps_to) .none kV16 dc16 pm16 an16 cd16 ct16), sl16⟩) (c16 : PySem.W.codeIn K cd16 "steps_to" = true) (k16 : PySem.W.keepIn K (.ref f16) = true)
    (a17 : PySem.W.nsIn K mainGlobals "two_run" = some (some (.ref f17))) (l17 : K.lookup f17 = some ⟨oc17, od17, .func (PySem.W.fnOf "two_run" "two_run" (defArgs s_two_run) (defBody s_two_run) (defScope s_two_run) (.ref dt17) kV17 dc17 pm17 an17 cd17 ct17), sl17⟩) (c17 : PySem.W.codeIn K cd17 "two_run" = true) (k17 : PySem.W.keepIn K (.ref f17) = true)
    (ld17 : K.lookup dt17 = some ⟨.type "tuple", dd17, .seq #[.int 200 dk17] dn17, dl17⟩)
    (a18 : PySem.W.nsIn K mainGlobals "closes" = some (some (.ref f18))) (l18 : K.lookup f18 = some ⟨oc18, od18, .func (PySem.W.fnOf "closes" "closes" (defArgs s_closes) (defBody s_closes) (defScope s_closes) .none kV18 dc18 pm18 an18 (.ref kc18) ct18), sl18⟩) (c18 : PySem.W.codeIn K (.ref kc18) "closes" = true) (k18 : PySem.W.keepIn K (.ref f18) = true)
    (h18 : K.lookup kc18 = some ⟨te18, td18, .fields tv18, tl18⟩) (v18 : tv18[11]? = some (.ref pt18)) (n18 : K.lookup pt18 = none) (q18 : PySem.W.codeHdIn K kc18 pt18 = true) (r18 : ((recsOf q).any fun e => e.name == "closes") = true)
    (a19 : PySem.W.nsIn K mainGlobals "end_of" = some (some (.ref f19))) (l19 : K.lookup f19 = some ⟨oc19, od19, .func (PySem.W.fnOf "end_of" "end_of" (defArgs s_end_of) (defBody s_end_of) (defScope s_end_of) .none kV19 dc19 pm19 an19 cd19 ct19), sl19⟩) (c19 : PySem.W.codeIn K cd19 "end_of" = true) (k19 : PySem.W.keepIn K (.ref f19) = true)
    (a20 : PySem.W.nsIn K mainGlobals "is_two_run" = some (some (.ref f20))) (l20 : K.lookup f20 = some ⟨oc20, od20, .func (PySem.W.fnOf "is_two_run" "is_two_run" (defArgs s_is_two_run) (defBody s_is_two_run) (defScope s_is_two_run) .none kV20 dc20 pm20 an20 (.ref kc20) ct20), sl20⟩) (c20 : PySem.W.codeIn K (.ref kc20) "is_two_run" = true) (k20 : PySem.W.keepIn K (.ref f20) = true)
    (h20 : K.lookup kc20 = some ⟨te20, td20, .fields tv20, tl20⟩) (v20 : tv20[11]? = some (.ref pt20)) (n20 : K.lookup pt20 = none) (q20 : PySem.W.codeHdIn K kc20 pt20 = true) (r20 : ((recsOf q).any fun e => e.name == "is_two_run") = true)
    (a21 : PySem.W.nsIn K mainGlobals "_law_stir" = some (some (.ref f21))) (l21 : K.lookup f21 = some ⟨oc21, od21, .func (PySem.W.fnOf "_law_stir" "_law_stir" (defArgs s_law_stir) (defBody s_law_stir) (defScope s_law_stir) .none kV21 dc21 pm21 an21 cd21 ct21), sl21⟩) (c21 : PySem.W.codeIn K cd21 "_law_stir" = true) (k21 : PySem.W.keepIn K (.ref f21) = true)
    (a22 : PySem.W.nsIn K mainGlobals "_law_some" = some (some (.ref f22))) (l22 : K.lookup f22 = some ⟨oc22, od22, .func (PySem.W.fnOf "_law_some" "_law_some" (defArgs s_law_some) (defBody s_law_some) (defScope s_law_some) .none kV22 dc22 pm22 an22 cd22 ct22), sl22⟩) (c22 : PySem.W.codeIn K cd22 "_law_some" = true) (k22 : PySem.W.keepIn K (.ref f22) = true)
    (a23 : PySem.W.nsIn K mainGlobals "_law_cell" = some (some (.ref f23))) (l23 : K.lookup f23 = some ⟨oc23, od23, .func (PySem.W.fnOf "_law_cell" "_law_cell" (defArgs s_law_cell) (defBody s_law_cell) (defScope s_law_cell) .none kV23 dc23 pm23 an23 cd23 ct23), sl23⟩) (c23 : PySem.W.codeIn K cd23 "_law_cell" = true) (k23 : PySem.W.keepIn K (.ref f23) = true)
    (a24 : PySem.W.nsIn K mainGlobals "_law_chain" = some (some (.ref f24))) (l24 : K.lookup f24 = some ⟨oc24, od24, .func (PySem.W.fnOf "_law_chain" "_law_chain" (defArgs s_law_chain) (defBody s_law_chain) (defScope s_law_chain) .none kV24 dc24 pm24 an24 cd24 ct24), sl24⟩) (c24 : PySem.W.codeIn K cd24 "_law_chain" = true) (k24 : PySem.W.keepIn K (.ref f24) = true)
    (a25 : PySem.W.nsIn K mainGlobals "_law_rule" = some (some (.ref f25))) (l25 : K.lookup f25 = some ⟨oc25, od25, .func (PySem.W.fnOf "_law_rule" "_law_rule" (defArgs s_law_rule) (defBody s_law_rule) (defScope s_law_rule) .none kV25 dc25 pm25 an25 cd25 ct25), sl25⟩) (c25 : PySem.W.codeIn K cd25 "_law_rule" = true) (k25 : PySem.W.keepIn K (.ref f25) = true)
    (a26 : PySem.W.nsIn K mainGlobals "_law_book" = some (some (.ref f26))) (l26 : K.lookup f26 = some ⟨oc26, od26, .func (PySem.W.fnOf "_law_book" "_law_book" (defArgs s_law_book) (defBody s_law_book) (defScope s_law_book) .none kV26 dc26 pm26 an26 cd26 ct26), sl26⟩) (c26 : PySem.W.codeIn K cd26 "_law_book" = true) (k26 : PySem.W.keepIn K (.ref f26) = true)
    (a27 : PySem.W.nsIn K mainGlobals "_law_can" = some (some (.ref f27))) (l27 : K.lookup f27 = some ⟨oc27, od27, .func (PySem.W.fnOf "_law_can" "_law_can" (defArgs s_law_can) (defBody s_law_can) (defScope s_law_can) .none kV27 dc27 pm27 an27 cd27 ct27), sl27⟩) (c27 : PySem.W.codeIn K cd27 "_law_can" = true) (k27 : PySem.W.keepIn K (.ref f27) = true)
    (a28 : PySem.W.nsIn K mainGlobals "_law_comes" = some (some (.ref f28))) (l28 : K.lookup f28 = some ⟨oc28, od28, .func (PySem.W.fnOf "_law_comes" "_law_comes" (defArgs s_law_comes) (defBody s_law_comes) (defScope s_law_comes) .none kV28 dc28 pm28 an28 cd28 ct28), sl28⟩) (c28 : PySem.W.codeIn K cd28 "_law_comes" = true) (k28 : PySem.W.keepIn K (.ref f28) = true)
    (a29 : PySem.W.nsIn K mainGlobals "_law_running" = some (some (.ref f29))) (l29 : K.lookup f29 = some ⟨oc29, od29, .func (PySem.W.fnOf "_law_running" "_law_running" (defArgs s_law_running) (defBody s_law_running) (defScope s_law_running) .none kV29 dc29 pm29 an29 cd29 ct29), sl29⟩) (c29 : PySem.W.codeIn K cd29 "_law_running" = true) (k29 : PySem.W.keepIn K (.ref f29) = true)
    (a30 : PySem.W.nsIn K mainGlobals "_law_all" = some (some (.ref f30))) (l30 : K.lookup f30 = some ⟨oc30, od30, .func (PySem.W.fnOf "_law_all" "_law_all" (defArgs s_law_all) (defBody s_law_all) (defScope s_law_all) .none kV30 dc30 pm30 an30 cd30 ct30), sl30⟩) (c30 : PySem.W.codeIn K cd30 "_law_all" = true) (k30 : PySem.W.keepIn K (.ref f30) = true)
    (a31 : PySem.W.nsIn K mainGlobals "_law_along" = some (some (.ref f31))) (l31 : K.lookup f31 = some ⟨oc31, od31, .func (PySem.W.fnOf "_law_along" "_law_along" (defArgs s_law_along) (defBody s_law_along) (defScope s_law_along) .none kV31 dc31 pm31 an31 cd31 ct31), sl31⟩) (c31 : PySem.W.codeIn K cd31 "_law_along" = true) (k31 : PySem.W.keepIn K (.ref f31) = true)
    (a32 : PySem.W.nsIn K mainGlobals "_law_walk" = some (some (.ref f32))) (l32 : K.lookup f32 = some ⟨oc32, od32, .func (PySem.W.fnOf "_law_walk" "_law_walk" (defArgs s_law_walk) (defBody s_law_walk) (defScope s_law_walk) .none kV32 dc32 pm32 an32 cd32 ct32), sl32⟩) (c32 : PySem.W.codeIn K cd32 "_law_walk" = true) (k32 : PySem.W.keepIn K (.ref f32) = true)
    (a33 : PySem.W.nsIn K mainGlobals "_law_whole" = some (some (.ref f33))) (l33 : K.lookup f33 = some ⟨oc33, od33, .func (PySem.W.fnOf "_law_whole" "_law_whole" (defArgs s_law_whole) (defBody s_law_whole) (defScope s_law_whole) .none kV33 dc33 pm33 an33 cd33 ct33), sl33⟩) (c33 : PySem.W.codeIn K cd33 "_law_whole" = true) (k33 : PySem.W.keepIn K (.ref f33) = true)
    (a34 : PySem.W.nsIn K mainGlobals "_law_is_letters" = some (some (.ref f34))) (l34 : K.lookup f34 = some ⟨oc34, od34, .func (PySem.W.fnOf "_law_is_letters" "_law_is_letters" (defArgs s_law_is_letters) (defBody s_law_is_letters) (defScope s_law_is_letters) .none kV34 dc34 pm34 an34 cd34 ct34), sl34⟩) (c34 : PySem.W.codeIn K cd34 "_law_is_letters" = true) (k34 : PySem.W.keepIn K (.ref f34) = true)
    (a35 : PySem.W.nsIn K mainGlobals "_law_is_state" = some (some (.ref f35))) (l35 : K.lookup f35 = some ⟨oc35, od35, .func (PySem.W.fnOf "_law_is_state" "_law_is_state" (defArgs s_law_is_state) (defBody s_law_is_state) (defScope s_law_is_state) .none kV35 dc35 pm35 an35 cd35 ct35), sl35⟩) (c35 : PySem.W.codeIn K cd35 "_law_is_state" = true) (k35 : PySem.W.keepIn K (.ref f35) = true)
    (a36 : PySem.W.nsIn K mainGlobals "_law_closed" = some (some (.ref f36))) (l36 : K.lookup f36 = some ⟨oc36, od36, .func (PySem.W.fnOf "_law_closed" "_law_closed" (defArgs s_law_closed) (defBody s_law_closed) (defScope s_law_closed) .none kV36 dc36 pm36 an36 cd36 ct36), sl36⟩) (c36 : PySem.W.codeIn K cd36 "_law_closed" = true) (k36 : PySem.W.keepIn K (.ref f36) = true)
    (a37 : PySem.W.nsIn K mainGlobals "_law_due" = some (some (.ref f37))) (l37 : K.lookup f37 = some ⟨oc37, od37, .func (PySem.W.fnOf "_law_due" "_law_due" (defArgs s_law_due) (defBody s_law_due) (defScope s_law_due) .none kV37 dc37 pm37 an37 cd37 ct37), sl37⟩) (c37 : PySem.W.codeIn K cd37 "_law_due" = true) (k37 : PySem.W.keepIn K (.ref f37) = true)
    (a38 : PySem.W.nsIn K mainGlobals "_law_bent_state" = some (some (.ref f38))) (l38 : K.lookup f38 = some ⟨oc38, od38, .func (PySem.W.fnOf "_law_bent_state" "_law_bent_state" (defArgs s_law_bent_state) (defBody s_law_bent_state) (defScope s_law_bent_state) .none kV38 dc38 pm38 an38 cd38 ct38), sl38⟩) (c38 : PySem.W.codeIn K cd38 "_law_bent_state" = true) (k38 : PySem.W.keepIn K (.ref f38) = true)
    (a39 : PySem.W.nsIn K mainGlobals "_law_bent" = some (some (.ref f39))) (l39 : K.lookup f39 = some ⟨oc39, od39, .func (PySem.W.fnOf "_law_bent" "_law_bent" (defArgs s_law_bent) (defBody s_law_bent) (defScope s_law_bent) .none kV39 dc39 pm39 an39 cd39 ct39), sl39⟩) (c39 : PySem.W.codeIn K cd39 "_law_bent" = true) (k39 : PySem.W.keepIn K (.ref f39) = true)
    (a40 : PySem.W.nsIn K mainGlobals "_law_gone_on" = some (some (.ref f40))) (l40 : K.lookup f40 = some ⟨oc40, od40, .func (PySem.W.fnOf "_law_gone_on" "_law_gone_on" (defArgs s_law_gone_on) (defBody s_law_gone_on) (defScope s_law_gone_on) .none kV40 dc40 pm40 an40 cd40 ct40), sl40⟩) (c40 : PySem.W.codeIn K cd40 "_law_gone_on" = true) (k40 : PySem.W.keepIn K (.ref f40) = true)
    (a41 : PySem.W.nsIn K mainGlobals "_law_letters" = some (some (.ref f41))) (l41 : K.lookup f41 = some ⟨oc41, od41, .func (PySem.W.fnOf "_law_letters" "_law_letters" (defArgs s_law_letters) (defBody s_law_letters) (defScope s_law_letters) .none kV41 dc41 pm41 an41 cd41 ct41), sl41⟩) (c41 : PySem.W.codeIn K cd41 "_law_letters" = true) (k41 : PySem.W.keepIn K (.ref f41) = true)
    (a42 : PySem.W.nsIn K mainGlobals "_law_start" = some (some (.ref f42))) (l42 : K.lookup f42 = some ⟨oc42, od42, .func (PySem.W.fnOf "_law_start" "_law_start" (defArgs s_law_start) (defBody s_law_start) (defScope s_law_start) .none kV42 dc42 pm42 an42 cd42 ct42), sl42⟩) (c42 : PySem.W.codeIn K cd42 "_law_start" = true) (k42 : PySem.W.keepIn K (.ref f42) = true)
    (a43 : PySem.W.nsIn K mainGlobals "_law_held" = some (some (.ref f43))) (l43 : K.lookup f43 = some ⟨oc43, od43, .func (PySem.W.fnOf "_law_held" "_law_held" (defArgs s_law_held) (defBody s_law_held) (defScope s_law_held) .none kV43 dc43 pm43 an43 cd43 ct43), sl43⟩) (c43 : PySem.W.codeIn K cd43 "_law_held" = true) (k43 : PySem.W.keepIn K (.ref f43) = true)
    (a44 : PySem.W.nsIn K mainGlobals "_law_odd_right" = some (some (.ref f44))) (l44 : K.lookup f44 = some ⟨oc44, od44, .func (PySem.W.fnOf "_law_odd_right" "_law_odd_right" (defArgs s_law_odd_right) (defBody s_law_odd_right) (defScope s_law_odd_right) .none kV44 dc44 pm44 an44 cd44 ct44), sl44⟩) (c44 : PySem.W.codeIn K cd44 "_law_odd_right" = true) (k44 : PySem.W.keepIn K (.ref f44) = true)
    (a45 : PySem.W.nsIn K mainGlobals "law" = some (some (.ref f45))) (l45 : K.lookup f45 = some ⟨oc45, od45, .func (PySem.W.fnOf "law" "law" (defArgs s_law) (defBody s_law) (defScope s_law) .none kV45 dc45 pm45 an45 cd45 ct45), sl45⟩) (c45 : PySem.W.codeIn K cd45 "law" = true) (k45 : PySem.W.keepIn K (.ref f45) = true)
    (z_abs : PySem.W.nsIn K mainGlobals "abs" = some none)
    (z_all : PySem.W.nsIn K mainGlobals "all" = some none)
    (z_any : PySem.W.nsIn K mainGlobals "any" = some none)
    (z_bool : PySem.W.nsIn K mainGlobals "bool" = some none)
    (z_enumerate : PySem.W.nsIn K mainGlobals "enumerate" = some none)
    (z_int : PySem.W.nsIn K mainGlobals "int" = some none)
    (z_isinstance : PySem.W.nsIn K mainGlobals "isinstance" = some none)
    (z_len : PySem.W.nsIn K mainGlobals "len" = some none)
    (z_list : PySem.W.nsIn K mainGlobals "list" = some none)
    (z_range : PySem.W.nsIn K mainGlobals "range" = some none)
    (z_repr : PySem.W.nsIn K mainGlobals "repr" = some none)
    (z_reversed : PySem.W.nsIn K mainGlobals "reversed" = some none)
    (z_set : PySem.W.nsIn K mainGlobals "set" = some none)
    (z_sorted : PySem.W.nsIn K mainGlobals "sorted" = some none)
    (z_tuple : PySem.W.nsIn K mainGlobals "tuple" = some none)
    (z_zip : PySem.W.nsIn K mainGlobals "zip" = some none)
    : Rg.LawG l w K CX0 10 63 "script" mg fa h := by
  have e := hfa.symm.trans (PySem.W.mg_of X G a45)
  cases e
  have F1 := funC_mk (st := s_is_rising) l1 c1 k1
  have T1 := AT "is_rising" f1 kc1 pt1 _ _ _ _ _ _ r1 (PySem.W.mg_of X G a1) l1 rfl rfl h1 v1
  have F2 := fun_mk (st := s_is_whole) l2 c2 k2
  have F3 := fun_mk (st := s_is_whole_within) l3 c3 k3
  have F4 := fun_mk (st := s_is_tuple_of) l4 c4 k4
  have F5 := funC_mk (st := s_are_letters) l5 c5 k5
  have T5 := AT "are_letters" f5 kc5 pt5 _ _ _ _ _ _ r5 (PySem.W.mg_of X G a5) l5 rfl rfl h5 v5
  have F6 := fun_mk (st := s_is_state) l6 c6 k6
  have F7 := fun_mk (st := s_can_be_done) l7 c7 k7
  have F8 := fun_mk (st := s_letters_with) l8 c8 k8
  have F9 := fun_mk (st := s_state_by) l9 c9 k9
  have F10 := fun_mk (st := s_states_along) l10 c10 k10
  have F11 := fun_mk (st := s_stand_behind) l11 c11 k11
  have F12 := fun_mk (st := s_running_houses) l12 c12 k12
  have F13 := fun_mk (st := s_runs_twice) l13 c13 k13
  have F14 := fun_mk (st := s_ways_from) l14 c14 k14
  have F15 := fun_mk (st := s_reached_from) l15 c15 k15
  have F16 := fun_mk (st := s_steps_to) l16 c16 k16
  have F17 : Dl.FunT K "two_run" "two_run" s_two_run [.int 200] f17 _ := ⟨⟨_, _, _, _, _, _, _, _, _, _, rfl, l17, c17, .inr ⟨by simp, dt17, _, _, _, rfl, ld17, rfl, .cons ⟨_, rfl⟩ .nil⟩, .inl rfl⟩, k17⟩
  have b17 : Binds K _ ["book", "limit"] [] := Dl.FunD.two F17 fun _ _ _ _ _ _ _ us its l1 l2 => match us, l1, its, l2 with | [_, _], _, [_], _ => ⟨_, rfl, rfl⟩
  obtain ⟨u17, vd17, bd17⟩ := FunD.binds1 (ps := ["book", "limit"]) F17 1 0 (by simp) rfl fun _ _ _ _ _ _ _ us its l1 l2 => match us, l1, its, l2 with | [_], _, [_], _ => ⟨_, rfl, rfl⟩
  obtain ⟨kx17, kb17⟩ := FunD.kbindsD (ps := ["book", "limit"]) F17 1 ["limit"] (fun us _ ws => us ++ ws) (by simp) (fun r1 _ r3 => r1.append r3) fun _ _ _ _ _ _ _ us its ws l1 l2 l3 => match us, l1, its, l2, ws, l3 with | [_], _, [_], _, [_], _ => ⟨_, rfl, rfl⟩
  have F18 := funC_mk (st := s_closes) l18 c18 k18
  have T18 := AT "closes" f18 kc18 pt18 _ _ _ _ _ _ r18 (PySem.W.mg_of X G a18) l18 rfl rfl h18 v18
  have F19 := fun_mk (st := s_end_of) l19 c19 k19
  have F20 := funC_mk (st := s_is_two_run) l20 c20 k20
  have T20 := AT "is_two_run" f20 kc20 pt20 _ _ _ _ _ _ r20 (PySem.W.mg_of X G a20) l20 rfl rfl h20 v20
  have F21 := fun_mk (st := s_law_stir) l21 c21 k21
  have F22 := fun_mk (st := s_law_some) l22 c22 k22
  have F23 := fun_mk (st := s_law_cell) l23 c23 k23
  have F24 := fun_mk (st := s_law_chain) l24 c24 k24
  have F25 := fun_mk (st := s_law_rule) l25 c25 k25
  have F26 := fun_mk (st := s_law_book) l26 c26 k26
  have F27 := fun_mk (st := s_law_can) l27 c27 k27
  have F28 := fun_mk (st := s_law_comes) l28 c28 k28
  have F29 := fun_mk (st := s_law_running) l29 c29 k29
  have F30 := fun_mk (st := s_law_all) l30 c30 k30
  have F31 := fun_mk (st := s_law_along) l31 c31 k31
  have F32 := fun_mk (st := s_law_walk) l32 c32 k32
  have F33 := fun_mk (st := s_law_whole) l33 c33 k33
  have F34 := fun_mk (st := s_law_is_letters) l34 c34 k34
  have F35 := fun_mk (st := s_law_is_state) l35 c35 k35
  have F36 := fun_mk (st := s_law_closed) l36 c36 k36
  have F37 := fun_mk (st := s_law_due) l37 c37 k37
  have F38 := fun_mk (st := s_law_bent_state) l38 c38 k38
  have F39 := fun_mk (st := s_law_bent) l39 c39 k39
  have F40 := fun_mk (st := s_law_gone_on) l40 c40 k40
  have F41 := fun_mk (st := s_law_letters) l41 c41 k41
  have F42 := fun_mk (st := s_law_start) l42 c42 k42
  have F43 := fun_mk (st := s_law_held) l43 c43 k43
  have F44 := fun_mk (st := s_law_odd_right) l44 c44 k44
  have F45 := fun_mk (st := s_law) l45 c45 k45
  have b1 := F1.plain.binds (ps := ["things"]) fun _ _ _ _ _ _ us hl => match us, hl with | [_], _ => rfl
  have b2 := F2.binds (ps := ["thing"]) fun _ _ _ _ _ _ us hl => match us, hl with | [_], _ => rfl
  have b3 := F3.binds (ps := ["thing", "least", "most"]) fun _ _ _ _ _ _ us hl => match us, hl with | [_, _, _], _ => rfl
  have b4 := F4.binds (ps := ["thing", "many"]) fun _ _ _ _ _ _ us hl => match us, hl with | [_, _], _ => rfl
  have b5 := F5.plain.binds (ps := ["thing", "letters"]) fun _ _ _ _ _ _ us hl => match us, hl with | [_, _], _ => rfl
  have b6 := F6.binds (ps := ["book", "thing"]) fun _ _ _ _ _ _ us hl => match us, hl with | [_, _], _ => rfl
  have b7 := F7.binds (ps := ["rule", "state"]) fun _ _ _ _ _ _ us hl => match us, hl with | [_, _], _ => rfl
  have b8 := F8.binds (ps := ["letters", "said"]) fun _ _ _ _ _ _ us hl => match us, hl with | [_, _], _ => rfl
  have b9 := F9.binds (ps := ["rule", "state"]) fun _ _ _ _ _ _ us hl => match us, hl with | [_, _], _ => rfl
  have b10 := F10.binds (ps := ["book", "steps"]) fun _ _ _ _ _ _ us hl => match us, hl with | [_, _], _ => rfl
  have b11 := F11.binds (ps := ["book", "steps"]) fun _ _ _ _ _ _ us hl => match us, hl with | [_, _], _ => rfl
  have b12 := F12.binds (ps := ["book", "state"]) fun _ _ _ _ _ _ us hl => match us, hl with | [_, _], _ => rfl
  have b13 := F13.binds (ps := ["book", "state"]) fun _ _ _ _ _ _ us hl => match us, hl with | [_, _], _ => rfl
  have b14 := F14.binds (ps := ["book", "state"]) fun _ _ _ _ _ _ us hl => match us, hl with | [_, _], _ => rfl
  have b15 := F15.binds (ps := ["book", "first", "limit"]) fun _ _ _ _ _ _ us hl => match us, hl with | [_, _, _], _ => rfl
  have b16 := F16.binds (ps := ["came", "state"]) fun _ _ _ _ _ _ us hl => match us, hl with | [_, _], _ => rfl
  have b18 := F18.plain.binds (ps := ["book", "first", "some"]) fun _ _ _ _ _ _ us hl => match us, hl with | [_, _, _], _ => rfl
  have b19 := F19.binds (ps := ["book", "steps"]) fun _ _ _ _ _ _ us hl => match us, hl with | [_, _], _ => rfl
  have b20 := F20.plain.binds (ps := ["book", "thing"]) fun _ _ _ _ _ _ us hl => match us, hl with | [_, _], _ => rfl
  have b21 := F21.binds (ps := ["cell", "k"]) fun _ _ _ _ _ _ us hl => match us, hl with | [_, _], _ => rfl
  have b22 := F22.binds (ps := ["cell", "many"]) fun _ _ _ _ _ _ us hl => match us, hl with | [_, _], _ => rfl
  have b23 := F23.binds (ps := ["script", "k"]) fun _ _ _ _ _ _ us hl => match us, hl with | [_, _], _ => rfl
  have b24 := F24.binds (ps := ["turns", "letters"]) fun _ _ _ _ _ _ us hl => match us, hl with | [_, _], _ => rfl
  have b25 := F25.binds (ps := ["some", "many", "letters"]) fun _ _ _ _ _ _ us hl => match us, hl with | [_, _, _], _ => rfl
  have b26 := F26.binds (ps := ["script"]) fun _ _ _ _ _ _ us hl => match us, hl with | [_], _ => rfl
  have b27 := F27.binds (ps := ["state", "rule"]) fun _ _ _ _ _ _ us hl => match us, hl with | [_, _], _ => rfl
  have b28 := F28.binds (ps := ["state", "rule"]) fun _ _ _ _ _ _ us hl => match us, hl with | [_, _], _ => rfl
  have b29 := F29.binds (ps := ["book", "state"]) fun _ _ _ _ _ _ us hl => match us, hl with | [_, _], _ => rfl
  have b30 := F30.binds (ps := ["book", "most"]) fun _ _ _ _ _ _ us hl => match us, hl with | [_, _], _ => rfl
  have b31 := F31.binds (ps := ["book", "steps"]) fun _ _ _ _ _ _ us hl => match us, hl with | [_, _], _ => rfl
  have b32 := F32.binds (ps := ["book", "some"]) fun _ _ _ _ _ _ us hl => match us, hl with | [_, _], _ => rfl
  have b33 := F33.binds (ps := ["thing"]) fun _ _ _ _ _ _ us hl => match us, hl with | [_], _ => rfl
  have b34 := F34.binds (ps := ["book", "thing"]) fun _ _ _ _ _ _ us hl => match us, hl with | [_, _], _ => rfl
  have b35 := F35.binds (ps := ["book", "thing"]) fun _ _ _ _ _ _ us hl => match us, hl with | [_, _], _ => rfl
  have b36 := F36.binds (ps := ["book", "first", "things"]) fun _ _ _ _ _ _ us hl => match us, hl with | [_, _, _], _ => rfl
  have b37 := F37.binds (ps := ["book", "thing"]) fun _ _ _ _ _ _ us hl => match us, hl with | [_, _], _ => rfl
  have b38 := F38.binds (ps := ["book", "state", "some"]) fun _ _ _ _ _ _ us hl => match us, hl with | [_, _, _], _ => rfl
  have b39 := F39.binds (ps := ["book", "thing", "some"]) fun _ _ _ _ _ _ us hl => match us, hl with | [_, _, _], _ => rfl
  have b40 := F40.binds (ps := ["book", "starts", "most"]) fun _ _ _ _ _ _ us hl => match us, hl with | [_, _, _], _ => rfl
  have b41 := F41.binds (ps := ["book", "one"]) fun _ _ _ _ _ _ us hl => match us, hl with | [_, _], _ => rfl
  have b42 := F42.binds (ps := ["book", "found", "some"]) fun _ _ _ _ _ _ us hl => match us, hl with | [_, _, _], _ => rfl
  have b43 := F43.binds (ps := ["book", "thing"]) fun _ _ _ _ _ _ us hl => match us, hl with | [_, _], _ => rfl
  have b44 := F44.binds (ps := ["book", "far"]) fun _ _ _ _ _ _ us hl => match us, hl with | [_, _], _ => rfl
  refine ⟨PySem.W.fnOf "law" "law" (defArgs s_law) (defBody s_law) (defScope s_law) .none kV45 dc45 pm45 an45 cd45 ct45, [(kc1, pt1), (kc5, pt5), (kc18, pt18), (kc20, pt20)], Dl.spLawT K [pt1, pt5, pt18, pt20], (List.forall_mem_cons.mpr ⟨T1, List.forall_mem_cons.mpr ⟨T5, List.forall_mem_cons.mpr ⟨T18, List.forall_mem_cons.mpr ⟨T20, fun _ h => nomatch h⟩⟩⟩⟩), (List.forall_mem_cons.mpr ⟨n1, List.forall_mem_cons.mpr ⟨n5, List.forall_mem_cons.mpr ⟨n18, List.forall_mem_cons.mpr ⟨n20, fun _ h => nomatch h⟩⟩⟩⟩), (List.forall_mem_cons.mpr ⟨PySem.W.codeHd_of_K X q1, List.forall_mem_cons.mpr ⟨PySem.W.codeHd_of_K X q5, List.forall_mem_cons.mpr ⟨PySem.W.codeHd_of_K X q18, List.forall_mem_cons.mpr ⟨PySem.W.codeHd_of_K X q20, fun _ h => nomatch h⟩⟩⟩⟩), fun s v => .of_eq rfl, fun H a ns hl _ hH hS => ⟨a, ns, rfl, hS, hl, ?_, fun _ => rfl⟩, fun base _ _ TB => ?_⟩
  · intro P hP
    have hP : P ∈ ([(kc1, pt1), (kc5, pt5), (kc18, pt18), (kc20, pt20)] : List (Addr × Addr)).map (·.2) := hP
    obtain ⟨p, hp, rfl⟩ := List.mem_map.mp hP
    exact Dl.tabG_nil (hH p hp)
  · exact ok_law (base := base) F45 { ts := [pt1, pt5, pt18, pt20], f_is_rising := f1, d_is_rising := _, F_is_rising := F1, b_is_rising := b1, g_is_rising := PySem.W.mg_of X G a1, k_is_rising := kc1, p_is_rising := pt1, tb_is_rising := Dl.tabB_of (TB (kc1, pt1) (List.mem_cons_self ..)), ti_is_rising := List.mem_cons_self .., f_is_whole := f2, d_is_whole := _, F_is_whole := F2, b_is_whole := b2, g_is_whole := PySem.W.mg_of X G a2, f_is_whole_within := f3, d_is_whole_within := _, F_is_whole_within := F3, b_is_whole_within := b3, g_is_whole_within := PySem.W.mg_of X G a3, f_is_tuple_of := f4, d_is_tuple_of := _, F_is_tuple_of := F4, b_is_tuple_of := b4, g_is_tuple_of := PySem.W.mg_of X G a4, f_are_letters := f5, d_are_letters := _, F_are_letters := F5, b_are_letters := b5, g_are_letters := PySem.W.mg_of X G a5, k_are_letters := kc5, p_are_letters := pt5, tb_are_letters := Dl.tabB_of (TB (kc5, pt5) (List.mem_cons_of_mem _ (List.mem_cons_self ..))), ti_are_letters := List.mem_cons_of_mem _ (List.mem_cons_self ..), f_is_state := f6, d_is_state := _, F_is_state := F6, b_is_state := b6, g_is_state := PySem.W.mg_of X G a6, f_can_be_done := f7, d_can_be_done := _, F_can_be_done := F7, b_can_be_done := b7, g_can_be_done := PySem.W.mg_of X G a7, f_letters_with := f8, d_letters_with := _, F_letters_with := F8, b_letters_with := b8, g_letters_with := PySem.W.mg_of X G a8, f_state_by := f9, d_state_by := _, F_state_by := F9, b_state_by := b9, g_state_by := PySem.W.mg_of X G a9, f_states_along := f10, d_states_along := _, F_states_along := F10, b_states_along := b10, g_states_along := PySem.W.mg_of X G a10, f_stand_behind := f11, d_stand_behind := _, F_stand_behind := F11, b_stand_behind := b11, g_stand_behind := PySem.W.mg_of X G a11, f_running_houses := f12, d_running_houses := _, F_running_houses := F12, b_running_houses := b12, g_running_houses := PySem.W.mg_of X G a12, f_runs_twice := f13, d_runs_twice := _, F_runs_twice := F13, b_runs_twice := b13, g_runs_twice := PySem.W.mg_of X G a13, f_ways_from := f14, d_ways_from := _, F_ways_from := F14, b_ways_from := b14, g_ways_from := PySem.W.mg_of X G a14, f_reached_from := f15, d_reached_from := _, F_reached_from := F15, b_reached_from := b15, g_reached_from := PySem.W.mg_of X G a15, f_steps_to := f16, d_steps_to := _, F_steps_to := F16, b_steps_to := b16, g_steps_to := PySem.W.mg_of X G a16, f_two_run := f17, d_two_run := _, F_two_run := F17, b_two_run := b17, u_two_run := u17, vd_two_run := vd17, bd_two_run := bd17, kg_two_run := _, kb_two_run := kb17, g_two_run := PySem.W.mg_of X G a17, f_closes := f18, d_closes := _, F_closes := F18, b_closes := b18, g_closes := PySem.W.mg_of X G a18, k_closes := kc18, p_closes := pt18, tb_closes := Dl.tabB_of (TB (kc18, pt18) (List.mem_cons_of_mem _ (List.mem_cons_of_mem _ (List.mem_cons_self ..)))), ti_closes := List.mem_cons_of_mem _ (List.mem_cons_of_mem _ (List.mem_cons_self ..)), f_end_of := f19, d_end_of := _, F_end_of := F19, b_end_of := b19, g_end_of := PySem.W.mg_of X G a19, f_is_two_run := f20, d_is_two_run := _, F_is_two_run := F20, b_is_two_run := b20, g_is_two_run := PySem.W.mg_of X G a20, k_is_two_run := kc20, p_is_two_run := pt20, tb_is_two_run := Dl.tabB_of (TB (kc20, pt20) (List.mem_cons_of_mem _ (List.mem_cons_of_mem _ (List.mem_cons_of_mem _ (List.mem_cons_self ..))))), ti_is_two_run := List.mem_cons_of_mem _ (List.mem_cons_of_mem _ (List.mem_cons_of_mem _ (List.mem_cons_self ..))), f_law_stir := f21, d_law_stir := _, F_law_stir := F21, b_law_stir := b21, g_law_stir := PySem.W.mg_of X G a21, f_law_some := f22, d_law_some := _, F_law_some := F22, b_law_some := b22, g_law_some := PySem.W.mg_of X G a22, f_law_cell := f23, d_law_cell := _, F_law_cell := F23, b_law_cell := b23, g_law_cell := PySem.W.mg_of X G a23, f_law_chain := f24, d_law_chain := _, F_law_chain := F24, b_law_chain := b24, g_law_chain := PySem.W.mg_of X G a24, f_law_rule := f25, d_law_rule := _, F_law_rule := F25, b_law_rule := b25, g_law_rule := PySem.W.mg_of X G a25, f_law_book := f26, d_law_book := _, F_law_book := F26, b_law_book := b26, g_law_book := PySem.W.mg_of X G a26, f_law_can := f27, d_law_can := _, F_law_can := F27, b_law_can := b27, g_law_can := PySem.W.mg_of X G a27, f_law_comes := f28, d_law_comes := _, F_law_comes := F28, b_law_comes := b28, g_law_comes := PySem.W.mg_of X G a28, f_law_running := f29, d_law_running := _, F_law_running := F29, b_law_running := b29, g_law_running := PySem.W.mg_of X G a29, f_law_all := f30, d_law_all := _, F_law_all := F30, b_law_all := b30, g_law_all := PySem.W.mg_of X G a30, f_law_along := f31, d_law_along := _, F_law_along := F31, b_law_along := b31, g_law_along := PySem.W.mg_of X G a31, f_law_walk := f32, d_law_walk := _, F_law_walk := F32, b_law_walk := b32, g_law_walk := PySem.W.mg_of X G a32, f_law_whole := f33, d_law_whole := _, F_law_whole := F33, b_law_whole := b33, g_law_whole := PySem.W.mg_of X G a33, f_law_is_letters := f34, d_law_is_letters := _, F_law_is_letters := F34, b_law_is_letters := b34, g_law_is_letters := PySem.W.mg_of X G a34, f_law_is_state := f35, d_law_is_state := _, F_law_is_state := F35, b_law_is_state := b35, g_law_is_state := PySem.W.mg_of X G a35, f_law_closed := f36, d_law_closed := _, F_law_closed := F36, b_law_closed := b36, g_law_closed := PySem.W.mg_of X G a36, f_law_due := f37, d_law_due := _, F_law_due := F37, b_law_due := b37, g_law_due := PySem.W.mg_of X G a37, f_law_bent_state := f38, d_law_bent_state := _, F_law_bent_state := F38, b_law_bent_state := b38, g_law_bent_state := PySem.W.mg_of X G a38, f_law_bent := f39, d_law_bent := _, F_law_bent := F39, b_law_bent := b39, g_law_bent := PySem.W.mg_of X G a39, f_law_gone_on := f40, d_law_gone_on := _, F_law_gone_on := F40, b_law_gone_on := b40, g_law_gone_on := PySem.W.mg_of X G a40, f_law_letters := f41, d_law_letters := _, F_law_letters := F41, b_law_letters := b41, g_law_letters := PySem.W.mg_of X G a41, f_law_start := f42, d_law_start := _, F_law_start := F42, b_law_start := b42, g_law_start := PySem.W.mg_of X G a42, f_law_held := f43, d_law_held := _, F_law_held := F43, b_law_held := b43, g_law_held := PySem.W.mg_of X G a43, f_law_odd_right := f44, d_law_odd_right := _, F_law_odd_right := F44, b_law_odd_right := b44, g_law_odd_right := PySem.W.mg_of X G a44, m_abs := PySem.W.mg_none_of X G z_abs, m_all := PySem.W.mg_none_of X G z_all, m_any := PySem.W.mg_none_of X G z_any, m_bool := PySem.W.mg_none_of X G z_bool, m_enumerate := PySem.W.mg_none_of X G z_enumerate, m_int := PySem.W.mg_none_of X G z_int, m_isinstance := PySem.W.mg_none_of X G z_isinstance, m_len := PySem.W.mg_none_of X G z_len, m_list := PySem.W.mg_none_of X G z_list, m_range := PySem.W.mg_none_of X G z_range, m_repr := PySem.W.mg_none_of X G z_repr, m_reversed := PySem.W.mg_none_of X G z_reversed, m_set := PySem.W.mg_none_of X G z_set, m_sorted := PySem.W.mg_none_of X G z_sorted, m_tuple := PySem.W.mg_none_of X G z_tuple, m_zip := PySem.W.mg_none_of X G z_zip, a_FIRST := a_FIRST, c_FIRST := PySem.W.mg_of X G y_FIRST, D_FIRST := fun G => .tup (.inr ⟨_, _, _, lk_FIRST_0, rfl, rfl, by rw [sizeLine_eq]; show 4 ≤ 16777216; decide, (show L2.Vals [L2.V.int 0, L2.V.int 0, L2.V.ref ad_FIRST_0_2, L2.V.ref ad_FIRST_0_3] [.int 0 ti_FIRST_0_0, .int 0 ti_FIRST_0_1, .ref ad_FIRST_0_2, .ref ad_FIRST_0_3] from .cons ⟨_, rfl⟩ (.cons ⟨_, rfl⟩ (.cons rfl (.cons rfl (.nil)))))⟩) (.cons (.int _) (.cons (.int _) (.cons (.tup (.inr ⟨_, _, _, lk_FIRST_1, rfl, rfl, by rw [sizeLine_eq]; show 0 ≤ 16777216; decide, (show L2.Vals [] [] from .nil)⟩) (.nil)) (.cons (.tup (.inr ⟨_, _, _, lk_FIRST_2, rfl, rfl, by rw [sizeLine_eq]; show 0 ≤ 16777216; decide, (show L2.Vals [] [] from .nil)⟩) (.nil)) (.nil))))), C_NoStep := C_NoStep, gC_NoStep := PySem.W.mg_of X G yC_NoStep, C_TooMany := C_TooMany, gC_TooMany := PySem.W.mg_of X G yC_TooMany, xP_NoStep := xP_NoStep, kP_NoStep := kP_NoStep, bP_NoStep := bP_NoStep, tP_NoStep := tP_NoStep, xP_TooMany := xP_TooMany, kP_TooMany := kP_TooMany, bP_TooMany := bP_TooMany, tP_TooMany := tP_TooMany, e2 := e2, e3 := e3, X_NoStep := ⟨hg_NoStep, hk_NoStep, hs_NoStep, hd_NoStep, ha_NoStep, hn_NoStep, ht_NoStep, hm_NoStep⟩, X_TooMany := ⟨hg_TooMany, hk_TooMany, hs_TooMany, hd_TooMany, ha_TooMany, hn_TooMany, ht_TooMany, hm_TooMany⟩ }
end K35
open PySem PySem.W PyProof.Rows
set_option maxHeartbeats 0 in
theorem PySem.Challenge.cw_warmove_k35_never_and_two_looked_at_holds : PySem.Challenge.rw_warmove_k35_never_and_two_looked_at.Holds := by
  w_on; o_law; k_head; (case hw => w_witness2)
  k_fill
  refine Rg.walk_ofG (l := PySem.Challenge.rw_warmove_k35_never_and_two_looked_at) (n := 63) (k := 10) (x := "script") (CX := fun _ => L2.CX0) rfl (by decide) rfl ⟨rfl, by decide, by decide⟩ (fun w h Y => by first | exact PySem.W.kIn_of Y | exact PySem.W.km_in_of Y) ?F (fun _ _ _ _ _ h => h)
  case F =>
    intro w mg fa h KX G hmg AT
    refine' K35.all_mk KX G hmg AT ?y_FIRST ?lk_FIRST_0 ?lk_FIRST_1 ?lk_FIRST_2 ?yC_NoStep ?yC_TooMany ?xP_NoStep ?kP_NoStep ?bP_NoStep ?tP_NoStep ?xP_TooMany ?kP_TooMany ?bP_TooMany ?tP_TooMany ?hg_NoStep ?hk_NoStep ?hs_NoStep ?hd_NoStep ?ha_NoStep ?hn_NoStep ?ht_NoStep ?hm_NoStep ?hg_TooMany ?hk_TooMany ?hs_TooMany ?hd_TooMany ?ha_TooMany ?hn_TooMany ?ht_TooMany ?hm_TooMany ?e2 ?e3 ?a1 ?l1 ?c1 ?k1 ?h1 ?v1 ?n1 ?q1 ?r1 ?a2 ?l2 ?c2 ?k2 ?a3 ?l3 ?c3 ?k3 ?a4 ?l4 ?c4 ?k4 ?a5 ?l5 ?c5 ?k5 ?h5 ?v5 ?n5 ?q5 ?r5 ?a6 ?l6 ?c6 ?k6 ?a7 ?l7 ?c7 ?k7 ?a8 ?l8 ?c8 ?k8 ?a9 ?l9 ?c9 ?k9 ?a10 ?l10 ?c10 ?k10 ?a11 ?l11 ?c11 ?k11 ?a12 ?l12 ?c12 ?k12 ?a13 ?l13 ?c13 ?k13 ?a14 ?l14 ?c14 ?k14 ?a15 ?l15 ?c15 ?k15 ?a16 ?l16 ?c16 ?k16 ?a17 ?l17 ?c17 ?k17 ?ld17 ?a18 ?l18 ?c18 ?k18 ?h18 ?v18 ?n18 ?q18 ?r18 ?a19 ?l19 ?c19 ?k19 ?a20 ?l20 ?c20 ?k20 ?h20 ?v20 ?n20 ?q20 ?r20 ?a21 ?l21 ?c21 ?k21 ?a22 ?l22 ?c22 ?k22 ?a23 ?l23 ?c23 ?k23 ?a24 ?l24 ?c24 ?k24 ?a25 ?l25 ?c25 ?k25 ?a26 ?l26 ?c26 ?k26 ?a27 ?l27 ?c27 ?k27 ?a28 ?l28 ?c28 ?k28 ?a29 ?l29 ?c29 ?k29 ?a30 ?l30 ?c30 ?k30 ?a31 ?l31 ?c31 ?k31 ?a32 ?l32 ?c32 ?k32 ?a33 ?l33 ?c33 ?k33 ?a34 ?l34 ?c34 ?k34 ?a35 ?l35 ?c35 ?k35 ?a36 ?l36 ?c36 ?k36 ?a37 ?l37 ?c37 ?k37 ?a38 ?l38 ?c38 ?k38 ?a39 ?l39 ?c39 ?k39 ?a40 ?l40 ?c40 ?k40 ?a41 ?l41 ?c41 ?k41 ?a42 ?l42 ?c42 ?k42 ?a43 ?l43 ?c43 ?k43 ?a44 ?l44 ?c44 ?k44 ?a45 ?l45 ?c45 ?k45 ?z_abs ?z_all ?z_any ?z_bool ?z_enumerate ?z_int ?z_isinstance ?z_len ?z_list ?z_range ?z_repr ?z_reversed ?z_set ?z_sorted ?z_tuple ?z_zip
    (case y_FIRST => k_is); (case lk_FIRST_0 => k_is); (case lk_FIRST_1 => k_is); (case lk_FIRST_2 => k_is); (case yC_NoStep => k_is); (case yC_TooMany => k_is); (case xP_NoStep => k_exc); (case kP_NoStep => k_is); (case bP_NoStep => k_is); (case tP_NoStep => k_is); (case xP_TooMany => k_exc); (case kP_TooMany => k_is); (case bP_TooMany => k_is); (case tP_TooMany => k_is); (case hg_NoStep => first | k_is | kernel_rfl); (case hk_NoStep => first | k_is | kernel_rfl); (case hs_NoStep => first | k_is | kernel_rfl); (case hd_NoStep => first | k_is | kernel_rfl); (case ha_NoStep => first | k_is | kernel_rfl); (case hn_NoStep => first | k_is | kernel_rfl); (case ht_NoStep => first | k_is | kernel_rfl); (case hm_NoStep => first | k_is | kernel_rfl); (case hg_TooMany => first | k_is | kernel_rfl); (case hk_TooMany => first | k_is | kernel_rfl); (case hs_TooMany => first | k_is | kernel_rfl); (case hd_TooMany => first | k_is | kernel_rfl); (case ha_TooMany => first | k_is | kernel_rfl); (case hn_TooMany => first | k_is | kernel_rfl); (case ht_TooMany => first | k_is | kernel_rfl); (case hm_TooMany => first | k_is | kernel_rfl); (case e2 => first | k_is | kernel_rfl); (case e3 => first | k_is | kernel_rfl); (case a1 => k_is); (case l1 => k_is); (case c1 => k_is); (case k1 => k_is); (case h1 => k_is); (case v1 => exact rfl); (case n1 => kernel_rfl); (case q1 => kernel_rfl); (case r1 => kernel_rfl); (case a2 => k_is); (case l2 => k_is); (case c2 => k_is); (case k2 => k_is); (case a3 => k_is); (case l3 => k_is); (case c3 => k_is); (case k3 => k_is); (case a4 => k_is); (case l4 => k_is); (case c4 => k_is); (case k4 => k_is); (case a5 => k_is); (case l5 => k_is); (case c5 => k_is); (case k5 => k_is); (case h5 => k_is); (case v5 => exact rfl); (case n5 => kernel_rfl); (case q5 => kernel_rfl); (case r5 => kernel_rfl); (case a6 => k_is); (case l6 => k_is); (case c6 => k_is); (case k6 => k_is); (case a7 => k_is); (case l7 => k_is); (case c7 => k_is); (case k7 => k_is); (case a8 => k_is); (case l8 => k_is); (case c8 => k_is); (case k8 => k_is); (case a9 => k_is); (case l9 => k_is); (case c9 => k_is); (case k9 => k_is); (case a10 => k_is); (case l10 => k_is); (case c10 => k_is); (case k10 => k_is); (case a11 => k_is); (case l11 => k_is); (case c11 => k_is); (case k11 => k_is); (case a12 => k_is); (case l12 => k_is); (case c12 => k_is); (case k12 => k_is); (case a13 => k_is); (case l13 => k_is); (case c13 => k_is); (case k13 => k_is); (case a14 => k_is); (case l14 => k_is); (case c14 => k_is); (case k14 => k_is); (case a15 => k_is); (case l15 => k_is); (case c15 => k_is); (case k15 => k_is); (case a16 => k_is); (case l16 => k_is); (case c16 => k_is); (case k16 => k_is); (case a17 => k_is); (case l17 => k_is); (case c17 => k_is); (case k17 => k_is); (case ld17 => k_is); (case a18 => k_is); (case l18 => k_is); (case c18 => k_is); (case k18 => k_is); (case h18 => k_is); (case v18 => exact rfl); (case n18 => kernel_rfl); (case q18 => kernel_rfl); (case r18 => kernel_rfl); (case a19 => k_is); (case l19 => k_is); (case c19 => k_is); (case k19 => k_is); (case a20 => k_is); (case l20 => k_is); (case c20 => k_is); (case k20 => k_is); (case h20 => k_is); (case v20 => exact rfl); (case n20 => kernel_rfl); (case q20 => kernel_rfl); (case r20 => kernel_rfl); (case a21 => k_is); (case l21 => k_is); (case c21 => k_is); (case k21 => k_is); (case a22 => k_is); (case l22 => k_is); (case c22 => k_is); (case k22 => k_is); (case a23 => k_is); (case l23 => k_is); (case c23 => k_is); (case k23 => k_is); (case a24 => k_is); (case l24 => k_is); (case c24 => k_is); (case k24 => k_is); (case a25 => k_is); (case l25 => k_is); (case c25 => k_is); (case k25 => k_is); (case a26 => k_is); (case l26 => k_is); (case c26 => k_is); (case k26 => k_is); (case a27 => k_is); (case l27 => k_is); (case c27 => k_is); (case k27 => k_is); (case a28 => k_is); (case l28 => k_is); (case c28 => k_is); (case k28 => k_is); (case a29 => k_is); (case l29 => k_is); (case c29 => k_is); (case k29 => k_is); (case a30 => k_is); (case l30 => k_is); (case c30 => k_is); (case k30 => k_is); (case a31 => k_is); (case l31 => k_is); (case c31 => k_is); (case k31 => k_is); (case a32 => k_is); (case l32 => k_is); (case c32 => k_is); (case k32 => k_is); (case a33 => k_is); (case l33 => k_is); (case c33 => k_is); (case k33 => k_is); (case a34 => k_is); (case l34 => k_is); (case c34 => k_is); (case k34 => k_is); (case a35 => k_is); (case l35 => k_is); (case c35 => k_is); (case k35 => k_is); (case a36 => k_is); (case l36 => k_is); (case c36 => k_is); (case k36 => k_is); (case a37 => k_is); (case l37 => k_is); (case c37 => k_is); (case k37 => k_is); (case a38 => k_is); (case l38 => k_is); (case c38 => k_is); (case k38 => k_is); (case a39 => k_is); (case l39 => k_is); (case c39 => k_is); (case k39 => k_is); (case a40 => k_is); (case l40 => k_is); (case c40 => k_is); (case k40 => k_is); (case a41 => k_is); (case l41 => k_is); (case c41 => k_is); (case k41 => k_is); (case a42 => k_is); (case l42 => k_is); (case c42 => k_is); (case k42 => k_is); (case a43 => k_is); (case l43 => k_is); (case c43 => k_is); (case k43 => k_is); (case a44 => k_is); (case l44 => k_is); (case c44 => k_is); (case k44 => k_is); (case a45 => k_is); (case l45 => k_is); (case c45 => k_is); (case k45 => k_is); (case z_abs => k_is); (case z_all => k_is); (case z_any => k_is); (case z_bool => k_is); (case z_enumerate => k_is); (case z_int => k_is); (case z_isinstance => k_is); (case z_len => k_is); (case z_list => k_is); (case z_range => k_is); (case z_repr => k_is); (case z_reversed => k_is); (case z_set => k_is); (case z_sorted => k_is); (case z_tuple => k_is); (case z_zip => k_is)

