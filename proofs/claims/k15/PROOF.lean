import PyProof.Rows.All
import Wide.All
import OpenK.AllK
import Wide.FinOn
import HandS.Base
import HandS.Call
import HandS.List
import HandS.Comp
import HandS.Ends
import HandS.Words
import HandS.GenList
import HandS.AnyAll
import HandS.Lambda
import PyProof.SumAny
import HandS.Iter
import HandS.Dict
import KE.DataMinMax
import KE.KDictSum
import PyProof.Rows.CallKwBuiltin
import HandS.Conv
import HandS.SortKw
import HandS.ExcValue
import KE.KeyNested
import KE.KDictWalk
import HandS.WordsList
import HandS.TupAny
import HandS.Zip
import HandS.Wide
import HandS.IsInst
import HandS.TupMul
import HandS.Style
import HandS.EndOwn
import KE.KNestM
import HandS.SetFor
import HandS.Strs
import HandS.Text
import HandS.SortInts
import HandS.More
import HandS.Sort
import KE.GoesEnum
import HandS.Star
import HandS.TupSets
import KE.DataCmp
import HandS.SortOrd
import KE.KDictZip
import HandS.Exc
import HandS.ExcOwn
import HandS.WordsExc
import HandS.TryOnly
import HandS.ExcIs
import HandS.FStr
import HandS.RaiseMore
import HandS.Deep
import PySem.Challenge.RW_warmove_k15_whole_none_carries_fewer
set_option Elab.async false
set_option linter.all false
set_option maxRecDepth 100000
/-! a generator expression whose element calls defs: all(..), any(..) -/
namespace Gx
open PySem PySem.Spec PyProof.Rows L2 GenW GxR
/-- the context of a generator expression's frame -/
abbrev gcx (X : Cx) (A' : Around) (s : Shared) (H : Hp) (cenv : Env) (fp : List Addr) (pn : List (Addr × Obj)) : Cx :=
  { X with A := A', s_0 := s, H_0 := H, env := cenv, outer := X.stack, stack := cenv :: X.stack, ex := fp, fn := fun _ => false, pn := pn, xe := fun _ _ => False }
section
variable {X : Cx} {pins : List (Addr × Obj)} {σ : L2.St} {H : Hp} {s : Shared}
theorem inv_woke {s' : Shared} (I : Inv X pins σ H s) (hh : s'.heap = s.heap) (ho : s'.os = s.os) (hb : AllBare s'.gens) : Inv X pins σ H s' :=
  ⟨I.ok, ho.trans I.os, hb, by rw [hh]; exact I.base, by rw [hh]; exact I.loc, by rw [hh]; exact I.cell, I.free, I.freeC, by rw [hh]; exact I.pin, by rw [hh]; exact I.hok, I.len⟩
theorem gen_start {scope : Scope} {own : List (Str × Nat)} {fp : List Addr} {A' : Around} {code : Value} {s5 : Shared} {m : Str → Option Value} {pn : List (Addr × Obj)} {cenv : Env}
    (I : Inv X pins σ H s) (ok : BlkOk X.N X.env.scope scope own) (hN : X.N.Nodup) (hcell : ∀ y ∈ scope.names, y.2 ≠ .cell) (hfp : ∀ b ∈ fp, FpOk X pins H b ∧ b < s.heap.objs.size) (hA : A'.handled = none)
    (hcenv : cenv = genEnv scope (cloFrom X.env.cells scope.names []) s.heap.objs.size code builtinsNs X.env) (hfr : A'.frames = some (cenv :: X.stack)) (hos : s5.os = s.os) (hb : AllBare s5.gens)
    (kp : ∀ b o, s.heap.get? b = some o → s5.heap.get? b = some o) (ns : s5.heap.Ns s.heap.objs.size m) (hpn : ∀ p ∈ pn, s5.heap.get? p.1 = some p.2 ∧ s.heap.objs.size < p.1 ∧ ∀ v, p.2.data ≠ .cell v) :
    Inv (gcx X A' s H cenv fp pn) [] (wipe σ (own.map (·.2))) H s5 := by
  have hfree : ∀ y ∈ scope.names, y.2 = .free → ∃ c, X.env.cells.lookup y.1 = some c := fun y hy e => by
    rcases ok.free y hy e with k | k
    · exact I.ok.has _ (.inl k)
    · exact I.ok.has _ (.inr k)
  have hL : cenv.locals = s.heap.objs.size := by rw [hcenv]; rfl
  have hcl : cenv.cells = cloFrom X.env.cells scope.names [] := by rw [hcenv]; rfl
  have hsc : cenv.scope = scope := by rw [hcenv]; rfl
  have cm : ∀ {y c}, (y, c) ∈ cloFrom X.env.cells scope.names [] → X.env.cells.lookup y = some c ∧ c < s.heap.objs.size := fun {y c} hm => by
    rcases cloFrom_mem hm with hm | ⟨h1, rfl⟩
    · cases hm
    · obtain ⟨c, hc⟩ := hfree _ h1 rfl
      rw [hc]
      obtain ⟨w, z⟩ := I.cell _ _ hc
      exact ⟨rfl, z.lt⟩
  have mem : ∀ {y c}, cenv.cells.lookup y = some c → X.env.cells.lookup y = some c ∧ c < s.heap.objs.size := fun {y c} e => by
    rw [hcl] at e
    exact cm (PySem.mem_of_lookup e)
  have look : ∀ {y}, scope.names.lookup y = some .free → ∃ c, cenv.cells.lookup y = some c ∧ X.env.cells.lookup y = some c := fun {y} hl => by
    have hy : (y, NameKind.free) ∈ scope.names := PySem.mem_of_lookup hl
    obtain ⟨c', e'⟩ := mem_lookup (cloFrom_has (cells := X.env.cells) (acc := []) hy)
    rw [← hcl] at e'
    exact ⟨c', e', (mem e').1⟩
  have okB : (gcx X A' s H cenv fp pn).Ok := by
    refine ⟨I.ok.mod, by show cenv.scope.kind = _; rw [hsc]; exact ok.kind, by show cenv.globals = _; rw [hcenv]; exact I.ok.glob, by show cenv.builtins = _; rw [hcenv]; rfl, by show s.heap.objs.size ≤ cenv.locals; rw [hL]; exact Nat.le_refl _,
      fun y z c e1 e2 => I.ok.inj y z c (mem e1).1 (mem e2).1, fun y hy => ?_, fun y c z e => (by cases z), fun _ => hA, hfr, .inr ⟨rfl, by show cenv.frame = some cenv.locals; rw [hcenv]; rfl⟩, fun b hb => ⟨?_, fun y c e z => ?_⟩, I.bs, Nat.le_trans I.ok.bsz I.sz, fun b o e hb => ?_, fun b hb z => ?_, I.stack, I.stkFree⟩
    · show ∃ c, cenv.cells.lookup y = some c
      have key : ∀ k, cenv.kindOf y = some k → (k = .cell ∨ k = .free) → ∃ c, cenv.cells.lookup y = some c := fun k hk hk' => by
        unfold Env.kindOf at hk
        rw [hsc] at hk
        rcases hk' with rfl | rfl
        · exact absurd rfl (hcell _ (PySem.mem_of_lookup hk))
        · obtain ⟨c, h1, _⟩ := look hk
          exact ⟨c, h1⟩
      rcases hy with hy | hy
      · exact key _ hy (.inl rfl)
      · exact key _ hy (.inr rfl)
    · show b ≠ cenv.locals
      rw [hL]; exact Nat.ne_of_lt (hfp b hb).2
    · exact (hfp b hb).1.2.2.2.2.1 y c (mem e).1 z
    · rcases (hfp b hb).1.2.2.2.1 with z | z
      · exact I.ok.noex b o e z
      · exact absurd (Nat.lt_of_lt_of_le (Heap.lt_size e) (Nat.le_trans I.ok.bsz z)) (Nat.lt_irrefl _)
    · rcases List.mem_cons.mp (I.stkSub b z) with z | z
      · exact (hfp b hb).1.2.1 z
      · exact (hfp b hb).1.2.2.1 z
  refine ⟨okB, hos, hb, Un.kept kp, ⟨m, by show s5.heap.Ns cenv.locals m; rw [hL]; exact ns, fun i y av e1 e2 e3 => ?_⟩, fun y c e => ?_, ?_, fun y c e => I.freeC y c (mem e).1, fun p hp => ?_, I.hok.kept kp, by rw [wipe_length]; exact I.len⟩
  · obtain ⟨e2, hne⟩ := wipe_some e2
    have hfr : scope.names.lookup y = some .free := by
      have key : ∀ k, scope.names.lookup y = some k → k = .local ∨ k = .cell ∨ k = .free → scope.names.lookup y = some .free := fun k hk hk' => by
        have no : ¬ (k = .local ∨ k = .cell) := fun hh => by
          rcases ok.own _ (PySem.mem_of_lookup hk) hh with e' | e'
          · obtain ⟨p, hp, hpy⟩ := List.mem_map.mp e'
            have e3 := ok.ix p hp
            have : p.1 = y := hpy
            rw [this] at e3
            exact hne (List.mem_map.mpr ⟨p, hp, nodup_ix hN e3 e1⟩)
          · exact e' (List.mem_of_getElem? e1)
        rcases hk' with rfl | rfl | rfl
        · exact absurd (.inl rfl) no
        · exact absurd (.inr rfl) no
        · exact hk
      have e3 : Vis cenv.scope y := e3
      rw [hsc] at e3
      rcases e3 with e3 | e3 | e3
      · exact key _ e3 (.inl rfl)
      · exact key _ e3 (.inr (.inl rfl))
      · exact key _ e3 (.inr (.inr rfl))
    obtain ⟨m', hn, hl⟩ := I.loc
    have hvis : Vis X.env.scope y := (ok.free _ (PySem.mem_of_lookup hfr) rfl).elim (fun k => .inr (.inl k)) (fun k => .inr (.inr k))
    obtain ⟨w, r, q⟩ := hl i y av e1 e2 hvis
    refine ⟨w, r, .inr ⟨.inr (by show cenv.kindOf y = some .free; unfold Env.kindOf; rw [hsc]; exact hfr), ?_⟩⟩
    obtain ⟨c, h1, h2⟩ := look hfr
    rcases q with ⟨k, _⟩ | ⟨_, c', e', z⟩
    · have k : X.env.scope.names.lookup y = some .local := k
      rcases ok.free _ (PySem.mem_of_lookup hfr) rfl with k' | k' <;> rw [show X.env.scope.names.lookup y = _ from k'] at k <;> cases k
    · rw [h2] at e'; cases e'
      exact ⟨c, h1, z.keeps kp⟩
  · obtain ⟨w, z⟩ := I.cell y c (mem e).1
    exact ⟨w, z.keeps kp⟩
  · show H cenv.locals = none
    rw [hL]; exact I.hok.fresh (Nat.le_refl _)
  · have hp : p ∈ pn := by simpa using hp
    obtain ⟨h1, h2, h3⟩ := hpn p hp
    refine ⟨h1, I.hok.fresh (Nat.le_of_lt h2), ?_, fun z => ?_, h3⟩
    · show p.1 ≠ cenv.locals
      rw [hL]; exact Nat.ne_of_gt h2
    · have z : p.1 ∈ frs X.stack := z
      obtain ⟨_, o, ho, _⟩ := I.stack.mem z
      exact absurd (Nat.lt_trans h2 (Heap.lt_size ho)) (Nat.lt_irrefl _)
end
/-- a table of code objects, each of which is known -/
def TabX (H : Hp) (P : Addr) : Prop := ∃ ps : Array Value, H P = some (.tbl ps) ∧ TriplesOk ps.toList ∧ ∀ (pos : Pos) (cv : Value), codeAmong pos ps.toList = some cv → ∃ (c : Addr) (q : Str), cv = .ref c ∧ H c = some (LamX.CodeO c q)
/-- the table may have grown, all else stands -/
def TabbedX (P : Addr) (H H' : Hp) : Prop := TabX H' P ∧ ∀ b o, b ≠ P → H b = some o → H' b = some o
theorem TabX.keep {H H' : Hp} {P : Addr} (h : TabX H P) (k : ∀ a o, H a = some o → H' a = some o) : TabX H' P := by
  obtain ⟨ps, e, t, a⟩ := h
  refine ⟨ps, k _ _ e, t, fun pos cv hc => ?_⟩
  obtain ⟨c, q, e1, e2⟩ := a pos cv hc
  exact ⟨c, q, e1, k _ _ e2⟩
theorem TabbedX.same {H : Hp} {P : Addr} (h : TabX H P) : TabbedX P H H := ⟨h, fun _ _ _ e => e⟩
/-- another table stands -/
theorem TabX.other {H H' : Hp} {P P' : Addr} (h : TabX H P') (k : TabbedX P H H') (hp : TabX H P) : TabX H' P' := by
  by_cases z : P' = P
  · rw [z]; exact k.1
  · obtain ⟨ps, e, t, a⟩ := h
    refine ⟨ps, k.2 _ _ z e, t, fun pos cv hc => ?_⟩
    obtain ⟨c, q, e1, e2⟩ := a pos cv hc
    refine ⟨c, q, e1, k.2 _ _ (fun y => ?_) e2⟩
    obtain ⟨ps', e', _⟩ := hp
    rw [y, e'] at e2
    exact LamX.codeO_ne _ (Option.some.inj e2).symm
theorem tabX_new {H : Hp} {P c : Addr} {q : Str} {ps : Array Value} {pos : Pos} (hP : H P = some (.tbl ps)) (ht : TriplesOk ps.toList) (ha : ∀ (pos : Pos) (cv : Value), codeAmong pos ps.toList = some cv → ∃ (c : Addr) (q : Str), cv = .ref c ∧ H c = some (LamX.CodeO c q)) (hn : H c = none) :
    TabbedX P H (upd (upd H P (.tbl (ps ++ #[rawInt pos.line, rawInt pos.col, .ref c]))) c (LamX.CodeO c q)) := by
  have nPc : P ≠ c := ne_of_none hP hn
  have keep : ∀ b o, b ≠ P → H b = some o → upd (upd H P (.tbl (ps ++ #[rawInt pos.line, rawInt pos.col, .ref c]))) c (LamX.CodeO c q) b = some o := fun b o hb e => by
    rw [upd_ne (ne_of_none e hn), upd_ne hb]
    exact e
  have eL : (ps ++ #[rawInt pos.line, rawInt pos.col, .ref c]).toList = ps.toList ++ [rawInt pos.line, rawInt pos.col, .ref c] := by simp
  refine ⟨⟨_, by rw [upd_ne nPc, upd_same], by rw [eL]; exact PySem.TriplesOk_snoc _ _ _ _ ht, fun p' cv hcv => ?_⟩, keep⟩
  rw [eL] at hcv
  rcases LamX.among_app _ ht hcv with z | z
  · obtain ⟨c0, q0, e1, e2⟩ := ha p' cv z
    refine ⟨c0, q0, e1, keep _ _ (fun y => ?_) e2⟩
    rw [y, hP] at e2
    exact LamX.codeO_ne _ (Option.some.inj e2).symm
  · exact ⟨c, q, z, upd_same⟩
theorem tabX_nil {H : Hp} {P : Addr} (h : H P = some (.tbl #[])) : TabX H P := ⟨#[], h, trivial, fun pos cv hc => by
  have z : codeAmong pos [] = some cv := hc
  simp [codeAmong] at z⟩
end Gx
set_option Elab.async false
set_option linter.all false
set_option maxRecDepth 100000
set_option maxHeartbeats 1000000
namespace Gx
open PySem PySem.Spec PyProof.Rows L2 GenW GxR
/-- slept: nothing but the table of generators has changed -/
structure Woke (s s' : Shared) : Prop where
  heap : s'.heap = s.heap
  os : s'.os = s.os
  bare : AllBare s'.gens
/-- what a turn asks: W a word of the turn, a measure and the heap; Qt behind the last turn, D at each value handed out -/
def Turns (J : It) (g : TG) (tt : TT) (te : TE) (vs : List Nat) (σ0 : L2.St) (W : Nat → Nat → Hp → Prop) (Qt : Hp → Prop) (Yd : V → Hp → (Hp → Prop) → Prop) : Prop :=
  ∀ i m H, W i m H → (J.stop i H ∧ Qt H) ∨ (J.go i H ∧ ∃ Nx : Hp → Prop, (∀ H', Nx H' → ∃ m', m' < m ∧ W (i + 1) m' H') ∧ ∀ x H', J.yld i H x H' → g x σ0 H' fun σ2 H2 => wipe σ2 vs = σ0 ∧ tt σ2 H2 fun b H3 => if b = true then te σ2 H3 fun y H4 => Yd y H4 Nx else Nx H3)
/-- a truth is handed out: one way goes on, the other ends -/
def YdB (go : Bool) (Qf : Hp → Prop) : V → Hp → (Hp → Prop) → Prop := fun y H Nx => ∃ b, y = .bl b ∧ (if b = go then Nx H else Qf H)
abbrev RG (Y : Cx) (σ0 : L2.St) (Qt : Hp → Prop) : GenEnd := fun n s₀ r s₁ => ((r = .ok (.ret .none) ∨ r = .ok .next) ∧ (∃ H, Inv Y [] σ0 H s₁ ∧ Qt H)) ∨ ∃ e, r = .error e ∧ False
abbrev YG (Y : Cx) (go : Bool) (Qf : Hp → Prop) : Protocol := fun n s₀ v s kap => ∃ b H σ2, v = .bool b ∧ Inv Y [] σ2 H s ∧ (b ≠ go → Qf H) ∧ (b = go → ∀ s', Woke s s' → kap (.send .none) s')
section
variable {X : Cx} {A' B : Around} {s4 : Shared} {H4 : Hp} {cenv : Env} {fp : List Addr} {pn : List (Addr × Obj)} {it : Addr} {tn : Nat → Heap → Prop} {J : It} {elt tg iter : Expr} {ifs : List Expr} {scope : Scope} {pos : Pos} {g : TG} {tt : TT} {te : TE} {vs : List Nat} {σ0 : L2.St} {W : Nat → Nat → Hp → Prop} {Qt Qf : Hp → Prop} {go : Bool}
theorem seg_gx (hA : B.over (.compLoop (.GeneratorExp elt [⟨tg, iter, ifs, 0⟩] scope pos) 0 (.ref it) .none cenv) [] = A') (hc : X.calm = true) (hco : cenv.scope.isCoroutine = false) (T : Turn X.prog X.w X.K tg J fp it tn)
    (hst : ∀ H : Hp, (∀ b ∈ fp, H b = none) → ∀ b ∈ fp, FpOk (gcx X A' s4 H4 cenv fp pn) [] H b) (hσ : wipe σ0 vs = σ0)
    (hg : PG (gcx X A' s4 H4 cenv fp pn) tg g) (ht : PTs (gcx X A' s4 H4 cenv fp pn) ifs tt) (he : PE (gcx X A' s4 H4 cenv fp pn) elt te) (hturn : Turns J g tt te vs σ0 W Qt (YdB go Qf)) :
    ∀ (m n i : Nat) (H : Hp) (s₀ s : Shared), m + 1 ≤ n → Inv (gcx X A' s4 H4 cenv fp pn) [] σ0 H s → tn i s.heap → (∀ b ∈ fp, H b = none) → W i m H →
      Seg (model X.prog X.w) B (RG (gcx X A' s4 H4 cenv fp pn) σ0 Qt) (YG (gcx X A' s4 H4 cenv fp pn) go Qf) n s₀ (.compLoop (.GeneratorExp elt [⟨tg, iter, ifs, 0⟩] scope pos) 0 (.ref it) .none cenv)
        ((model X.prog X.w).den (.compLoop (.GeneratorExp elt [⟨tg, iter, ifs, 0⟩] scope pos) 0 (.ref it) .none cenv)) [] s := by
  intro m
  induction m using Nat.strongRecOn with
  | _ m ih =>
  intro n i H s₀ s hmn I st fr w
  show Seg _ B _ _ _ s₀ _ ((compTurn (.GeneratorExp elt [⟨tg, iter, ifs, 0⟩] scope pos) 0 (.ref it) .none cenv).onRaise (leaving cenv)) [] s
  rw [compTurn_gen, Sem.onRaise_eq_wrap]
  refine seg_bind_wrap (wpAny_standAt ?_)
  rcases hturn i m H w with ⟨stop, qn⟩ | ⟨goes, Nx, hN, step⟩
  · refine seg_bind_wrap ?_
    rw [hA]
    refine wpAny_mono (T.done (gcx X A' s4 H4 cenv fp pn) rfl rfl rfl hc i [] s σ0 H _ I (hst H fr) st stop) (fun r s1 hr => ?_) fun _ _ e => e
    obtain ⟨rfl, I1⟩ := hr
    exact seg_end (.ok .next) (.inl ⟨.inr rfl, H, I1, qn⟩)
  · refine seg_bind_wrap ?_
    rw [hA]
    refine wpAny_mono (T.item (gcx X A' s4 H4 cenv fp pn) rfl rfl rfl hc i [] s σ0 H _ I (hst H fr) st goes) (fun r s1 hr => ?_) fun _ _ e => e
    obtain ⟨u, rfl, h1⟩ := hr
    refine seg_bind_wrap ?_
    rw [hA]
    refine wpAny_mono h1 (fun _ s2 h2 => ?_) fun _ _ e => e
    obtain ⟨x, H2, I2, rx, yl, st2, fr2⟩ := h2
    have I2' := I2.pinned (hst H2 fr2) (T.obj _ _ st2)
    refine seg_bind_wrap ?_
    rw [hA]
    refine wpAny_mono (hg.run _ s2 σ0 H2 x u _ I2' rx (step x H2 yl)) (fun _ s3 h3 => ?_) fun _ _ e => e.elim
    obtain ⟨σ3, H3, I3, hw3, q3⟩ := h3
    -- the records of the iterator stand
    have keeps : ∀ {σ' : L2.St} {H' : Hp} {s' : Shared}, Inv (gcx X A' s4 H4 cenv fp pn) ([] ++ pinsAt fp s2.heap) σ' H' s' → tn (i + 1) s'.heap ∧ ∀ b ∈ fp, H' b = none := fun {σ' H' s'} I' =>
      ⟨T.keep _ _ _ st2 fun b hb o e => (I'.pin (b, o) (List.mem_append_right _ (List.mem_append_right _ (mem_pinsAt hb e)))).1, fun b hb => by
        obtain ⟨o, e, _⟩ := T.obj _ _ st2 b hb
        exact (I'.pin (b, o) (List.mem_append_right _ (List.mem_append_right _ (mem_pinsAt hb e)))).2.1⟩
    have back : ∀ {H' : Hp} {s' : Shared}, Inv (gcx X A' s4 H4 cenv fp pn) ([] ++ pinsAt fp s2.heap) σ3 H' s' → Inv (gcx X A' s4 H4 cenv fp pn) [] σ0 H' s' := fun {H' s'} I' => by
      refine I'.unpinned.weak ?_ fun j v e => ?_
      · rw [← hw3, wipe_length]
      · rw [← hw3] at e
        exact (wipe_some e).1
    refine seg_bind_wrap ?_
    rw [hA]
    refine wpAny_mono (ht.run _ s3 σ3 H3 _ I3 q3) (fun b s5 h5 => ?_) fun _ _ e => e.elim
    obtain ⟨H5, I5, q5⟩ := h5
    cases b with
    | false =>
      simp only [Bool.false_eq_true, if_false]
      obtain ⟨m', hm, w'⟩ := hN H5 q5
      obtain ⟨k1, k2⟩ := keeps I5
      exact seg_again rfl (ih m' hm n (i + 1) H5 s₀ s5 (by omega) (back I5) k1 k2 w')
    | true =>
      simp only [if_true]
      have hy : ∀ v, yieldOut cenv v = yieldValue v := fun v => by simp only [yieldOut, hco, Bool.false_eq_true, if_false]
      simp only [hy]
      rw [Sem.bind_eq_wrap', Sem.bind_eq_wrap', Sem.wrap_wrap, Sem.wrap_wrap]
      refine seg_wrap ?_
      rw [hA]
      refine wpAny_mono (he.run _ s5 σ3 H5 _ I5 q5) (fun v s6 h6 => ?_) fun _ _ e => e.elim
      obtain ⟨y, H6, I6, ry, b, rfl, q6⟩ := h6
      have ev : v = .bool b := ry
      subst ev
      obtain ⟨n', rfl⟩ : ∃ n', n = n' + 1 := ⟨n - 1, by omega⟩
      refine seg_at (seg_yield rfl rfl rfl ⟨b, H6, σ3, rfl, I6.unpinned, fun hb => ?_, fun hb s' wk => ?_⟩)
      · rw [if_neg hb] at q6; exact q6
      · rw [if_pos hb] at q6
        obtain ⟨m', hm, w'⟩ := hN H6 q6
        obtain ⟨k1, k2⟩ := keeps I6
        exact seg_again rfl (ih m' hm n' (i + 1) H6 s' s' (by omega) (inv_woke (back I6) wk.heap wk.os wk.bare) (by rw [wk.heap]; exact k1) k2 w')
/-- from its start -/
theorem seg_gx0 (hA : B.over (.compLoop (.GeneratorExp elt [⟨tg, iter, ifs, 0⟩] scope pos) 0 (.ref it) .none cenv) [] = A') (hc : X.calm = true) (hco : cenv.scope.isCoroutine = false) (T : Turn X.prog X.w X.K tg J fp it tn)
    (hst : ∀ H : Hp, (∀ b ∈ fp, H b = none) → ∀ b ∈ fp, FpOk (gcx X A' s4 H4 cenv fp pn) [] H b) (hσ : wipe σ0 vs = σ0)
    (hg : PG (gcx X A' s4 H4 cenv fp pn) tg g) (ht : PTs (gcx X A' s4 H4 cenv fp pn) ifs tt) (he : PE (gcx X A' s4 H4 cenv fp pn) elt te) (hturn : Turns J g tt te vs σ0 W Qt (YdB go Qf))
    (m : Nat) (H : Hp) (s₀ s : Shared) (I : Inv (gcx X A' s4 H4 cenv fp pn) [] σ0 H s) (st : tn 0 s.heap) (fr : ∀ b ∈ fp, H b = none) (w : W 0 m H) :
      Seg (model X.prog X.w) B (RG (gcx X A' s4 H4 cenv fp pn) σ0 Qt) (YG (gcx X A' s4 H4 cenv fp pn) go Qf) (m + 1) s₀ (.compStart (.GeneratorExp elt [⟨tg, iter, ifs, 0⟩] scope pos) 0 (.ref it) .none cenv)
        ((model X.prog X.w).den (.compStart (.GeneratorExp elt [⟨tg, iter, ifs, 0⟩] scope pos) 0 (.ref it) .none cenv)) [] s := by
  have loop := seg_gx hA hc hco T hst hσ hg ht he hturn m (m + 1) 0 H s₀ s (Nat.le_refl _) I st fr w
  show Seg _ B _ _ _ s₀ _ ((compStart (.GeneratorExp elt [⟨tg, iter, ifs, 0⟩] scope pos) 0 (.ref it) .none cenv).onRaise (leaving cenv)) [] s
  unfold compStart
  rw [Sem.onRaise_eq_wrap]
  show Seg _ B _ _ _ s₀ _ ((ask >>= _).wrap _ _ _ _) [] s
  refine seg_bind_wrap (wpAny_askSetting ?_)
  split
  · exact seg_again rfl loop
  · first
      | exact seg_bind_wrap (wpAny_rule (seg_bind_wrap (wpAny_standAt (seg_bind_wrap (T.self _ 0 s _ _ st (seg_again rfl loop))))))
      | (refine seg_bind_wrap (wpAny_rule ?_); show Seg _ B _ _ _ s₀ _ ((standAt iter.pos >>= _).wrap _ _ _ _) [] s; exact seg_bind_wrap (wpAny_standAt (seg_bind_wrap (T.self _ 0 s _ _ st (seg_again rfl loop)))))
end
/-! ### the consumer -/
section
variable {P : Program} {w : World} {Y : Cx} {σ0 : L2.St} {Qt Qf : Hp → Prop} {A : Around} {R : Result → Shared → Prop} {a : Addr} {g : Nat} {gobj : Obj}
theorem all_loop (hY : Y.prog = P ∧ Y.w = w) (hh : A.handled = none) (hd : A.depth < recursionLimit) (hp : (a, gobj) ∈ Y.pn) (hgo : ∀ s : Shared, s.heap.get? a = some gobj → s.heap.IsGen a g)
    (hT : ∀ s₁ H s', Inv Y [] σ0 H s₁ → Qt H → (∀ b o, s₁.heap.get? b = some o → s'.heap.get? b = some o) → s'.os = s₁.os → AllBare s'.gens → R (.ok (.ret (.bool true))) s')
    (hF : ∀ s₁ H σ2 s', Inv Y [] σ2 H s₁ → Qf H → (∀ b o, s₁.heap.get? b = some o → s'.heap.get? b = some o) → s'.os = s₁.os → AllBare s'.gens → R (.ok (.ret (.bool false))) s') :
    ∀ (n : Nat) (s : Shared), s.heap.IsGen a g → s.heap.NoLimit → (∃ gs, s.gens[g]? = some gs ∧ gs.Goes (model P w) A.in1.in1 (RG Y σ0 Qt) (YG Y true Qf) n (.send .none) (s.setGen g .running)) →
      codeAny (model P w) A (.builtin "all.loop" ⟨[.ref a], []⟩) R s := by
  intro n
  induction n with
  | zero =>
    intro s hg hl ⟨gs, hgs, hgoes⟩
    refine codeAny_builtin F.entry_all_loop ?_
    rw [Around.under_plainId F.plain_all_loop _]
    show wpAny _ A.in1 (pyNext (.ref a) >>= _) _ _ s
    refine wpAny_bind (next_genG (A := A.in1) hh hl hd hg hgs hgoes (fun v s₁ gs' hbare hv => ?_) (fun s₁ hq h' hk => ?_) fun e s₁ he => he.elim)
    · obtain ⟨b, H, σ2, rfl, I, h1, h2⟩ := hv
      cases b with
      | true => exact (h2 rfl _ ⟨rfl, rfl, I.bare⟩).elim
      | false =>
        refine wpAny_bind (wpAny_holding (wpAny_truthy_bool ?_))
        refine wpAny_bind (wpAny_letGo ?_)
        simp only [Bool.false_eq_true, if_false]
        refine wpAny_bind (wpAny_rule (wpAny_pure ?_))
        exact hF s₁ H σ2 _ I (h1 (by decide)) (fun _ _ e => e) rfl (allBare_setGen I.bare hbare)
    · obtain ⟨H, I, q⟩ := hq
      refine wpAny_bind (wpAny_rule (wpAny_pure ?_))
      exact hT s₁ H _ I q hk rfl (allBare_setGen I.bare rfl)
  | succ n ih =>
    intro s hg hl ⟨gs, hgs, hgoes⟩
    have hgl : g < s.gens.size := (Array.getElem?_eq_some_iff.mp hgs).1
    refine codeAny_builtin F.entry_all_loop ?_
    rw [Around.under_plainId F.plain_all_loop _]
    show wpAny _ A.in1 (pyNext (.ref a) >>= _) _ _ s
    refine wpAny_bind (wpAny_gsz (n := g + 1) hgl (next_genG (A := A.in1) hh hl hd hg hgs hgoes (fun v s₁ gs' hbare hv => ?_) (fun s₁ hq h' hk => ?_) fun e s₁ he => he.elim))
    · intro hsz
      obtain ⟨b, H, σ2, rfl, I, h1, h2⟩ := hv
      have hsz1 : g < s₁.gens.size := by
        have q : (s₁.setGen g gs').gens.size = s₁.gens.size := setGen_size _ _ _
        have hsz' : g + 1 ≤ (s₁.setGen g gs').gens.size := hsz
        omega
      refine wpAny_bind (wpAny_holding (wpAny_truthy_bool ?_))
      refine wpAny_bind (wpAny_letGo ?_)
      cases b with
      | true =>
        simp only [if_true]
        refine wpAny_pure ⟨plainId_quiet F.plain_all_loop _, ih (s₁.setGen g gs') (hgo _ (I.pin (a, gobj) (List.mem_append_left _ hp)).1) I.nolimit ⟨gs', setGen_at hsz1, ?_⟩⟩
        exact h2 rfl _ ⟨rfl, rfl, allBare_setGen (s := s₁.setGen g gs') (allBare_setGen I.bare hbare) rfl⟩
      | false =>
        simp only [Bool.false_eq_true, if_false]
        refine wpAny_bind (wpAny_rule (wpAny_pure ?_))
        exact hF s₁ H σ2 _ I (h1 (by decide)) (fun _ _ e => e) rfl (allBare_setGen I.bare hbare)
    · intro hsz
      obtain ⟨H, I, q⟩ := hq
      refine wpAny_bind (wpAny_rule (wpAny_pure ?_))
      exact hT s₁ H _ I q hk rfl (allBare_setGen I.bare rfl)
theorem any_loop (hY : Y.prog = P ∧ Y.w = w) (hh : A.handled = none) (hd : A.depth < recursionLimit) (hp : (a, gobj) ∈ Y.pn) (hgo : ∀ s : Shared, s.heap.get? a = some gobj → s.heap.IsGen a g)
    (hT : ∀ s₁ H s', Inv Y [] σ0 H s₁ → Qt H → (∀ b o, s₁.heap.get? b = some o → s'.heap.get? b = some o) → s'.os = s₁.os → AllBare s'.gens → R (.ok (.ret (.bool false))) s')
    (hF : ∀ s₁ H σ2 s', Inv Y [] σ2 H s₁ → Qf H → (∀ b o, s₁.heap.get? b = some o → s'.heap.get? b = some o) → s'.os = s₁.os → AllBare s'.gens → R (.ok (.ret (.bool true))) s') :
    ∀ (n : Nat) (s : Shared), s.heap.IsGen a g → s.heap.NoLimit → (∃ gs, s.gens[g]? = some gs ∧ gs.Goes (model P w) A.in1.in1 (RG Y σ0 Qt) (YG Y false Qf) n (.send .none) (s.setGen g .running)) →
      codeAny (model P w) A (.builtin "any.loop" ⟨[.ref a], []⟩) R s := by
  intro n
  induction n with
  | zero =>
    intro s hg hl ⟨gs, hgs, hgoes⟩
    refine codeAny_builtin F.entry_any_loop ?_
    rw [Around.under_plainId F.plain_any_loop _]
    show wpAny _ A.in1 (pyNext (.ref a) >>= _) _ _ s
    refine wpAny_bind (next_genG (A := A.in1) hh hl hd hg hgs hgoes (fun v s₁ gs' hbare hv => ?_) (fun s₁ hq h' hk => ?_) fun e s₁ he => he.elim)
    · obtain ⟨b, H, σ2, rfl, I, h1, h2⟩ := hv
      cases b with
      | false => exact (h2 rfl _ ⟨rfl, rfl, I.bare⟩).elim
      | true =>
        refine wpAny_bind (wpAny_holding (wpAny_truthy_bool ?_))
        refine wpAny_bind (wpAny_letGo ?_)
        simp only [if_true]
        refine wpAny_bind (wpAny_rule (wpAny_pure ?_))
        exact hF s₁ H σ2 _ I (h1 (by decide)) (fun _ _ e => e) rfl (allBare_setGen I.bare hbare)
    · obtain ⟨H, I, q⟩ := hq
      refine wpAny_bind (wpAny_rule (wpAny_pure ?_))
      exact hT s₁ H _ I q hk rfl (allBare_setGen I.bare rfl)
  | succ n ih =>
    intro s hg hl ⟨gs, hgs, hgoes⟩
    have hgl : g < s.gens.size := (Array.getElem?_eq_some_iff.mp hgs).1
    refine codeAny_builtin F.entry_any_loop ?_
    rw [Around.under_plainId F.plain_any_loop _]
    show wpAny _ A.in1 (pyNext (.ref a) >>= _) _ _ s
    refine wpAny_bind (wpAny_gsz (n := g + 1) hgl (next_genG (A := A.in1) hh hl hd hg hgs hgoes (fun v s₁ gs' hbare hv => ?_) (fun s₁ hq h' hk => ?_) fun e s₁ he => he.elim))
    · intro hsz
      obtain ⟨b, H, σ2, rfl, I, h1, h2⟩ := hv
      have hsz1 : g < s₁.gens.size := by
        have q : (s₁.setGen g gs').gens.size = s₁.gens.size := setGen_size _ _ _
        have hsz' : g + 1 ≤ (s₁.setGen g gs').gens.size := hsz
        omega
      refine wpAny_bind (wpAny_holding (wpAny_truthy_bool ?_))
      refine wpAny_bind (wpAny_letGo ?_)
      cases b with
      | false =>
        simp only [Bool.false_eq_true, if_false]
        refine wpAny_pure ⟨plainId_quiet F.plain_any_loop _, ih (s₁.setGen g gs') (hgo _ (I.pin (a, gobj) (List.mem_append_left _ hp)).1) I.nolimit ⟨gs', setGen_at hsz1, ?_⟩⟩
        exact h2 rfl _ ⟨rfl, rfl, allBare_setGen (s := s₁.setGen g gs') (allBare_setGen I.bare hbare) rfl⟩
      | true =>
        simp only [if_true]
        refine wpAny_bind (wpAny_rule (wpAny_pure ?_))
        exact hF s₁ H σ2 _ I (h1 (by decide)) (fun _ _ e => e) rfl (allBare_setGen I.bare hbare)
    · intro hsz
      obtain ⟨H, I, q⟩ := hq
      refine wpAny_bind (wpAny_rule (wpAny_pure ?_))
      exact hT s₁ H _ I q hk rfl (allBare_setGen I.bare rfl)
end
end Gx
set_option Elab.async false
set_option linter.all false
set_option maxRecDepth 100000
set_option maxHeartbeats 2000000
namespace Gx
open PySem PySem.Spec PyProof.Rows L2 GenW GxR
/-- a generator expression's own scope -/
structure GenOk (env : Env) (N : List Str) (scope : Scope) (own : List (Str × Nat)) : Prop where
  blk : BlkOk N env.scope scope own
  co : scope.isCoroutine = false
  cell : ∀ y ∈ scope.names, y.2 ≠ .cell
  dot : scope.names.lookup (".0" : Str) = some NameKind.local
section
variable {X : Cx} {pins : List (Addr × Obj)} {σ : L2.St} {H : Hp} {s : Shared}
theorem wipe_wipe (σ : L2.St) : ∀ vs : List Nat, wipe (wipe σ vs) vs = wipe σ vs := fun vs => by
  apply List.ext_getElem?
  intro i
  by_cases h : i ∈ vs
  · have z : ∀ σ' : L2.St, ∀ ws : List Nat, i ∈ ws → (wipe σ' ws)[i]? = if i < σ'.length then some none else none := fun σ' ws => by
      induction ws with
      | nil => intro h; cases h
      | cons w ws ih =>
        intro h
        show ((wipe σ' ws).set w none)[i]? = _
        rw [List.getElem?_set]
        by_cases e : w = i
        · rw [if_pos e, wipe_length, e]
        · rw [if_neg e]
          rcases List.mem_cons.mp h with h | h
          · exact absurd h.symm e
          · exact ih h
    rw [z _ _ h, z _ _ h, wipe_length]
  · rw [wipe_out h]
theorem room_gen {k : Nat} {A : Around} {elt tg iter : Expr} {ifs : List Expr} {scope : Scope} {pos : Pos} {it : Value} {cenv : Env} (hr : Room (k + 1) A) : Room k (A.in1.in1.over (.compLoop (.GeneratorExp elt [⟨tg, iter, ifs, 0⟩] scope pos) 0 it .none cenv) []) :=
  ⟨hr.hd, by have := hr.dp; show A.depth + 1 + 3 * k + 5 < _; omega, by have := hr.un; show A.units + 1 + 1 + 3 + 16 * k + 200 < _; omega⟩
theorem gen_ready {c P : Addr} {elt tg iter : Expr} {ifs : List Expr} {scope : Scope} {own : List (Str × Nat)} {gpos : Pos} {wi : TI} {g : TG} {tt : TT} {te : TE} {k : Nat} {Q' : Value → Shared → Prop} {Qt Qf : Hp → Prop} {go : Bool}
    (hc : X.calm = true) (hr : Room (k + 1) X.A) (hN : X.N.Nodup) (TB : TabB X.base X.mg c P) (hcode : X.env.code = .ref c) (S : GenOk X.env X.N scope own) (hi : PI X tg iter wi)
    (hg : ∀ (A' : Around) (s : Shared) (H : Hp) (cl : List (Str × Addr)) (C : Addr) (code : Value) (fp : List Addr) (pn : List (Addr × Obj)), Room k A' → PG (gcx X A' s H (genEnv scope cl C code builtinsNs X.env) fp pn) tg g)
    (ht : ∀ (A' : Around) (s : Shared) (H : Hp) (cl : List (Str × Addr)) (C : Addr) (code : Value) (fp : List Addr) (pn : List (Addr × Obj)), Room k A' → PTs (gcx X A' s H (genEnv scope cl C code builtinsNs X.env) fp pn) ifs tt)
    (he : ∀ (A' : Around) (s : Shared) (H : Hp) (cl : List (Str × Addr)) (C : Addr) (code : Value) (fp : List Addr) (pn : List (Addr × Obj)), Room k A' → PE (gcx X A' s H (genEnv scope cl C code builtinsNs X.env) fp pn) elt te)
    (hs : ∀ v, genFold iter X.env v = pure v) (I : Inv X pins σ H s)
    (h : wi σ H fun J H1 => TabX H1 P ∧ ∀ H2, TabbedX P H1 H2 → ∃ W : Nat → Nat → Hp → Prop, (∃ m, W 0 m H2) ∧ Turns J g tt te (own.map (·.2)) (wipe σ (own.map (·.2))) W Qt (YdB go Qf))
    (hQ : ∀ (a : Addr) (gi n : Nat) (s5 : Shared) (Y : Cx) (gobj : Obj), Y.prog = X.prog ∧ Y.w = X.w → (a, gobj) ∈ Y.pn → (∀ s : Shared, s.heap.get? a = some gobj → s.heap.IsGen a gi) → s5.heap.IsGen a gi → s5.heap.NoLimit →
      (∃ gs, s5.gens[gi]? = some gs ∧ gs.Goes (model X.prog X.w) X.A.in1.in1 (RG Y (wipe σ (own.map (·.2))) Qt) (YG Y go Qf) n (.send .none) (s5.setGen gi .running)) →
      (∀ s₁ H σ2 s', Inv Y [] σ2 H s₁ → (∀ b o, s₁.heap.get? b = some o → s'.heap.get? b = some o) → s'.os = s₁.os → AllBare s'.gens → Inv X pins σ H s') → Q' (.ref a) s5) :
    wpAny (model X.prog X.w) X.A (eval (.GeneratorExp elt [⟨tg, iter, ifs, 0⟩] scope gpos) X.env) Q' X.xe s := by
  have hfree : ∀ y ∈ scope.names, y.2 = .free → ∃ c, X.env.cells.lookup y.1 = some c := fun y hy e => by
    rcases S.blk.free y hy e with k | k
    · exact I.ok.has _ (.inl k)
    · exact I.ok.has _ (.inr k)
  refine wpAny_GeneratorExp_make S.co (closure_ok hfree) S.cell S.dot S.blk.kind (by have := hr.dp; omega) ?_ hs
  refine thn (hi.run pins s σ H _ I h) fun v s1 h1 => thn h1 fun itv s2 h2 => ?_
  obtain ⟨it, fp, tn, J, H1, rfl, I1, T, st1, f1, ⟨ps, hP, htr, hall⟩, q1⟩ := h2
  have hPs : s2.heap.get? P = some { cls := .none, data := .fields ps } := I1.hok P _ hP
  have cd : PySem.W.CodeHd s2.heap c P := TB.code.keeps fun b u e => I1.bk b u e
  refine ⟨I1.nolimit, ?_⟩
  have nfP : ∀ b ∈ fp, b ≠ P := fun b hb z => by
    have := (f1 b hb).1
    rw [z, hP] at this
    cases this
  have cont : ∀ (code : Value) (h3 : Heap) (tk : Nat) (H2 : Hp), Heap.ExtBut P s2.heap h3 → s2.heap.objs.size ≤ h3.objs.size → Inv X pins σ H2 { s2 with heap := h3, toks := tk } → TabbedX P H1 H2 → (∀ b, b < s2.heap.objs.size → b ≠ P → H2 b = H1 b) →
      wpAny (model X.prog X.w) X.A (builtinsFor X.env.globals X.env.builtins) (fun bi s₄ =>
        ∀ h', h'.Ns s₄.heap.objs.size (fun y => if y = ".0" then some (.ref it) else none) → Heap.SameBut s₄.heap.objs.size (s₄.heap.push { cls := .type "frame", data := .dict #[] }) h' →
          Q' (.ref h'.objs.size) { s₄ with
            gens := s₄.gens.push (.fresh (.compStart (.GeneratorExp elt [⟨tg, iter, ifs, 0⟩] scope gpos) 0 (.ref it) .none (genEnv scope (cloFrom X.env.cells scope.names []) s₄.heap.objs.size code bi X.env))),
            toks := s₄.toks + 1 + 1 + 1,
            heap := h'.push { cls := .type "generator", data := .fields #[.int s₄.gens.size 0, .str "<genexpr>" (s₄.toks + 1), .str (X.env.qual ++ "<genexpr>") (s₄.toks + 1 + 1)] } }) X.xe { s2 with heap := h3, toks := tk } := by
    intro code h3 tk H2 hx hsz J2 hTb hEq
    obtain ⟨bm, ob, e1, e2, e3, e4, e5, e6, e7, e8⟩ := TB.bm
    refine wpAny_builtinsFor (m := X.mg) (by rw [I1.ok.glob]; exact (I1.mod.glob.keeps I1.bk).extBut hx TB.gP) e1 e2 (hx _ _ e4 (I1.bk _ _ e5)) e6 e7 e8 ?_
    intro h' hns hsb
    obtain ⟨W, ⟨m, w0⟩, hturn⟩ := q1 H2 hTb
    -- the new objects
    have szp : (h3.push { cls := .type "frame", data := .dict #[] }).objs.size = h3.objs.size + 1 := Heap.size_push ..
    have sz' : h'.objs.size = h3.objs.size + 1 := by rw [← szp]; exact hsb.1
    have kp : ∀ b o, h3.get? b = some o → (h'.push { cls := .type "generator", data := .fields #[.int s2.gens.size 0, .str "<genexpr>" (tk + 1), .str (X.env.qual ++ "<genexpr>") (tk + 1 + 1)] }).get? b = some o := fun b o e =>
      Heap.get?_push_of_some _ ((hsb.2 b (Nat.ne_of_lt (Heap.lt_size e))).trans (Heap.get?_push_of_some _ e))
    have f2 : ∀ b ∈ fp, FpOk X pins H2 b ∧ b < h3.objs.size := fun b hb => by
      obtain ⟨o, e, _⟩ := T.obj _ _ st1 b hb
      refine ⟨⟨by rw [hEq b (Heap.lt_size e) (nfP b hb)]; exact (f1 b hb).1, (f1 b hb).2⟩, Nat.lt_of_lt_of_le (Heap.lt_size e) hsz⟩
    have st3 : tn 0 h3 := T.keep _ _ _ st1 fun b hb o e => hx b o (nfP b hb) e
    obtain ⟨A', hA'⟩ : ∃ A', X.A.in1.in1.over (.compLoop (.GeneratorExp elt [⟨tg, iter, ifs, 0⟩] scope gpos) 0 (.ref it) .none (genEnv scope (cloFrom X.env.cells scope.names []) h3.objs.size code builtinsNs X.env)) [] = A' := ⟨_, rfl⟩
    have hroom : Room k A' := by rw [← hA']; exact room_gen hr
    have hfrm : A'.frames = some (genEnv scope (cloFrom X.env.cells scope.names []) h3.objs.size code builtinsNs X.env :: X.stack) := by
      have e : X.A.frames = some X.stack := I1.ok.frames
      rw [← hA']
      unfold Around.over
      dsimp only
      rw [e]
      rfl
    have start : ∀ gens' : Array GenState, AllBare gens' → ∀ tk', Inv (gcx X A' { s2 with heap := h3, toks := tk } H2 (genEnv scope (cloFrom X.env.cells scope.names []) h3.objs.size code builtinsNs X.env) fp [(h'.objs.size, _)]) [] (wipe σ (own.map (·.2))) H2
        { s2 with gens := gens', toks := tk', heap := h'.push { cls := .type "generator", data := .fields #[.int s2.gens.size 0, .str "<genexpr>" (tk + 1), .str (X.env.qual ++ "<genexpr>") (tk + 1 + 1)] } } := fun gens' hb tk' =>
      gen_start (code := code) J2 S.blk hN S.cell f2 hroom.hd rfl hfrm rfl hb kp (Heap.Ns.keeps hns fun b o e => Heap.get?_push_of_some _ e) (fun p hp => by
        rw [List.mem_singleton.mp hp]
        exact ⟨Heap.get?_push_size _ rfl, by show h3.objs.size < h'.objs.size; rw [sz']; exact Nat.lt_succ_self _, fun v z => by cases z⟩)
    have hgen : ∀ s : Shared, s.heap.get? h'.objs.size = some { cls := .type "generator", data := .fields #[.int s2.gens.size 0, .str "<genexpr>" (tk + 1), .str (X.env.qual ++ "<genexpr>") (tk + 1 + 1)] } → s.heap.IsGen h'.objs.size s2.gens.size := fun s e => ⟨_, _, _, e, rfl, rfl, rfl⟩
    refine hQ h'.objs.size s2.gens.size (m + 1) _ (gcx X A' { s2 with heap := h3, toks := tk } H2 (genEnv scope (cloFrom X.env.cells scope.names []) h3.objs.size code builtinsNs X.env) fp [(h'.objs.size, _)]) _ ⟨rfl, rfl⟩ (List.mem_singleton.mpr rfl) hgen (hgen _ (Heap.get?_push_size _ rfl)) (start #[] (fun _ z => by simp at z) 0).nolimit ⟨_, Array.getElem?_push_size, rfl, ?_⟩ fun s₁ Hz σ2 s' Iz ext hos hbz => ?_
    · have bare5 : AllBare (s2.gens.push (.fresh (.compStart (.GeneratorExp elt [⟨tg, iter, ifs, 0⟩] scope gpos) 0 (.ref it) .none (genEnv scope (cloFrom X.env.cells scope.names []) h3.objs.size code builtinsNs X.env)))) := I1.bare.push rfl
      have hst : ∀ H : Hp, (∀ b ∈ fp, H b = none) → ∀ b ∈ fp, FpOk (gcx X A' { s2 with heap := h3, toks := tk } H2 (genEnv scope (cloFrom X.env.cells scope.names []) h3.objs.size code builtinsNs X.env) fp [(h'.objs.size, _)]) [] H b := fun Hq hq b hb => by
        have ok := (start s2.gens I1.bare 0).ok
        refine ⟨hq b hb, (ok.exf b hb).1, ok.exfs b hb, .inl hb, (ok.exf b hb).2, fun p hp => ?_⟩
        rw [List.append_nil] at hp
        rw [List.mem_singleton.mp hp]
        show h'.objs.size ≠ b
        have := (f2 b hb).2
        rw [sz']
        exact Nat.ne_of_gt (Nat.lt_succ_of_lt this)
      have wf : wipe (wipe σ (own.map (·.2))) (own.map (·.2)) = wipe σ (own.map (·.2)) := wipe_wipe _ _
      exact seg_gx0 hA' hc S.co T hst wf (hg _ _ _ _ _ _ _ _ hroom) (ht _ _ _ _ _ _ _ _ hroom) (he _ _ _ _ _ _ _ _ hroom) hturn m _ _ _ (start _ (allBare_setGen (s := { s2 with gens := _ }) bare5 rfl) _) (T.keep _ _ _ st3 fun b hb o e => kp b o e) (fun b hb => (f2 b hb).1.1) w0
    · have u : Un (frs X.stack) fp H2 Hz h3 s'.heap := Iz.base.trans (Un.kept ext)
      refine J2.call' (s' := s') (hos.trans Iz.os) u (Iz.hok.kept ext) hbz fun b hb => ?_
      obtain ⟨⟨_, a1, _, a3, a4, a5⟩, _⟩ := f2 b hb
      exact ⟨a3, a1, a4, a5⟩
  cases hf : codeAmong gpos ps.toList with
  | none =>
    refine wpAny_genexprCodeX hcode (cd.code hPs htr) (cd.tab hPs) hf fun c' h' tk hx hge hlt hco' hrec htab' _ => ?_
    obtain ⟨c2, oc, vs, t, e2, hoc, hd, hv⟩ := hrec
    cases e2
    have I3 := LamX.inv_table (t' := tk) (more := #[rawInt gpos.line, rawInt gpos.col, .ref c']) I1 hP (fun b u hb e => hx b u hb e) htab'.2 hge ⟨oc, vs, t, hoc, hd, hv⟩
    exact cont _ h' tk _ hx (Nat.le_trans hge (Nat.le_of_lt hlt)) I3 (tabX_new hP htr hall (I1.hok.fresh hge)) fun b hb hp => by rw [upd_ne (Nat.ne_of_lt (Nat.lt_of_lt_of_le hb hge)), upd_ne hp]
  | some cv =>
    refine wpAny_genexprCode_hit hcode (cd.code hPs htr) hf ?_
    exact cont cv s2.heap s2.toks H1 (Heap.ExtBut.refl _ _) (Nat.le_refl _) I1 (TabbedX.same ⟨ps, hP, htr, hall⟩) fun _ _ _ => rfl
end
end Gx
set_option Elab.async false
set_option linter.all false
set_option maxRecDepth 100000
set_option maxHeartbeats 2000000
namespace Gx
open PySem PySem.Spec PyProof.Rows L2 GenW GxR
/-- all(e for x in ..) (go true), any(..) (go false) -/
def tGen (P : Addr) (go : Bool) (wi : TI) (g : TG) (tt : TT) (te : TE) (vs : List Nat) : TE := fun σ H Q => wi σ H fun J H1 => TabX H1 P ∧ ∀ H2, TabbedX P H1 H2 →
  ∃ W : Nat → Nat → Hp → Prop, (∃ m, W 0 m H2) ∧ Turns J g tt te vs (wipe σ vs) W (fun H => Q (.bl go) H) (YdB go fun H => Q (.bl (!go)) H)
section
variable {X : Cx} {c P : Addr} {elt tg iter : Expr} {ifs : List Expr} {scope : Scope} {own : List (Str × Nat)} {p pos gpos : Pos} {wi : TI} {g : TG} {tt : TT} {te : TE} {k : Nat}
theorem pe_allG (hc : X.calm = true) (hr : Room (k + 1) X.A) (hN : X.N.Nodup) (hgl : Gl X "all") (hm : X.mg "all" = none) (hb : bootBuiltins "all" = some (.builtin "all")) (TB : TabB X.base X.mg c P) (hcode : X.env.code = .ref c) (S : GenOk X.env X.N scope own) (hi : PI X tg iter wi)
    (hg : ∀ (A' : Around) (s : Shared) (H : Hp) (cl : List (Str × Addr)) (C : Addr) (code : Value) (fp : List Addr) (pn : List (Addr × Obj)), Room k A' → PG (gcx X A' s H (genEnv scope cl C code builtinsNs X.env) fp pn) tg g)
    (ht : ∀ (A' : Around) (s : Shared) (H : Hp) (cl : List (Str × Addr)) (C : Addr) (code : Value) (fp : List Addr) (pn : List (Addr × Obj)), Room k A' → PTs (gcx X A' s H (genEnv scope cl C code builtinsNs X.env) fp pn) ifs tt)
    (he : ∀ (A' : Around) (s : Shared) (H : Hp) (cl : List (Str × Addr)) (C : Addr) (code : Value) (fp : List Addr) (pn : List (Addr × Obj)), Room k A' → PE (gcx X A' s H (genEnv scope cl C code builtinsNs X.env) fp pn) elt te)
    (hs : ∀ v, genFold iter X.env v = pure v := by intro _; rfl)
    (hst : starEach [.GeneratorExp elt [⟨tg, iter, ifs, 0⟩] scope gpos] X.env = (false, eval (.GeneratorExp elt [⟨tg, iter, ifs, 0⟩] scope gpos) X.env) :: starEach [] X.env := by rfl) :
    PE X (.Call (.Name "all" p) [.GeneratorExp elt [⟨tg, iter, ifs, 0⟩] scope gpos] [] pos) (tGen P true wi g tt te (own.map (·.2))) := by
  refine ⟨fun pins s σ H Q I h => ?_⟩
  refine wpAny_Call_Name_kw (ld_blt I hgl hm hb ?_)
  refine PyProof.Rows.callWith_builtin1 ?_ hst (by rfl)
  rw [hst]
  show wpAny _ _ (spliced ((false, eval (.GeneratorExp elt [⟨tg, iter, ifs, 0⟩] scope gpos) X.env) :: backTo pos (starEach [] X.env))) _ _ s
  refine Calls.spliced_cons (gen_ready hc hr hN TB hcode S hi hg ht he hs I h fun a gi n s5 Y gobj hY hpn hgo hg5 hl5 hgoes back => ?_)
  refine Calls.spliced_nil ?_
  refine call_function_tree F.kind_all F.plain_all F.entry_all (F.args_all1 _) ?_
  unfold Builtin.«all»
  refine wpAny_bind (m := oneArg "all" _) (wpAny_pure ?_)
  refine wpAny_bind (wpAny_pyIter_gen hg5 ?_)
  exact wpAny_pure ⟨plainId_quiet F.plain_all_loop _, all_loop hY hr.hd hr.depth hpn hgo (fun s₁ Hz s' Iz q ext hos hb => ⟨.bl true, Hz, back s₁ Hz _ s' Iz ext hos hb, rfl, q⟩) (fun s₁ Hz σ2 s' Iz q ext hos hb => ⟨.bl false, Hz, back s₁ Hz σ2 s' Iz ext hos hb, rfl, q⟩) n s5 hg5 hl5 hgoes⟩
theorem pe_anyG (hc : X.calm = true) (hr : Room (k + 1) X.A) (hN : X.N.Nodup) (hgl : Gl X "any") (hm : X.mg "any" = none) (hb : bootBuiltins "any" = some (.builtin "any")) (TB : TabB X.base X.mg c P) (hcode : X.env.code = .ref c) (S : GenOk X.env X.N scope own) (hi : PI X tg iter wi)
    (hg : ∀ (A' : Around) (s : Shared) (H : Hp) (cl : List (Str × Addr)) (C : Addr) (code : Value) (fp : List Addr) (pn : List (Addr × Obj)), Room k A' → PG (gcx X A' s H (genEnv scope cl C code builtinsNs X.env) fp pn) tg g)
    (ht : ∀ (A' : Around) (s : Shared) (H : Hp) (cl : List (Str × Addr)) (C : Addr) (code : Value) (fp : List Addr) (pn : List (Addr × Obj)), Room k A' → PTs (gcx X A' s H (genEnv scope cl C code builtinsNs X.env) fp pn) ifs tt)
    (he : ∀ (A' : Around) (s : Shared) (H : Hp) (cl : List (Str × Addr)) (C : Addr) (code : Value) (fp : List Addr) (pn : List (Addr × Obj)), Room k A' → PE (gcx X A' s H (genEnv scope cl C code builtinsNs X.env) fp pn) elt te)
    (hs : ∀ v, genFold iter X.env v = pure v := by intro _; rfl)
    (hst : starEach [.GeneratorExp elt [⟨tg, iter, ifs, 0⟩] scope gpos] X.env = (false, eval (.GeneratorExp elt [⟨tg, iter, ifs, 0⟩] scope gpos) X.env) :: starEach [] X.env := by rfl) :
    PE X (.Call (.Name "any" p) [.GeneratorExp elt [⟨tg, iter, ifs, 0⟩] scope gpos] [] pos) (tGen P false wi g tt te (own.map (·.2))) := by
  refine ⟨fun pins s σ H Q I h => ?_⟩
  refine wpAny_Call_Name_kw (ld_blt I hgl hm hb ?_)
  refine PyProof.Rows.callWith_builtin1 ?_ hst (by rfl)
  rw [hst]
  show wpAny _ _ (spliced ((false, eval (.GeneratorExp elt [⟨tg, iter, ifs, 0⟩] scope gpos) X.env) :: backTo pos (starEach [] X.env))) _ _ s
  refine Calls.spliced_cons (gen_ready hc hr hN TB hcode S hi hg ht he hs I h fun a gi n s5 Y gobj hY hpn hgo hg5 hl5 hgoes back => ?_)
  refine Calls.spliced_nil ?_
  refine call_function_tree F.kind_any F.plain_any F.entry_any (F.args_any1 _) ?_
  unfold Builtin.«any»
  refine wpAny_bind (m := oneArg "any" _) (wpAny_pure ?_)
  refine wpAny_bind (wpAny_pyIter_gen hg5 ?_)
  exact wpAny_pure ⟨plainId_quiet F.plain_any_loop _, any_loop hY hr.hd hr.depth hpn hgo (fun s₁ Hz s' Iz q ext hos hb => ⟨.bl false, Hz, back s₁ Hz _ s' Iz ext hos hb, rfl, q⟩) (fun s₁ Hz σ2 s' Iz q ext hos hb => ⟨.bl true, Hz, back s₁ Hz σ2 s' Iz ext hos hb, rfl, q⟩) n s5 hg5 hl5 hgoes⟩
end
end Gx
set_option Elab.async false
set_option linter.all false
set_option maxRecDepth 100000
set_option maxHeartbeats 2000000
/-! sum(1 for .. in .. if ..) -/
namespace Gx
open PySem PySem.Spec PyProof.Rows L2 GenW GxR
/-- slept while the adder wrote its own list at Sa -/
structure WokeS (Sa : Addr) (s s' : Shared) : Prop where
  keep : ∀ b o, b ≠ Sa → s.heap.get? b = some o → s'.heap.get? b = some o
  at_ : ∃ o, s'.heap.get? Sa = some o ∧ ∀ v, o.data ≠ .cell v
  os : s'.os = s.os
  bare : AllBare s'.gens
def TurnsS (J : It) (g : TG) (tt : TT) (te : TE) (vs : List Nat) (σ0 : L2.St) (W : Nat → Nat → Nat → Hp → Prop) (Qt : Nat → Hp → Prop) : Prop :=
  ∀ i m n H, W i m n H → (J.stop i H ∧ Qt n H) ∨ (J.go i H ∧ ∃ Nx : Nat → Hp → Prop, (∀ n' H', Nx n' H' → ∃ m', m' < m ∧ W (i + 1) m' n' H') ∧ ∀ x H', J.yld i H x H' → g x σ0 H' fun σ2 H2 => wipe σ2 vs = σ0 ∧ tt σ2 H2 fun b H3 => if b = true then te σ2 H3 fun y H4 => y = .int 1 ∧ ∃ n', n = n' + 1 ∧ Nx n' H4 else Nx n H3)
abbrev RS (Y : Cx) (σ0 : L2.St) (Sa : Addr) (Qt : Nat → Hp → Prop) : GenEnd := fun n s₀ r s₁ => ((r = .ok (.ret .none) ∨ r = .ok .next) ∧ (s₁.heap.get? Sa = s₀.heap.get? Sa ∧ ∃ H, Inv Y [] σ0 H s₁ ∧ H Sa = none ∧ Qt n H)) ∨ ∃ e, r = .error e ∧ False
abbrev YS (Y : Cx) (Sa : Addr) : Protocol := fun n s₀ v s kap => ∃ H σ2 t, v = .int 1 t ∧ Inv Y [] σ2 H s ∧ H Sa = none ∧ s.heap.get? Sa = s₀.heap.get? Sa ∧ (∃ o, s.heap.get? Sa = some o ∧ ∀ v, o.data ≠ .cell v) ∧ ∀ s', WokeS Sa s s' → kap (.send .none) s'
theorem hok_but {P : Program} {w : World} {H : Hp} {h h' : Heap} {Sa : Addr} (x : HOk P w H h) (hS : H Sa = none) (k : ∀ b o, b ≠ Sa → h.get? b = some o → h'.get? b = some o) : HOk P w H h' := fun a o e =>
  (x a o e).stay (fun b u hb q => k b u (fun z => by
    rcases hb with hb | hb
    · rw [← hb, z, hS] at e; cases e
    · rw [z, hS] at hb; cases hb) q) (fun _ q => q) fun _ _ q => q
theorem inv_wokeS {Y : Cx} {σ : L2.St} {H : Hp} {s s' : Shared} {Sa : Addr} (I : Inv Y [] σ H s) (hS : H Sa = none) (hf : FpOk Y [] H Sa) (wk : WokeS Sa s s') : Inv Y [] σ H s' := by
  refine I.call' (ch := [Sa]) wk.os ⟨fun b o e _ _ hb => wk.keep b o (fun z => hb (List.mem_singleton.mpr z)) e, fun b o e _ _ hb => ⟨o.slots, wk.keep b o (fun z => hb (List.mem_singleton.mpr z)) e⟩, fun b o _ h _ => h, fun b o e hb => ⟨o, wk.keep b o (fun z => hb (List.mem_singleton.mpr z)) e⟩, fun _ _ h => h, fun _ _ _ h => h, fun b ps h => ⟨#[], by rw [Array.append_empty]; exact h⟩⟩ (hok_but I.hok hS wk.keep) wk.bare fun b hb => ?_
  rw [List.mem_singleton.mp hb]
  obtain ⟨_, a1, _, a3, a4, a5⟩ := hf
  exact ⟨a3, a1, a4, a5⟩
section
variable {X : Cx} {A' B : Around} {s4 : Shared} {H4 : Hp} {cenv : Env} {fp : List Addr} {pn : List (Addr × Obj)} {it Sa : Addr} {tn : Nat → Heap → Prop} {J : It} {elt tg iter : Expr} {ifs : List Expr} {scope : Scope} {pos : Pos} {g : TG} {tt : TT} {te : TE} {vs : List Nat} {σ0 : L2.St} {W : Nat → Nat → Nat → Hp → Prop} {Qt : Nat → Hp → Prop}
theorem seg_sx (hA : B.over (.compLoop (.GeneratorExp elt [⟨tg, iter, ifs, 0⟩] scope pos) 0 (.ref it) .none cenv) [] = A') (hc : X.calm = true) (hco : cenv.scope.isCoroutine = false) (T : Turn X.prog X.w X.K tg J fp it tn)
    (hst : ∀ (pl : List (Addr × Obj)) (H : Hp), (∀ p ∈ pl, p.1 = Sa) → (∀ b ∈ fp, H b = none) → ∀ b ∈ fp, FpOk (gcx X A' s4 H4 cenv fp pn) pl H b) (hSf : Sa ∉ fp) (hSo : ∀ H : Hp, H Sa = none → FpOk (gcx X A' s4 H4 cenv fp pn) [] H Sa) (hσ : wipe σ0 vs = σ0)
    (hg : PG (gcx X A' s4 H4 cenv fp pn) tg g) (ht : PTs (gcx X A' s4 H4 cenv fp pn) ifs tt) (he : PE (gcx X A' s4 H4 cenv fp pn) elt te) (hturn : TurnsS J g tt te vs σ0 W Qt) :
    ∀ (m n i : Nat) (H : Hp) (s₀ s : Shared), Inv (gcx X A' s4 H4 cenv fp pn) [] σ0 H s → H Sa = none → (∃ o, s.heap.get? Sa = some o ∧ ∀ v, o.data ≠ .cell v) → s.heap.get? Sa = s₀.heap.get? Sa → tn i s.heap → (∀ b ∈ fp, H b = none) → W i m n H →
      Seg (model X.prog X.w) B (RS (gcx X A' s4 H4 cenv fp pn) σ0 Sa Qt) (YS (gcx X A' s4 H4 cenv fp pn) Sa) n s₀ (.compLoop (.GeneratorExp elt [⟨tg, iter, ifs, 0⟩] scope pos) 0 (.ref it) .none cenv)
        ((model X.prog X.w).den (.compLoop (.GeneratorExp elt [⟨tg, iter, ifs, 0⟩] scope pos) 0 (.ref it) .none cenv)) [] s := by
  intro m
  induction m using Nat.strongRecOn with
  | _ m ih =>
  intro n i H s₀ s I hSn hSe hS0 st fr w
  show Seg _ B _ _ _ s₀ _ ((compTurn (.GeneratorExp elt [⟨tg, iter, ifs, 0⟩] scope pos) 0 (.ref it) .none cenv).onRaise (leaving cenv)) [] s
  rw [compTurn_gen, Sem.onRaise_eq_wrap]
  refine seg_bind_wrap (wpAny_standAt ?_)
  obtain ⟨o, ho, hoc⟩ := hSe
  have I0 : Inv (gcx X A' s4 H4 cenv fp pn) ([] ++ pinsAt [Sa] s.heap) σ0 H s := I.pinned (fun b hb => by rw [List.mem_singleton.mp hb]; exact hSo H hSn) (fun b hb => by rw [List.mem_singleton.mp hb]; exact ⟨o, ho, hoc⟩)
  have pl : ∀ p ∈ ([] ++ pinsAt [Sa] s.heap : List (Addr × Obj)), p.1 = Sa := fun p hp => by
    rw [List.nil_append] at hp
    exact List.mem_singleton.mp (of_pinsAt hp).1
  have mS : (Sa, o) ∈ ([] ++ pinsAt [Sa] s.heap : List (Addr × Obj)) := by
    rw [List.nil_append]
    exact mem_pinsAt (List.mem_singleton.mpr rfl) ho
  rcases hturn i m n H w with ⟨stop, qn⟩ | ⟨goes, Nx, hN, step⟩
  · refine seg_bind_wrap ?_
    rw [hA]
    refine wpAny_mono (T.done (gcx X A' s4 H4 cenv fp pn) rfl rfl rfl hc i _ s σ0 H _ I0 (hst _ H pl fr) st stop) (fun r s1 hr => ?_) fun _ _ e => e
    obtain ⟨rfl, I1⟩ := hr
    have q := I1.pin (Sa, o) (List.mem_append_right _ mS)
    exact seg_end (.ok .next) (.inl ⟨.inr rfl, by rw [q.1, ← hS0, ho], H, I1.unpinned, hSn, qn⟩)
  · refine seg_bind_wrap ?_
    rw [hA]
    refine wpAny_mono (T.item (gcx X A' s4 H4 cenv fp pn) rfl rfl rfl hc i _ s σ0 H _ I0 (hst _ H pl fr) st goes) (fun r s1 hr => ?_) fun _ _ e => e
    obtain ⟨u, rfl, h1⟩ := hr
    refine seg_bind_wrap ?_
    rw [hA]
    refine wpAny_mono h1 (fun _ s2 h2 => ?_) fun _ _ e => e
    obtain ⟨x, H2, I2, rx, yl, st2, fr2⟩ := h2
    have I2' := I2.pinned (hst _ H2 pl fr2) (T.obj _ _ st2)
    refine seg_bind_wrap ?_
    rw [hA]
    refine wpAny_mono (hg.run _ s2 σ0 H2 x u _ I2' rx (step x H2 yl)) (fun _ s3 h3 => ?_) fun _ _ e => e.elim
    obtain ⟨σ3, H3, I3, hw3, q3⟩ := h3
    have keeps : ∀ {σ' : L2.St} {H' : Hp} {s' : Shared}, Inv (gcx X A' s4 H4 cenv fp pn) (([] ++ pinsAt [Sa] s.heap) ++ pinsAt fp s2.heap) σ' H' s' → (tn (i + 1) s'.heap ∧ ∀ b ∈ fp, H' b = none) ∧ s'.heap.get? Sa = some o ∧ H' Sa = none := fun {σ' H' s'} I' =>
      ⟨⟨T.keep _ _ _ st2 fun b hb o e => (I'.pin (b, o) (List.mem_append_right _ (List.mem_append_right _ (mem_pinsAt hb e)))).1, fun b hb => by
        obtain ⟨o, e, _⟩ := T.obj _ _ st2 b hb
        exact (I'.pin (b, o) (List.mem_append_right _ (List.mem_append_right _ (mem_pinsAt hb e)))).2.1⟩, by
        have q := I'.pin (Sa, o) (List.mem_append_right _ (List.mem_append_left _ mS))
        exact ⟨q.1, q.2.1⟩⟩
    have back : ∀ {H' : Hp} {s' : Shared}, Inv (gcx X A' s4 H4 cenv fp pn) (([] ++ pinsAt [Sa] s.heap) ++ pinsAt fp s2.heap) σ3 H' s' → Inv (gcx X A' s4 H4 cenv fp pn) [] σ0 H' s' := fun {H' s'} I' => by
      refine (I'.unpinned).unpinned.weak ?_ fun j v e => ?_
      · rw [← hw3, wipe_length]
      · rw [← hw3] at e
        exact (wipe_some e).1
    refine seg_bind_wrap ?_
    rw [hA]
    refine wpAny_mono (ht.run _ s3 σ3 H3 _ I3 q3) (fun b s5 h5 => ?_) fun _ _ e => e.elim
    obtain ⟨H5, I5, q5⟩ := h5
    cases b with
    | false =>
      simp only [Bool.false_eq_true, if_false]
      obtain ⟨m', hm, w'⟩ := hN n H5 q5
      obtain ⟨⟨k1, k2⟩, k3, k4⟩ := keeps I5
      exact seg_again rfl (ih m' hm n (i + 1) H5 s₀ s5 (back I5) k4 ⟨o, k3, hoc⟩ (by rw [k3, ← hS0, ho]) k1 k2 w')
    | true =>
      simp only [if_true]
      have hy : ∀ v, yieldOut cenv v = yieldValue v := fun v => by simp only [yieldOut, hco, Bool.false_eq_true, if_false]
      simp only [hy]
      rw [Sem.bind_eq_wrap', Sem.bind_eq_wrap', Sem.wrap_wrap, Sem.wrap_wrap]
      refine seg_wrap ?_
      rw [hA]
      refine wpAny_mono (he.run _ s5 σ3 H5 _ I5 q5) (fun v s6 h6 => ?_) fun _ _ e => e.elim
      obtain ⟨y, H6, I6, ry, rfl, n', rfl, q6⟩ := h6
      obtain ⟨t, rfl⟩ := ry
      obtain ⟨⟨k1, k2⟩, k3, k4⟩ := keeps I6
      obtain ⟨m', hm, w'⟩ := hN n' H6 q6
      refine seg_at (seg_yield rfl rfl rfl ⟨H6, σ3, t, rfl, I6.unpinned.unpinned, k4, by rw [k3, ← hS0, ho], ⟨o, k3, hoc⟩, fun s' wk => ?_⟩)
      exact seg_again rfl (ih m' hm n' (i + 1) H6 s' s' (inv_wokeS (back I6) k4 (hSo H6 k4) wk) k4 wk.at_ rfl (T.keep _ _ _ k1 fun b hb o e => wk.keep b o (fun z => hSf (z ▸ hb)) e) k2 w')
theorem seg_sx0 (hA : B.over (.compLoop (.GeneratorExp elt [⟨tg, iter, ifs, 0⟩] scope pos) 0 (.ref it) .none cenv) [] = A') (hc : X.calm = true) (hco : cenv.scope.isCoroutine = false) (T : Turn X.prog X.w X.K tg J fp it tn)
    (hst : ∀ (pl : List (Addr × Obj)) (H : Hp), (∀ p ∈ pl, p.1 = Sa) → (∀ b ∈ fp, H b = none) → ∀ b ∈ fp, FpOk (gcx X A' s4 H4 cenv fp pn) pl H b) (hSf : Sa ∉ fp) (hSo : ∀ H : Hp, H Sa = none → FpOk (gcx X A' s4 H4 cenv fp pn) [] H Sa) (hσ : wipe σ0 vs = σ0)
    (hg : PG (gcx X A' s4 H4 cenv fp pn) tg g) (ht : PTs (gcx X A' s4 H4 cenv fp pn) ifs tt) (he : PE (gcx X A' s4 H4 cenv fp pn) elt te) (hturn : TurnsS J g tt te vs σ0 W Qt)
    (m n : Nat) (H : Hp) (s : Shared) (I : Inv (gcx X A' s4 H4 cenv fp pn) [] σ0 H s) (hSn : H Sa = none) (hSe : ∃ o, s.heap.get? Sa = some o ∧ ∀ v, o.data ≠ .cell v) (st : tn 0 s.heap) (fr : ∀ b ∈ fp, H b = none) (w : W 0 m n H) :
      Seg (model X.prog X.w) B (RS (gcx X A' s4 H4 cenv fp pn) σ0 Sa Qt) (YS (gcx X A' s4 H4 cenv fp pn) Sa) n s (.compStart (.GeneratorExp elt [⟨tg, iter, ifs, 0⟩] scope pos) 0 (.ref it) .none cenv)
        ((model X.prog X.w).den (.compStart (.GeneratorExp elt [⟨tg, iter, ifs, 0⟩] scope pos) 0 (.ref it) .none cenv)) [] s := by
  have loop := seg_sx hA hc hco T hst hSf hSo hσ hg ht he hturn m n 0 H s s I hSn hSe rfl st fr w
  show Seg _ B _ _ _ s _ ((compStart (.GeneratorExp elt [⟨tg, iter, ifs, 0⟩] scope pos) 0 (.ref it) .none cenv).onRaise (leaving cenv)) [] s
  unfold compStart
  rw [Sem.onRaise_eq_wrap]
  show Seg _ B _ _ _ s _ ((ask >>= _).wrap _ _ _ _) [] s
  refine seg_bind_wrap (wpAny_askSetting ?_)
  split
  · exact seg_again rfl loop
  · first
      | exact seg_bind_wrap (wpAny_rule (seg_bind_wrap (wpAny_standAt (seg_bind_wrap (T.self _ 0 s _ _ st (seg_again rfl loop))))))
      | (refine seg_bind_wrap (wpAny_rule ?_); show Seg _ B _ _ _ s _ ((standAt iter.pos >>= _).wrap _ _ _ _) [] s; exact seg_bind_wrap (wpAny_standAt (seg_bind_wrap (T.self _ 0 s _ _ st (seg_again rfl loop)))))
end
end Gx
set_option Elab.async false
set_option linter.all false
set_option maxRecDepth 100000
set_option maxHeartbeats 2000000
namespace Gx
open PySem PySem.Spec PyProof.Rows L2 GenW GxR
theorem fits_small (a : Int) (h1 : 0 ≤ a) (h2 : a ≤ 1000000) : ((decide (-(2 ^ 63) ≤ (1 : Int)) && decide ((1 : Int) < 2 ^ 63)) && (decide (-(2 ^ 63) ≤ a + 1) && decide (a + 1 < 2 ^ 63))) = true := by
  rw [decide_eq_true (by omega : -(2 ^ 63) ≤ a + 1), decide_eq_true (by omega : a + 1 < 2 ^ 63)]
  decide
section
variable {P : Program} {w : World} {Y : Cx} {σ0 : L2.St} {Qt : Nat → Hp → Prop} {A : Around} {R : Result → Shared → Prop} {a Sa : Addr} {g N : Nat} {gobj : Obj}
theorem sum_loop (hh : A.handled = none) (hd : A.depth < recursionLimit) (hp : (a, gobj) ∈ Y.pn) (hgo : ∀ s : Shared, s.heap.get? a = some gobj → s.heap.IsGen a g) (haS : a ≠ Sa) (hN : N ≤ 100000) (hSb : Y.base.get? Sa = none)
    (hT : ∀ s₁ H s' n t, Inv Y [] σ0 H s₁ → H Sa = none → Qt n H → (∀ b o, s₁.heap.get? b = some o → s'.heap.get? b = some o) → s'.os = s₁.os → AllBare s'.gens → R (.ok (.ret (.int ((N : Int) - (n : Int)) t))) s') :
    ∀ (n : Nat) (s : Shared) (t : Tok) (c : Nat), n ≤ N → s.heap.IsGen a g → s.heap.NoLimit → s.heap.get? Sa = some { cls := .type "list", dict := none, data := .seq #[.int ((N : Int) - (n : Int)) t] c, slots := #[] } →
      (∃ gs, s.gens[g]? = some gs ∧ gs.Goes (model P w) A.in1.in1 (RS Y σ0 Sa Qt) (YS Y Sa) n (.send .none) (s.setGen g .running)) →
      codeAny (model P w) A (.builtin "sum.loop" ⟨[.ref a, .ref Sa, rawInt 0, rawInt 0], []⟩) R s := by
  intro n
  induction n with
  | zero =>
    intro s t c hnN hg hl hS ⟨gs, hgs, hgoes⟩
    refine codeAny_builtin F.entry_sum_loop ?_
    rw [Around.under_plainId F.plain_sum_loop _]
    show wpAny _ A.in1 (seqItems? (.ref Sa) >>= _) _ _ s
    refine wpAny_bind (wpAny_seqItems hS rfl ?_)
    show wpAny _ A.in1 (tryCatch (pyNext (.ref a)) _ >>= _) _ _ s
    refine wpAny_bind (wpAny_tryCatch (next_genG (A := A.in1) hh hl hd hg hgs hgoes (fun v s₁ gs' hbare hv => ?_) (fun s₁ hq h' hk => ?_) fun e s₁ he => he.elim))
    · obtain ⟨H, σ2, t2, rfl, I, hSn, hS0, hSe, h2⟩ := hv
      exact (h2 s₁ ⟨fun _ _ _ e => e, hSe, rfl, I.bare⟩).elim
    · obtain ⟨hS0, H, I, hSn, q⟩ := hq
      exact wpAny_pure (hT s₁ H _ 0 t I hSn q hk rfl (allBare_setGen I.bare rfl))
  | succ n ih =>
    intro s t c hnN hg hl hS ⟨gs, hgs, hgoes⟩
    have hgl : g < s.gens.size := (Array.getElem?_eq_some_iff.mp hgs).1
    refine codeAny_builtin F.entry_sum_loop ?_
    rw [Around.under_plainId F.plain_sum_loop _]
    show wpAny _ A.in1 (seqItems? (.ref Sa) >>= _) _ _ s
    refine wpAny_bind (wpAny_seqItems hS rfl ?_)
    show wpAny _ A.in1 (tryCatch (pyNext (.ref a)) _ >>= _) _ _ s
    refine wpAny_bind (wpAny_tryCatch (wpAny_gsz (n := g + 1) hgl (next_genG (A := A.in1) hh hl hd hg hgs hgoes (fun v s₁ gs' hbare hv => ?_) (fun s₁ hq h' hk => ?_) fun e s₁ he => he.elim)))
    · intro hsz
      obtain ⟨H, σ2, t2, rfl, I, hSn, hS0, hSe, h2⟩ := hv
      have hsz1 : g < s₁.gens.size := by
        have q : (s₁.setGen g gs').gens.size = s₁.gens.size := setGen_size _ _ _
        have hsz' : g + 1 ≤ (s₁.setGen g gs').gens.size := hsz
        omega
      have hS1 : (s₁.setGen g gs').heap.get? Sa = some { cls := .type "list", dict := none, data := .seq #[.int ((N : Int) - ((n + 1 : Nat) : Int)) t] c, slots := #[] } := hS0.trans hS
      show wpAny _ A.in1 (if (_ : Bool) = true then (mkInt (((N : Int) - ((n + 1 : Nat) : Int)) + 1) >>= _) else _) _ _ _
      split
      · rw [show ((N : Int) - ((n + 1 : Nat) : Int)) + 1 = (N : Int) - (n : Int) by omega]
        refine wpAny_bind (wpAny_mkInt ?_)
        show wpAny _ A.in1 (updateSeq Sa (fun _ => #[.int ((N : Int) - (n : Int)) s₁.toks]) >>= _) _ _ _
        refine wpAny_bind ?_
        have kb : ∀ b o, b ≠ Sa → (s₁.setGen g gs').heap.get? b = some o → ((s₁.setGen g gs').heap.update Sa (Obj.mapSeq fun _ => #[Value.int ((N : Int) - (n : Int)) s₁.toks])).get? b = some o := fun b o hb e => (Heap.get?_update_other _ _ (fun h : Sa = b => hb h.symm)).trans e
        refine wpAny_updateSeq hS1 rfl (wpAny_pure ⟨plainId_quiet F.plain_sum_loop _, ih _ s₁.toks _ (by omega) ?_ ?_ (Heap.get?_update_self _ hS1 rfl) ⟨gs', setGen_at hsz1, ?_⟩⟩)
        · have q := hgo _ (I.pin (a, gobj) (List.mem_append_left _ hp)).1
          exact hgo _ (kb a gobj haS (I.pin (a, gobj) (List.mem_append_left _ hp)).1)
        · exact I.ok.mod.nolimit.keeps fun b o e => kb b o (fun z => by rw [z, hSb] at e; cases e) (I.bk b o e)
        · refine h2 _ ⟨fun b o hb e => kb b o hb e, ⟨_, Heap.get?_update_self _ hS1 rfl, fun v z => by cases z⟩, rfl, ?_⟩
          exact allBare_setGen (s := s₁.setGen g gs') (allBare_setGen I.bare hbare) rfl
      · rename_i hno
        exact absurd (fits_small ((N : Int) - ((n + 1 : Nat) : Int)) (by omega) (by omega)) hno
    · intro hsz
      obtain ⟨hS0, H, I, hSn, q⟩ := hq
      exact wpAny_pure (hT s₁ H _ (n + 1) t I hSn q hk rfl (allBare_setGen I.bare rfl))
end
end Gx
set_option Elab.async false
set_option linter.all false
set_option maxRecDepth 100000
set_option maxHeartbeats 2000000
namespace Gx
open PySem PySem.Spec PyProof.Rows L2 GenW GxR
theorem inv_more {Y : Cx} {σ : L2.St} {H : Hp} {s s' : Shared} (I : Inv Y [] σ H s) (k : ∀ b o, s.heap.get? b = some o → s'.heap.get? b = some o) (ho : s'.os = s.os) (hb : AllBare s'.gens) : Inv Y [] σ H s' :=
  I.call' (ch := []) ho (Un.kept k) (I.hok.kept k) hb fun b hb => nomatch hb
section
variable {X : Cx} {pins : List (Addr × Obj)} {σ : L2.St} {H : Hp} {s : Shared}
theorem gen_readyS {c P : Addr} {elt tg iter : Expr} {ifs : List Expr} {scope : Scope} {own : List (Str × Nat)} {gpos : Pos} {wi : TI} {g : TG} {tt : TT} {te : TE} {k : Nat} {Q' : Value → Shared → Prop} {Qt : Nat → Nat → Hp → Prop}
    (hc : X.calm = true) (hr : Room (k + 1) X.A) (hN : X.N.Nodup) (TB : TabB X.base X.mg c P) (hcode : X.env.code = .ref c) (S : GenOk X.env X.N scope own) (hi : PI X tg iter wi)
    (hg : ∀ (A' : Around) (s : Shared) (H : Hp) (cl : List (Str × Addr)) (C : Addr) (code : Value) (fp : List Addr) (pn : List (Addr × Obj)), Room k A' → PG (gcx X A' s H (genEnv scope cl C code builtinsNs X.env) fp pn) tg g)
    (ht : ∀ (A' : Around) (s : Shared) (H : Hp) (cl : List (Str × Addr)) (C : Addr) (code : Value) (fp : List Addr) (pn : List (Addr × Obj)), Room k A' → PTs (gcx X A' s H (genEnv scope cl C code builtinsNs X.env) fp pn) ifs tt)
    (he : ∀ (A' : Around) (s : Shared) (H : Hp) (cl : List (Str × Addr)) (C : Addr) (code : Value) (fp : List Addr) (pn : List (Addr × Obj)), Room k A' → PE (gcx X A' s H (genEnv scope cl C code builtinsNs X.env) fp pn) elt te)
    (hs : ∀ v, genFold iter X.env v = pure v) (I : Inv X pins σ H s)
    (h : wi σ H fun J H1 => TabX H1 P ∧ ∀ H2, TabbedX P H1 H2 → ∃ (W : Nat → Nat → Nat → Hp → Prop) (N : Nat), N ≤ 100000 ∧ (∃ m, W 0 m N H2) ∧ TurnsS J g tt te (own.map (·.2)) (wipe σ (own.map (·.2))) W (Qt N))
    (hQ : ∀ (a : Addr) (gi N : Nat) (s5 : Shared) (Y : Cx) (gobj : Obj), N ≤ 100000 → (a, gobj) ∈ Y.pn → (∀ s : Shared, s.heap.get? a = some gobj → s.heap.IsGen a gi) → s5.heap.get? a = some gobj → s5.heap.NoLimit → Y.base.get? s5.heap.objs.size = none →
      (∀ (s6 : Shared) (o : Obj), s6.gens = s5.gens → s6.os = s5.os → (∀ b o, s5.heap.get? b = some o → s6.heap.get? b = some o) → s6.heap.get? s5.heap.objs.size = some o → (∀ v, o.data ≠ .cell v) →
        ∃ gs, s6.gens[gi]? = some gs ∧ gs.Goes (model X.prog X.w) X.A.in1.in1 (RS Y (wipe σ (own.map (·.2))) s5.heap.objs.size (Qt N)) (YS Y s5.heap.objs.size) N (.send .none) (s6.setGen gi .running)) →
      (∀ s₁ H σ2 s', Inv Y [] σ2 H s₁ → (∀ b o, s₁.heap.get? b = some o → s'.heap.get? b = some o) → s'.os = s₁.os → AllBare s'.gens → Inv X pins σ H s') → Q' (.ref a) s5) :
    wpAny (model X.prog X.w) X.A (eval (.GeneratorExp elt [⟨tg, iter, ifs, 0⟩] scope gpos) X.env) Q' X.xe s := by
  have hfree : ∀ y ∈ scope.names, y.2 = .free → ∃ c, X.env.cells.lookup y.1 = some c := fun y hy e => by
    rcases S.blk.free y hy e with k | k
    · exact I.ok.has _ (.inl k)
    · exact I.ok.has _ (.inr k)
  refine wpAny_GeneratorExp_make S.co (closure_ok hfree) S.cell S.dot S.blk.kind (by have := hr.dp; omega) ?_ hs
  refine thn (hi.run pins s σ H _ I h) fun v s1 h1 => thn h1 fun itv s2 h2 => ?_
  obtain ⟨it, fp, tn, J, H1, rfl, I1, T, st1, f1, ⟨ps, hP, htr, hall⟩, q1⟩ := h2
  have hPs : s2.heap.get? P = some { cls := .none, data := .fields ps } := I1.hok P _ hP
  have cd : PySem.W.CodeHd s2.heap c P := TB.code.keeps fun b u e => I1.bk b u e
  refine ⟨I1.nolimit, ?_⟩
  have nfP : ∀ b ∈ fp, b ≠ P := fun b hb z => by
    have := (f1 b hb).1
    rw [z, hP] at this
    cases this
  have cont : ∀ (code : Value) (h3 : Heap) (tk : Nat) (H2 : Hp), Heap.ExtBut P s2.heap h3 → s2.heap.objs.size ≤ h3.objs.size → Inv X pins σ H2 { s2 with heap := h3, toks := tk } → TabbedX P H1 H2 → (∀ b, b < s2.heap.objs.size → b ≠ P → H2 b = H1 b) →
      wpAny (model X.prog X.w) X.A (builtinsFor X.env.globals X.env.builtins) (fun bi s₄ =>
        ∀ h', h'.Ns s₄.heap.objs.size (fun y => if y = ".0" then some (.ref it) else none) → Heap.SameBut s₄.heap.objs.size (s₄.heap.push { cls := .type "frame", data := .dict #[] }) h' →
          Q' (.ref h'.objs.size) { s₄ with
            gens := s₄.gens.push (.fresh (.compStart (.GeneratorExp elt [⟨tg, iter, ifs, 0⟩] scope gpos) 0 (.ref it) .none (genEnv scope (cloFrom X.env.cells scope.names []) s₄.heap.objs.size code bi X.env))),
            toks := s₄.toks + 1 + 1 + 1,
            heap := h'.push { cls := .type "generator", data := .fields #[.int s₄.gens.size 0, .str "<genexpr>" (s₄.toks + 1), .str (X.env.qual ++ "<genexpr>") (s₄.toks + 1 + 1)] } }) X.xe { s2 with heap := h3, toks := tk } := by
    intro code h3 tk H2 hx hsz J2 hTb hEq
    obtain ⟨bm, ob, e1, e2, e3, e4, e5, e6, e7, e8⟩ := TB.bm
    refine wpAny_builtinsFor (m := X.mg) (by rw [I1.ok.glob]; exact (I1.mod.glob.keeps I1.bk).extBut hx TB.gP) e1 e2 (hx _ _ e4 (I1.bk _ _ e5)) e6 e7 e8 ?_
    intro h' hns hsb
    obtain ⟨W, N, hN5, ⟨m, w0⟩, hturn⟩ := q1 H2 hTb
    -- the new objects
    have szp : (h3.push { cls := .type "frame", data := .dict #[] }).objs.size = h3.objs.size + 1 := Heap.size_push ..
    have sz' : h'.objs.size = h3.objs.size + 1 := by rw [← szp]; exact hsb.1
    have kp : ∀ b o, h3.get? b = some o → (h'.push { cls := .type "generator", data := .fields #[.int s2.gens.size 0, .str "<genexpr>" (tk + 1), .str (X.env.qual ++ "<genexpr>") (tk + 1 + 1)] }).get? b = some o := fun b o e =>
      Heap.get?_push_of_some _ ((hsb.2 b (Nat.ne_of_lt (Heap.lt_size e))).trans (Heap.get?_push_of_some _ e))
    have f2 : ∀ b ∈ fp, FpOk X pins H2 b ∧ b < h3.objs.size := fun b hb => by
      obtain ⟨o, e, _⟩ := T.obj _ _ st1 b hb
      refine ⟨⟨by rw [hEq b (Heap.lt_size e) (nfP b hb)]; exact (f1 b hb).1, (f1 b hb).2⟩, Nat.lt_of_lt_of_le (Heap.lt_size e) hsz⟩
    have st3 : tn 0 h3 := T.keep _ _ _ st1 fun b hb o e => hx b o (nfP b hb) e
    obtain ⟨A', hA'⟩ : ∃ A', X.A.in1.in1.over (.compLoop (.GeneratorExp elt [⟨tg, iter, ifs, 0⟩] scope gpos) 0 (.ref it) .none (genEnv scope (cloFrom X.env.cells scope.names []) h3.objs.size code builtinsNs X.env)) [] = A' := ⟨_, rfl⟩
    have hroom : Room k A' := by rw [← hA']; exact room_gen hr
    have hfrm : A'.frames = some (genEnv scope (cloFrom X.env.cells scope.names []) h3.objs.size code builtinsNs X.env :: X.stack) := by
      have e : X.A.frames = some X.stack := I1.ok.frames
      rw [← hA']
      unfold Around.over
      dsimp only
      rw [e]
      rfl
    have start : ∀ gens' : Array GenState, AllBare gens' → ∀ tk', Inv (gcx X A' { s2 with heap := h3, toks := tk } H2 (genEnv scope (cloFrom X.env.cells scope.names []) h3.objs.size code builtinsNs X.env) fp [(h'.objs.size, _)]) [] (wipe σ (own.map (·.2))) H2
        { s2 with gens := gens', toks := tk', heap := h'.push { cls := .type "generator", data := .fields #[.int s2.gens.size 0, .str "<genexpr>" (tk + 1), .str (X.env.qual ++ "<genexpr>") (tk + 1 + 1)] } } := fun gens' hb tk' =>
      gen_start (code := code) J2 S.blk hN S.cell f2 hroom.hd rfl hfrm rfl hb kp (Heap.Ns.keeps hns fun b o e => Heap.get?_push_of_some _ e) (fun p hp => by
        rw [List.mem_singleton.mp hp]
        exact ⟨Heap.get?_push_size _ rfl, by show h3.objs.size < h'.objs.size; rw [sz']; exact Nat.lt_succ_self _, fun v z => by cases z⟩)
    have hgen : ∀ s : Shared, s.heap.get? h'.objs.size = some { cls := .type "generator", data := .fields #[.int s2.gens.size 0, .str "<genexpr>" (tk + 1), .str (X.env.qual ++ "<genexpr>") (tk + 1 + 1)] } → s.heap.IsGen h'.objs.size s2.gens.size := fun s e => ⟨_, _, _, e, rfl, rfl, rfl⟩
    have sz5 : (h'.push { cls := .type "generator", data := .fields #[.int s2.gens.size 0, .str "<genexpr>" (tk + 1), .str (X.env.qual ++ "<genexpr>") (tk + 1 + 1)] }).objs.size = h3.objs.size + 2 := by rw [Heap.size_push, sz']
    have I5 := start s2.gens I1.bare 0
    have hb5 : X.base.get? (h3.objs.size + 2) = none := by
      cases q : X.base.get? (h3.objs.size + 2) with
      | none => rfl
      | some o =>
        exact absurd (Nat.lt_of_lt_of_eq (Heap.lt_size (I5.bk _ o q)) sz5) (Nat.lt_irrefl _)
    refine hQ h'.objs.size s2.gens.size N _ (gcx X A' { s2 with heap := h3, toks := tk } H2 (genEnv scope (cloFrom X.env.cells scope.names []) h3.objs.size code builtinsNs X.env) fp [(h'.objs.size, _)]) _ hN5 (List.mem_singleton.mpr rfl) hgen (Heap.get?_push_size _ rfl) I5.nolimit (by dsimp only; rw [sz5]; exact hb5) (fun s6 o6 hg6 ho6 kp6 hS6 hoc6 => ⟨.fresh (.compStart (.GeneratorExp elt [⟨tg, iter, ifs, 0⟩] scope gpos) 0 (.ref it) .none (genEnv scope (cloFrom X.env.cells scope.names []) h3.objs.size code builtinsNs X.env)), by rw [hg6]; exact Array.getElem?_push_size, rfl, ?_⟩) fun s₁ Hz σ2 s' Iz ext hos hbz => ?_
    · have bare5 : AllBare (s2.gens.push (.fresh (.compStart (.GeneratorExp elt [⟨tg, iter, ifs, 0⟩] scope gpos) 0 (.ref it) .none (genEnv scope (cloFrom X.env.cells scope.names []) h3.objs.size code builtinsNs X.env)))) := I1.bare.push rfl
      have hst : ∀ (pl : List (Addr × Obj)) (H : Hp), (∀ p ∈ pl, p.1 = (h'.push { cls := .type "generator", data := .fields #[.int s2.gens.size 0, .str "<genexpr>" (tk + 1), .str (X.env.qual ++ "<genexpr>") (tk + 1 + 1)] }).objs.size) → (∀ b ∈ fp, H b = none) → ∀ b ∈ fp, FpOk (gcx X A' { s2 with heap := h3, toks := tk } H2 (genEnv scope (cloFrom X.env.cells scope.names []) h3.objs.size code builtinsNs X.env) fp [(h'.objs.size, _)]) pl H b := fun pl Hq hpl hq b hb => by
        have ok := I5.ok
        refine ⟨hq b hb, (ok.exf b hb).1, ok.exfs b hb, .inl hb, (ok.exf b hb).2, fun p hp => ?_⟩
        have := (f2 b hb).2
        rcases List.mem_append.mp hp with hp | hp
        · rw [List.mem_singleton.mp hp]
          show h'.objs.size ≠ b
          rw [sz']
          exact Nat.ne_of_gt (Nat.lt_succ_of_lt this)
        · rw [hpl p hp, sz5]
          exact Nat.ne_of_gt (Nat.lt_of_lt_of_le this (Nat.le_add_right _ 2))
      have wf : wipe (wipe σ (own.map (·.2))) (own.map (·.2)) = wipe σ (own.map (·.2)) := wipe_wipe _ _
      have fS : H2 (h'.push { cls := .type "generator", data := .fields #[.int s2.gens.size 0, .str "<genexpr>" (tk + 1), .str (X.env.qual ++ "<genexpr>") (tk + 1 + 1)] }).objs.size = none := I5.hok.fresh (Nat.le_refl _)
      have I6 := inv_more (s' := s6.setGen s2.gens.size .running) I5 (fun b o e => kp6 b o e) (ho6.trans rfl) (allBare_setGen (s := s6) (by rw [hg6]; exact bare5) rfl)
      exact seg_sx0 hA' hc S.co T hst (fun z => Nat.lt_irrefl _ (Nat.lt_of_lt_of_eq (Nat.lt_of_lt_of_le (f2 _ z).2 (Nat.le_add_right _ 2)) sz5.symm)) (fun Hq hq => I5.fpOk (Nat.le_refl _) hq) wf (hg _ _ _ _ _ _ _ _ hroom) (ht _ _ _ _ _ _ _ _ hroom) (he _ _ _ _ _ _ _ _ hroom) hturn m N _ _ I6 fS ⟨o6, hS6, hoc6⟩ (T.keep _ _ _ st3 fun b hb o e => kp6 b o (kp b o e)) (fun b hb => (f2 b hb).1.1) w0
    · have u : Un (frs X.stack) fp H2 Hz h3 s'.heap := Iz.base.trans (Un.kept ext)
      refine J2.call' (s' := s') (hos.trans Iz.os) u (Iz.hok.kept ext) hbz fun b hb => ?_
      obtain ⟨⟨_, a1, _, a3, a4, a5⟩, _⟩ := f2 b hb
      exact ⟨a3, a1, a4, a5⟩
  cases hf : codeAmong gpos ps.toList with
  | none =>
    refine wpAny_genexprCodeX hcode (cd.code hPs htr) (cd.tab hPs) hf fun c' h' tk hx hge hlt hco' hrec htab' _ => ?_
    obtain ⟨c2, oc, vs, t, e2, hoc, hd, hv⟩ := hrec
    cases e2
    have I3 := LamX.inv_table (t' := tk) (more := #[rawInt gpos.line, rawInt gpos.col, .ref c']) I1 hP (fun b u hb e => hx b u hb e) htab'.2 hge ⟨oc, vs, t, hoc, hd, hv⟩
    exact cont _ h' tk _ hx (Nat.le_trans hge (Nat.le_of_lt hlt)) I3 (tabX_new hP htr hall (I1.hok.fresh hge)) fun b hb hp => by rw [upd_ne (Nat.ne_of_lt (Nat.lt_of_lt_of_le hb hge)), upd_ne hp]
  | some cv =>
    refine wpAny_genexprCode_hit hcode (cd.code hPs htr) hf ?_
    exact cont cv s2.heap s2.toks H1 (Heap.ExtBut.refl _ _) (Nat.le_refl _) I1 (TabbedX.same ⟨ps, hP, htr, hall⟩) fun _ _ _ => rfl
end
/-- sum(1 for x in .. if ..) -/
def tSum (P : Addr) (wi : TI) (g : TG) (tt : TT) (te : TE) (vs : List Nat) : TE := fun σ H Q => wi σ H fun J H1 => TabX H1 P ∧ ∀ H2, TabbedX P H1 H2 →
  ∃ (W : Nat → Nat → Nat → Hp → Prop) (N : Nat), N ≤ 100000 ∧ (∃ m, W 0 m N H2) ∧ TurnsS J g tt te vs (wipe σ vs) W fun n H => Q (.int ((N : Int) - (n : Int))) H
section
variable {X : Cx} {c P : Addr} {elt tg iter : Expr} {ifs : List Expr} {scope : Scope} {own : List (Str × Nat)} {p pos gpos : Pos} {wi : TI} {g : TG} {tt : TT} {te : TE} {k : Nat}
theorem pe_sumG (hc : X.calm = true) (hr : Room (k + 1) X.A) (hN : X.N.Nodup) (hgl : Gl X "sum") (hm : X.mg "sum" = none) (hb : bootBuiltins "sum" = some (.builtin "sum")) (TB : TabB X.base X.mg c P) (hcode : X.env.code = .ref c) (S : GenOk X.env X.N scope own) (hi : PI X tg iter wi)
    (hg : ∀ (A' : Around) (s : Shared) (H : Hp) (cl : List (Str × Addr)) (C : Addr) (code : Value) (fp : List Addr) (pn : List (Addr × Obj)), Room k A' → PG (gcx X A' s H (genEnv scope cl C code builtinsNs X.env) fp pn) tg g)
    (ht : ∀ (A' : Around) (s : Shared) (H : Hp) (cl : List (Str × Addr)) (C : Addr) (code : Value) (fp : List Addr) (pn : List (Addr × Obj)), Room k A' → PTs (gcx X A' s H (genEnv scope cl C code builtinsNs X.env) fp pn) ifs tt)
    (he : ∀ (A' : Around) (s : Shared) (H : Hp) (cl : List (Str × Addr)) (C : Addr) (code : Value) (fp : List Addr) (pn : List (Addr × Obj)), Room k A' → PE (gcx X A' s H (genEnv scope cl C code builtinsNs X.env) fp pn) elt te)
    (hs : ∀ v, genFold iter X.env v = pure v := by intro _; rfl)
    (hst : starEach [.GeneratorExp elt [⟨tg, iter, ifs, 0⟩] scope gpos] X.env = (false, eval (.GeneratorExp elt [⟨tg, iter, ifs, 0⟩] scope gpos) X.env) :: starEach [] X.env := by rfl) :
    PE X (.Call (.Name "sum" p) [.GeneratorExp elt [⟨tg, iter, ifs, 0⟩] scope gpos] [] pos) (tSum P wi g tt te (own.map (·.2))) := by
  refine ⟨fun pins s σ H Q I h => ?_⟩
  refine wpAny_Call_Name_kw (ld_blt I hgl hm hb ?_)
  refine PyProof.Rows.callWith_builtin1 ?_ hst (by rfl)
  rw [hst]
  show wpAny _ _ (spliced ((false, eval (.GeneratorExp elt [⟨tg, iter, ifs, 0⟩] scope gpos) X.env) :: backTo pos (starEach [] X.env))) _ _ s
  refine Calls.spliced_cons (gen_readyS (Qt := fun N n H => Q (.int ((N : Int) - (n : Int))) H) hc hr hN TB hcode S hi hg ht he hs I h fun a gi N s5 Y gobj hN5 hpn hgo hg5 hl5 hb5 hgoes back => ?_)
  refine Calls.spliced_nil ?_
  refine call_function_tree F.kind_sum F.plain_sum F.entry_sum (F.args_sum1 _) ?_
  unfold Builtin.«sum»
  simp only [List.length_cons, List.length_nil]
  rw [if_neg (by decide)]
  refine wpAny_bind (wpAny_of_eq (show Builtin.Builtins.bindParams "sum" ["start"] 0 { } = pure [none] from rfl) ?_)
  refine wpAny_bind (wpAny_pyIter_gen (hgo _ hg5) ?_)
  refine wpAny_bind (wpAny_mkInt ?_)
  refine wpAny_bind (wpAny_pure ?_)
  simp only [List.forIn_cons, List.forIn_nil]
  refine wpAny_bind (wpAny_bind (wpAny_bind (wpAny_isInstance (T := "int") (b := false) (typeIs_int _ _ _) PySem.sub_int_str ?_)))
  simp only [Bool.false_eq_true, if_false]
  refine wpAny_pure (wpAny_bind (wpAny_bind (wpAny_isInstance (T := "int") (b := false) (typeIs_int _ _ _) PySem.sub_int_bytes ?_)))
  simp only [Bool.false_eq_true, if_false]
  refine wpAny_pure (wpAny_bind (wpAny_bind (wpAny_isInstance (T := "int") (b := false) (typeIs_int _ _ _) PySem.sub_int_bytearray ?_)))
  simp only [Bool.false_eq_true, if_false]
  refine wpAny_pure (wpAny_pure ?_)
  refine wpAny_bind (wpAny_newObj_type ?_)
  have ext : ∀ b o, s5.heap.get? b = some o → (s5.heap.push { cls := .type "list", data := .seq #[.int 0 s5.toks] 0 }).get? b = some o := fun b o e => Heap.get?_push_of_some _ e
  refine wpAny_pure ⟨plainId_quiet F.plain_sum_loop _, sum_loop (Sa := s5.heap.objs.size) (σ0 := wipe σ (own.map (·.2))) (Qt := fun n H => Q (.int ((N : Int) - (n : Int))) H) hr.hd hr.depth hpn hgo (Nat.ne_of_lt (Heap.lt_size hg5)) hN5 hb5 (fun s₁ Hz s' n t Iz hz q ext hos hb => ⟨.int ((N : Int) - (n : Int)), Hz, back s₁ Hz _ s' Iz ext hos hb, ⟨t, rfl⟩, q⟩) N _ s5.toks 0 (Nat.le_refl _) (hgo _ (ext _ _ hg5)) ?_ ?_ ?_⟩
  · exact hl5.keeps ext
  · rw [Int.sub_self]
    exact Heap.get?_push_size _ rfl
  · exact hgoes _ _ rfl rfl ext (Heap.get?_push_size _ rfl) (fun v z => by cases z)
end
end Gx
set_option Elab.async false
set_option linter.all false
set_option maxRecDepth 100000
set_option maxHeartbeats 2000000
/-! max(d.values(), default=c) -/
namespace Gx
open PySem PySem.Spec PyProof.Rows L2
def tMaxVals (td : TE) (c : Int) : TE := fun σ H Q => td σ H fun x H1 => ∃ (d : Addr) (kvs : List (Key × V)) (ns : List Int), x = .ref d ∧ H1 d = some (.dK kvs) ∧ kvs.map (·.2) = ns.map V.int ∧ (ns = [] → Q (.int c) H1) ∧ ∀ m, m ∈ ns → (∀ y ∈ ns, y ≤ m) → Q (.int m) H1
theorem paired_get {α β : Type} {F : α → β → Prop} : ∀ {l : List α} {m : List β} {i : Nat} {x : α}, Paired F l m → l[i]? = some x → ∃ y, m[i]? = some y ∧ F x y
  | _, _, _, _, .nil, h => by cases h
  | _, _, 0, _, .cons a _, h => by cases h; exact ⟨_, rfl, a⟩
  | _, _, i + 1, _, .cons _ t, h => paired_get (i := i) t h
theorem best_of (x : Int) : ∀ (xs : List Int), (xs.foldl (fun a y => if decide (a < y) then y else a) x) ∈ x :: xs ∧ ∀ y ∈ x :: xs, y ≤ xs.foldl (fun a y => if decide (a < y) then y else a) x := fun xs => by
  induction xs generalizing x with
  | nil => exact ⟨List.mem_cons_self .., fun y hy => by rw [List.mem_singleton.mp hy]; exact Int.le_refl _⟩
  | cons c cs ih =>
    rw [List.foldl_cons]
    by_cases h : x < c
    · rw [if_pos (decide_eq_true h)]
      obtain ⟨h1, h2⟩ := ih c
      refine ⟨List.mem_cons_of_mem _ h1, fun y hy => ?_⟩
      rcases List.mem_cons.mp hy with rfl | hy
      · have := h2 c (List.mem_cons_self ..); omega
      · exact h2 y hy
    · rw [if_neg (by rw [decide_eq_true_eq]; exact h)]
      obtain ⟨h1, h2⟩ := ih x
      refine ⟨?_, fun y hy => ?_⟩
      · rcases List.mem_cons.mp h1 with e | e
        · rw [e]; exact List.mem_cons_self ..
        · exact List.mem_cons_of_mem _ (List.mem_cons_of_mem _ e)
      · rcases List.mem_cons.mp hy with e | hy
        · rw [e]; exact h2 x (List.mem_cons_self ..)
        · rcases List.mem_cons.mp hy with e | hy
          · have := h2 x (List.mem_cons_self ..); rw [e]; omega
          · exact h2 y (List.mem_cons_of_mem _ hy)
section
variable {prog : Program} {w : World} {A : Around} {E : Value → Shared → Prop} {s : Shared} {T : String} {r d : Addr} {P : Nat → Value → Prop} {OK : Heap → Prop} {Q : Value → Shared → Prop} {dv : Value}
theorem max_src {ns : List Int} (K : PySem.W.KdlSrc prog w T r d ns.length P OK) (hh : A.handled = none) (hu : A.units + 8 < cLine) (hok : OK s.heap) (hval : ∀ (i : Nat) (v : Value), P i v → ∃ t : Tok, v = Value.int (ns.getD i 0) t)
    (h0 : ns = [] → ∀ h' tk, (∀ b o, s.heap.get? b = some o → h'.get? b = some o) → Q dv { s with heap := h', toks := tk })
    (h1 : ∀ m t h' tk, m ∈ ns → (∀ y ∈ ns, y ≤ m) → (∀ b o, s.heap.get? b = some o → h'.get? b = some o) → Q (.int m t) { s with heap := h', toks := tk }) :
    wpAny (model prog w) A (call (.builtin "max") [.ref r] [(Str.ofString "default", dv)]) Q E s := by
  refine call_max_walkD ?_
  obtain ⟨oI, St, hit, W, st⟩ := K.iter A.in1 s hh hok
  have fin : ∀ s' : Shared, Moved [s.heap.objs.size] (fun a b => b = a) { s with heap := s.heap.push oI } s' → ∃ h' tk, s' = { s with heap := h', toks := tk } ∧ ∀ b o, s.heap.get? b = some o → h'.get? b = some o := fun s' hm => PySem.W.moved_old rfl rfl hm
  refine hit _ _ ⟨s.heap.objs.size, _, _, _, ns.length, P, _, s.heap, fun i j => decide (ns.getD j 0 < ns.getD i 0), rfl, W.toS, st, fun b hb => ?_, fun b o e hb => ?_, fun b o e => Heap.get?_push_of_some _ e, fun hn s' hm => ?_, fun hn => ⟨fun i j vi vj s' Q E hk hi hj hq => ?_, fun v s' hv hm => ?_⟩⟩
  · show b < (s.heap.push oI).objs.size
    rw [Heap.size_push]
    rcases List.mem_cons.mp hb with e | hb
    · rw [e]; exact Nat.lt_succ_self _
    · rw [List.mem_singleton.mp hb]; exact Nat.lt_succ_of_lt (K.there _ hok).2
  · exact absurd (Heap.lt_size e) (by rw [List.mem_singleton.mp hb]; exact Nat.lt_irrefl _)
  · obtain ⟨h', tk, rfl, hk⟩ := fin s' hm
    exact h0 (List.eq_nil_of_length_eq_zero hn) h' tk hk
  · obtain ⟨t1, rfl⟩ := hval i vi hi
    obtain ⟨t2, rfl⟩ := hval j vj hj
    refine PySem.W.rcGt_alike (.int (ns.getD i 0)) (.int (ns.getD j 0)) A.in1 s' _ _ _ _ (.int _ _) (.int _ _) rfl (fun z => by cases z) ?_ prog w E Q ?_
    · show A.units + 1 + min 0 0 < cLine
      omega
    · rw [PySem.W.dataLt_int]
      exact hq
  · obtain ⟨h', tk, rfl, hk⟩ := fin s' hm
    obtain ⟨t, rfl⟩ := hval _ v hv
    cases ns with
    | nil => cases hn
    | cons x xs =>
      have e := (PySem.W.argBest_fold (fun a b => decide (b < a)) (0 : Int) x xs xs.length (Nat.le_refl _)).2
      rw [List.take_length] at e
      obtain ⟨b1, b2⟩ := best_of x xs
      have e2 : (x :: xs).getD (argBest (fun i j => decide ((x :: xs).getD j 0 < (x :: xs).getD i 0)) ((x :: xs).length - 1)) 0 = xs.foldl (fun a y => if decide (a < y) then y else a) x := e
      rw [e2]
      exact h1 _ t h' tk b1 b2 hk
end
section
variable {X : Cx} {e : Expr} {td : TE} {p apos cpos pos kp kpos : Pos} {c : Int} {j : Nat}
theorem pe_maxVals (hc : X.calm = true) (hu : X.A.units + 8 < cLine) (hgl : Gl X "max") (hm : X.mg "max" = none) (hb : bootBuiltins "max" = some (.builtin "max")) (he : PE X e td)
    (hbase : attributeBase e "values" X.env (eval e X.env) = eval e X.env := by rfl) (hline : (apos.endLine == cpos.line) = true := by rfl)
    (hst : backTo pos (starEach [.Call (.Attribute e "values" apos) [] [] cpos] X.env) = (false, eval (.Call (.Attribute e "values" apos) [] [] cpos) X.env) :: backTo pos (starEach [] X.env) := by rfl) :
    PE X (.Call (.Name "max" p) [.Call (.Attribute e "values" apos) [] [] cpos] [⟨some "default", .Constant (.int c) j kp, kpos⟩] pos) (tMaxVals td c) := by
  refine ⟨fun pins s σ H Q I h => ?_⟩
  refine wpAny_Call_Name_kw (ld_blt I hgl hm hb ?_)
  refine callWith_kw ?_ hst (by rw [hst]; rfl)
  rw [hst]
  refine Calls.spliced_cons (wpAny_Call_method (T := "dict") (id := "dict.values") hbase rfl hline F.plainAttrs_dict F.slot_dict_values F.type_dict_values (thn (he.run pins s σ H _ I h) fun u s1 ⟨x, H1, I1, rx, d, kvs, ns, ex, hd, hv, q0, q1⟩ => ?_))
  subst ex
  obtain rfl : u = Value.ref d := rx
  obtain ⟨hz, hs, vs, kv, hdo⟩ := I1.hok d _ hd
  have hl : kvs.length = vs.length := Paired.length kv
  have hln : kvs.length = ns.length := by have := congrArg List.length hv; simpa using this
  refine ⟨hdo.typeIs, hdo.mapOf.noDict, ?_⟩
  have fin : ∀ s2 : Shared, s2 = { s1 with heap := s1.heap.push { cls := .type "dict_values", data := .fields #[.ref d] } } → wpAny (model X.prog X.w) X.A (spliced (backTo pos (starEach [] X.env))) (fun us s3 => wpAny (model X.prog X.w) X.A (evalAll ((backToKw pos (keywordEach [⟨some "default", .Constant (.int c) j kp, kpos⟩] X.env)).map (·.2))) (fun ks s4 => wpAny (model X.prog X.w) X.A (call (.builtin "max") (.ref s1.heap.objs.size :: us) (((backToKw pos (keywordEach [⟨some "default", .Constant (.int c) j kp, kpos⟩] X.env)).filterMap (·.1)).zip ks)) (EP X pins σ Q) X.xe s4) X.xe s3) X.xe s2 := fun s2 e2 => by
    subst e2
    refine Calls.spliced_nil ?_
    refine kws_cons ?_
    refine wpAny_Constant_int ?_
    refine kws_nil ?_
    obtain ⟨ep, hat⟩ := hdo.dictAt
    have hk1 : ∀ b o, s1.heap.get? b = some o → (s1.heap.push { cls := .type "dict_values", data := .fields #[.ref d] }).get? b = some o := fun b o q => Heap.get?_push_of_some _ q
    have src := PySem.W.kdl_values (prog := X.prog) (w := X.w) (knd := mixKind X.prog X.w) (r := s1.heap.objs.size) (d := d) (kvs := vs) (ep := ep)
    rw [show vs.length = ns.length by omega] at src
    refine max_src (ns := ns) src (I.ok.hd hc) hu ⟨⟨_, Heap.get?_push_size _ rfl, rfl, rfl⟩, hat.push _⟩ (fun i v hvi => ?_) (fun hn h' tk hk => ⟨.int c, H1, I1.kept (t' := tk) fun b o q => hk b o (hk1 b o q), ⟨_, rfl⟩, q0 hn⟩) fun m t h' tk hm1 hm2 hk => ⟨.int m, H1, I1.kept (t' := tk) fun b o q => hk b o (hk1 b o q), ⟨t, rfl⟩, q1 m hm1 hm2⟩
    obtain ⟨k, hvi⟩ := hvi
    have hi : i < kvs.length := by have := (List.getElem?_eq_some_iff.mp hvi).1; omega
    obtain ⟨y, hy, _, hr⟩ := paired_get kv (List.getElem?_eq_getElem hi)
    rw [hvi] at hy
    cases hy
    have hn : (kvs.map (·.2))[i]? = some kvs[i].2 := by rw [List.getElem?_map, List.getElem?_eq_getElem hi]; rfl
    rw [hv, List.getElem?_map] at hn
    cases hq : ns[i]? with
    | none => rw [hq] at hn; cases hn
    | some z =>
      rw [hq] at hn
      have hz2 : V.int z = kvs[i].2 := Option.some.inj hn
      rw [← hz2] at hr
      obtain ⟨t, e⟩ := hr
      exact ⟨t, by rw [List.getD_eq_getElem?_getD, hq]; exact e⟩
  show wpAny _ _ (callWith cpos (.builtin "dict.values") [.ref d] [] []) _ X.xe s1
  exact method_meetsIn F.slot_dict_values F.entry_dict_values rfl (PySem.evalArgs_none ⟨rfl, hdo.typeIs, F.args_dict_values_1 _, _, meets_dict_values (mixKind X.prog X.w) d hs, ⟨vs, hdo⟩, fin _ rfl⟩)
end
end Gx
set_option Elab.async false
set_option linter.all false
set_option maxRecDepth 100000
set_option maxHeartbeats 4000000
/-! sorted(range(..), key=lambda p: ..): the sort's shell over any kept property, the lambda made and called -/
namespace Gx
open PySem PySem.Spec PyProof.Rows L2 GenW GxR
/-! ### a function of one expression is called, its code object bearing any name -/
section
variable {prog : Program} {w : World} {A : Around} {R : Result → Shared → Prop} {s : Shared}
theorem call_lamQ {a : Addr} {args : Args} {o : Obj} {fd : FuncData} {e : Expr} {q : Str} (room : A.depth < recursionLimit) (at_ : s.heap.get? a = some o) (isf : o.data = .func fd) (noco : fd.scope.isCoroutine = false) (nogen : fd.scope.isGenerator = false)
    (isx : fd.body = .expr e) (rec_ : s.heap.CodeRec fd.code q)
    (h : wpAny (model prog w) A.in1 (bindArgs fd args) (fun bs s1 => wpAny (model prog w) A.in1 (newFunctionEnv fd.scope fd.globals fd.closure bs (q ++ ".<locals>.") (some a) fd.code none fd.builtins)
        (fun env s2 => s2.heap.NoLimit ∧ codeAny (model prog w) A (.expr e env) R s2) (fun x s' => R (.error x) s') s1) (fun x s' => R (.error x) s') s) : codeAny (model prog w) A (.call (.ref a) args) R s := by
  refine codeAny_of_tree ?_
  show wpAny _ A.in1 (callAny (.ref a) args) _ _ s
  simp only [callAny]
  refine wpAny_bind (wpAny_load at_ ?_)
  obtain ⟨c, oc, vs, tq, e1, e2, e3, e4⟩ := rec_
  simp only [isf, callFunction, noco, nogen, isx, e1]
  rw [e1] at h
  refine wpAny_bind (m := field (.ref c) 1) (wpAny_field e2 e3 e4 (wpAny_bind (wpAny_pure ?_)))
  refine wpAny_bind (wpAny_mono h (fun bs s1 h1 => ?_) fun _ _ z => z)
  refine wpAny_bind (wpAny_mono h1 (fun env s2 h2 => ?_) fun _ _ z => z)
  exact wpAny_bind (wpAny_enterFrame h2.1 room (wpAny_pure (And.intro rfl h2.2)))
end
/-! ### the shell of a sort by keys -/
section
variable {prog : Program} {w : World} {A : Around} {E : Value → Shared → Prop} {a kS : Addr} {vs : List Value} {kz : List Int} {e1 : Nat} {P : PySem.Fin → Shared → Prop} {J : Shared → Prop}
/-- J is kept where the objects at a and at kS are written -/
def KeptAt (J : Shared → Prop) (a kS : Addr) : Prop := ∀ (x : Addr) (s : Shared) (h' : Heap) (tk : Nat), (x = a ∨ x = kS) → J s → Heap.SameBut x s.heap h' → J { s with heap := h', toks := tk }
theorem sh_tail {st : SortSt} {s : Shared} {keys : Array Value} {e : Nat} (jk : KeptAt J a kS) (j : J s) (ok : s.heap.get? kS = some (seqObj "list" keys e)) (oa : s.heap.get? a = some (seqObj "list" #[] e1)) (ne : kS ≠ a)
    (hk : IntsAre keys.toList kz) (hl : kz.length = vs.length) (small : vs.length < 64) (perm : (arrOf st).Perm (keys.zip vs.toArray)) (sorted : SortedTo (arrOf st) (arrOf st).size) (fine : failedOf st = none)
    (h : ∀ s' out c, J s' → s'.heap.get? a = some (seqObj "list" out c) → KskOut false kz vs out.toList → P (.done (.ret .none)) s') : wpAny (model prog w) A (ksk_tail a false e1 (.ref kS) st) P E s := by
  have n1 : keys.size = vs.length := by
    have := hk.length
    rw [Array.length_toList] at this
    omega
  have n2 : (arrOf st).size = vs.length := by rw [perm.size_eq, Array.size_zip, n1, List.size_toArray, Nat.min_self]
  have s1 := Heap.SameBut.update s.heap kS (Obj.mapSeq fun _ => (#[] : Array Value))
  have oa1 : (s.heap.update kS (Obj.mapSeq fun _ => (#[] : Array Value))).get? a = some (seqObj "list" #[] e1) := (s1.2 a (Ne.symm ne)).trans oa
  have s2 := Heap.SameBut.update (s.heap.update kS (Obj.mapSeq fun _ => (#[] : Array Value))) a (Obj.mapSeq fun _ => (arrOf st).map (·.2))
  obtain ⟨c2, oa2⟩ : ∃ c2, ((s.heap.update kS (Obj.mapSeq fun _ => (#[] : Array Value))).update a (Obj.mapSeq fun _ => (arrOf st).map (·.2))).get? a = some (seqObj "list" ((arrOf st).map (·.2)) c2) := ⟨_, get?_update_seq oa1 fun _ => (arrOf st).map (·.2)⟩
  unfold ksk_tail
  dsimp only
  refine wpAny_bind (listUpdate_at ok rfl ?_ (by rw [n1, sizeLine_eq]; omega) (Nat.zero_le _))
  refine wpAny_bind (wpAny_letGo ?_)
  refine wpAny_bind (seqEpoch_at oa1 rfl ?_)
  refine wpAny_bind (listUpdate_at oa1 rfl ?_ (Nat.zero_le _) (by simp only [Bool.false_eq_true, if_false, Array.size_map]; rw [n2, sizeLine_eq]; omega))
  rw [fine]
  simp only [bne_self_eq_false, Bool.false_eq_true, if_false]
  have j1 := jk kS s _ s.toks (.inr rfl) j s1
  have j2 := jk a _ _ s.toks (.inl rfl) j1 s2
  exact wpAny_pure (h _ _ c2 j2 oa2 (ksk_out (b := false) hk perm sorted))
theorem sh_end {s : Shared} {keys : Array Value} {e : Nat} (jk : KeptAt J a kS) (j : J s) (ok : s.heap.get? kS = some (seqObj "list" keys e)) (oa : s.heap.get? a = some (seqObj "list" #[] e1)) (ne : kS ≠ a)
    (hk : IntsAre keys.toList kz) (hl : kz.length = vs.length) (small : vs.length < 64)
    (h : ∀ s' out c, J s' → s'.heap.get? a = some (seqObj "list" out c) → KskOut false kz vs out.toList → P (.done (.ret .none)) s') : wpAny (model prog w) A (ksk_end a false vs.toArray e1 (.ref kS) keys) P E s := by
  have n1 : keys.size = vs.length := by
    have := hk.length
    rw [Array.length_toList] at this
    omega
  have n2 : (keys.zip vs.toArray).size = vs.length := by rw [Array.size_zip, n1, List.size_toArray, Nat.min_self]
  unfold ksk_end
  simp only [Bool.false_eq_true, if_false]
  by_cases few : vs.toArray.size < 2
  · rw [if_pos few, if_pos few]
    refine wpAny_bind (wpAny_pure ?_)
    rw [StateT.run_pure]
    refine wpAny_bind (wpAny_pure ?_)
    refine sh_tail (st := SortSt.mk' general' (keys.zip vs.toArray) #[] 7 none) jk j ok oa ne hk hl small (Array.Perm.refl _) (fun i i' hi hj => ?_) rfl h
    have hj : i' < (keys.zip vs.toArray).size := hj
    rw [n2] at hj
    rw [List.size_toArray] at few
    have : i = i' := by omega
    subst this
    exact Int.le_refl _
  · rw [if_neg few, if_neg few]
    rw [List.size_toArray] at few
    rw [ksk_kind hk (by rw [n1]; omega)]
    refine wpAny_bind (wpAny_pure ?_)
    refine wpAny_bind (wpAny_mono (wpS_sortRuns (a₀ := keys.zip vs.toArray) (st := SortSt.mk' oneType' (keys.zip vs.toArray) #[] 7 none)
      (Q := fun _ st' => (arrOf st').Perm (keys.zip vs.toArray) ∧ failedOf st' = none ∧ SortedTo (arrOf st') (keys.zip vs.toArray).size)
      (ksk_intKeys hk) ⟨Array.Perm.refl _, rfl, rfl, rfl⟩ (by rw [n2]; omega) (by rw [n2]; exact small) fun st' a1 a2 a3 => ⟨a1, a2, a3⟩) ?_ fun _ _ e => e)
    rintro ⟨⟨⟩, st'⟩ s' ⟨rfl, p1, p2, p3⟩
    exact sh_tail jk j ok oa ne hk hl small p1 (by rw [p1.size_eq]; exact p3) p2 h
theorem sh_rest {s : Shared} {f : Value} (jk : KeptAt J a kS) (j : J s) (ok : s.heap.get? kS = some (seqObj "list" #[] 0)) (oa : s.heap.get? a = some (seqObj "list" #[] e1)) (ne : kS ≠ a) (hl : kz.length = vs.length) (small : vs.length < 64)
    (turn : ∀ (i : Nat) (v : Value) (k : Int), vs[i]? = some v → kz[i]? = some k → ∀ (s' : Shared) (o : Obj), J s' → s'.heap.get? kS = some o → s'.heap.get? a = some (seqObj "list" #[] e1) →
      wpAny (model prog w) A (call f [v]) (fun u s2 => ∃ t, u = .int k t ∧ J s2 ∧ s2.heap.get? kS = some o ∧ s2.heap.get? a = some (seqObj "list" #[] e1)) (fun _ _ => False) s')
    (h : ∀ s' out c, J s' → s'.heap.get? a = some (seqObj "list" out c) → KskOut false kz vs out.toList → P (.done (.ret .none)) s') : wpAny (model prog w) A (ksk_rest a f false vs.toArray e1 (.ref kS)) P E s := by
  unfold ksk_rest
  refine wpAny_bind (wpAny_rule ?_)
  rw [List.forIn_toArray]
  refine wpAny_bind (ksk_fold (fun i s' => ∃ (ks : Array Value) (e : Nat), J s' ∧ s'.heap.get? kS = some (seqObj "list" ks e) ∧ s'.heap.get? a = some (seqObj "list" #[] e1) ∧ IntsAre ks.toList (kz.take i)) vs 0 s ⟨#[], 0, j, ok, oa, by simpa using IntsAre.nil⟩ ?_ ?_)
  · rintro m x s' hx ⟨ks, e, j', k1, k2, hk⟩
    simp only [Nat.zero_add] at hk ⊢
    have hm : m < vs.length := (List.getElem?_eq_some_iff.mp hx).1
    obtain ⟨k, hkm⟩ : ∃ k, kz[m]? = some k := ⟨_, List.getElem?_eq_getElem (by omega)⟩
    have hz : ks.size ≤ vs.length := by
      have := hk.length
      rw [Array.length_toList, List.length_take] at this
      omega
    refine wpAny_bind (wpAny_attempt (wpAny_mono (turn m x k hx hkm s' _ j' k1 k2) (fun u s2 he => ?_) fun _ _ z => z.elim))
    obtain ⟨t, rfl, j2, q1, q2⟩ := he
    dsimp only
    have s1 := Heap.SameBut.update s2.heap kS (Obj.mapSeq (·.push (.int k t)))
    obtain ⟨c2, hc2⟩ : ∃ c2, (s2.heap.update kS (Obj.mapSeq (·.push (.int k t)))).get? kS = some (seqObj "list" (ks.push (.int k t)) c2) := ⟨_, get?_update_seq q1 (·.push (.int k t))⟩
    have ek : kz.take (m + 1) = kz.take m ++ [k] := by rw [List.take_add_one, hkm]; simp
    have ea : (ks.push (Value.int k t)).toList = ks.toList ++ [Value.int k t] := by simp
    refine wpAny_bind (listUpdate_at q1 rfl ?_ (by rw [sizeLine_eq]; omega) (Nat.le_trans (Nat.le_of_eq (Array.size_push ..)) (by rw [sizeLine_eq]; omega)))
    exact wpAny_pure ⟨rfl, ks.push (.int k t), c2, jk kS s2 _ s2.toks (.inr rfl) j2 s1, hc2, (s1.2 a (Ne.symm ne)).trans q2, by rw [ea, ek]; exact ksk_snoc hk⟩
  · rintro s' ⟨ks, e, j', k1, k2, hk⟩
    have hk' : IntsAre ks.toList kz := by
      have e3 : kz.take (0 + vs.length) = kz := List.take_of_length_le (by omega)
      rw [e3] at hk
      exact hk
    refine wpAny_bind (listItems_at k1 rfl ?_)
    exact sh_end jk j' k1 k2 ne hk' hl small h
theorem sh_tree {s : Shared} {f : Value} {n : Nat} (oa : s.heap.get? a = some (seqObj "list" vs.toArray n)) (hl : kz.length = vs.length) (small : vs.length < 64)
    (jk : ∀ kS, a < kS → KeptAt J a kS) (j : ∀ h' tk, (∀ b o, b ≠ a → s.heap.get? b = some o → h'.get? b = some o) → J { s with heap := h', toks := tk })
    (turn : ∀ (kS : Addr) (e1 i : Nat) (v : Value) (k : Int), a < kS → s.heap.objs.size ≤ kS → vs[i]? = some v → kz[i]? = some k → ∀ (s' : Shared) (o : Obj), J s' → s'.heap.get? kS = some o → s'.heap.get? a = some (seqObj "list" #[] e1) →
      wpAny (model prog w) A (call f [v]) (fun u s2 => ∃ t, u = .int k t ∧ J s2 ∧ s2.heap.get? kS = some o ∧ s2.heap.get? a = some (seqObj "list" #[] e1)) (fun _ _ => False) s')
    (h : ∀ s' out c, J s' → s'.heap.get? a = some (seqObj "list" out c) → KskOut false kz vs out.toList → P (.done (.ret .none)) s') : wpAny (model prog w) A (ksk_tree a f false) P E s := by
  have ha : a < s.heap.objs.size := Heap.lt_size oa
  have s1 := Heap.SameBut.update s.heap a (Obj.mapSeq fun _ => (#[] : Array Value))
  obtain ⟨e1, oa1⟩ : ∃ e1, (s.heap.update a (Obj.mapSeq fun _ => (#[] : Array Value))).get? a = some (seqObj "list" #[] e1) := ⟨_, get?_update_seq oa fun _ => #[]⟩
  have hS : ((s.heap.update a (Obj.mapSeq fun _ => (#[] : Array Value))).push (seqObj "tuple" vs.toArray 0)).objs.size = s.heap.objs.size + 1 := by rw [size_push', Heap.size_update]
  unfold ksk_tree
  refine wpAny_bind (listItems_at oa rfl ?_)
  refine wpAny_bind (listUpdate_at oa rfl ?_ (by rw [List.size_toArray, sizeLine_eq]; omega) (Nat.zero_le _))
  refine wpAny_bind (seqEpoch_at oa1 rfl ?_)
  refine wpAny_bind (wpAny_newTuple ?_ (by show vs.length ≤ _; rw [sizeLine_eq]; omega))
  refine wpAny_bind (wpAny_newList ?_ (Nat.zero_le _))
  refine wpAny_holding ?_
  have gt : a < ((s.heap.update a (Obj.mapSeq fun _ => (#[] : Array Value))).push (seqObj "tuple" vs.toArray 0)).objs.size := by rw [hS]; exact Nat.lt_succ_of_lt ha
  exact sh_rest (s := { s with heap := ((s.heap.update a (Obj.mapSeq fun _ => (#[] : Array Value))).push (seqObj "tuple" vs.toArray 0)).push (seqObj "list" #[] 0) }) (kS := ((s.heap.update a (Obj.mapSeq fun _ => (#[] : Array Value))).push (seqObj "tuple" vs.toArray 0)).objs.size)
    (jk _ gt) (j _ s.toks fun b o hb e => Heap.get?_push_of_some _ (Heap.get?_push_of_some _ ((s1.2 b hb).trans e))) (Heap.get?_push_size _ rfl) (Heap.get?_push_of_some _ (Heap.get?_push_of_some _ oa1)) (Nat.ne_of_gt gt) hl small (fun i v k hv hk => turn _ e1 i v k gt (by rw [hS]; exact Nat.le_succ _) hv hk) h
end
end Gx
set_option Elab.async false
set_option linter.all false
set_option maxRecDepth 100000
set_option maxHeartbeats 4000000
namespace Gx
open PySem PySem.Spec PyProof.Rows L2 GenW GxR
/-! ### the lambda -/
/-- one parameter p, else captured names and globals -/
structure LamP (sc scope : Scope) (p : Str) : Prop where
  kind : scope.kind = .function
  co : scope.isCoroutine = false
  gen : scope.isGenerator = false
  loc : scope.names.lookup p = some .local
  own : ∀ y ∈ scope.names, y.2 ≠ .cell ∧ (y.2 = .local → y.1 = p)
  free : ∀ y ∈ scope.names, y.2 = .free → sc.names.lookup y.1 = some .cell ∨ sc.names.lookup y.1 = some .free
def lamPB (sc scope : Scope) (p : Str) : Bool :=
  decide (scope.kind = .function) && !scope.isCoroutine && !scope.isGenerator && decide (scope.names.lookup p = some .local) && scope.names.all fun y => !decide (y.2 = .cell) && (!decide (y.2 = .local) || decide (y.1 = p)) && (!decide (y.2 = .free) || decide (sc.names.lookup y.1 = some .cell) || decide (sc.names.lookup y.1 = some .free))
theorem lamP_by {sc scope : Scope} {p : Str} (h : lamPB sc scope p = true) : LamP sc scope p := by
  unfold lamPB at h
  simp only [Bool.and_eq_true, Bool.or_eq_true, Bool.not_eq_true', decide_eq_true_eq, decide_eq_false_iff_not, List.all_eq_true] at h
  obtain ⟨⟨⟨⟨h1, h2⟩, h3⟩, h5⟩, h4⟩ := h
  refine ⟨h1, h2, h3, h5, fun y hy => ⟨(h4 y hy).1.1, fun e => ?_⟩, fun y hy e => ?_⟩
  · rcases (h4 y hy).1.2 with z | z
    · exact absurd e z
    · exact z
  · rcases (h4 y hy).2 with (z | z) | z
    · exact absurd e z
    · exact .inl z
    · exact .inr z
theorem LamP.has {X : Cx} {scope : Scope} {p : Str} (L : LamP X.env.scope scope p) (ok : X.Ok) : ∀ y ∈ scope.names, y.2 = .free → ∃ c, X.env.cells.lookup y.1 = some c := fun y hy e => by
  rcases L.free y hy e with k | k
  · exact ok.has _ (.inl k)
  · exact ok.has _ (.inr k)
abbrev envQ (X : Cx) (q : Str) (scope : Scope) (L f c' : Addr) : Env := PySem.W.envX q scope L f (.ref c') (cloFrom X.env.cells scope.names [])
/-- the context of the lambda's body -/
abbrev lamQ (X : Cx) (A : Around) (s : Shared) (H : Hp) (q : Str) (scope : Scope) (f c' : Addr) : Cx :=
  { X with A := A.deeper (envQ X q scope s.heap.objs.size f c'), s_0 := s, H_0 := H, env := envQ X q scope s.heap.objs.size f c', outer := X.stack, stack := envQ X q scope s.heap.objs.size f c' :: X.stack, ex := [], fn := fun _ => false, calm := true, pn := [], xe := fun _ _ => False }
section
variable {X : Cx} {pins : List (Addr × Obj)} {σ : L2.St} {H : Hp} {s : Shared}
theorem lamQ_start {A : Around} {scope : Scope} {p q : Str} {ip : Nat} {v : V} {u : Value} {f c' : Addr} {h1 : Heap} {tk : Nat} (I : Inv X pins σ H s) (L : LamP X.env.scope scope p) (hN : X.N.Nodup) (hip : X.N[ip]? = some p) (hA : A.frames = some X.stack) (hd : A.handled = none)
    (hns : h1.Ns s.heap.objs.size fun y => ([(p, u)] : List (Str × Value)).reverse.lookup y) (ru : RelV v u) (kp : ∀ b o, s.heap.get? b = some o → h1.get? b = some o) :
    Inv (lamQ X A s H q scope f c') [] (σ.set ip (some v)) H { s with heap := h1, toks := tk } := by
  have e0 := I.env0
  have hfree := L.has I.ok
  have cm : ∀ {y c}, (cloFrom X.env.cells scope.names []).lookup y = some c → X.env.cells.lookup y = some c := fun {y c} e => by
    rcases cloFrom_mem (PySem.mem_of_lookup e) with hm | ⟨k1, k2⟩
    · cases hm
    · obtain ⟨c1, hc⟩ := hfree _ k1 rfl
      have hc : X.env.cells.lookup y = some c1 := hc
      have e2 : c = c1 := by
        rw [k2, hc] <;> rfl
      rw [e2]
      exact hc
  have look : ∀ {y}, scope.names.lookup y = some .free → ∃ c, (cloFrom X.env.cells scope.names []).lookup y = some c := fun {y} hl => by
    have hy : (y, NameKind.free) ∈ scope.names := PySem.mem_of_lookup hl
    exact mem_lookup (cloFrom_has (cells := X.env.cells) (acc := []) hy)
  have cellK : ∀ {c : Addr} {z : Option Value}, s.heap.IsCell c z → h1.IsCell c z := fun {c z} ⟨o, ho, hz⟩ => ⟨o, kp _ _ ho, hz⟩
  have noA : ∀ b : Addr, b ∉ (lamQ X A s H q scope f c').ex := fun b z => absurd (show b ∈ ([] : List Addr) from z) (by simp)
  refine ⟨⟨e0.mod, L.kind, rfl, rfl, Nat.le_refl _, fun y z c k1 k2 => I.ok.inj y z c (cm k1) (cm k2), fun y hy => ?_, fun y c z _ => ?_, fun _ => hd, Around.frames_deeper hA, .inr ⟨rfl, rfl⟩, fun b z => absurd z (noA b), e0.bs, e0.bsz, fun b _ _ => noA b,
      fun b z => absurd z (noA b), e0.funs, e0.frf⟩,
    rfl, e0.bare, Un.kept kp, ⟨_, hns, fun i y x k1 k2 k3 => ?_⟩, fun y c e => ?_, e0.hok.fresh (Nat.le_refl _), fun y c e => ?_, fun z hz => absurd (show z ∈ ([] : List (Addr × Obj)) ++ [] from hz) (by simp), e0.hok.kept kp, by rw [List.length_set]; exact I.len⟩
  · have hy : scope.names.lookup y = some .cell ∨ scope.names.lookup y = some .free := hy
    rcases hy with hy | hy
    · exact absurd rfl (L.own _ (PySem.mem_of_lookup hy)).1
    · exact look hy
  · have z : false = true := z
    cases z
  · have k3 : Vis scope y := k3
    by_cases hi : ip = i
    · subst hi
      rw [hip] at k1
      have := Option.some.inj k1
      subst this
      have hlt : ip < σ.length := by
        have := (List.getElem?_eq_some_iff.mp k2).1
        rw [List.length_set] at this
        exact this
      rw [List.getElem?_set_self hlt] at k2
      have := Option.some.inj (Option.some.inj k2)
      subst this
      refine ⟨u, ru, .inl ⟨L.loc, ?_⟩⟩
      show ([(p, u)] : List (Str × Value)).lookup p = some u
      simp
    · rw [List.getElem?_set_ne hi] at k2
      have hyp : y ≠ p := fun z => by
        subst z
        have h3 := (List.getElem?_eq_some_iff.mp k1).1
        exact hi ((List.getElem?_inj (List.getElem?_eq_some_iff.mp hip).1 hN).mp (hip.trans k1.symm))
      rcases k3 with k | k | k
      · exact absurd ((L.own _ (PySem.mem_of_lookup k)).2 rfl) hyp
      · exact absurd rfl (L.own _ (PySem.mem_of_lookup k)).1
      · obtain ⟨m, hn, hl⟩ := I.loc
        have hvis : Vis X.env.scope y := (L.free _ (PySem.mem_of_lookup k) rfl).elim (fun k => .inr (.inl k)) (fun k => .inr (.inr k))
        obtain ⟨w', r, z⟩ := hl i y x k1 k2 hvis
        obtain ⟨c2, h2⟩ := look k
        refine ⟨w', r, .inr ⟨.inr k, c2, h2, ?_⟩⟩
        have c1 := cm h2
        rcases z with ⟨k', _⟩ | ⟨_, c3, e', z⟩
        · have k' : X.env.scope.names.lookup y = some .local := k'
          rcases L.free _ (PySem.mem_of_lookup k) rfl with k2 | k2 <;> rw [show X.env.scope.names.lookup y = _ from k2] at k' <;> cases k'
        · rw [c1] at e'
          cases e'
          exact cellK z
  · obtain ⟨w', z⟩ := I.cell y c (cm e)
    exact ⟨w', cellK z⟩
  · exact I.freeC y c (cm e)
/-- the lambda is made: its code object is new, or found in the table -/
theorem lamX_make {c P : Addr} {params : Arguments} {body : Expr} {scope : Scope} {pos : Pos} {E : Value → Shared → Prop} {Q : Value → Shared → Prop} (I : Inv X pins σ H s) (TB : TabB X.base X.mg c P) (hcode : X.env.code = .ref c) (hT : TabX H P)
    (hdef : defaultsOf params X.env = ([], [])) (hfree : ∀ y ∈ scope.names, y.2 = .free → ∃ c, X.env.cells.lookup y.1 = some c)
    (h : ∀ (f c' : Addr) (q : Str) (pm ctv : Value) (H1 : Hp) (s' : Shared), Inv X pins σ H1 s' → TabbedX P H H1 → s'.heap.get? f = some (PySem.W.kla_obj "<lambda>" (X.env.qual ++ "<lambda>") params body scope (cloFrom X.env.cells scope.names []) pm c' ctv) →
      H1 f = none → s.heap.objs.size ≤ f → H1 c' = some (LamX.CodeO c' q) → (∀ b o, b ≠ P → s.heap.get? b = some o → s'.heap.get? b = some o) → Q (.ref f) s') :
    wpAny (model X.prog X.w) X.A (eval (.Lambda params body scope pos) X.env) Q E s := by
  obtain ⟨ps, hP, ht, ha⟩ := hT
  refine PySem.W.kla_eval hdef ?_
  have bP : s.heap.BuiltinsAt X.mg P := (LamX.TabB.bm ⟨TB.code, TB.bm, TB.gP⟩).keeps I.bk
  have hP' : s.heap.get? P = some { cls := .none, data := .fields ps } := I.hok P _ hP
  cases hc : codeAmong pos ps.toList with
  | none =>
    refine PySem.W.kla_makeFunction (mg := X.mg) (c := c) (P := P) (ps := ps) (closure_ok hfree) I.ok.glob (I.mod.glob.keeps I.bk) hcode (TB.code.keeps I.bk) hP' ht hc TB.gP bP fun c' ctv h' tk hx hge hlt hrec htb => ?_
    obtain ⟨c2, oc, vs, t, e2, hoc, hd, hv⟩ := hrec
    cases e2
    have hsz : s.heap.objs.size ≤ h'.objs.size := Nat.le_trans hge (Nat.le_of_lt hlt)
    have nC : H c' = none := I.hok.fresh hge
    have I1 := LamX.inv_table (t' := tk) (more := #[rawInt pos.line, rawInt pos.col, .ref c']) (h' := h'.push (PySem.W.kla_obj "<lambda>" (X.env.qual ++ "<lambda>") params body scope (cloFrom X.env.cells scope.names []) ((X.mg "__name__").getD .none) c' ctv)) I hP
      (fun b o hb e => Heap.get?_push_of_some _ (hx b o hb e)) (Heap.get?_push_of_some _ htb) hge ⟨oc, vs, t, Heap.get?_push_of_some _ hoc, hd, hv⟩
    refine h h'.objs.size c' _ ((X.mg "__name__").getD .none) ctv _ _ I1 (tabX_new hP ht ha nC) (Heap.get?_push_size _ rfl) ?_ hsz upd_same (fun b o n e => Heap.get?_push_of_some _ (hx b o n e))
    · have n2 : h'.objs.size ≠ P := Nat.ne_of_gt (Nat.lt_of_lt_of_le (Heap.lt_size hP') hsz)
      rw [upd_ne (Nat.ne_of_gt hlt), upd_ne n2]
      exact I.hok.fresh hsz
  | some cv =>
    obtain ⟨c', q, e, hco⟩ := ha pos cv hc
    subst e
    refine PySem.W.kla_makeFunctionHit (mg := X.mg) (c := c) (P := P) (ps := ps) (closure_ok hfree) I.ok.glob (I.mod.glob.keeps I.bk) hcode (TB.code.keeps I.bk) hP' ht hc bP fun ctv h' tk hx hsz => ?_
    have I1 : Inv X pins σ H { s with heap := h'.push (PySem.W.kla_obj "<lambda>" (X.env.qual ++ "<lambda>") params body scope (cloFrom X.env.cells scope.names []) ((X.mg "__name__").getD .none) c' ctv), toks := tk } := I.kept fun b o e => Heap.get?_push_of_some _ (hx b o e)
    exact h h'.objs.size c' q ((X.mg "__name__").getD .none) ctv H _ I1 (TabbedX.same ⟨ps, hP, ht, ha⟩) (Heap.get?_push_size _ rfl) (I.hok.fresh hsz) hsz hco (fun b o _ e => Heap.get?_push_of_some _ (hx b o e))
end
end Gx
set_option Elab.async false
set_option linter.all false
set_option maxRecDepth 100000
set_option maxHeartbeats 4000000
namespace Gx
open PySem PySem.Spec PyProof.Rows L2 GenW GxR
section
variable {X : Cx} {pins : List (Addr × Obj)} {σ : L2.St} {H : Hp} {s : Shared}
/-- an untracked object of ours is tracked from now on -/
theorem inv_track {a : Addr} {o : HO} (I : Inv X pins σ H s) (hn : H a = none) (nl : a ≠ X.env.locals) (h1 : X.s_0.heap.objs.size ≤ a) (h2 : ∀ x c, X.env.cells.lookup x = some c → c ≠ a) (h3 : ∀ p ∈ X.pn ++ pins, p.1 ≠ a)
    (new : ObjOk X.prog X.w (upd H a o) s.heap a o) : Inv X pins σ (upd H a o) s := by
  have hok : HOk X.prog X.w (upd H a o) s.heap := HOk.laidN I.hok (fun _ _ e => e) hn new
  have := I.step (h' := s.heap) (H' := upd H a o) (g' := s.gens) (t' := s.toks) (d' := s.drawn) (ch := [a]) (fun b hb => by
      have e : b = a := by simpa using hb
      subst e
      exact ⟨.inr h1, nl, h2, h3⟩) (fun b o _ _ _ e _ => e) (fun b o _ _ _ e _ => ⟨o.slots, e⟩) (fun b u hb e n => by
      rw [upd_ne (fun z => hb (by simp [z]))]; exact n) (fun b u _ e => ⟨u, e⟩) (fun b xs e => by rw [upd_ne (ne_of_none e hn)]; exact e) (fun b u v e => by rw [upd_ne (ne_of_none e hn)]; exact e)
      (fun b ps e => ⟨#[], by rw [upd_ne (ne_of_none e hn), e]; simp⟩) (fun m hm => hm) hok I.bare
  exact this
theorem inv_pin {f : Addr} {fo : Obj} (I : Inv X pins σ H s) (hf : s.heap.get? f = some fo) (hn : H f = none) (nl : f ≠ X.env.locals) (nf : f ∉ X.fs) (nc : ∀ v, fo.data ≠ .cell v) : Inv X ((f, fo) :: pins) σ H s :=
  ⟨I.ok, I.os, I.bare, I.base, I.loc, I.cell, I.free, I.freeC, fun p hp => by
    rcases List.mem_append.mp hp with hp | hp
    · exact I.pin p (List.mem_append.mpr (.inl hp))
    · rcases List.mem_cons.mp hp with rfl | hp
      · exact ⟨hf, hn, nl, nf, nc⟩
      · exact I.pin p (List.mem_append.mpr (.inr hp)), I.hok, I.len⟩
theorem inv_unpin {p : Addr × Obj} (I : Inv X (p :: pins) σ H s) : Inv X pins σ H s :=
  ⟨I.ok, I.os, I.bare, I.base, I.loc, I.cell, I.free, I.freeC, fun q hq => I.pin q (by
    rcases List.mem_append.mp hq with hq | hq
    · exact List.mem_append.mpr (.inl hq)
    · exact List.mem_append.mpr (.inr (List.mem_cons_of_mem _ hq))), I.hok, I.len⟩
end
/-- sorted(range(..), key=lambda p: ..) -/
def tSortK (P : Addr) (te : L2.St → Hp → (Int → Int → Hp → Prop) → Prop) (tb : TE) (ip : Nat) : TE := fun σ H Q => te σ H fun a b H1 => TabX H1 P ∧ ∀ H2, TabbedX P H1 H2 → ∃ (n : Nat) (key : Nat → Int), a = 0 ∧ b = n ∧ n < 64 ∧
  (∀ i, i < n → tb (σ.set ip (some (.int (i : Nat)))) H2 fun v H' => v = .int (key i) ∧ H' = H2) ∧
  ∀ (out : List Nat) (p : Addr), out.Perm (List.range n) → (out.map key).Pairwise (· ≤ ·) → H2 p = none → Q (.ref p) (upd H2 p (.lst (out.map fun i => V.int ((i : Nat) : Int))))
/-- what the sort tells of numbered items -/
theorem ksk_nums {n : Nat} {key : Nat → Int} {vs out : List Value} (hv : vs.length = n) (hi : ∀ (j : Nat) v, vs[j]? = some v → ∃ t, v = .int (j : Nat) t) (h : KskOut false ((List.range n).map key) vs out) :
    ∃ ns : List Nat, ns.Perm (List.range n) ∧ (ns.map key).Pairwise (· ≤ ·) ∧ Vals (ns.map fun i => V.int ((i : Nat) : Int)) out := by
  obtain ⟨ps, p1, rfl, p3⟩ := h
  have mem : ∀ p ∈ ((List.range n).map key).zip vs, ∃ (j : Nat) (t : Tok), p = (key j, .int (j : Nat) t) := fun p hp => by
    obtain ⟨j, hj⟩ := List.mem_iff_getElem?.mp hp
    rw [List.getElem?_zip_eq_some] at hj
    obtain ⟨h1, h2⟩ := hj
    obtain ⟨t, ht⟩ := hi j _ h2
    rw [List.getElem?_map] at h1
    have hj : j < n := by
      have := (List.getElem?_eq_some_iff.mp h2).1
      omega
    rw [List.getElem?_range hj] at h1
    have h1 : key j = p.1 := Option.some.inj h1
    exact ⟨j, t, by rw [h1, ← ht]⟩
  have e1 : (((List.range n).map key).zip vs).map (fun p : Int × Value => (numOf p.2).toNat) = List.range n := by
    apply List.ext_getElem?
    intro j
    rw [List.getElem?_map]
    rcases Nat.lt_or_ge j n with z | z
    · have h2 : vs[j]? = some (vs[j]'(by omega)) := List.getElem?_eq_getElem _
      obtain ⟨t, ht⟩ := hi j _ h2
      have : (((List.range n).map key).zip vs)[j]? = some (key j, vs[j]'(by omega)) := List.getElem?_zip_eq_some.mpr ⟨by rw [List.getElem?_map, List.getElem?_range z]; rfl, h2⟩
      rw [this, List.getElem?_range z, ht]
      show some ((((j : Nat) : Int)).toNat) = some j
      rw [Int.toNat_natCast]
    · rw [List.getElem?_eq_none (by rw [List.length_zip, List.length_map, List.length_range]; omega), List.getElem?_eq_none (by rw [List.length_range]; exact z)]
      rfl
  refine ⟨ps.map fun p => (numOf p.2).toNat, by rw [← e1]; exact p1.map _, ?_, ?_⟩
  · have : (ps.map fun p => (numOf p.2).toNat).map key = ps.map (·.1) := by
      rw [List.map_map]
      apply List.map_congr_left
      intro p hp
      obtain ⟨j, t, rfl⟩ := mem p (p1.mem_iff.mp hp)
      show key (((j : Nat) : Int).toNat) = key j
      rw [Int.toNat_natCast]
    rw [this, List.pairwise_map]
    exact p3.imp fun h => by simpa using h
  · have all : ∀ l : List (Int × Value), (∀ p ∈ l, ∃ (j : Nat) (t : Tok), p = (key j, .int (j : Nat) t)) → Vals ((l.map fun p => (numOf p.2).toNat).map fun i => V.int ((i : Nat) : Int)) (l.map Prod.snd) := by
      intro l
      induction l with
      | nil => intro _; exact .nil
      | cons p l ih =>
        intro hl
        obtain ⟨j, t, rfl⟩ := hl p (List.mem_cons_self ..)
        refine .cons ⟨t, ?_⟩ (ih fun q hq => hl q (List.mem_cons_of_mem _ hq))
        show Value.int (j : Nat) t = Value.int (((((j : Nat) : Int)).toNat : Nat) : Int) t
        rw [Int.toNat_natCast]
    exact all ps fun p hp => mem p (p1.mem_iff.mp hp)
section
variable {X : Cx}
theorem pe_sortKey {c P : Addr} {e body : Expr} {te : L2.St → Hp → (Int → Int → Hp → Prop) → Prop} {params : Arguments} {scope : Scope} {y : Str} {ip : Nat} {tb : TE} {k : Nat} {p1 kp lpos pos : Pos}
    (hc : X.calm = true) (hr : Room (k + 3) X.A) (hN : X.N.Nodup) (hg : Gl X "sorted") (hm : X.mg "sorted" = none) (hv : bootBuiltins "sorted" = some (.builtin "sorted")) (TB : TabB X.base X.mg c P) (hcode : X.env.code = .ref c) (he : PRg X e te)
    (L : LamP X.env.scope scope y) (hip : X.N[ip]? = some y) (hdef : defaultsOf params X.env = ([], [])) (hbind : ∀ (q : Str) (cl : List (Str × Addr)) (pm cv ctv u : Value), bindArgs (PySem.W.kla_fn "<lambda>" q params body scope cl pm cv ctv) ⟨[u], []⟩ = pure [(y, u)])
    (hb : ∀ (A : Around) (s : Shared) (H : Hp) (q : Str) (f c' : Addr), Room k (A.deeper (envQ X q scope s.heap.objs.size f c')) → PE (lamQ X A s H q scope f c') body tb)
    (hs : backTo pos (starEach [e] X.env) = (false, eval e X.env) :: backTo pos (starEach [] X.env) := by rfl) (hpl : (backTo pos (starEach [e] X.env)).any (·.1) = false := by rfl) :
    PE X (.Call (.Name "sorted" p1) [e] [⟨some "key", .Lambda params body scope lpos, kp⟩] pos) (tSortK P te tb ip) := by
  refine ⟨fun pins s σ H Q I h => ?_⟩
  refine wpAny_Call_Name_kw (ld_blt I hg hm hv ?_)
  refine PyProof.Rows.callWith_kw ?_ hs hpl (by rfl) (by rfl)
  rw [hs]
  refine Calls.spliced_cons (thn (he pins s σ H _ I h) fun x s1 ⟨r, a, b, t, u, v, H1, ex, hrg, I1, hT, q1⟩ => Calls.spliced_nil ?_)
  subst ex
  show wpAny _ _ (evalAll [(do let z ← eval (.Lambda params body scope lpos) X.env; standAt pos; pure z)]) _ _ s1
  refine wpAny_evalAll_cons (wpAny_bind (lamX_make I1 TB hcode hT hdef (L.has I1.ok) fun f c' q pm ctv H2 s2 I2 hTb hf hfn hfsz hco hkeep => ?_))
  refine wpAny_bind (wpAny_standAt (wpAny_pure (wpAny_evalAll_nil ?_)))
  show wpAny _ _ (call (.builtin "sorted") [.ref r] [("key", .ref f)]) _ _ s2
  obtain ⟨n, key, ea, eb, hn, hkey, hq⟩ := q1 H2 hTb
  subst ea eb
  obtain ⟨ps, hP, _⟩ := hT
  have hrP : r ≠ P := fun z => by
    have h1 : s1.heap.get? P = some { cls := .none, data := .fields ps } := I1.hok P _ hP
    rw [← z] at h1
    have h2 := hrg
    unfold IsRange at h2
    rw [h2] at h1
    cases h1
  have hrg2 : IsRange s2.heap r 0 n 1 t u v := hkeep r _ hrP hrg
  have hfl : f < s2.heap.objs.size := Heap.lt_size hf
  have fnl : f ≠ X.env.locals := fun z => by
    have := I1.lt
    rw [← z] at this
    exact Nat.lt_irrefl _ (Nat.lt_of_lt_of_le this hfsz)
  have I3 := inv_pin I2 hf hfn fnl (I1.nofs hfsz) (fun v z => by cases z)
  refine call_function_entry_kw kind_sorted plain_sorted entry_sorted (ksk_s1 _ _) ?_
  unfold Builtin.«sorted»
  refine wpAny_bind (m := checkCount "sorted" 1 1 _) (wpAny_pure ?_)
  refine wpAny_bind (collect_range (A := X.A.in1) (n := n) hr.hd hrg2 (small_one (by decide) (by decide) (by omega) (by omega)) (by rw [rangeSize_nat]; simp) (by omega) fun h4 tk4 acc hk4 hi4 => ?_)
  have hal : acc.toList.length = n := by rw [Array.length_toList]; exact hi4.1
  have hitems : ∀ (j : Nat) w, acc.toList[j]? = some w → ∃ t, w = .int (j : Nat) t := fun j w hj => by
    obtain ⟨t, ht⟩ := hi4.2 j w (by rw [← hj, Array.getElem?_toList])
    exact ⟨t, by rw [ht, Int.mul_one, Int.zero_add]⟩
  refine wpAny_bind (wpAny_newList ?_ (by rw [hal, sizeLine_eq]; omega))
  have I4 : Inv X ((f, _) :: pins) σ H2 { s2 with heap := h4, toks := tk4 } := I3.kept hk4
  have fresh : ∀ x, h4.objs.size ≤ x → H2 x = none ∧ x ≠ X.env.locals ∧ X.s_0.heap.objs.size ≤ x ∧ (∀ y c, X.env.cells.lookup y = some c → c ≠ x) ∧ ∀ p ∈ X.pn ++ ((f, _) :: pins), p.1 ≠ x := fun x hx => by
    refine ⟨I4.hok.fresh hx, Nat.ne_of_gt (Nat.lt_of_lt_of_le I4.lt hx), Nat.le_trans I4.sz hx, fun y c e z => ?_, fun p hp z => ?_⟩
    · obtain ⟨w, o, ho, _⟩ := I4.cell y c e
      rw [z] at ho
      exact absurd (Heap.lt_size ho) (Nat.not_lt.mpr hx)
    · have := (I4.pin p hp).1
      rw [z] at this
      exact absurd (Heap.lt_size this) (Nat.not_lt.mpr hx)
  refine wpAny_bind (wpAny_holding (wpAny_call_entry_kw slot_list_sort ⟨_, Heap.get?_push_size _ rfl, rfl⟩ entry_list_sort ?_ (ksk_l1 _ _)))
  rw [ksk_t1]
  refine sh_tree (J := fun s' => Inv X ((f, PySem.W.kla_obj "<lambda>" (X.env.qual ++ "<lambda>") params body scope (cloFrom X.env.cells scope.names []) pm c' ctv) :: pins) σ H2 s') (kz := (List.range n).map key) (vs := acc.toList) (n := 0) (Heap.get?_push_size _ rfl) (by rw [List.length_map, List.length_range, hal]) (by rw [hal]; exact hn) (fun kS hkS x s' h' tk hx J' sb => ?_) (fun h' tk hk => ?_) (fun kS e1 i w kk hkS hkz hw hkk s' o J' ok oa => ?_) (fun s' out c0 J' oa ko => ?_)
  · have hx' : h4.objs.size ≤ x := by
      rcases hx with rfl | rfl
      · exact Nat.le_refl _
      · exact Nat.le_of_lt hkS
    obtain ⟨z1, z2, z3, z4, z5⟩ := fresh x hx'
    exact Inv.turned J' (fun b o hb e => (sb.2 b hb).trans e) z1 z2 (.inr z3) z4 z5
  · exact I4.kept fun b o e => hk b o (Nat.ne_of_lt (Heap.lt_size e)) (Heap.get?_push_of_some _ e)
  · -- the lambda called
    obtain ⟨tw, rfl⟩ := hitems i w hw
    have hin : i < n := by
      have := (List.getElem?_eq_some_iff.mp hw).1
      omega
    have ek : key i = kk := by
      rw [List.getElem?_map, List.getElem?_range hin] at hkk
      exact Option.some.inj hkk
    have of1 : s'.heap.get? f = some (PySem.W.kla_obj "<lambda>" (X.env.qual ++ "<lambda>") params body scope (cloFrom X.env.cells scope.names []) pm c' ctv) := (J'.pin (f, _) (List.mem_append.mpr (.inr (List.mem_cons_self ..)))).1
    obtain ⟨⟨oc, vs, tc, hoc, hdc, hvc⟩, _, _⟩ := J'.hok c' _ hco
    have nfr : ∀ x, h4.objs.size ≤ x → x ∉ frs X.stack := fun x hx z => by
      rcases List.mem_cons.mp (I4.stkSub x z) with e | e
      · exact (fresh x hx).2.1 e
      · exact I4.nofs hx e
    have hroom : Room (k + 1) X.A.in1.in1 := (hr.in1).in1
    have rc : codeAny (model X.prog X.w) X.A.in1.in1 (.call (.ref f) ⟨[.int (i : Nat) tw], []⟩) (fun rr s3 => match rr with | .ok (.ret u) => (∃ t, u = .int kk t) ∧ Inv X ((f, PySem.W.kla_obj "<lambda>" (X.env.qual ++ "<lambda>") params body scope (cloFrom X.env.cells scope.names []) pm c' ctv) :: pins) σ H2 s3 ∧ Un (frs X.stack) [] H2 H2 s'.heap s3.heap | _ => False) s' := by
      refine call_lamQ hroom.depth of1 rfl L.co L.gen rfl ⟨c', oc, vs, tc, rfl, hoc, hdc, hvc⟩ ?_
      rw [hbind]
      refine wpAny_pure (wpAny_newFunctionEnv (fun z hz => (L.own z hz).1) (fun z hz => by rw [List.mem_singleton.mp hz]; exact L.loc) (fun h1 hns hsb => ⟨J'.nolimit.fresh _ hsb, ?_⟩) L.kind)
      show codeAny _ _ (.expr body (envQ X q scope s'.heap.objs.size f c')) _ _
      have kp : ∀ b o, s'.heap.get? b = some o → h1.get? b = some o := fun b o e => hsb.extBut b o (Nat.ne_of_lt (Heap.lt_size e)) (Heap.get?_push_of_some _ e)
      have J1 := lamQ_start (v := .int ((i : Nat) : Int)) (A := X.A.in1.in1) (q := q) (f := f) (c' := c') (tk := s'.toks + ([(y, Value.int (i : Nat) tw)] : List (Str × Value)).length) J' L hN hip J'.ok.frames hr.hd hns ⟨tw, rfl⟩ kp
      refine PySem.W.kla_codeExpr (wpAny_mono ((hb X.A.in1.in1 s' H2 q f c' (hroom.deeper _)).run [] _ _ H2 _ J1 (hkey i hin)) (fun u' s3 hq' => ?_) fun _ _ z => z.elim)
      obtain ⟨w', H', J2, rv, ev, eH⟩ := hq'
      subst ev eH
      obtain ⟨tu, rfl⟩ := rv
      obtain ⟨v2, H3, I5, r4, q4⟩ := J'.after (Q := fun _ H'' => H'' = H') (u := .int (key i) tu) ⟨.int (key i), H', J2.os, J2.bare, J2.base, J2.hok, ⟨tu, rfl⟩, rfl⟩
      rw [q4] at I5
      exact ⟨⟨tu, by rw [ek]⟩, I5, J2.base⟩
    refine wpAny_call (codeAny_mono rc fun rr s3 hz => ?_)
    cases rr with
    | error e => exact hz.elim
    | ok fl =>
      cases fl with
      | ret u' =>
        obtain ⟨⟨tu, rfl⟩, I5, un⟩ := hz
        have hS : h4.objs.size ≤ kS := Nat.le_of_lt hkS
        exact ⟨tu, rfl, I5, un.keep kS o ok (fresh kS hS).1 (nfr kS hS) (by simp), un.keep _ _ oa (fresh _ (Nat.le_refl _)).1 (nfr _ (Nat.le_refl _)) (by simp)⟩
      | next => exact hz.elim
      | brk => exact hz.elim
      | cont => exact hz.elim
  · obtain ⟨ns, g1, g2, g3⟩ := ksk_nums hal hitems ko
    obtain ⟨z1, z2, z3, z4, z5⟩ := fresh h4.objs.size (Nat.le_refl _)
    refine ⟨_, rfl, wpAny_pure ⟨_, rfl, .ref h4.objs.size, upd H2 h4.objs.size (.lst (ns.map fun i => V.int ((i : Nat) : Int))), inv_unpin (inv_track J' z1 z2 z3 z4 z5 ⟨?_, out.toList, c0, g3, by rw [Array.toArray_toList]; exact oa⟩), rfl, hq ns _ g1 g2 z1⟩⟩
    rw [List.length_map, g1.length_eq, List.length_range, sizeLine_eq]
    omega
end
end Gx
set_option Elab.async false
set_option linter.all false
set_option maxRecDepth 100000
set_option maxHeartbeats 4000000
/-! a generator expression whose items are collected -/
namespace Gx
open PySem PySem.Spec PyProof.Rows L2 GenW GxR
/-- turn by turn: acc is out -/
def TurnsC (J : It) (g : TG) (tt : TT) (te : TE) (vs : List Nat) (σ0 : L2.St) (W : Nat → Nat → List V → Hp → Prop) (Qt : List V → Hp → Prop) : Prop :=
  ∀ i m acc H, W i m acc H → (J.stop i H ∧ Qt acc H) ∨ (J.go i H ∧ ∃ Nx : List V → Hp → Prop, (∀ acc' H', Nx acc' H' → ∃ m', m' < m ∧ W (i + 1) m' acc' H') ∧ ∀ x H', J.yld i H x H' → g x σ0 H' fun σ2 H2 => wipe σ2 vs = σ0 ∧ tt σ2 H2 fun b H3 => if b = true then te σ2 H3 fun y H4 => acc.length < 100000 ∧ Nx (acc ++ [y]) H4 else Nx acc H3)
theorem slept_woke {Sa : Addr} {v : Value} {s s' : Shared} {arr : Array Value} {c : Nat} (h : Slept Sa v s s') (e : s.heap.get? Sa = some (lstObj arr c)) : WokeS Sa s s' := by
  obtain ⟨c', e'⟩ := h.own arr c e
  exact ⟨h.keep, ⟨_, e', fun v z => by cases z⟩, h.os, h.bare⟩
section
variable {X : Cx} {A' B : Around} {s4 : Shared} {H4 : Hp} {cenv : Env} {fp : List Addr} {pn : List (Addr × Obj)} {it Sa a : Addr} {gi : Nat} {gobj : Obj} {E : XK} {tn : Nat → Heap → Prop} {J : It} {elt tg iter : Expr} {ifs : List Expr} {scope : Scope} {pos : Pos} {g : TG} {tt : TT} {te : TE} {vs : List Nat} {σ0 : L2.St} {W : Nat → Nat → List V → Hp → Prop} {Qt : List V → Hp → Prop}
theorem seg_cx (hA : B.over (.compLoop (.GeneratorExp elt [⟨tg, iter, ifs, 0⟩] scope pos) 0 (.ref it) .none cenv) [] = A') (hc : X.calm = true) (hco : cenv.scope.isCoroutine = false) (T : Turn X.prog X.w X.K tg J fp it tn) (hpn : (a, gobj) ∈ pn) (hgo : ∀ h : Heap, h.get? a = some gobj → h.IsGen a gi)
    (hst : ∀ (pl : List (Addr × Obj)) (H : Hp), (∀ p ∈ pl, p.1 = Sa) → (∀ b ∈ fp, H b = none) → ∀ b ∈ fp, FpOk (gcx X A' s4 H4 cenv fp pn) pl H b) (hSf : Sa ∉ fp) (hSo : ∀ H : Hp, H Sa = none → FpOk (gcx X A' s4 H4 cenv fp pn) [] H Sa) (hσ : wipe σ0 vs = σ0)
    (hg : PG (gcx X A' s4 H4 cenv fp pn) tg g) (ht : PTs (gcx X A' s4 H4 cenv fp pn) ifs tt) (he : PE (gcx X A' s4 H4 cenv fp pn) elt te) (hturn : TurnsC J g tt te vs σ0 W Qt) :
    ∀ (m n i : Nat) (acc : List V) (H : Hp) (s₀ s : Shared) (arr : Array Value) (c : Nat), Inv (gcx X A' s4 H4 cenv fp pn) [] σ0 H s → H Sa = none → s.heap.get? Sa = some (lstObj arr c) → Vals acc arr.toList → n + acc.length = sizeLine → tn i s.heap → (∀ b ∈ fp, H b = none) → W i m acc H →
      Seg (model X.prog X.w) B (REnd X.prog X.w X.stack H4 s4 fp Sa a gi Qt E) (YItem s4 Sa a gi) n s₀ (.compLoop (.GeneratorExp elt [⟨tg, iter, ifs, 0⟩] scope pos) 0 (.ref it) .none cenv)
        ((model X.prog X.w).den (.compLoop (.GeneratorExp elt [⟨tg, iter, ifs, 0⟩] scope pos) 0 (.ref it) .none cenv)) [] s := by
  intro m
  induction m using Nat.strongRecOn with
  | _ m ih =>
  intro n i acc H s₀ s arr c I hSn ho hva hn st fr w
  show Seg _ B _ _ _ s₀ _ ((compTurn (.GeneratorExp elt [⟨tg, iter, ifs, 0⟩] scope pos) 0 (.ref it) .none cenv).onRaise (leaving cenv)) [] s
  rw [compTurn_gen, Sem.onRaise_eq_wrap]
  refine seg_bind_wrap (wpAny_standAt ?_)
  have hoc : ∀ v, (lstObj arr c).data ≠ .cell v := fun v z => by cases z
  have I0 : Inv (gcx X A' s4 H4 cenv fp pn) ([] ++ pinsAt [Sa] s.heap) σ0 H s := I.pinned (fun b hb => by rw [List.mem_singleton.mp hb]; exact hSo H hSn) (fun b hb => by rw [List.mem_singleton.mp hb]; exact ⟨_, ho, hoc⟩)
  have pl : ∀ p ∈ ([] ++ pinsAt [Sa] s.heap : List (Addr × Obj)), p.1 = Sa := fun p hp => by
    rw [List.nil_append] at hp
    exact List.mem_singleton.mp (of_pinsAt hp).1
  have mS : (Sa, lstObj arr c) ∈ ([] ++ pinsAt [Sa] s.heap : List (Addr × Obj)) := by
    rw [List.nil_append]
    exact mem_pinsAt (List.mem_singleton.mpr rfl) ho
  rcases hturn i m acc H w with ⟨stop, qn⟩ | ⟨goes, Nx, hN, step⟩
  · refine seg_bind_wrap ?_
    rw [hA]
    refine wpAny_mono (T.done (gcx X A' s4 H4 cenv fp pn) rfl rfl rfl hc i _ s σ0 H _ I0 (hst _ H pl fr) st stop) (fun r s1 hr => ?_) fun _ _ e => e
    obtain ⟨rfl, I1⟩ := hr
    have q := I1.pin (Sa, lstObj arr c) (List.mem_append_right _ mS)
    exact seg_end (.ok .next) (.inl ⟨.inr rfl, H, acc, arr, c, I1.os, I1.bare, I1.base, I1.hok, hSn, q.1, hva, by omega, qn⟩)
  · refine seg_bind_wrap ?_
    rw [hA]
    refine wpAny_mono (T.item (gcx X A' s4 H4 cenv fp pn) rfl rfl rfl hc i _ s σ0 H _ I0 (hst _ H pl fr) st goes) (fun r s1 hr => ?_) fun _ _ e => e
    obtain ⟨u, rfl, h1⟩ := hr
    refine seg_bind_wrap ?_
    rw [hA]
    refine wpAny_mono h1 (fun _ s2 h2 => ?_) fun _ _ e => e
    obtain ⟨x, H2, I2, rx, yl, st2, fr2⟩ := h2
    have I2' := I2.pinned (hst _ H2 pl fr2) (T.obj _ _ st2)
    refine seg_bind_wrap ?_
    rw [hA]
    refine wpAny_mono (hg.run _ s2 σ0 H2 x u _ I2' rx (step x H2 yl)) (fun _ s3 h3 => ?_) fun _ _ e => e.elim
    obtain ⟨σ3, H3, I3, hw3, q3⟩ := h3
    have keeps : ∀ {σ' : L2.St} {H' : Hp} {s' : Shared}, Inv (gcx X A' s4 H4 cenv fp pn) (([] ++ pinsAt [Sa] s.heap) ++ pinsAt fp s2.heap) σ' H' s' → (tn (i + 1) s'.heap ∧ ∀ b ∈ fp, H' b = none) ∧ s'.heap.get? Sa = some (lstObj arr c) ∧ H' Sa = none := fun {σ' H' s'} I' =>
      ⟨⟨T.keep _ _ _ st2 fun b hb o e => (I'.pin (b, o) (List.mem_append_right _ (List.mem_append_right _ (mem_pinsAt hb e)))).1, fun b hb => by
        obtain ⟨o, e, _⟩ := T.obj _ _ st2 b hb
        exact (I'.pin (b, o) (List.mem_append_right _ (List.mem_append_right _ (mem_pinsAt hb e)))).2.1⟩, by
        have q := I'.pin (Sa, lstObj arr c) (List.mem_append_right _ (List.mem_append_left _ mS))
        exact ⟨q.1, q.2.1⟩⟩
    have back : ∀ {H' : Hp} {s' : Shared}, Inv (gcx X A' s4 H4 cenv fp pn) (([] ++ pinsAt [Sa] s.heap) ++ pinsAt fp s2.heap) σ3 H' s' → Inv (gcx X A' s4 H4 cenv fp pn) [] σ0 H' s' := fun {H' s'} I' => by
      refine (I'.unpinned).unpinned.weak ?_ fun j v e => ?_
      · rw [← hw3, wipe_length]
      · rw [← hw3] at e
        exact (wipe_some e).1
    refine seg_bind_wrap ?_
    rw [hA]
    refine wpAny_mono (ht.run _ s3 σ3 H3 _ I3 q3) (fun b s5 h5 => ?_) fun _ _ e => e.elim
    obtain ⟨H5, I5, q5⟩ := h5
    cases b with
    | false =>
      simp only [Bool.false_eq_true, if_false]
      obtain ⟨m', hm, w'⟩ := hN acc H5 q5
      obtain ⟨⟨k1, k2⟩, k3, k4⟩ := keeps I5
      exact seg_again rfl (ih m' hm n (i + 1) acc H5 s₀ s5 arr c (back I5) k4 k3 hva hn k1 k2 w')
    | true =>
      simp only [if_true]
      have hy : ∀ v, yieldOut cenv v = yieldValue v := fun v => by simp only [yieldOut, hco, Bool.false_eq_true, if_false]
      simp only [hy]
      rw [Sem.bind_eq_wrap', Sem.bind_eq_wrap', Sem.wrap_wrap, Sem.wrap_wrap]
      refine seg_wrap ?_
      rw [hA]
      refine wpAny_mono (he.run _ s5 σ3 H5 _ I5 q5) (fun v s6 h6 => ?_) fun _ _ e => e.elim
      obtain ⟨y, H6, I6, ry, hlt, q6⟩ := h6
      obtain ⟨⟨k1, k2⟩, k3, k4⟩ := keeps I6
      obtain ⟨m', hm, w'⟩ := hN _ H6 q6
      have hz : sizeLine = 16777216 := sizeLine_eq
      obtain ⟨n', rfl⟩ : ∃ n', n = n' + 1 := ⟨n - 1, by omega⟩
      have hsz : arr.size = acc.length := by rw [hva.length, Array.length_toList]
      have hga := I6.pin (a, gobj) (List.mem_append_left _ hpn)
      refine seg_at (seg_yield rfl rfl rfl ⟨I6.os, I6.bare, I6.nolimit, hgo _ hga.1, ⟨arr, c, k3, by omega⟩, fun s' wk => ?_⟩)
      obtain ⟨c', e'⟩ := wk.own arr c k3
      exact seg_again rfl (ih m' hm n' (i + 1) (acc ++ [y]) H6 s' s' (arr.push v) c' (inv_wokeS (back I6) k4 (hSo H6 k4) (slept_woke wk k3)) k4 e' (by rw [Array.toList_push]; exact Paired.snoc hva ry) (by rw [List.length_append]; show n' + (acc.length + 1) = _; omega) (T.keep _ _ _ k1 fun b hb o e => wk.keep b o (fun z => hSf (z ▸ hb)) e) k2 w')
theorem seg_cx0 (hA : B.over (.compLoop (.GeneratorExp elt [⟨tg, iter, ifs, 0⟩] scope pos) 0 (.ref it) .none cenv) [] = A') (hc : X.calm = true) (hco : cenv.scope.isCoroutine = false) (T : Turn X.prog X.w X.K tg J fp it tn) (hpn : (a, gobj) ∈ pn) (hgo : ∀ h : Heap, h.get? a = some gobj → h.IsGen a gi)
    (hst : ∀ (pl : List (Addr × Obj)) (H : Hp), (∀ p ∈ pl, p.1 = Sa) → (∀ b ∈ fp, H b = none) → ∀ b ∈ fp, FpOk (gcx X A' s4 H4 cenv fp pn) pl H b) (hSf : Sa ∉ fp) (hSo : ∀ H : Hp, H Sa = none → FpOk (gcx X A' s4 H4 cenv fp pn) [] H Sa) (hσ : wipe σ0 vs = σ0)
    (hg : PG (gcx X A' s4 H4 cenv fp pn) tg g) (ht : PTs (gcx X A' s4 H4 cenv fp pn) ifs tt) (he : PE (gcx X A' s4 H4 cenv fp pn) elt te) (hturn : TurnsC J g tt te vs σ0 W Qt)
    (m : Nat) (H : Hp) (s : Shared) (c : Nat) (I : Inv (gcx X A' s4 H4 cenv fp pn) [] σ0 H s) (hSn : H Sa = none) (hSe : s.heap.get? Sa = some (lstObj #[] c)) (st : tn 0 s.heap) (fr : ∀ b ∈ fp, H b = none) (w : W 0 m [] H) :
      Seg (model X.prog X.w) B (REnd X.prog X.w X.stack H4 s4 fp Sa a gi Qt E) (YItem s4 Sa a gi) sizeLine s (.compStart (.GeneratorExp elt [⟨tg, iter, ifs, 0⟩] scope pos) 0 (.ref it) .none cenv)
        ((model X.prog X.w).den (.compStart (.GeneratorExp elt [⟨tg, iter, ifs, 0⟩] scope pos) 0 (.ref it) .none cenv)) [] s := by
  have loop := seg_cx (E := E) hA hc hco T hpn hgo hst hSf hSo hσ hg ht he hturn m sizeLine 0 [] H s s #[] c I hSn hSe .nil rfl st fr w
  show Seg _ B _ _ _ s _ ((compStart (.GeneratorExp elt [⟨tg, iter, ifs, 0⟩] scope pos) 0 (.ref it) .none cenv).onRaise (leaving cenv)) [] s
  unfold compStart
  rw [Sem.onRaise_eq_wrap]
  show Seg _ B _ _ _ s _ ((ask >>= _).wrap _ _ _ _) [] s
  refine seg_bind_wrap (wpAny_askSetting ?_)
  split
  · exact seg_again rfl loop
  · first
      | exact seg_bind_wrap (wpAny_rule (seg_bind_wrap (wpAny_standAt (seg_bind_wrap (T.self _ 0 s _ _ st (seg_again rfl loop))))))
      | (refine seg_bind_wrap (wpAny_rule ?_); show Seg _ B _ _ _ s _ ((standAt iter.pos >>= _).wrap _ _ _ _) [] s; exact seg_bind_wrap (wpAny_standAt (seg_bind_wrap (T.self _ 0 s _ _ st (seg_again rfl loop)))))
end
/-- (e for x in .. if ..), its items collected -/
def tgGx (P : Addr) (wi : TI) (g : TG) (tt : TT) (te : TE) (vs : List Nat) : TGen := fun σ H Q => wi σ H fun J H1 => TabX H1 P ∧ ∀ H2, TabbedX P H1 H2 →
  ∃ W : Nat → Nat → List V → Hp → Prop, (∃ m, W 0 m [] H2) ∧ TurnsC J g tt te vs (wipe σ vs) W Q
section
variable {X : Cx} {c P : Addr} {elt tg iter : Expr} {ifs : List Expr} {scope : Scope} {own : List (Str × Nat)} {gpos : Pos} {wi : TI} {g : TG} {tt : TT} {te : TE} {k : Nat} {E : XK}
theorem room_over {A : Around} {env : Env} (hr : Room (k + 1) A) : Room k (A.over (.compLoop (.GeneratorExp elt [⟨tg, iter, ifs, 0⟩] scope gpos) 0 (.ref c) .none env) []) :=
  ⟨hr.hd, by have := hr.dp; show A.depth + 1 + 3 * k + 5 < _; omega, by have := hr.un; show A.units + 3 + 16 * k + 200 < _; omega⟩
theorem pgen_gx (hc : X.calm = true) (hr : Room (k + 2) X.A) (hN : X.N.Nodup) (TB : TabB X.base X.mg c P) (hcode : X.env.code = .ref c) (S : GenOk X.env X.N scope own) (hi : PI X tg iter wi)
    (hg : ∀ (A' : Around) (s : Shared) (H : Hp) (cl : List (Str × Addr)) (C : Addr) (code : Value) (fp : List Addr) (pn : List (Addr × Obj)), Room k A' → PG (gcx X A' s H (genEnv scope cl C code builtinsNs X.env) fp pn) tg g)
    (ht : ∀ (A' : Around) (s : Shared) (H : Hp) (cl : List (Str × Addr)) (C : Addr) (code : Value) (fp : List Addr) (pn : List (Addr × Obj)), Room k A' → PTs (gcx X A' s H (genEnv scope cl C code builtinsNs X.env) fp pn) ifs tt)
    (he : ∀ (A' : Around) (s : Shared) (H : Hp) (cl : List (Str × Addr)) (C : Addr) (code : Value) (fp : List Addr) (pn : List (Addr × Obj)), Room k A' → PE (gcx X A' s H (genEnv scope cl C code builtinsNs X.env) fp pn) elt te)
    (hs : ∀ v, genFold iter X.env v = pure v := by intro _; rfl) : PGen X (k + 1) (.GeneratorExp elt [⟨tg, iter, ifs, 0⟩] scope gpos) (tgGx P wi g tt te (own.map (·.2))) E := by
  refine ⟨fun pins s σ H Q I h => ?_⟩
  have hfree : ∀ y ∈ scope.names, y.2 = .free → ∃ c, X.env.cells.lookup y.1 = some c := fun y hy e => by
    rcases S.blk.free y hy e with k | k
    · exact I.ok.has _ (.inl k)
    · exact I.ok.has _ (.inr k)
  refine wpAny_GeneratorExp_make S.co (closure_ok hfree) S.cell S.dot S.blk.kind (by have := hr.dp; omega) ?_ hs
  refine thn (hi.run pins s σ H _ I h) fun v s1 h1 => thn h1 fun itv s2 h2 => ?_
  obtain ⟨it, fp, tn, J, H1, rfl, I1, T, st1, f1, ⟨ps, hP, htr, hall⟩, q1⟩ := h2
  have hPs : s2.heap.get? P = some { cls := .none, data := .fields ps } := I1.hok P _ hP
  have cd : PySem.W.CodeHd s2.heap c P := TB.code.keeps fun b u e => I1.bk b u e
  refine ⟨I1.nolimit, ?_⟩
  have nfP : ∀ b ∈ fp, b ≠ P := fun b hb z => by
    have := (f1 b hb).1
    rw [z, hP] at this
    cases this
  have cont : ∀ (code : Value) (h3 : Heap) (tk : Nat) (H2 : Hp), Heap.ExtBut P s2.heap h3 → s2.heap.objs.size ≤ h3.objs.size → Inv X pins σ H2 { s2 with heap := h3, toks := tk } → TabbedX P H1 H2 → (∀ b, b < s2.heap.objs.size → b ≠ P → H2 b = H1 b) →
      wpAny (model X.prog X.w) X.A (builtinsFor X.env.globals X.env.builtins) (fun bi s₄ =>
        ∀ h', h'.Ns s₄.heap.objs.size (fun y => if y = ".0" then some (.ref it) else none) → Heap.SameBut s₄.heap.objs.size (s₄.heap.push { cls := .type "frame", data := .dict #[] }) h' →
          (fun u s' => ∃ H1 sc ex, Inv X pins σ H1 sc ∧ ExOk X pins ex ∧ GMade X.prog X.w (k + 1) X.stack H1 sc ex Q E u s') (.ref h'.objs.size) { s₄ with
            gens := s₄.gens.push (.fresh (.compStart (.GeneratorExp elt [⟨tg, iter, ifs, 0⟩] scope gpos) 0 (.ref it) .none (genEnv scope (cloFrom X.env.cells scope.names []) s₄.heap.objs.size code bi X.env))),
            toks := s₄.toks + 1 + 1 + 1,
            heap := h'.push { cls := .type "generator", data := .fields #[.int s₄.gens.size 0, .str "<genexpr>" (s₄.toks + 1), .str (X.env.qual ++ "<genexpr>") (s₄.toks + 1 + 1)] } }) X.xe { s2 with heap := h3, toks := tk } := by
    intro code h3 tk H2 hx hsz J2 hTb hEq
    obtain ⟨bm, ob, e1, e2, e3, e4, e5, e6, e7, e8⟩ := TB.bm
    refine wpAny_builtinsFor (m := X.mg) (by rw [I1.ok.glob]; exact (I1.mod.glob.keeps I1.bk).extBut hx TB.gP) e1 e2 (hx _ _ e4 (I1.bk _ _ e5)) e6 e7 e8 ?_
    intro h' hns hsb
    obtain ⟨W, ⟨m, w0⟩, hturn⟩ := q1 H2 hTb
    have szp : (h3.push { cls := .type "frame", data := .dict #[] }).objs.size = h3.objs.size + 1 := Heap.size_push ..
    have sz' : h'.objs.size = h3.objs.size + 1 := by rw [← szp]; exact hsb.1
    have kp : ∀ b o, h3.get? b = some o → (h'.push { cls := .type "generator", data := .fields #[.int s2.gens.size 0, .str "<genexpr>" (tk + 1), .str (X.env.qual ++ "<genexpr>") (tk + 1 + 1)] }).get? b = some o := fun b o e =>
      Heap.get?_push_of_some _ ((hsb.2 b (Nat.ne_of_lt (Heap.lt_size e))).trans (Heap.get?_push_of_some _ e))
    have f2 : ∀ b ∈ fp, FpOk X pins H2 b ∧ b < h3.objs.size := fun b hb => by
      obtain ⟨o, e, _⟩ := T.obj _ _ st1 b hb
      refine ⟨⟨by rw [hEq b (Heap.lt_size e) (nfP b hb)]; exact (f1 b hb).1, (f1 b hb).2⟩, Nat.lt_of_lt_of_le (Heap.lt_size e) hsz⟩
    have st3 : tn 0 h3 := T.keep _ _ _ st1 fun b hb o e => hx b o (nfP b hb) e
    have hgen : ∀ h : Heap, h.get? h'.objs.size = some { cls := .type "generator", data := .fields #[.int s2.gens.size 0, .str "<genexpr>" (tk + 1), .str (X.env.qual ++ "<genexpr>") (tk + 1 + 1)] } → h.IsGen h'.objs.size s2.gens.size := fun s e => ⟨_, _, _, e, rfl, rfl, rfl⟩
    have sz5 : (h'.push { cls := .type "generator", data := .fields #[.int s2.gens.size 0, .str "<genexpr>" (tk + 1), .str (X.env.qual ++ "<genexpr>") (tk + 1 + 1)] }).objs.size = h3.objs.size + 2 := by rw [Heap.size_push, sz']
    refine ⟨H2, { s2 with heap := h3, toks := tk }, fp, J2, fun b hb => ?_, h'.objs.size, s2.gens.size, _, rfl, by show h3.objs.size ≤ _; omega, by show h'.objs.size < _; dsimp only; omega, hgen _ (Heap.get?_push_size _ rfl), Array.getElem?_push_size, rfl, I1.bare.push rfl, J2.nolimit.keeps kp, kp, fun A Sa s6 hrA hfA hSa kp6 hSe ho6 hb6 => ?_⟩
    · obtain ⟨⟨_, a1, _, a3, a4, a5⟩, _⟩ := f2 b hb
      exact ⟨a3, a1, a4, a5⟩
    obtain ⟨c6, hSe⟩ := hSe
    obtain ⟨A', hA'⟩ : ∃ A', A.over (.compLoop (.GeneratorExp elt [⟨tg, iter, ifs, 0⟩] scope gpos) 0 (.ref it) .none (genEnv scope (cloFrom X.env.cells scope.names []) h3.objs.size code builtinsNs X.env)) [] = A' := ⟨_, rfl⟩
    have hroom : Room k A' := by rw [← hA']; exact room_over hrA
    have hfrm : A'.frames = some (genEnv scope (cloFrom X.env.cells scope.names []) h3.objs.size code builtinsNs X.env :: X.stack) := by
      rw [← hA']
      unfold Around.over
      dsimp only
      rw [hfA]
      rfl
    have hSa : (h'.push { cls := .type "generator", data := .fields #[.int s2.gens.size 0, .str "<genexpr>" (tk + 1), .str (X.env.qual ++ "<genexpr>") (tk + 1 + 1)] }).objs.size ≤ Sa := hSa
    rw [sz5] at hSa
    have kp7 : ∀ b o, h3.get? b = some o → s6.heap.get? b = some o := fun b o e => kp6 b o (kp b o e)
    have I6 : Inv (gcx X A' { s2 with heap := h3, toks := tk } H2 (genEnv scope (cloFrom X.env.cells scope.names []) h3.objs.size code builtinsNs X.env) fp [(h'.objs.size, _)]) [] (wipe σ (own.map (·.2))) H2 s6 :=
      gen_start (code := code) J2 S.blk hN S.cell f2 hroom.hd rfl hfrm ho6 hb6 kp7 (Heap.Ns.keeps hns fun b o e => kp6 b o (Heap.get?_push_of_some _ e)) (fun p hp => by
        rw [List.mem_singleton.mp hp]
        exact ⟨kp6 _ _ (Heap.get?_push_size _ rfl), by show h3.objs.size < h'.objs.size; rw [sz']; exact Nat.lt_succ_self _, fun v z => by cases z⟩)
    have hSn : H2 Sa = none := J2.hok.fresh (Nat.le_trans (Nat.le_add_right _ 2) hSa)
    have hst : ∀ (pl : List (Addr × Obj)) (H : Hp), (∀ p ∈ pl, p.1 = Sa) → (∀ b ∈ fp, H b = none) → ∀ b ∈ fp, FpOk (gcx X A' { s2 with heap := h3, toks := tk } H2 (genEnv scope (cloFrom X.env.cells scope.names []) h3.objs.size code builtinsNs X.env) fp [(h'.objs.size, _)]) pl H b := fun pl Hq hpl hq b hb => by
      have ok := I6.ok
      refine ⟨hq b hb, (ok.exf b hb).1, ok.exfs b hb, .inl hb, (ok.exf b hb).2, fun p hp => ?_⟩
      have hb3 : b < h3.objs.size := (f2 b hb).2
      rcases List.mem_append.mp hp with hp | hp
      · rw [List.mem_singleton.mp hp]
        show h'.objs.size ≠ b
        rw [sz']
        exact Nat.ne_of_gt (Nat.lt_succ_of_lt hb3)
      · rw [hpl p hp]
        exact Nat.ne_of_gt (Nat.lt_of_lt_of_le hb3 (Nat.le_trans (Nat.le_add_right _ 2) hSa))
    have I5 : Inv (gcx X A' { s2 with heap := h3, toks := tk } H2 (genEnv scope (cloFrom X.env.cells scope.names []) h3.objs.size code builtinsNs X.env) fp [(h'.objs.size, _)]) [] (wipe σ (own.map (·.2))) H2
        { s2 with toks := 0, heap := h'.push { cls := .type "generator", data := .fields #[.int s2.gens.size 0, .str "<genexpr>" (tk + 1), .str (X.env.qual ++ "<genexpr>") (tk + 1 + 1)] } } :=
      gen_start (code := code) J2 S.blk hN S.cell f2 hroom.hd rfl hfrm rfl I1.bare kp (Heap.Ns.keeps hns fun b o e => Heap.get?_push_of_some _ e) (fun p hp => by
        rw [List.mem_singleton.mp hp]
        exact ⟨Heap.get?_push_size _ rfl, by show h3.objs.size < h'.objs.size; rw [sz']; exact Nat.lt_succ_self _, fun v z => by cases z⟩)
    have hSo : ∀ H : Hp, H Sa = none → FpOk (gcx X A' { s2 with heap := h3, toks := tk } H2 (genEnv scope (cloFrom X.env.cells scope.names []) h3.objs.size code builtinsNs X.env) fp [(h'.objs.size, _)]) [] H Sa := fun Hq hq => I5.fpOk (by dsimp only; rw [sz5]; exact hSa) hq
    exact seg_cx0 hA' hc S.co T (List.mem_singleton.mpr rfl) hgen hst (fun z => absurd (Nat.lt_of_lt_of_le (f2 _ z).2 (Nat.le_trans (Nat.le_add_right _ 2) hSa)) (Nat.lt_irrefl _)) hSo (wipe_wipe _ _) (hg _ _ _ _ _ _ _ _ hroom) (ht _ _ _ _ _ _ _ _ hroom) (he _ _ _ _ _ _ _ _ hroom) hturn m H2 s6 c6 I6 hSn hSe (T.keep _ _ _ st3 fun b hb o e => kp7 b o e) (fun b hb => (f2 b hb).1.1) w0
  cases hf : codeAmong gpos ps.toList with
  | none =>
    refine wpAny_genexprCodeX hcode (cd.code hPs htr) (cd.tab hPs) hf fun c' h' tk hx hge hlt hco' hrec htab' _ => ?_
    obtain ⟨c2, oc, vs, t, e2, hoc, hd, hv⟩ := hrec
    cases e2
    have I3 := LamX.inv_table (t' := tk) (more := #[rawInt gpos.line, rawInt gpos.col, .ref c']) I1 hP (fun b u hb e => hx b u hb e) htab'.2 hge ⟨oc, vs, t, hoc, hd, hv⟩
    exact cont _ h' tk _ hx (Nat.le_trans hge (Nat.le_of_lt hlt)) I3 (tabX_new hP htr hall (I1.hok.fresh hge)) fun b hb hp => by rw [upd_ne (Nat.ne_of_lt (Nat.lt_of_lt_of_le hb hge)), upd_ne hp]
  | some cv =>
    refine wpAny_genexprCode_hit hcode (cd.code hPs htr) hf ?_
    exact cont cv s2.heap s2.toks H1 (Heap.ExtBut.refl _ _) (Nat.le_refl _) I1 (TabbedX.same ⟨ps, hP, htr, hall⟩) fun _ _ _ => rfl
end
end Gx
set_option Elab.async false
set_option linter.all false
set_option maxRecDepth 100000
/-! dicts whose keys are tuples within tuples -/
namespace Gn
open PySem PySem.Spec PyProof.Rows L2
/-- keys, where they lie, values -/
abbrev NE := NestedKey × Addr × V
def RelN (p : NE) (q : NestedKey × Addr × Value) : Prop := p.1 = q.1 ∧ p.2.1 = q.2.1 ∧ RelV p.2.2 q.2.2
def Lies (w : World) (l : Addr) (kvs : List NE) (h : Heap) : Prop := kvs.length ≤ sizeLine ∧ (l == sysModules) = false ∧ ∃ xs : List (NestedKey × Addr × Value), Paired RelN kvs xs ∧
  ∃ o es ep, h.get? l = some o ∧ o.ExactDict ∧ o.data = .dict es ep ∧ es.toList = xs.map (fun x => (⟨x.1.hash w, .ref x.2.1, x.2.2⟩ : DictEntry)) ∧ (xs.map (·.1)).Nodup
def NO (w : World) (l : Addr) (kvs : List NE) : HO := .ext (Lies w l kvs)
theorem noCode (w : World) (l : Addr) (kvs : List NE) (q : Str) : NO w l kvs ≠ LamX.CodeO l q := fun z => by
  unfold NO LamX.CodeO at z
  injection z with z
  have h0 := congrFun z ⟨Array.replicate (l + 1) { cls := .none, data := .fields #[.none, .str q default] }, {}⟩
  have g : (⟨Array.replicate (l + 1) { cls := .none, data := .fields #[.none, .str q default] }, {}⟩ : Heap).get? l = some { cls := .none, data := .fields #[.none, .str q default] } := by
    unfold Heap.get?
    simp
  have h1 : Lies w l kvs ⟨Array.replicate (l + 1) { cls := .none, data := .fields #[.none, .str q default] }, {}⟩ := by
    rw [h0]
    exact ⟨_, _, _, g, rfl, rfl⟩
  obtain ⟨_, _, xs, _, o, es, ep, e1, _, e2, _⟩ := h1
  rw [g] at e1
  cases e1
  cases e2
/-- a value that is the key k -/
inductive NK (K : PySem.W.Frag) (H : Hp) : NestedKey → V → Prop
  | none : NK K H .none .non
  | int (i : Int) : NK K H (.num i) (.int i)
  | str (x : Str) : NK K H (.text x) (.str x)
  | tup {a xs ks} : SqT K H a xs → xs.length = ks.length → (∀ (i : Nat) x k, xs[i]? = some x → ks[i]? = some k → NK K H k x) → NK K H (.tup ks) (.ref a)
def getN (kvs : List NE) (k : NestedKey) : Option V := (kvs.find? fun p => decide (p.1 = k)).map (·.2.2)
def putN (kvs : List NE) (k : NestedKey) (b : Addr) (v : V) : List NE := if (kvs.any fun p => decide (p.1 = k)) = true then kvs.map (fun p => if p.1 = k then (p.1, p.2.1, v) else p) else kvs ++ [(k, b, v)]
theorem putN_len (kvs : List NE) (k : NestedKey) (b : Addr) (v : V) : (putN kvs k b v).length ≤ kvs.length + 1 := by
  unfold putN
  split
  · rw [List.length_map]; omega
  · rw [List.length_append]; exact Nat.le_refl _
theorem all_of {h : Heap} : ∀ {ks : List NestedKey} {us : List Value}, us.length = ks.length → (∀ (i : Nat) u k, us[i]? = some u → ks[i]? = some k → NestedIs h k u) → NestedAll h ks us
  | [], [], _, _ => .nil
  | k :: ks, u :: us, e, f => .cons (f 0 u k rfl rfl) (all_of (by simpa using e) fun i u' k' h1 h2 => f (i + 1) u' k' (by simpa using h1) (by simpa using h2))
  | [], _ :: _, e, _ => by simp at e
  | _ :: _, [], e, _ => by simp at e
section
variable {X : Cx} {pins : List (Addr × Obj)} {σ : L2.St} {H : Hp} {s : Shared}
theorem NK.is (I : Inv X pins σ H s) {k : NestedKey} {v : V} (h : NK X.K H k v) : ∀ {u : Value}, RelV v u → NestedIs s.heap k u := by
  induction h with
  | none =>
    intro u r
    obtain rfl : u = Value.none := r
    exact .none
  | int i =>
    intro u r
    obtain ⟨t, rfl⟩ : ∃ t, u = Value.int i t := r
    exact .int _ _
  | str x =>
    intro u r
    obtain ⟨t, rfl⟩ : ∃ t, u = Value.str x t := r
    exact .text _ _
  | @tup a xs ks hs hl hx ih =>
    intro u r
    obtain rfl : u = Value.ref a := r
    obtain ⟨its, r1, ⟨o, h1, h2, n, h3⟩, _⟩ := I.tuple hs
    refine .tup h1 h2 h3 ?_
    refine all_of (by rw [← hl, r1.length]) fun i u' k' e1 e2 => ?_
    have hi : i < xs.length := by
      have := (List.getElem?_eq_some_iff.mp e1).1
      rw [r1.length]
      simpa using this
    obtain ⟨w2, e3, r3⟩ := r1.get (List.getElem?_eq_getElem hi)
    have e1 : its[i]? = some u' := by simpa using e1
    rw [e3] at e1
    cases e1
    exact ih i _ k' (List.getElem?_eq_getElem hi) e2 r3
end
theorem rel_get {kvs : List NE} {xs : List (NestedKey × Addr × Value)} (r : Paired RelN kvs xs) (k : NestedKey) : RelO (getN kvs k) ((atKey xs k).map (·.2)) := by
  induction r with
  | nil => exact True.intro
  | @cons p q ps qs h t ih =>
    obtain ⟨h1, _, h2⟩ := h
    by_cases e : p.1 = k
    · have e' : q.1 = k := h1.symm.trans e
      have b : atKey (q :: qs) k = some q.2 := by simp [atKey, List.find?_cons, e']
      have c : getN (p :: ps) k = some p.2.2 := by simp [getN, List.find?_cons, e]
      rw [c, b]; exact h2
    · have e' : ¬ q.1 = k := fun z => e (h1.trans z)
      have b : atKey (q :: qs) k = atKey qs k := by simp [atKey, List.find?_cons, e']
      have c : getN (p :: ps) k = getN ps k := by simp [getN, List.find?_cons, e]
      rw [c, b]; exact ih
theorem any_get (k : NestedKey) : ∀ kvs : List NE, (kvs.any fun p => decide (p.1 = k)) = (getN kvs k).isSome
  | [] => rfl
  | p :: ps => by
    rw [List.any_cons, any_get k ps]
    by_cases e : p.1 = k
    · simp [getN, List.find?_cons, e]
    · simp [getN, List.find?_cons, e]
theorem rel_put {kvs : List NE} {xs : List (NestedKey × Addr × Value)} (r : Paired RelN kvs xs) (k : NestedKey) (b : Addr) {v : V} {u : Value} (rv : RelV v u) : Paired RelN (putN kvs k b v) (storedH xs k b u) := by
  have e : (kvs.any fun p => decide (p.1 = k)) = (atKey xs k).isSome := by
    rw [any_get, (rel_get r k).isSome_eq, Option.isSome_map]
  unfold putN storedH
  rw [e]
  by_cases q : (atKey xs k).isSome = true
  · rw [if_pos q, if_pos q]
    clear e q
    induction r with
    | nil => exact .nil
    | @cons p q ps qs h t ih =>
      rw [List.map_cons, List.map_cons]
      refine .cons ?_ ih
      obtain ⟨h1, h2, h3⟩ := h
      unfold putAt
      by_cases e : p.1 = k
      · rw [if_pos e, if_pos (h1.symm.trans e)]; exact ⟨h1, h2, rv⟩
      · rw [if_neg e, if_neg (fun z => e (h1.trans z))]; exact ⟨h1, h2, h3⟩
  · rw [if_neg q, if_neg q]; exact Paired.snoc r ⟨rfl, rfl, rv⟩
/-- the keys of the dict are keys in the heap -/
def Keys (K : PySem.W.Frag) (H : Hp) (kvs : List NE) : Prop := ∀ p ∈ kvs, NK K H p.1 (.ref p.2.1) ∧ p.1.depth ≤ 8
section
variable {X : Cx} {pins : List (Addr × Obj)} {σ : L2.St} {H : Hp} {s : Shared} {a : Addr} {kvs : List NE}
theorem lies (I : Inv X pins σ H s) (e : H a = some (NO X.w a kvs)) (hk : Keys X.K H kvs) : kvs.length ≤ sizeLine ∧ (a == sysModules) = false ∧ ∃ xs, Paired RelN kvs xs ∧ s.heap.DictOfH (nestedKind X.prog X.w) a xs := by
  obtain ⟨⟨z, y, xs, r, o, es, ep, h1, h2, h3, h4, h5⟩, _, _⟩ := (show ObjOk X.prog X.w H s.heap a (NO X.w a kvs) from I.hok a _ e)
  refine ⟨z, y, xs, r, o, es, ep, h1, h2, h3, h4, fun x hx => ?_, h5⟩
  have all : ∀ {l : List NE} {m : List (NestedKey × Addr × Value)}, Paired RelN l m → Keys X.K H l → ∀ x ∈ m, (nestedKind X.prog X.w).is s.heap x.1 x.2.1 := by
    intro l m r
    induction r with
    | nil => intro _ x hx; exact nomatch hx
    | @cons p q ps qs h t ih =>
      intro hk x hx
      rcases List.mem_cons.mp hx with e | hx
      · subst e
        obtain ⟨k1, k2⟩ := hk p (List.mem_cons_self ..)
        rw [← h.1, ← h.2.1]
        exact ⟨k1.is I rfl, k2⟩
      · exact ih (fun p hp => hk p (List.mem_cons_of_mem _ hp)) x hx
  exact all r hk x hx
theorem laid {P : Program} {w : World} {H' : Hp} {h' : Heap} {xs : List (NestedKey × Addr × Value)} (z : kvs.length ≤ sizeLine) (hd : (a == sysModules) = false) (r : Paired RelN kvs xs) (dd : h'.DictOfH (nestedKind P w) a xs) : ObjOk P w H' h' a (NO w a kvs) := by
  obtain ⟨q, es, ep, hq, h2, h3, h4, _, h5⟩ := dd
  refine ⟨⟨z, hd, xs, r, q, es, ep, hq, h2, h3, h4, h5⟩, ⟨q, hq⟩, fun h1 h2 ⟨z, y, xs, r, o, es, ep, g1, g2⟩ k => ⟨z, y, xs, r, o, es, ep, k o g1, g2⟩⟩
end
/-! ### readings -/
def tGet (w : World) (K : PySem.W.Frag) (td ty : TE) : TE := fun σ H Q => td σ H fun x H1 => ty σ H1 fun y H2 => ∃ a b kvs k v, x = .ref a ∧ y = .ref b ∧ H2 a = some (NO w a kvs) ∧ Keys K H2 kvs ∧ NK K H2 k y ∧ k.depth ≤ 8 ∧ getN kvs k = some v ∧ Q v H2
def tIn (w : World) (K : PySem.W.Frag) (neg : Bool) (ty td : TE) : TE := fun σ H Q => ty σ H fun y H1 => td σ H1 fun x H2 => ∃ a b kvs k, x = .ref a ∧ y = .ref b ∧ H2 a = some (NO w a kvs) ∧ Keys K H2 kvs ∧ NK K H2 k y ∧ k.depth ≤ 8 ∧ Q (.bl (neg != (getN kvs k).isSome)) H2
def sPut (w : World) (K : PySem.W.Frag) (td ty tv : TE) : TS := fun D σ H => tv σ H fun v H1 => td σ H1 fun x H2 => ty σ H2 fun y H3 => ∃ a b kvs k, x = .ref a ∧ y = .ref b ∧ H3 a = some (NO w a kvs) ∧ Keys K H3 kvs ∧ NK K H3 k y ∧ k.depth ≤ 8 ∧ kvs.length < sizeLine ∧ D.nx σ (upd H3 a (NO w a (putN kvs k b v)))
def tNew (w : World) : TE := fun _ H Q => ∀ p, H p = none → Q (.ref p) (upd H p (NO w p []))
section
variable {X : Cx} {K : PySem.W.Frag} {w : World} {o i e value : Expr} {pos pos' tpos : Pos} {td ty tv : TE}
theorem room_of {P : Program} {A : Around} (hu : A.units + 9 < cLine) : (nestedKind P w).room A.in1 := by show A.units + 1 + 8 < cLine; omega
theorem pe_get (hK : X.K = K) (hw : X.w = w) (hu : X.A.units + 9 < cLine) (ho : PE X o td) (hi : PE X i ty) (hs : NoSl i) : PE X (.Subscript o i pos) (tGet w K td ty) := by
  subst hK hw
  refine ⟨fun pins s σ H Q I h => ?_⟩
  refine subD_of PySem.F.slot_dict_getitem.lookup hs (thn (ho.run pins s σ H _ I h) fun u s1 ⟨x, H1, I1, rx, q1⟩ => thn (hi.run pins s1 σ H1 _ I1 q1) fun iv s2 ⟨y, H2, I2, ry, a, b, kvs, k, v, ex, ey, g, gk, hk, hkd, l, q2⟩ => ?_)
  subst ex ey
  obtain rfl : u = Value.ref a := rx
  obtain rfl : iv = Value.ref b := ry
  obtain ⟨z, hd, xs, rel, dd⟩ := lies I2 g gk
  obtain ⟨w', hw, rw'⟩ := RelO.some_of (v := v) (o := (atKey xs k).map (·.2)) (by rw [← l]; exact rel_get rel k)
  obtain ⟨p, hp, hp2⟩ := Option.map_eq_some_iff.mp hw
  refine ⟨dd.typeIs, wpAny_getItem_heap (room_of hu) ⟨hk.is I2 rfl, hkd⟩ dd hp ?_⟩
  rw [hp2]
  exact ⟨v, H2, I2.tok _, rw', q2⟩
theorem pc_in (hK : X.K = K) (hw : X.w = w) (hu : X.A.units + 9 < cLine) (hi : PE X i ty) (ho : PE X o td) : PC X .In i o (tIn w K false ty td) := by
  subst hK hw
  refine ⟨fun pins s σ H Q I h => ?_⟩
  refine thn (hi.run pins s σ H _ I h) fun iv s1 ⟨y, H1, I1, ry, q1⟩ => thn (ho.run pins s1 σ H1 _ I1 q1) fun u s2 ⟨x, H2, I2, rx, a, b, kvs, k, ex, ey, g, gk, hk, hkd, q2⟩ => ?_
  subst ex ey
  obtain rfl : u = Value.ref a := rx
  obtain rfl : iv = Value.ref b := ry
  obtain ⟨z, hd, xs, rel, dd⟩ := lies I2 g gk
  refine wpAny_in_heap (room_of hu) ⟨hk.is I2 rfl, hkd⟩ hd dd ?_
  have q := (rel_get rel k).isSome_eq
  rw [Option.isSome_map] at q
  rw [← q]
  rw [show (false != (getN kvs k).isSome) = (getN kvs k).isSome from Bool.false_bne _] at q2
  exact ⟨.bl (getN kvs k).isSome, H2, I2.tok _, rfl, q2⟩
theorem pc_notin (hK : X.K = K) (hw : X.w = w) (hu : X.A.units + 9 < cLine) (hi : PE X i ty) (ho : PE X o td) : PC X .NotIn i o (tIn w K true ty td) := by
  subst hK hw
  refine ⟨fun pins s σ H Q I h => ?_⟩
  refine thn (hi.run pins s σ H _ I h) fun iv s1 ⟨y, H1, I1, ry, q1⟩ => thn (ho.run pins s1 σ H1 _ I1 q1) fun u s2 ⟨x, H2, I2, rx, a, b, kvs, k, ex, ey, g, gk, hk, hkd, q2⟩ => ?_
  subst ex ey
  obtain rfl : u = Value.ref a := rx
  obtain rfl : iv = Value.ref b := ry
  obtain ⟨z, hd, xs, rel, dd⟩ := lies I2 g gk
  refine wpAny_notIn_heap (room_of hu) ⟨hk.is I2 rfl, hkd⟩ hd dd ?_
  have q := (rel_get rel k).isSome_eq
  rw [Option.isSome_map] at q
  rw [← q]
  rw [show (true != (getN kvs k).isSome) = !(getN kvs k).isSome from Bool.true_bne _] at q2
  exact ⟨.bl (!(getN kvs k).isSome), H2, I2.tok _, rfl, q2⟩
theorem ps_put (hK : X.K = K) (hw : X.w = w) (hu : X.A.units + 9 < cLine) (ho : PE X o td) (hi : PE X i ty) (hv : PE X value tv) (hs : swapsWith value (some (.Subscript o i pos')) pos.line X.env = pure false) :
    PS X (.Assign [.Subscript o i pos'] value pos) (sPut w K td ty tv) := by
  subst hK hw
  refine ⟨fun pins s σ H D I h => ?_⟩
  refine wpAny_Assign_Subscript (thn (hv.run pins s σ H _ I h) fun r s1 ⟨v, H1, I1, rv, q1⟩ => thn (ho.run pins s1 σ H1 _ I1 q1) fun u s2 ⟨x, H2, I2, rx, q2⟩ => thn (hi.run pins s2 σ H2 _ I2 q2) fun iv s3 ⟨y, H3, I3, ry, a, b, kvs, k, ex, ey, g, gk, hk, hkd, hz, q3⟩ => ?_) hs
  subst ex ey
  obtain rfl : u = Value.ref a := rx
  obtain rfl : iv = Value.ref b := ry
  obtain ⟨z, hd, xs, rel, dd⟩ := lies I3 g gk
  have hz2 : xs.length ≤ sizeLine := by rw [← Paired.length rel]; exact z
  have hl : (putN kvs k b v).length ≤ sizeLine := by have := putN_len kvs k b v; omega
  refine wpAny_setItem_heap (hsz := hz2) (room_of hu) ⟨hk.is I3 rfl, hkd⟩ dd fun h' dd' hs => ⟨σ, _, d_write I3 (by rw [g]; exact True.intro) hs (let ⟨q, _, _, hq, _⟩ := dd'; ⟨q, hq⟩) (laid hl hd (rel_put rel k b rv) dd'), q3⟩
theorem pe_new (hw : X.w = w) : PE X (.Dict [] [] pos) (tNew w) := by
  subst hw
  exact ⟨fun pins s σ H Q I h =>
    wpAny_Dict_empty ⟨.ref s.heap.objs.size, _, I.laid (a := s.heap.objs.size) (o := NO X.w s.heap.objs.size []) (t' := s.toks) (fun _ _ q => Heap.get?_push_of_some _ q) (Nat.le_refl _) (laid (P := X.prog) (Nat.zero_le _) (beq_eq_false_iff_ne.mpr (Ne.symm (Nat.ne_of_lt I.big))) .nil (Heap.DictOfH.new s.heap)), rfl, h _ (I.hok.fresh (Nat.le_refl _))⟩⟩
end
end Gn
namespace Gn
open PySem PySem.Spec PyProof.Rows L2
/-- the keys, one by one -/
theorem src {P : Program} {w : World} {d : Addr} {es : Array DictEntry} {ep : Nat} {xs : List (NestedKey × Addr × Value)} (lo : (d == sysModules) = false) (hx : ∀ i (hi : i < es.size), ∃ y, xs[i]? = some y ∧ es[i].key = .ref y.2.1 ∧ es[i].val = y.2.2) :
    PySem.W.KdlSrc P w "dict" d d es.size (fun i v => ∃ y, xs[i]? = some y ∧ v = .ref y.2.1) (fun h => h.DictRaw d es ep) where
  type := fun _ hm => hm.typeIs
  there := fun _ hm => let ⟨o, ho, _⟩ := hm; ⟨Heap.lt_size ho, Heap.lt_size ho⟩
  keep := fun _ _ hm hk => hm.at fun o e => hk d (.inl rfl) o e
  notList := by decide
  notTuple := by decide
  hint := fun _ _ _ _ hm hq => PySem.W.kdl_hint_dict hm.typeIs hq
  iter := fun _ s hh hm => ⟨_, _, (fun _ _ hq => wpAny_pyIter_dict_raw lo hm hq), Walks.keysH hh _ d (Nat.ne_of_lt (let ⟨_, ho, _⟩ := hm; Heap.lt_size ho)) es ep hx, ⟨⟨_, Heap.get?_push_size _ rfl, rfl, rfl⟩, hm.at fun o e => Heap.get?_push_of_some _ e⟩⟩
theorem rel_keys {kvs : List NE} {xs : List (NestedKey × Addr × Value)} (r : Paired RelN kvs xs) : xs.map (·.2.1) = kvs.map (·.2.1) := by
  induction r with
  | nil => rfl
  | cons h _ ih => rw [List.map_cons, List.map_cons, ih, h.2.1]
def refsV (kvs : List NE) : List V := kvs.map fun p => V.ref p.2.1
theorem vals_refs : ∀ {as : List Addr}, Vals (as.map V.ref) (as.map Value.ref)
  | [] => .nil
  | _ :: as => .cons rfl vals_refs
/-- list(d) -/
def rListN (w : World) (K : PySem.W.Frag) : List V → Hp → VK → Prop := fun xs H Q => ∃ a kvs, xs = [.ref a] ∧ H a = some (NO w a kvs) ∧ Keys K H kvs ∧ ∀ q, H q = none → Q (.ref q) (upd H q (.lst (refsV kvs)))
section
variable {X : Cx}
theorem items_of {kvs : List NE} {xs : List (NestedKey × Addr × Value)} {acc : Array Value} (r : Paired RelN kvs xs) (h : ItemsOf (fun i v => ∃ y, xs[i]? = some y ∧ v = Value.ref y.2.1) acc xs.length) : acc.toList = (kvs.map (·.2.1)).map Value.ref := by
  apply List.ext_getElem?
  intro i
  have hl : acc.toList.length = xs.length := by rw [Array.length_toList]; exact h.1
  have hk : kvs.length = xs.length := Paired.length r
  rcases Nat.lt_or_ge i xs.length with z | z
  · obtain ⟨y, hy, e⟩ := h.2 i acc.toList[i] (by rw [← Array.getElem?_toList, List.getElem?_eq_getElem (by omega)])
    rw [List.getElem?_eq_getElem (show i < acc.toList.length by omega), e, List.getElem?_map, ← rel_keys r, List.getElem?_map, hy]
    rfl
  · rw [List.getElem?_eq_none (by omega), List.getElem?_eq_none (by rw [List.length_map, List.length_map]; omega)]
theorem call_list {K : PySem.W.Frag} {w : World} (hK : X.K = K) (hw : X.w = w) (hc : X.calm = true) : CallR X (.type "list") (rListN w K) := by
  subst hK hw
  intro pins s σ H xs us Q I r h
  obtain ⟨p, kvs, e, hk, hks, q⟩ := h
  subst e
  obtain ⟨u, eu, rx⟩ := vals1 r
  subst eu
  obtain rfl : u = Value.ref p := rx
  obtain ⟨z, lo, xs, rel, dd⟩ := lies I hk hks
  obtain ⟨es, ep, raw, hsz, hx⟩ := dd.raw
  have hl : kvs.length = xs.length := Paired.length rel
  refine PySem.W.kdl_call (src lo fun i hi => let ⟨y, h1, h2, h3, _⟩ := hx i hi; ⟨y, h1, h2, h3⟩) (I.ok.hd hc) raw (by rw [hsz, ← hl]; exact z) fun h' tk acc' c' hkeep hS hacc => ?_
  rw [hsz] at hacc
  have e1 := items_of rel hacc
  refine ⟨.ref s.heap.objs.size, upd H s.heap.objs.size (.lst (refsV kvs)), I.laid hkeep (Nat.le_refl _) (show ObjOk X.prog X.w _ _ _ (.lst (refsV kvs)) from ⟨?_, acc'.toList, c', ?_, ?_⟩), rfl, q _ (I.hok.fresh (Nat.le_refl _))⟩
  · unfold refsV; rw [List.length_map]; exact z
  · rw [e1, show refsV kvs = (kvs.map (·.2.1)).map V.ref from by unfold refsV; rw [List.map_map]; rfl]
    exact vals_refs
  · rw [Array.toArray_toList]; exact hS
end
end Gn
set_option Elab.async false
set_option linter.all false
set_option maxRecDepth 100000
/-! Data layer: what readings ask, said of data (PyData) and of a list of slots. -/
namespace Dl
open PySem PySem.Spec PyProof.Rows L2

/-! ### data stand where the heap only grows -/
theorem rd_mono {G G' : Hp} (e : Same G G') {a : Addr} {u : HO} (h : Rd G a u) : Rd G' a u := by
  rcases h with h | ⟨o, h⟩
  · exact .inl (e _ _ h)
  · exact .inr ⟨o, e _ _ h⟩
theorem sqT_mono {K : PySem.W.Frag} {G G' : Hp} (e : Same G G') {a : Addr} {xs : List V} (h : SqT K G a xs) : SqT K G' a xs := by
  rcases h with h | h
  · exact .inl (rd_mono e h)
  · exact .inr h
theorem sqL_mono {K : PySem.W.Frag} {G G' : Hp} (e : Same G G') {a : Addr} {xs : List V} (h : SqL K G a xs) : SqL K G' a xs := e.seq h
mutual
theorem dp_mono {K : PySem.W.Frag} {G G' : Hp} (e : Same G G') : ∀ (d : PyData) (v : V), Dp K G v d → Dp K G' v d
  | .none, _, h => by cases h; exact .non
  | .bool b, _, h => by cases h; exact .bl b
  | .int i, _, h => by cases h; exact .int i
  | .str x, _, h => by cases h; exact .str x
  | .list ds, _, h => by
    cases h with
    | lst hs ha => exact .lst (sqL_mono e hs) (dpa_mono e ds _ ha)
  | .tuple ds, _, h => by
    cases h with
    | tup hs ha => exact .tup (sqT_mono e hs) (dpa_mono e ds _ ha)
  | .dict _, _, h => by cases h
theorem dpa_mono {K : PySem.W.Frag} {G G' : Hp} (e : Same G G') : ∀ (ds : List PyData) (vs : List V), DpAll K G vs ds → DpAll K G' vs ds
  | [], _, h => by cases h; exact .nil
  | d :: ds, _, h => by
    cases h with
    | cons h1 h2 => exact .cons (dp_mono e d _ h1) (dpa_mono e ds _ h2)
end
theorem dpa_len {K : PySem.W.Frag} {G : Hp} : ∀ {vs : List V} {ds : List PyData}, DpAll K G vs ds → vs.length = ds.length
  | _, _, .nil => rfl
  | _, _, .cons _ h => by rw [List.length_cons, List.length_cons, dpa_len h]
theorem dpa_get {K : PySem.W.Frag} {G : Hp} : ∀ {vs : List V} {ds : List PyData} {i : Nat} {d : PyData}, DpAll K G vs ds → ds[i]? = some d → ∃ v, vs[i]? = some v ∧ Dp K G v d
  | _, _, _, _, .nil, e => by simp at e
  | _, _, 0, _, .cons (v := v) h _, e => by
    have e' := Option.some.inj e
    subst e'
    exact ⟨v, rfl, h⟩
  | _, _, i + 1, d, .cons _ t, e => dpa_get (i := i) (d := d) t e
theorem dpa_getV {K : PySem.W.Frag} {G : Hp} : ∀ {vs : List V} {ds : List PyData} {i : Nat} {v : V}, DpAll K G vs ds → vs[i]? = some v → ∃ d, ds[i]? = some d ∧ Dp K G v d
  | _, _, _, _, .nil, e => by simp at e
  | _, _, 0, _, .cons (d := d) h _, e => by
    have e' := Option.some.inj e
    subst e'
    exact ⟨d, rfl, h⟩
  | _, _, i + 1, v, .cons _ t, e => dpa_getV (i := i) (v := v) t e
theorem dpa_app {K : PySem.W.Frag} {G : Hp} : ∀ {vs ws : List V} {ds es : List PyData}, DpAll K G vs ds → DpAll K G ws es → DpAll K G (vs ++ ws) (ds ++ es)
  | _, _, _, _, .nil, h => h
  | _, _, _, _, .cons h t, h' => .cons h (dpa_app t h')
theorem dpa_take {K : PySem.W.Frag} {G : Hp} : ∀ (n : Nat) {vs : List V} {ds : List PyData}, DpAll K G vs ds → DpAll K G (vs.take n) (ds.take n)
  | 0, _, _, _ => .nil
  | _ + 1, _, _, .nil => .nil
  | n + 1, _, _, .cons h t => .cons h (dpa_take n t)
theorem dpa_drop {K : PySem.W.Frag} {G : Hp} : ∀ (n : Nat) {vs : List V} {ds : List PyData}, DpAll K G vs ds → DpAll K G (vs.drop n) (ds.drop n)
  | 0, _, _, h => h
  | _ + 1, _, _, .nil => .nil
  | n + 1, _, _, .cons _ t => dpa_drop n t
theorem dpa_set {K : PySem.W.Frag} {G : Hp} {v : V} {d : PyData} (hd : Dp K G v d) : ∀ (n : Nat) {vs : List V} {ds : List PyData}, DpAll K G vs ds → DpAll K G (vs.set n v) (ds.set n d)
  | _, _, _, .nil => .nil
  | 0, _, _, .cons _ t => .cons hd t
  | n + 1, _, _, .cons h t => .cons h (dpa_set hd n t)

/-! ### the pen, the spring -/
inductive PK where
  | pen (c : Addr) (n : Nat)
  | spr
structure Pn where
  a : Addr
  k : PK
def Pn.on (p : Pn) (a : Addr) : Prop := a = p.a ∨ ∃ c n, p.k = .pen c n ∧ a = c
def PkOk (H : Hp) (a : Addr) : PK → Prop
  | .pen c n => ∃ (cells : List Int) (at_ rest : Int), H a = some (.lst [.ref c, .int at_, .int rest]) ∧ H c = some (.lst (cells.map V.int)) ∧ 0 ≤ at_ ∧ 0 ≤ rest ∧ cells.length = n
  | .spr => ∃ z : Int, H a = some (.lst [.int z])
def PenOk (p : Pn) (H : Hp) : Prop := PkOk H p.a p.k
def isExt : HO → Bool
  | .ext _ => true
  | _ => false
/-- no code object stands there -/
theorem code_ne {H : Hp} {D : Addr} {o : HO} (h : H D = some o) (he : isExt o = false) : ∀ q, H D ≠ some (LamX.CodeO D q) := fun q z => by
  rw [h] at z
  rw [Option.some.inj z] at he
  unfold LamX.CodeO at he
  cases he
theorem code_ne0 {H : Hp} {D : Addr} (h : H D = none) : ∀ q, H D ≠ some (LamX.CodeO D q) := fun q z => by
  rw [h] at z
  cases z
theorem tabX_upd {H : Hp} {P D : Addr} {o : HO} (h : _root_.Gx.TabX H P) (hp : P ≠ D) (hk : ∀ q, H D ≠ some (LamX.CodeO D q)) : _root_.Gx.TabX (upd H D o) P := by
  obtain ⟨ps, e, t, a⟩ := h
  refine ⟨ps, by rw [upd_ne hp]; exact e, t, fun pos cv hc => ?_⟩
  obtain ⟨c, q, e1, e2⟩ := a pos cv hc
  refine ⟨c, q, e1, ?_⟩
  rw [upd_ne (fun z => hk q (by rw [← z]; exact e2))]
  exact e2
/-- what may change: the pen, the tables of code objects -/
structure Pc where
  pen : Option Pn
  ts : List Addr
def POk (c : Pc) (H : Hp) : Prop := (∀ p, c.pen = some p → PenOk p H) ∧ ∀ P ∈ c.ts, _root_.Gx.TabX H P
/-- a is the pen's own list or a table -/
def IsPn (c : Pc) (a : Addr) : Prop := (∃ p, c.pen = some p ∧ a = p.a) ∨ a ∈ c.ts
theorem PenOk.mono {p : Pn} {H H' : Hp} (h : PenOk p H) (k : ∀ a o, p.on a → H a = some o → H' a = some o) : PenOk p H' := by
  obtain ⟨a, kk⟩ := p
  cases kk with
  | pen c n =>
    obtain ⟨cells, at_, rest, h1, h2, h3⟩ := h
    exact ⟨cells, at_, rest, k _ _ (.inl rfl) h1, k _ _ (.inr ⟨c, n, rfl, rfl⟩) h2, h3⟩
  | spr =>
    obtain ⟨z, h1⟩ := h
    exact ⟨z, k _ _ (.inl rfl) h1⟩
theorem PenOk.lst {p : Pn} {H : Hp} (h : PenOk p H) {a : Addr} (o : p.on a) : ∃ xs, H a = some (.lst xs) := by
  obtain ⟨b, kk⟩ := p
  cases kk with
  | pen c n =>
    obtain ⟨cells, at_, rest, h1, h2, h3⟩ := h
    rcases o with rfl | ⟨c', n', e, rfl⟩
    · exact ⟨_, h1⟩
    · cases e; exact ⟨_, h2⟩
  | spr =>
    obtain ⟨z, h1⟩ := h
    rcases o with rfl | ⟨c', n', e, rfl⟩
    · exact ⟨_, h1⟩
    · cases e
theorem POk.keep {pen : Pc} {H H' : Hp} (h : POk pen H) (k : ∀ a o, H a = some o → H' a = some o) : POk pen H' := by
  exact ⟨fun p hp => (h.1 p hp).mono fun a o _ e => k a o e, fun P hP => (h.2 P hP).keep k⟩
/-- tables and the pen stand apart -/
theorem POk.apart {pen : Pc} {H : Hp} (h : POk pen H) {p : Pn} (hp : pen.pen = some p) {P : Addr} (hP : P ∈ pen.ts) : ¬ p.on P := fun z => by
  obtain ⟨xs, h1⟩ := (h.1 p hp).lst z
  obtain ⟨ps, e, t⟩ := h.2 P hP
  rw [h1] at e; cases e

structure Vw (pen : Pc) (G H : Hp) : Prop where
  vw : Same G H
  no : ∀ a, IsPn pen a → G a = none
  ok : POk pen H
structure Go (pen : Pc) (G H G' H' : Hp) : Prop where
  gg : Same G G'
  nw : ∀ a, H a ≠ none → G' a = G a
  od : ∀ a o, ¬ IsPn pen a → H a = some o → H' a = some o
  vw : Vw pen G' H'
theorem POk.there {pen : Pc} {H : Hp} {a : Addr} (h : POk pen H) (p : IsPn pen a) : H a ≠ none := by
  rcases p with ⟨q, hq, rfl⟩ | hP
  · obtain ⟨xs, h1⟩ := (h.1 q hq).lst (.inl rfl)
    rw [h1]
    exact fun z => by cases z
  · obtain ⟨ps, e, t⟩ := h.2 a hP
    rw [e]
    exact fun z => by cases z
theorem Go.dom {pen : Pc} {G H G' H' : Hp} (g : Go pen G H G' H') {a : Addr} (h : H a ≠ none) : H' a ≠ none := by
  by_cases p : IsPn pen a
  · exact g.vw.ok.there p
  · cases e : H a with
    | none => exact absurd e h
    | some o =>
      rw [g.od a o p e]
      exact fun z => by cases z
theorem Go.refl {pen : Pc} {G H : Hp} (v : Vw pen G H) : Go pen G H G H := ⟨Same.refl _, fun _ _ => rfl, fun _ _ _ e => e, v⟩
theorem Go.trans {pen : Pc} {G H G1 H1 G2 H2 : Hp} (a : Go pen G H G1 H1) (b : Go pen G1 H1 G2 H2) : Go pen G H G2 H2 :=
  ⟨a.gg.trans b.gg, fun x h => (b.nw x (a.dom h)).trans (a.nw x h), fun x o p e => b.od x o p (a.od x o p e), b.vw⟩
/-- a new object that never changes -/
theorem Go.new {pen : Pc} {G H : Hp} (v : Vw pen G H) {p : Addr} {o : HO} (h : H p = none) : Go pen G H (upd G p o) (upd H p o) := by
  have np : ∀ a, IsPn pen a → a ≠ p := fun a q e => v.ok.there q (e ▸ h)
  have kH : ∀ a u, H a = some u → upd H p o a = some u := fun a u e => by rw [upd_ne (ne_of_none e h)]; exact e
  refine ⟨fun a u e => ?_, fun a e => ?_, fun a u _ e => kH a u e, ⟨fun a u e => ?_, fun a q => ?_, v.ok.keep kH⟩⟩
  · have h' : G p = none := by
      cases q : G p with
      | none => rfl
      | some u => rw [v.vw _ _ q] at h; cases h
    rw [upd_ne (ne_of_none e h')]; exact e
  · rw [upd_ne (fun (z : a = p) => e (by rw [z]; exact h))]
  · by_cases q : a = p
    · subst q; rw [upd_same] at e ⊢; exact e
    · rw [upd_ne q] at e ⊢; exact v.vw _ _ e
  · rw [upd_ne (np a q)]; exact v.no a q
/-- a new object that is not looked at as data -/
theorem Go.hid {pen : Pc} {G H : Hp} (v : Vw pen G H) {p : Addr} {o : HO} (h : H p = none) : Go pen G H G (upd H p o) := by
  have kH : ∀ a u, H a = some u → upd H p o a = some u := fun a u e => by rw [upd_ne (ne_of_none e h)]; exact e
  exact ⟨Same.refl _, fun _ _ => rfl, fun a u _ e => kH a u e, ⟨fun a u e => kH a u (v.vw a u e), v.no, v.ok.keep kH⟩⟩
/-- what a def without the pen does, seen by one who has it -/
theorem Go.lift {pn : Option Pn} {ts : List Addr} {G H G' H' : Hp} (v : Vw ⟨pn, ts⟩ G H) (g : Go ⟨none, ts⟩ G H G' H') : Go ⟨pn, ts⟩ G H G' H' := by
  have k : ∀ a o, a ∉ ts → H a = some o → H' a = some o := fun a o n e => g.od a o (fun z => by
    rcases z with ⟨p, z, _⟩ | z
    · cases z
    · exact n z) e
  refine ⟨g.gg, g.nw, fun a o n e => k a o (fun z => n (.inr z)) e, ⟨g.vw.vw, fun a q => (g.nw a (v.ok.there q)).trans (v.no a q), fun p hp => ?_, g.vw.ok.2⟩⟩
  exact (v.ok.1 p hp).mono fun a o ho e => k a o (fun z => v.ok.apart hp z ho) e
theorem Vw.plain {pn : Option Pn} {ts : List Addr} {G H : Hp} (v : Vw ⟨pn, ts⟩ G H) : Vw ⟨none, ts⟩ G H := by
  refine ⟨v.vw, fun a q => ?_, fun p z => (nomatch z), v.ok.2⟩
  rcases q with ⟨p, z, _⟩ | z
  · cases z
  · exact v.no a (.inr z)

/-! ### objects of one's own -/
def isLO : HO → Bool
  | .lst _ => true
  | .frz _ (.tup _) => false
  | .frz _ _ => true
  | _ => false
def newL (H0 H : Hp) (a : Addr) : Option HO := match H0 a with
  | some _ => none
  | none => match H a with
    | some (.lst xs) => some (.lst xs)
    | _ => none
/-- all that may be looked at: data, and the new lists -/
def vmax (H0 G H : Hp) : Hp := fun a => match G a with
  | some o => some o
  | none => newL H0 H a
/-- the new lists alone -/
def vnew (H0 G H : Hp) : Hp := fun a => match G a with
  | some o => if isLO o then none else some o
  | none => newL H0 H a
theorem newL_some {H0 H : Hp} {a : Addr} {o : HO} (h : newL H0 H a = some o) : H0 a = none ∧ H a = some o ∧ ∃ xs, o = .lst xs := by
  unfold newL at h
  cases h0 : H0 a with
  | some u => rw [h0] at h; cases h
  | none =>
    rw [h0] at h
    cases h1 : H a with
    | none => rw [h1] at h; cases h
    | some u =>
      rw [h1] at h
      cases u with
      | lst xs => cases h; exact ⟨rfl, rfl, xs, rfl⟩
      | _ => cases h
theorem newL_of {H0 H : Hp} {a : Addr} {xs : List V} (h0 : H0 a = none) (h : H a = some (.lst xs)) : newL H0 H a = some (.lst xs) := by
  unfold newL
  rw [h0, h]
theorem vmax_G {H0 G H : Hp} {a : Addr} {o : HO} (h : G a = some o) : vmax H0 G H a = some o := by
  unfold vmax; rw [h]
theorem vmax_new {H0 G H : Hp} {a : Addr} (h : G a = none) : vmax H0 G H a = newL H0 H a := by
  unfold vmax; rw [h]
theorem vmax_cases {H0 G H : Hp} {a : Addr} {o : HO} (h : vmax H0 G H a = some o) : G a = some o ∨ (G a = none ∧ H0 a = none ∧ H a = some o ∧ ∃ xs, o = .lst xs) := by
  cases g : G a with
  | some u => rw [vmax_G g] at h; exact .inl h
  | none => rw [vmax_new g] at h; exact .inr ⟨rfl, newL_some h⟩
theorem vnew_cases {H0 G H : Hp} {a : Addr} {o : HO} (h : vnew H0 G H a = some o) : (G a = some o ∧ isLO o = false) ∨ (G a = none ∧ H0 a = none ∧ H a = some o ∧ ∃ xs, o = .lst xs) := by
  unfold vnew at h
  cases g : G a with
  | some u =>
    rw [g] at h
    have h : (if isLO u = true then none else some u) = some o := h
    by_cases z : isLO u = true
    · rw [show (if isLO u = true then none else some u) = none from if_pos z] at h; cases h
    · rw [show (if isLO u = true then none else some u) = some u from if_neg z] at h
      cases h
      exact .inl ⟨rfl, by simpa using z⟩
  | none => rw [g] at h; exact .inr ⟨rfl, newL_some h⟩
theorem vnew_max {H0 G H : Hp} : Same (vnew H0 G H) (vmax H0 G H) := fun a o h => by
  rcases vnew_cases h with ⟨g, _⟩ | ⟨g, h0, h1, xs, rfl⟩
  · exact vmax_G g
  · rw [vmax_new g, newL_of h0 h1]
theorem vnew_of {H0 G H : Hp} {a : Addr} {xs : List V} (g : G a = none) (h0 : H0 a = none) (h : H a = some (.lst xs)) : vnew H0 G H a = some (.lst xs) := by
  unfold vnew; rw [g]; exact newL_of h0 h
theorem vnew_G {H0 G H : Hp} {a : Addr} {o : HO} (g : G a = some o) (h : isLO o = false) : vnew H0 G H a = some o := by
  unfold vnew; rw [g]; simp [h]
theorem vw_max {pen : Pc} {H0 G H : Hp} (v : Vw pen G H) (h0 : POk pen H0) : Vw pen (vmax H0 G H) H := by
  refine ⟨fun a o h => ?_, fun a p => ?_, v.ok⟩
  · rcases vmax_cases h with g | ⟨_, _, h1, _⟩
    · exact v.vw _ _ g
    · exact h1
  · rw [vmax_new (v.no a p)]
    cases e : newL H0 H a with
    | none => rfl
    | some o => exact absurd (newL_some e).1 (h0.there p)
mutual
/-- without a list -/
def noL : PyData → Bool
  | .list _ => false
  | .dict _ => false
  | .tuple ds => noLs ds
  | _ => true
def noLs : List PyData → Bool
  | [] => true
  | d :: ds => noL d && noLs ds
end
mutual
/-- new data: each list of it stands in W by itself -/
inductive Nd (K : PySem.W.Frag) (W : Hp) : V → PyData → Prop
  | non : Nd K W .non .none
  | bl (b : Bool) : Nd K W (.bl b) (.bool b)
  | int (i : Int) : Nd K W (.int i) (.int i)
  | str (x : Str) : Nd K W (.str x) (.str x)
  | lst {a : Addr} {xs : List V} {ds : List PyData} : W a = some (.lst xs) → NdAll K W xs ds → Nd K W (.ref a) (.list ds)
  | tup {a : Addr} {xs : List V} {ds : List PyData} : SqT K W a xs → NdAll K W xs ds → Nd K W (.ref a) (.tuple ds)
inductive NdAll (K : PySem.W.Frag) (W : Hp) : List V → List PyData → Prop
  | nil : NdAll K W [] []
  | cons {v : V} {vs : List V} {d : PyData} {ds : List PyData} : Nd K W v d → NdAll K W vs ds → NdAll K W (v :: vs) (d :: ds)
end
mutual
theorem nd_dp {K : PySem.W.Frag} {W : Hp} : ∀ (d : PyData) (v : V), Nd K W v d → Dp K W v d
  | .none, _, h => by cases h; exact .non
  | .bool b, _, h => by cases h; exact .bl b
  | .int i, _, h => by cases h; exact .int i
  | .str x, _, h => by cases h; exact .str x
  | .list ds, _, h => by
    cases h with
    | lst hs ha => exact .lst (.inl (.inl hs)) (nda_dpa ds _ ha)
  | .tuple ds, _, h => by
    cases h with
    | tup hs ha => exact .tup hs (nda_dpa ds _ ha)
  | .dict _, _, h => by cases h
theorem nda_dpa {K : PySem.W.Frag} {W : Hp} : ∀ (ds : List PyData) (vs : List V), NdAll K W vs ds → DpAll K W vs ds
  | [], _, h => by cases h; exact .nil
  | d :: ds, _, h => by
    cases h with
    | cons h1 h2 => exact .cons (nd_dp d _ h1) (nda_dpa ds _ h2)
end
mutual
theorem nd_mono {K : PySem.W.Frag} {G G' : Hp} (e : Same G G') : ∀ (d : PyData) (v : V), Nd K G v d → Nd K G' v d
  | .none, _, h => by cases h; exact .non
  | .bool b, _, h => by cases h; exact .bl b
  | .int i, _, h => by cases h; exact .int i
  | .str x, _, h => by cases h; exact .str x
  | .list ds, _, h => by
    cases h with
    | lst hs ha => exact .lst (e _ _ hs) (nda_mono e ds _ ha)
  | .tuple ds, _, h => by
    cases h with
    | tup hs ha => exact .tup (sqT_mono e hs) (nda_mono e ds _ ha)
  | .dict _, _, h => by cases h
theorem nda_mono {K : PySem.W.Frag} {G G' : Hp} (e : Same G G') : ∀ (ds : List PyData) (vs : List V), NdAll K G vs ds → NdAll K G' vs ds
  | [], _, h => by cases h; exact .nil
  | d :: ds, _, h => by
    cases h with
    | cons h1 h2 => exact .cons (nd_mono e d _ h1) (nda_mono e ds _ h2)
end
mutual
/-- data without a list, in a view that has the same tuples -/
theorem dp_nol {K : PySem.W.Frag} {G G' : Hp} (k : ∀ a xs, Rd G a (.tup xs) → Rd G' a (.tup xs)) : ∀ (d : PyData) (v : V), noL d = true → Dp K G v d → Dp K G' v d
  | .none, _, _, h => by cases h; exact .non
  | .bool b, _, _, h => by cases h; exact .bl b
  | .int i, _, _, h => by cases h; exact .int i
  | .str x, _, _, h => by cases h; exact .str x
  | .list ds, _, n, h => by rw [noL] at n; cases n
  | .tuple ds, _, n, h => by
    rw [noL] at n
    cases h with
    | tup hs ha =>
      refine .tup ?_ (dpa_nol k ds _ n ha)
      rcases hs with hs | hs
      · exact .inl (k _ _ hs)
      · exact .inr hs
  | .dict _, _, _, h => by cases h
theorem dpa_nol {K : PySem.W.Frag} {G G' : Hp} (k : ∀ a xs, Rd G a (.tup xs) → Rd G' a (.tup xs)) : ∀ (ds : List PyData) (vs : List V), noLs ds = true → DpAll K G vs ds → DpAll K G' vs ds
  | [], _, _, h => by cases h; exact .nil
  | d :: ds, _, n, h => by
    rw [noLs, Bool.and_eq_true] at n
    cases h with
    | cons h1 h2 => exact .cons (dp_nol k d _ n.1 h1) (dpa_nol k ds _ n.2 h2)
end
mutual
theorem dp_nd {K : PySem.W.Frag} {G : Hp} : ∀ (d : PyData) (v : V), noL d = true → Dp K G v d → Nd K G v d
  | .none, _, _, h => by cases h; exact .non
  | .bool b, _, _, h => by cases h; exact .bl b
  | .int i, _, _, h => by cases h; exact .int i
  | .str x, _, _, h => by cases h; exact .str x
  | .list ds, _, n, h => by rw [noL] at n; cases n
  | .tuple ds, _, n, h => by
    rw [noL] at n
    cases h with
    | tup hs ha => exact .tup hs (dpa_nda ds _ n ha)
  | .dict _, _, _, h => by cases h
theorem dpa_nda {K : PySem.W.Frag} {G : Hp} : ∀ (ds : List PyData) (vs : List V), noLs ds = true → DpAll K G vs ds → NdAll K G vs ds
  | [], _, _, h => by cases h; exact .nil
  | d :: ds, _, n, h => by
    rw [noLs, Bool.and_eq_true] at n
    cases h with
    | cons h1 h2 => exact .cons (dp_nd d _ n.1 h1) (dpa_nda ds _ n.2 h2)
end
theorem noLs_app : ∀ (a b : List PyData), noLs (a ++ b) = (noLs a && noLs b)
  | [], b => by rw [noLs]; rfl
  | x :: a, b => by rw [List.cons_append, noLs, noLs, noLs_app a b, Bool.and_assoc]
theorem noLs_iff : ∀ (a : List PyData), noLs a = true ↔ ∀ d ∈ a, noL d = true
  | [] => by rw [noLs]; exact ⟨fun _ d h => (nomatch h), fun _ => rfl⟩
  | x :: a => by
    rw [noLs, Bool.and_eq_true, noLs_iff a]
    exact ⟨fun h d hd => by rcases List.mem_cons.mp hd with rfl | hd; exact h.1; exact h.2 d hd, fun h => ⟨h x (List.mem_cons_self ..), fun d hd => h d (List.mem_cons_of_mem _ hd)⟩⟩
inductive OO where
  | lst (ds : List PyData)
  | dK (m : List (Key × PyData))
  | dN (w : World) (m : List (NestedKey × PyData))
def KvOk {κ : Type} (K : PySem.W.Frag) (G : Hp) (kvs : List (κ × V)) (m : List (κ × PyData)) : Prop := Paired (fun (kv : κ × V) (xd : κ × PyData) => kv.1 = xd.1 ∧ Dp K G kv.2 xd.2) kvs m
def NvOk (K : PySem.W.Frag) (G : Hp) (kvs : List Gn.NE) (m : List (NestedKey × PyData)) : Prop := Paired (fun (p : Gn.NE) (q : NestedKey × PyData) => p.1 = q.1 ∧ p.1.depth ≤ 8 ∧ Dp K G (.ref p.2.1) p.1.data ∧ Dp K G p.2.2 q.2) kvs m
def OwnOk (K : PySem.W.Frag) (G : Hp) (l : Addr) : HO → OO → Prop
  | .lst vs, .lst ds => DpAll K G vs ds
  | .dK kvs, .dK m => KvOk K G kvs m
  | .ext φ, .dN w m => ∃ kvs, HO.ext φ = Gn.NO w l kvs ∧ NvOk K G kvs m
  | _, _ => False
theorem NvOk.mono {K : PySem.W.Frag} {G G' : Hp} (e : Same G G') {kvs : List Gn.NE} {m : List (NestedKey × PyData)} (h : NvOk K G kvs m) : NvOk K G' kvs m := Paired.mapP h fun _ _ z => ⟨z.1, z.2.1, dp_mono e _ _ z.2.2.1, dp_mono e _ _ z.2.2.2⟩
theorem KvOk.mono {κ : Type} {K : PySem.W.Frag} {G G' : Hp} (e : Same G G') {kvs : List (κ × V)} {m : List (κ × PyData)} (h : KvOk K G kvs m) : KvOk K G' kvs m := Paired.mapP h fun _ _ z => ⟨z.1, dp_mono e _ _ z.2⟩
theorem OwnOk.mono {K : PySem.W.Frag} {G G' : Hp} (e : Same G G') {l : Addr} {ho : HO} {o : OO} (h : OwnOk K G l ho o) : OwnOk K G' l ho o := by
  cases ho <;> cases o <;> first | exact h.elim | exact dpa_mono e _ _ h | exact KvOk.mono e h | exact let ⟨vs, e1, h⟩ := h; ⟨vs, e1, NvOk.mono e h⟩
theorem OwnOk.noCode {K : PySem.W.Frag} {G : Hp} {l : Addr} {ho : HO} {o : OO} (h : OwnOk K G l ho o) (q : Str) : ho ≠ LamX.CodeO l q := by
  cases ho <;> cases o <;> first | exact h.elim | (intro z; unfold LamX.CodeO at z; cases z; done) | exact let ⟨vs, e1, h⟩ := h; fun z => Gn.noCode _ l vs q (e1.symm.trans z)
theorem OwnOk.lst {K : PySem.W.Frag} {G : Hp} {l : Addr} {ho : HO} {ds : List PyData} (h : OwnOk K G l ho (.lst ds)) : ∃ vs, ho = .lst vs ∧ DpAll K G vs ds := by
  cases ho <;> first | exact h.elim | exact ⟨_, rfl, h⟩
theorem OwnOk.dK {K : PySem.W.Frag} {G : Hp} {l : Addr} {ho : HO} {m : List (Key × PyData)} (h : OwnOk K G l ho (.dK m)) : ∃ vs, ho = .dK vs ∧ KvOk K G vs m := by
  cases ho <;> first | exact h.elim | exact ⟨_, rfl, h⟩
theorem OwnOk.dN {K : PySem.W.Frag} {G : Hp} {l : Addr} {ho : HO} {w : World} {m : List (NestedKey × PyData)} (h : OwnOk K G l ho (.dN w m)) : ∃ vs, ho = Gn.NO w l vs ∧ NvOk K G vs m := by
  cases ho <;> first | exact h.elim | exact h
theorem OwnOk.ofN {K : PySem.W.Frag} {G : Hp} {l : Addr} {w : World} {kvs : List Gn.NE} {m : List (NestedKey × PyData)} (h : NvOk K G kvs m) : OwnOk K G l (Gn.NO w l kvs) (.dN w m) := ⟨kvs, rfl, h⟩

/-! ### slots -/
inductive AV where
  | d (x : PyData)
  | pen
  | own (o : OO)
  | bor (o : OO)
  | fr (x : PyData)
abbrev Lv := List (Option AV)
def AvOk (K : PySem.W.Frag) (pen : Pc) (H0 G H : Hp) (v : V) : AV → Prop
  | .d x => Dp K G v x
  | .pen => ∃ p, pen.pen = some p ∧ v = .ref p.a
  | .own o => ∃ l ho, v = .ref l ∧ H l = some ho ∧ H0 l = none ∧ G l = none ∧ OwnOk K G l ho o
  | .bor o => ∃ l ho, v = .ref l ∧ H l = some ho ∧ H0 l = some ho ∧ ¬ IsPn pen l ∧ OwnOk K G l ho o
  | .fr x => Nd K (vnew H0 G H) v x
theorem vnew_go {pen : Pc} {H0 G H G' H' : Hp} (h0 : POk pen H0) (g : Go pen G H G' H') (vw : Same G H) : Same (vnew H0 G H) (vnew H0 G' H') := fun a o h => by
  rcases vnew_cases h with ⟨k, z⟩ | ⟨k, k0, k1, xs, rfl⟩
  · exact vnew_G (g.gg _ _ k) z
  · exact vnew_of ((g.nw a (by rw [k1]; exact fun z => by cases z)).trans k) k0 (g.od _ _ (fun q => h0.there q k0) k1)
structure Ev (K : PySem.W.Frag) (pen : Pc) (H0 G H : Hp) (σ : L2.St) (L : Lv) : Prop where
  vw : Vw pen G H
  h0 : POk pen H0
  dom : ∀ a, H0 a ≠ none → H a ≠ none
  len : σ.length = L.length
  sl : ∀ (i : Nat) av, L[i]? = some (some av) → ∃ v, σ[i]? = some (some v) ∧ AvOk K pen H0 G H v av
  ow : ∀ (i j : Nat) (ds es : OO) l, L[i]? = some (some (.own ds)) → L[j]? = some (some (.own es)) → σ[i]? = some (some (.ref l)) → σ[j]? = some (some (.ref l)) → i = j
section
variable {K : PySem.W.Frag} {pen : Pc} {H0 G H G' H' : Hp} {σ : L2.St} {L : Lv}
theorem POk.dom0 {a : Addr} (h : POk pen H0) (p : IsPn pen a) : H0 a ≠ none := h.there p
theorem AvOk.go {v : V} {av : AV} (h : AvOk K pen H0 G H v av) (h0 : POk pen H0) (vw : Same G H) (g : Go pen G H G' H') : AvOk K pen H0 G' H' v av := by
  cases av with
  | d x => exact dp_mono g.gg _ _ h
  | pen => exact h
  | own ds =>
    obtain ⟨l, vs, e, h1, h2, h3, h4⟩ := h
    have np : ¬ IsPn pen l := fun q => h0.there q h2
    refine ⟨l, vs, e, g.od _ _ np h1, h2, ?_, h4.mono g.gg⟩
    rw [g.nw l (by rw [h1]; exact fun z => by cases z)]
    exact h3
  | bor ds =>
    obtain ⟨l, vs, e, h1, h2, h3, h4⟩ := h
    exact ⟨l, vs, e, g.od _ _ h3 h1, h2, h3, h4.mono g.gg⟩
  | fr x => exact nd_mono (vnew_go h0 g vw) _ _ h
theorem Ev.go (e : Ev K pen H0 G H σ L) (g : Go pen G H G' H') : Ev K pen H0 G' H' σ L :=
  ⟨g.vw, e.h0, fun a h => g.dom (e.dom a h), e.len, fun i av h => by
    obtain ⟨v, h1, h2⟩ := e.sl i av h
    exact ⟨v, h1, h2.go e.h0 e.vw.vw g⟩, e.ow⟩
/-- a slot stored with data -/
theorem Ev.set (e : Ev K pen H0 G H σ L) {i : Nat} {v : V} {x : PyData} (h : Dp K G v x) : Ev K pen H0 G H (σ.set i (some v)) (L.set i (some (.d x))) := by
  refine ⟨e.vw, e.h0, e.dom, by rw [List.length_set, List.length_set]; exact e.len, fun j av hj => ?_, fun j k ds es l h1 h2 h3 h4 => ?_⟩
  · by_cases q : i = j
    · subst q
      have hl : i < L.length := by
        have := (List.getElem?_eq_some_iff.mp hj).1
        rw [List.length_set] at this; exact this
      rw [List.getElem?_set_self hl] at hj
      have := Option.some.inj (Option.some.inj hj)
      subst this
      exact ⟨v, List.getElem?_set_self (by rw [e.len]; exact hl), h⟩
    · rw [List.getElem?_set_ne q] at hj
      obtain ⟨w, h1, h2⟩ := e.sl j av hj
      exact ⟨w, by rw [List.getElem?_set_ne q]; exact h1, h2⟩
  · have nj : ∀ (j : Nat) (ds : OO), (L.set i (some (.d x)))[j]? = some (some (.own ds)) → i ≠ j := fun j ds hj q => by
      subst q
      have hl : i < L.length := by
        have := (List.getElem?_eq_some_iff.mp hj).1
        rw [List.length_set] at this; exact this
      rw [List.getElem?_set_self hl] at hj
      cases hj
    have q1 := nj j ds h1
    have q2 := nj k es h2
    rw [List.getElem?_set_ne q1] at h1 h3
    rw [List.getElem?_set_ne q2] at h2 h4
    exact e.ow j k ds es l h1 h2 h3 h4
end

/-! ### expressions -/
section
variable (K : PySem.W.Frag) (pen : Pc) (H0 : Hp)
def E (te : TE) (L : Lv) (P : PyData → Prop) : Prop := ∀ (σ : L2.St) (G H : Hp), Ev K pen H0 G H σ L → ∀ Q : VK, (∀ v d G' H', Go pen G H G' H' → Dp K G' v d → P d → Q v H') → te σ H Q
def EA (ta : TA) (L : Lv) (P : List PyData → Prop) : Prop := ∀ (σ : L2.St) (G H : Hp), Ev K pen H0 G H σ L → ∀ Q : List V → Hp → Prop, (∀ vs ds G' H', Go pen G H G' H' → DpAll K G' vs ds → P ds → Q vs H') → ta σ H Q
def ET (tt : TT) (L : Lv) (P : Bool → Prop) : Prop := ∀ (σ : L2.St) (G H : Hp), Ev K pen H0 G H σ L → ∀ Q : Bool → Hp → Prop, (∀ b G' H', Go pen G H G' H' → P b → Q b H') → tt σ H Q
def EO (to : TO) (L : Lv) (P : Option Int → Prop) : Prop := ∀ (σ : L2.St) (G H : Hp), Ev K pen H0 G H σ L → ∀ Q : Option Int → Hp → Prop, (∀ b G' H', Go pen G H G' H' → P b → Q b H') → to σ H Q
/-- an operation by values -/
def R2d (r : R2) (a b : PyData) (P : PyData → Prop) : Prop := ∀ (x y : V) (G H : Hp), Vw pen G H → Dp K G x a → Dp K G y b → ∀ Q : VK, (∀ v d G' H', Go pen G H G' H' → Dp K G' v d → P d → Q v H') → r x y H Q
def RCd (r : List V → Hp → VK → Prop) (ds : List PyData) (P : PyData → Prop) : Prop := ∀ (vs : List V) (G H : Hp), Vw pen G H → DpAll K G vs ds → ∀ Q : VK, (∀ v d G' H', Go pen G H G' H' → Dp K G' v d → P d → Q v H') → r vs H Q
def RSd (r : V → Option Int → Option Int → Hp → VK → Prop) (a : PyData) (lo hi : Option Int) (P : PyData → Prop) : Prop := ∀ (x : V) (G H : Hp), Vw pen G H → Dp K G x a → ∀ Q : VK, (∀ v d G' H', Go pen G H G' H' → Dp K G' v d → P d → Q v H') → r x lo hi H Q
def RUd (r : V → Hp → VK → Prop) (a : PyData) (P : PyData → Prop) : Prop := ∀ (x : V) (G H : Hp), Vw pen G H → Dp K G x a → ∀ Q : VK, (∀ v d G' H', Go pen G H G' H' → Dp K G' v d → P d → Q v H') → r x H Q
end
section
variable {K : PySem.W.Frag} {pen : Pc} {H0 : Hp} {L : Lv} {P P' : PyData → Prop} {ta tb tc te : TE} {tl tr : TA} {t u : TT} {Pb : Bool → Prop}
theorem E.mono (h : E K pen H0 te L P) (k : ∀ d, P d → P' d) : E K pen H0 te L P' := fun σ G H e Q q => h σ G H e Q fun v d G' H' g hd p => q v d G' H' g hd (k d p)
theorem ET.mono {Pb' : Bool → Prop} (h : ET K pen H0 t L Pb) (k : ∀ d, Pb d → Pb' d) : ET K pen H0 t L Pb' := fun σ G H e Q q => h σ G H e Q fun v G' H' g p => q v G' H' g (k v p)
theorem e_var {i : Nat} {x : PyData} (h : L[i]? = some (some (.d x))) (p : P x) : E K pen H0 (tVar i) L P := fun σ G H e Q q => by
  obtain ⟨v, h1, h2⟩ := e.sl i _ h
  exact ⟨v, h1, q v x G H (.refl e.vw) h2 p⟩
theorem e_int {i : Int} (p : P (.int i)) : E K pen H0 (tC (.int i)) L P := fun σ G H e Q q => q _ _ G H (.refl e.vw) (.int i) p
theorem e_str {i : Str} (p : P (.str i)) : E K pen H0 (tC (.str i)) L P := fun σ G H e Q q => q _ _ G H (.refl e.vw) (.str i) p
theorem e_bl {i : Bool} (p : P (.bool i)) : E K pen H0 (tC (.bl i)) L P := fun σ G H e Q q => q _ _ G H (.refl e.vw) (.bl i) p
theorem e_non (p : P .none) : E K pen H0 (tC .non) L P := fun σ G H e Q q => q _ _ G H (.refl e.vw) .non p
theorem e_op {r : R2} (h : E K pen H0 ta L fun a => E K pen H0 tb L fun b => R2d K pen r a b P) : E K pen H0 (tOp r ta tb) L P := fun σ G H e Q q =>
  h σ G H e _ fun v a G1 H1 g1 d1 h1 => h1 σ G1 H1 (e.go g1) _ fun w b G2 H2 g2 d2 h2 =>
    h2 v w G2 H2 g2.vw (dp_mono g2.gg _ _ d1) d2 Q fun z c G3 H3 g3 d3 p => q z c G3 H3 ((g1.trans g2).trans g3) d3 p
theorem e_un {r : V → Hp → VK → Prop} (h : E K pen H0 ta L fun a => RUd K pen r a P) : E K pen H0 (tUn r ta) L P := fun σ G H e Q q =>
  h σ G H e _ fun v a G1 H1 g1 d1 h1 => h1 v G1 H1 g1.vw d1 Q fun z c G3 H3 g3 d3 p => q z c G3 H3 (g1.trans g3) d3 p
theorem ea_nil {Pl : List PyData → Prop} (p : Pl []) : EA K pen H0 tNil L Pl := fun σ G H e Q q => q [] [] G H (.refl e.vw) .nil p
theorem ea_cons {Pl : List PyData → Prop} (h : E K pen H0 ta L fun a => EA K pen H0 tr L fun ds => Pl (a :: ds)) : EA K pen H0 (tCons ta tr) L Pl := fun σ G H e Q q =>
  h σ G H e _ fun v a G1 H1 g1 d1 h1 => h1 σ G1 H1 (e.go g1) _ fun vs ds G2 H2 g2 d2 p => q _ _ G2 H2 (g1.trans g2) (.cons (dp_mono g2.gg _ _ d1) d2) p
theorem e_tup (h : EA K pen H0 tl L fun ds => ds.length ≤ 100000 ∧ P (.tuple ds)) : E K pen H0 (tTup tl) L P := fun σ G H e Q q =>
  h σ G H e _ fun vs ds G1 H1 g1 d1 h1 => ⟨Nat.le_trans (by rw [dpa_len d1]; exact h1.1) (by decide : 100000 ≤ sizeLine), fun p hp => by
    have g2 := Go.new g1.vw (o := .tup vs) hp
    exact q _ _ _ _ (g1.trans g2) (.tup (.inl (.inl upd_same)) (dpa_mono g2.gg _ _ d1)) h1.2⟩
theorem e_lst (h : EA K pen H0 tl L fun ds => ds.length ≤ 100000 ∧ P (.list ds)) : E K pen H0 (tLst tl) L P := fun σ G H e Q q =>
  h σ G H e _ fun vs ds G1 H1 g1 d1 h1 => ⟨Nat.le_trans (by rw [dpa_len d1]; exact h1.1) (by decide : 100000 ≤ sizeLine), fun p hp => by
    have g2 := Go.new g1.vw (o := .lst vs) hp
    exact q _ _ _ _ (g1.trans g2) (.lst (.inl (.inl upd_same)) (dpa_mono g2.gg _ _ d1)) h1.2⟩
theorem e_cb {r : List V → Hp → VK → Prop} (h : EA K pen H0 tl L fun ds => RCd K pen r ds P) : E K pen H0 (tCB r tl) L P := fun σ G H e Q q =>
  h σ G H e _ fun vs ds G1 H1 g1 d1 h1 => h1 vs G1 H1 g1.vw d1 Q fun z c G3 H3 g3 d3 p => q z c G3 H3 (g1.trans g3) d3 p
theorem e_sl {r : V → Option Int → Option Int → Hp → VK → Prop} {to th : TO} (h : E K pen H0 te L fun a => EO K pen H0 to L fun lo => EO K pen H0 th L fun hi => RSd K pen r a lo hi P) : E K pen H0 (tSl r te to th) L P := fun σ G H e Q q =>
  h σ G H e _ fun v a G1 H1 g1 d1 h1 => h1 σ G1 H1 (e.go g1) _ fun lo G2 H2 g2 h2 => h2 σ G2 H2 (e.go (g1.trans g2)) _ fun hi G3 H3 g3 h3 =>
    h3 v G3 H3 g3.vw (dp_mono (g2.gg.trans g3.gg) _ _ d1) Q fun z c G4 H4 g4 d4 p => q z c G4 H4 (((g1.trans g2).trans g3).trans g4) d4 p
theorem eo_none {Po : Option Int → Prop} (p : Po none) : EO K pen H0 tNoPart L Po := fun σ G H e Q q => q _ G H (.refl e.vw) p
theorem eo_some {Po : Option Int → Prop} (h : E K pen H0 te L fun d => ∃ i, d = .int i ∧ Po (some i)) : EO K pen H0 (tPart te) L Po := fun σ G H e Q q =>
  h σ G H e _ fun v d G1 H1 g1 d1 ⟨i, hi, p⟩ => by
    subst hi
    cases d1
    exact ⟨i, rfl, q _ G1 H1 g1 p⟩
/-! tests -/
theorem et_test (h : E K pen H0 te L fun d => ∃ b, d = .bool b ∧ Pb b) : ET K pen H0 (tTest te) L Pb := fun σ G H e Q q =>
  h σ G H e _ fun v d G1 H1 g1 d1 ⟨b, hb, p⟩ => by
    subst hb
    cases d1
    exact ⟨b, rfl, q _ G1 H1 g1 p⟩
theorem et_B (h : E K pen H0 te L fun d => ∃ b, d = .bool b ∧ Pb b) : ET K pen H0 (tB te) L Pb := fun σ G H e Q q =>
  h σ G H e _ fun v d G1 H1 g1 d1 ⟨b, hb, p⟩ => by
    subst hb
    cases d1
    exact ⟨b, rfl, q _ G1 H1 g1 p⟩
theorem et_and (h : ET K pen H0 t L fun a => (a = true → ET K pen H0 u L Pb) ∧ (a = false → Pb false)) : ET K pen H0 (tAnd t u) L Pb := fun σ G H e Q q =>
  h σ G H e _ fun a G1 H1 g1 h1 => by
    cases a with
    | true => exact h1.1 rfl σ G1 H1 (e.go g1) Q fun b G2 H2 g2 p => q b G2 H2 (g1.trans g2) p
    | false => exact q false G1 H1 g1 (h1.2 rfl)
theorem et_or (h : ET K pen H0 t L fun a => (a = true → Pb true) ∧ (a = false → ET K pen H0 u L Pb)) : ET K pen H0 (tOr t u) L Pb := fun σ G H e Q q =>
  h σ G H e _ fun a G1 H1 g1 h1 => by
    cases a with
    | false => exact h1.2 rfl σ G1 H1 (e.go g1) Q fun b G2 H2 g2 p => q b G2 H2 (g1.trans g2) p
    | true => exact q true G1 H1 g1 (h1.1 rfl)
theorem et_not (h : ET K pen H0 t L fun a => Pb (!a)) : ET K pen H0 (tNot t) L Pb := fun σ G H e Q q => h σ G H e _ fun a G1 H1 g1 h1 => q (!a) G1 H1 g1 h1
theorem e_andV (h : E K pen H0 ta L fun d => ∃ a, d = .bool a ∧ (a = true → E K pen H0 tb L P) ∧ (a = false → P (.bool false))) : E K pen H0 (tAndV ta tb) L P := fun σ G H e Q q =>
  h σ G H e _ fun v d G1 H1 g1 d1 ⟨a, ha, h1, h2⟩ => by
    subst ha
    cases d1
    refine ⟨a, rfl, ?_⟩
    cases a with
    | true => exact h1 rfl σ G1 H1 (e.go g1) Q fun w b G2 H2 g2 d2 p => q w b G2 H2 (g1.trans g2) d2 p
    | false => exact q _ _ G1 H1 g1 (.bl false) (h2 rfl)
theorem e_orV (h : E K pen H0 ta L fun d => ∃ a, d = .bool a ∧ (a = true → P (.bool true)) ∧ (a = false → E K pen H0 tb L P)) : E K pen H0 (tOrV ta tb) L P := fun σ G H e Q q =>
  h σ G H e _ fun v d G1 H1 g1 d1 ⟨a, ha, h1, h2⟩ => by
    subst ha
    cases d1
    refine ⟨a, rfl, ?_⟩
    cases a with
    | false => exact h2 rfl σ G1 H1 (e.go g1) Q fun w b G2 H2 g2 d2 p => q w b G2 H2 (g1.trans g2) d2 p
    | true => exact q _ _ G1 H1 g1 (.bl true) (h1 rfl)
theorem e_notV (h : E K pen H0 ta L fun d => ∃ a, d = .bool a ∧ P (.bool (!a))) : E K pen H0 (tNotV ta) L P := fun σ G H e Q q =>
  h σ G H e _ fun v d G1 H1 g1 d1 ⟨a, ha, h1⟩ => by
    subst ha
    cases d1
    exact ⟨a, rfl, q _ _ G1 H1 g1 (.bl _) h1⟩
theorem e_if (h : ET K pen H0 t L fun a => (a = true → E K pen H0 ta L P) ∧ (a = false → E K pen H0 tb L P)) : E K pen H0 (tIf t ta tb) L P := fun σ G H e Q q =>
  h σ G H e _ fun a G1 H1 g1 h1 => by
    cases a with
    | true => exact h1.1 rfl σ G1 H1 (e.go g1) Q fun w b G2 H2 g2 d2 p => q w b G2 H2 (g1.trans g2) d2 p
    | false => exact h1.2 rfl σ G1 H1 (e.go g1) Q fun w b G2 H2 g2 d2 p => q w b G2 H2 (g1.trans g2) d2 p
theorem e_chain {r r' : R2} (h : E K pen H0 ta L fun a => E K pen H0 tb L fun b => R2d K pen r a b fun z => ∃ k, z = .bool k ∧ (k = true → E K pen H0 tc L fun c => R2d K pen r' b c P) ∧ (k = false → P (.bool false))) : E K pen H0 (tChain r r' ta tb tc) L P := fun σ G H e Q q =>
  h σ G H e _ fun v a G1 H1 g1 d1 h1 => h1 σ G1 H1 (e.go g1) _ fun w b G2 H2 g2 d2 h2 =>
    h2 v w G2 H2 g2.vw (dp_mono g2.gg _ _ d1) d2 _ fun z c G3 H3 g3 d3 ⟨k, hk, p1, p2⟩ => by
      subst hk
      cases d3
      refine ⟨k, rfl, ?_⟩
      cases k with
      | true =>
        exact p1 rfl σ G3 H3 (e.go ((g1.trans g2).trans g3)) _ fun y c G4 H4 g4 d4 p => p w y G4 H4 g4.vw (dp_mono (g3.gg.trans g4.gg) _ _ d2) d4 Q fun z c G5 H5 g5 d5 p' =>
          q z c G5 H5 ((((g1.trans g2).trans g3).trans g4).trans g5) d5 p'
      | false => exact q _ _ G3 H3 ((g1.trans g2).trans g3) (.bl false) (p2 rfl)
/-! operators by values -/
theorem r_I0 {g : Int → Int → V} {f : Int → Int → PyData} {i j : Int} (hg : ∀ G, Dp K G (g i j) (f i j)) (p : P (f i j)) : R2d K pen (rI0 g) (.int i) (.int j) P := fun x y G H v hx hy Q q => by
  cases hx
  cases hy
  exact ⟨i, j, rfl, rfl, q _ _ G H (.refl v) (hg G) p⟩
theorem r_I {C : Int → Int → Prop} {g : Int → Int → V} {f : Int → Int → PyData} {i j : Int} (hg : ∀ G, Dp K G (g i j) (f i j)) (hc : C i j) (p : P (f i j)) : R2d K pen (rI C g) (.int i) (.int j) P := fun x y G H v hx hy Q q => by
  cases hx
  cases hy
  exact ⟨i, j, rfl, rfl, hc, q _ _ G H (.refl v) (hg G) p⟩
theorem r_add {i j : Int} (p : P (.int (i + j))) : R2d K pen (rI0 fun i j => .int (i + j)) (.int i) (.int j) P := r_I0 (f := fun i j => .int (i + j)) (fun _ => .int _) p
theorem r_sub {i j : Int} (p : P (.int (i - j))) : R2d K pen (rI0 fun i j => .int (i - j)) (.int i) (.int j) P := r_I0 (f := fun i j => .int (i - j)) (fun _ => .int _) p
theorem r_mul {i j : Int} (hc : CMul i j) (p : P (.int (i * j))) : R2d K pen (rI CMul fun i j => .int (i * j)) (.int i) (.int j) P := r_I (f := fun i j => .int (i * j)) (fun _ => .int _) hc p
theorem r_mod {i j : Int} (hc : 0 < j) (p : P (.int (i % j))) : R2d K pen (rI (fun _ j => 0 < j) fun i j => .int (i % j)) (.int i) (.int j) P := r_I (f := fun i j => .int (i % j)) (fun _ => .int _) hc p
theorem r_lt {i j : Int} (p : P (.bool (decide (i < j)))) : R2d K pen (rI0 fun i j => .bl (decide (i < j))) (.int i) (.int j) P := r_I0 (f := fun i j => .bool (decide (i < j))) (fun _ => .bl _) p
theorem r_le {i j : Int} (p : P (.bool (decide (i ≤ j)))) : R2d K pen (rI0 fun i j => .bl (decide (i ≤ j))) (.int i) (.int j) P := r_I0 (f := fun i j => .bool (decide (i ≤ j))) (fun _ => .bl _) p
theorem r_gt {i j : Int} (p : P (.bool (decide (j < i)))) : R2d K pen (rI0 fun i j => .bl (decide (j < i))) (.int i) (.int j) P := r_I0 (f := fun i j => .bool (decide (j < i))) (fun _ => .bl _) p
theorem r_ge {i j : Int} (p : P (.bool (decide (j ≤ i)))) : R2d K pen (rI0 fun i j => .bl (decide (j ≤ i))) (.int i) (.int j) P := r_I0 (f := fun i j => .bool (decide (j ≤ i))) (fun _ => .bl _) p
theorem r_eqI {i j : Int} (p : P (.bool (decide (i = j)))) : R2d K pen rEq (.int i) (.int j) P := fun x y G H v hx hy Q q => by
  cases hx
  cases hy
  refine ⟨rfl, ?_⟩
  rw [show decide (V.int i = V.int j) = decide (i = j) by rw [dec_int]; exact Bool.beq_eq_decide_eq i j]
  exact q _ _ G H (.refl v) (.bl _) p
theorem r_neI {i j : Int} (p : P (.bool (!decide (i = j)))) : R2d K pen rNe (.int i) (.int j) P := fun x y G H v hx hy Q q => by
  cases hx
  cases hy
  refine ⟨rfl, ?_⟩
  rw [show decide (V.int i = V.int j) = decide (i = j) by rw [dec_int]; exact Bool.beq_eq_decide_eq i j]
  exact q _ _ G H (.refl v) (.bl _) p
theorem r_eqB {i j : Bool} (p : P (.bool (decide (i = j)))) : R2d K pen rEq (.bool i) (.bool j) P := fun x y G H v hx hy Q q => by
  cases hx
  cases hy
  refine ⟨rfl, ?_⟩
  rw [show decide (V.bl i = V.bl j) = decide (i = j) by rw [dec_bl]; exact Bool.beq_eq_decide_eq i j]
  exact q _ _ G H (.refl v) (.bl _) p
theorem r_eqS {i j : Str} (p : P (.bool (decide (i = j)))) : R2d K pen rEq (.str i) (.str j) P := fun x y G H v hx hy Q q => by
  cases hx
  cases hy
  refine ⟨rfl, ?_⟩
  rw [show decide (V.str i = V.str j) = decide (i = j) by rw [dec_str]; exact Bool.beq_eq_decide_eq i j]
  exact q _ _ G H (.refl v) (.bl _) p
theorem r_eqD {a b : PyData} (ha : SeqAt.shaped a = true) (hb : SeqAt.shaped b = true) (p : P (.bool (PyData.eqv a b))) : R2d K pen (rEqD K) a b P := fun x y G H v hx hy Q q =>
  ⟨a, b, dp_mono v.vw _ _ hx, dp_mono v.vw _ _ hy, ha, hb, q _ _ G H (.refl v) (.bl _) p⟩
theorem r_neD {a b : PyData} (ha : SeqAt.shaped a = true) (hb : SeqAt.shaped b = true) (p : P (.bool (!PyData.eqv a b))) : R2d K pen (rNeD K) a b P := fun x y G H v hx hy Q q =>
  ⟨a, b, dp_mono v.vw _ _ hx, dp_mono v.vw _ _ hy, ha, hb, q _ _ G H (.refl v) (.bl _) p⟩
theorem r_isN {a : PyData} (p : P (.bool (match a with | .none => true | _ => false))) : R2d K pen (fun x y H Q => y = .non ∧ Q (.bl (decide (x = .non))) H) a .none P := fun x y G H v hx hy Q q => by
  cases hy
  refine ⟨rfl, q _ _ G H (.refl v) ?_ p⟩
  cases hx <;> exact .bl _
theorem r_ixT {ds : List PyData} {i : Int} {d : PyData} (h : atI ds i = some d) (p : P d) : R2d K pen (rIxT K) (.tuple ds) (.int i) P := fun x y G H v hx hy Q q => by
  cases hy
  cases hx with
  | tup hs ha =>
    rename_i a xs
    unfold atI at h
    cases hj : ixN ds.length i with
    | none => rw [hj] at h; cases h
    | some j =>
      rw [hj] at h
      obtain ⟨w, h1, h2⟩ := dpa_get ha (show ds[j]? = some d from h)
      refine ⟨_, xs, i, w, rfl, rfl, sqT_mono v.vw hs, ?_, q w d G H (.refl v) h2 p⟩
      unfold atI
      rw [dpa_len ha, hj]
      exact h1
theorem r_ixL {ds : List PyData} {i : Int} {d : PyData} (h : atI ds i = some d) (p : P d) : R2d K pen (rIxL K) (.list ds) (.int i) P := fun x y G H v hx hy Q q => by
  cases hy
  cases hx with
  | lst hs ha =>
    rename_i a xs
    unfold atI at h
    cases hj : ixN ds.length i with
    | none => rw [hj] at h; cases h
    | some j =>
      rw [hj] at h
      obtain ⟨w, h1, h2⟩ := dpa_get ha (show ds[j]? = some d from h)
      refine ⟨_, xs, i, w, rfl, rfl, sqL_mono v.vw hs, ?_, q w d G H (.refl v) h2 p⟩
      unfold atI
      rw [dpa_len ha, hj]
      exact h1
/-- len -/
theorem c_len {ds es : List PyData} (h : ds = [.tuple es] ∨ ds = [.list es]) (p : P (.int es.length)) : RCd K pen (fun xs H Q => ∃ p ys, xs = [.ref p] ∧ (SqL K H p ys ∨ SqT K H p ys) ∧ Q (.int ys.length) H) ds P := fun vs G H v hv Q q => by
  rcases h with rfl | rfl
  · cases hv with
    | cons h1 h2 =>
      cases h2
      cases h1 with
      | tup hs ha =>
        refine ⟨_, _, rfl, .inr (sqT_mono v.vw hs), ?_⟩
        rw [dpa_len ha]
        exact q _ _ G H (.refl v) (.int _) p
  · cases hv with
    | cons h1 h2 =>
      cases h2
      cases h1 with
      | lst hs ha =>
        refine ⟨_, _, rfl, .inl (sqL_mono v.vw hs), ?_⟩
        rw [dpa_len ha]
        exact q _ _ G H (.refl v) (.int _) p
/-- list(xs) -/
theorem c_list {ds es : List PyData} (h : ds = [.tuple es] ∨ ds = [.list es]) (p : P (.list es)) : RCd K pen (fun xs H Q => ∃ p ys, xs = [.ref p] ∧ (SqL K H p ys ∨ SqT K H p ys) ∧ ∀ l, H l = none → Q (.ref l) (upd H l (.lst ys))) ds P := fun vs G H v hv Q q => by
  rcases h with rfl | rfl
  · cases hv with
    | cons h1 h2 =>
      cases h2
      cases h1 with
      | tup hs ha =>
        refine ⟨_, _, rfl, .inr (sqT_mono v.vw hs), fun l hl => ?_⟩
        rename_i xs
        have g := Go.new v (o := .lst xs) hl
        exact q _ _ _ _ g (.lst (.inl (.inl upd_same)) (dpa_mono g.gg _ _ ha)) p
  · cases hv with
    | cons h1 h2 =>
      cases h2
      cases h1 with
      | lst hs ha =>
        refine ⟨_, _, rfl, .inl (sqL_mono v.vw hs), fun l hl => ?_⟩
        rename_i xs
        have g := Go.new v (o := .lst xs) hl
        exact q _ _ _ _ g (.lst (.inl (.inl upd_same)) (dpa_mono g.gg _ _ ha)) p
/-- tuple(xs) -/
theorem c_tuple {ds es : List PyData} (h : ds = [.tuple es] ∨ ds = [.list es]) (p : P (.tuple es)) : RCd K pen (fun xs H Q => ∃ p ys, xs = [.ref p] ∧ ((SqL K H p ys ∧ ∀ l, H l = none → Q (.ref l) (upd H l (.tup ys))) ∨ (SqT K H p ys ∧ Q (.ref p) H))) ds P := fun vs G H v hv Q q => by
  rcases h with rfl | rfl
  · cases hv with
    | cons h1 h2 =>
      cases h2
      cases h1 with
      | tup hs ha => exact ⟨_, _, rfl, .inr ⟨sqT_mono v.vw hs, q _ _ G H (.refl v) (.tup hs ha) p⟩⟩
  · cases hv with
    | cons h1 h2 =>
      cases h2
      cases h1 with
      | lst hs ha =>
        refine ⟨_, _, rfl, .inl ⟨sqL_mono v.vw hs, fun l hl => ?_⟩⟩
        rename_i xs
        have g := Go.new v (o := .tup xs) hl
        exact q _ _ _ _ g (.tup (.inl (.inl upd_same)) (dpa_mono g.gg _ _ ha)) p
theorem c_min2 {i j : Int} (p : P (.int (if j < i then j else i))) : RCd K pen (fun xs H Q => ∃ i j, xs = [.int i, .int j] ∧ Q (.int (if j < i then j else i)) H) [.int i, .int j] P := fun vs G H v hv Q q => by
  cases hv with
  | cons h1 h2 =>
    cases h2 with
    | cons h3 h4 =>
      cases h4
      cases h1
      cases h3
      exact ⟨i, j, rfl, q _ _ G H (.refl v) (.int _) p⟩
theorem c_max2 {i j : Int} (p : P (.int (if j > i then j else i))) : RCd K pen (fun xs H Q => ∃ i j, xs = [.int i, .int j] ∧ Q (.int (if j > i then j else i)) H) [.int i, .int j] P := fun vs G H v hv Q q => by
  cases hv with
  | cons h1 h2 =>
    cases h2 with
    | cons h3 h4 =>
      cases h4
      cases h1
      cases h3
      exact ⟨i, j, rfl, q _ _ G H (.refl v) (.int _) p⟩
theorem c_intB {b : Bool} (p : P (.int (if b then 1 else 0))) : RCd K pen (fun xs H Q => (∃ i, xs = [.int i] ∧ Q (.int i) H) ∨ ∃ k, xs = [.bl k] ∧ Q (.int (if k then 1 else 0)) H) [.bool b] P := fun vs G H v hv Q q => by
  cases hv with
  | cons h1 h2 =>
    cases h2
    cases h1
    exact .inr ⟨b, rfl, q _ _ G H (.refl v) (.int _) p⟩
end
end Dl
set_option Elab.async false
set_option linter.all false
set_option maxRecDepth 100000
namespace Dl
open PySem PySem.Spec PyProof.Rows L2

/-! ### statements -/
structure Dn where
  nx : Lv → Prop
  rt : PyData → Prop
  bk : Lv → Prop := fun _ => False
  ct : Lv → Prop := fun _ => False
  rn : PyData → Prop := fun _ => False
  ro : OO → Prop := fun _ => False
structure Gx (pen : Pc) (H0 G H G' H' : Hp) : Prop where
  gg : Same G G'
  nw : ∀ a, H0 a ≠ none → G' a = G a
  od : ∀ a o, ¬ IsPn pen a → H0 a ≠ none → H a = some o → H' a = some o
theorem Gx.refl {pen : Pc} {H0 G H : Hp} : Gx pen H0 G H G H := ⟨Same.refl _, fun _ _ => rfl, fun _ _ _ _ e => e⟩
theorem Gx.trans {pen : Pc} {H0 G H G1 H1 G2 H2 : Hp} (a : Gx pen H0 G H G1 H1) (b : Gx pen H0 G1 H1 G2 H2) : Gx pen H0 G H G2 H2 :=
  ⟨a.gg.trans b.gg, fun x h => (b.nw x h).trans (a.nw x h), fun x o p h e => b.od x o p h (a.od x o p h e)⟩
section
variable {K : PySem.W.Frag} {pen : Pc} {H0 G H G' H' : Hp} {σ : L2.St} {L : Lv}
theorem Ev.gx (e : Ev K pen H0 G H σ L) (g : Go pen G H G' H') : Gx pen H0 G H G' H' := ⟨g.gg, fun a h => g.nw a (e.dom a h), fun a o p _ q => g.od a o p q⟩
/-- a slot forgotten -/
theorem Ev.unset (e : Ev K pen H0 G H σ L) (i : Nat) : Ev K pen H0 G H (σ.set i none) (L.set i none) := by
  have nj : ∀ (j : Nat) (av : AV), (L.set i none)[j]? = some (some av) → i ≠ j := fun j av hj q => by
    subst q
    have hl : i < L.length := by
      have := (List.getElem?_eq_some_iff.mp hj).1
      rw [List.length_set] at this; exact this
    rw [List.getElem?_set_self hl] at hj
    cases hj
  refine ⟨e.vw, e.h0, e.dom, by rw [List.length_set, List.length_set]; exact e.len, fun j av hj => ?_, fun j k ds es l h1 h2 h3 h4 => ?_⟩
  · have q := nj j av hj
    rw [List.getElem?_set_ne q] at hj
    obtain ⟨w, h1, h2⟩ := e.sl j av hj
    exact ⟨w, by rw [List.getElem?_set_ne q]; exact h1, h2⟩
  · have q1 := nj j _ h1
    have q2 := nj k _ h2
    rw [List.getElem?_set_ne q1] at h1 h3
    rw [List.getElem?_set_ne q2] at h2 h4
    exact e.ow j k ds es l h1 h2 h3 h4
end
section
variable (K : PySem.W.Frag) (pen : Pc) (H0 : Hp)
def S (t : TS) (L : Lv) (D : Dn) : Prop := ∀ (σ : L2.St) (G H : Hp) (N : Ends), Ev K pen H0 G H σ L →
  (∀ σ' G' H' L', Gx pen H0 G H G' H' → Ev K pen H0 G' H' σ' L' → D.nx L' → N.nx σ' H') →
  (∀ v d G' H', Gx pen H0 G H G' H' → Vw pen G' H' → Dp K G' v d → D.rt d → N.rt v H') →
  (∀ σ' G' H' L', Gx pen H0 G H G' H' → Ev K pen H0 G' H' σ' L' → D.bk L' → N.bk σ' H') →
  (∀ σ' G' H' L', Gx pen H0 G H G' H' → Ev K pen H0 G' H' σ' L' → D.ct L' → N.ct σ' H') →
  (∀ v d G' H', Gx pen H0 G H G' H' → Vw pen G' H' → Nd K (vnew H0 G' H') v d → D.rn d → N.rt v H') →
  (∀ l ho o G' H', Gx pen H0 G H G' H' → Vw pen G' H' → H' l = some ho → H0 l = none → G' l = none → OwnOk K G' l ho o → D.ro o → N.rt (.ref l) H') → t N σ H
def GT (g : TG) (d : PyData) (L : Lv) (P : Lv → Prop) : Prop := ∀ (σ : L2.St) (G H : Hp) (v : V), Ev K pen H0 G H σ L → Dp K G v d → ∀ R : L2.St → Hp → Prop, (∀ σ' L', Ev K pen H0 G H σ' L' → P L' → R σ' H) → g v σ H R
def GTs (g : TGs) (ds : List PyData) (L : Lv) (P : Lv → Prop) : Prop := ∀ (σ : L2.St) (G H : Hp) (vs : List V), Ev K pen H0 G H σ L → DpAll K G vs ds → ∀ R : L2.St → Hp → Prop, (∀ σ' L', Ev K pen H0 G H σ' L' → P L' → R σ' H) → g vs σ H R
end
section
variable {K : PySem.W.Frag} {pen : Pc} {H0 : Hp} {L : Lv} {P P' : PyData → Prop} {ta tb tc te ti : TE} {tl tr : TA} {tt : TT} {t u : TS} {Pb : Bool → Prop} {D : Dn} {g : TG} {gs : TGs}
theorem g_name {i : Nat} {d : PyData} {P : Lv → Prop} (h : P (L.set i (some (.d d)))) : GT K pen H0 (gName i) d L P := fun σ G H v e hd R r => r _ _ (e.set hd) h
theorem g_tup {n : Nat} {ds : List PyData} {P : Lv → Prop} (hn : ds.length = n) (h : GTs K pen H0 gs ds L P) : GT K pen H0 (gTup K n gs) (.tuple ds) L P := fun σ G H v e hd R r => by
  cases hd with
  | tup hs ha => exact ⟨_, _, rfl, sqT_mono e.vw.vw hs, (dpa_len ha).trans hn, h σ G H _ e ha R r⟩
theorem gs_nil {P : Lv → Prop} (h : P L) : GTs K pen H0 gNil [] L P := fun σ G H vs e hd R r => by
  cases hd
  exact ⟨rfl, r _ _ e h⟩
theorem gs_cons {d : PyData} {ds : List PyData} {P : Lv → Prop} (h : GT K pen H0 g d L fun L' => GTs K pen H0 gs ds L' P) : GTs K pen H0 (gCons g gs) (d :: ds) L P := fun σ G H vs e hd R r => by
  cases hd with
  | cons h1 h2 =>
    refine ⟨_, _, rfl, h σ G H _ e h1 _ fun σ' L' e' h' => ?_⟩
    exact h' σ' G H _ e' h2 R r
theorem s_seq (h : S K pen H0 t L { D with nx := fun L' => S K pen H0 u L' D }) : S K pen H0 (tSeq t u) L D := fun σ G H N e n1 n2 n3 n4 n5 n6 =>
  h σ G H _ e (fun σ' G' H' L' x e' h' => h' σ' G' H' N e' (fun σ2 G2 H2 L2 x2 e2 q => n1 σ2 G2 H2 L2 (x.trans x2) e2 q) (fun v d G2 H2 x2 vw hd q => n2 v d G2 H2 (x.trans x2) vw hd q)
    (fun σ2 G2 H2 L2 x2 e2 q => n3 σ2 G2 H2 L2 (x.trans x2) e2 q) (fun σ2 G2 H2 L2 x2 e2 q => n4 σ2 G2 H2 L2 (x.trans x2) e2 q) (fun v d G2 H2 x2 vw hd q => n5 v d G2 H2 (x.trans x2) vw hd q) (fun l ho o G2 H2 x2 vw h1 h2 h3 h4 q => n6 l ho o G2 H2 (x.trans x2) vw h1 h2 h3 h4 q)) n2 n3 n4 n5 n6
theorem s_next (h : D.nx L) : S K pen H0 tNext L D := fun σ G H N e n1 _ _ _ _ _ => n1 σ G H L .refl e h
theorem s_ret (h : E K pen H0 te L D.rt) : S K pen H0 (tRet te) L D := fun σ G H N e _ n2 _ _ _ _ => h σ G H e _ fun v d G' H' g hd p => n2 v d G' H' (e.gx g) g.vw hd p
theorem s_asg {i : Nat} (h : E K pen H0 te L fun d => D.nx (L.set i (some (.d d)))) : S K pen H0 (tAsg te (gName i)) L D := fun σ G H N e n1 _ _ _ _ _ =>
  h σ G H e _ fun v d G' H' g hd p => n1 _ G' H' _ (e.gx g) ((e.go g).set hd) p
theorem s_asgG (h : E K pen H0 te L fun d => GT K pen H0 g d L D.nx) : S K pen H0 (tAsg te g) L D := fun σ G H N e n1 _ _ _ _ _ =>
  h σ G H e _ fun v d G' H' go hd p => p σ G' H' v (e.go go) hd _ fun σ' L' e' p' => n1 σ' G' H' L' (e.gx go) e' p'
theorem s_drop (h : E K pen H0 te L fun _ => D.nx L) : S K pen H0 (tDrop te) L D := fun σ G H N e n1 _ _ _ _ _ => h σ G H e _ fun v d G' H' go _ p => n1 σ G' H' L (e.gx go) (e.go go) p
theorem s_if (h : ET K pen H0 tt L fun b => (b = true → S K pen H0 t L D) ∧ (b = false → S K pen H0 u L D)) : S K pen H0 (tIfS tt t u) L D := fun σ G H N e n1 n2 n3 n4 n5 n6 =>
  h σ G H e _ fun b G' H' go p => by
    have x := e.gx go
    have go2 : ∀ {t : TS}, S K pen H0 t L D → t N σ H' := fun {t} h => h σ G' H' N (e.go go) (fun σ2 G2 H2 L2 x2 e2 q => n1 σ2 G2 H2 L2 (x.trans x2) e2 q) (fun v d G2 H2 x2 vw hd q => n2 v d G2 H2 (x.trans x2) vw hd q)
      (fun σ2 G2 H2 L2 x2 e2 q => n3 σ2 G2 H2 L2 (x.trans x2) e2 q) (fun σ2 G2 H2 L2 x2 e2 q => n4 σ2 G2 H2 L2 (x.trans x2) e2 q) (fun v d G2 H2 x2 vw hd q => n5 v d G2 H2 (x.trans x2) vw hd q) (fun l ho o G2 H2 x2 vw h1 h2 h3 h4 q => n6 l ho o G2 H2 (x.trans x2) vw h1 h2 h3 h4 q)
    cases b with
    | true => exact go2 (p.1 rfl)
    | false => exact go2 (p.2 rfl)
theorem S.mono {D' : Dn} (h : S K pen H0 t L D) (h1 : ∀ L, D.nx L → D'.nx L) (h2 : ∀ d, D.rt d → D'.rt d) (h3 : ∀ L, D.bk L → D'.bk L) (h4 : ∀ L, D.ct L → D'.ct L) (h5 : ∀ d, D.rn d → D'.rn d := by intro _ h; exact h) (h6 : ∀ d, D.ro d → D'.ro d := by intro _ h; exact h) : S K pen H0 t L D' := fun σ G H N e n1 n2 n3 n4 n5 n6 =>
  h σ G H N e (fun σ' G' H' L' x e' q => n1 σ' G' H' L' x e' (h1 _ q)) (fun v d G' H' x vw hd q => n2 v d G' H' x vw hd (h2 _ q)) (fun σ' G' H' L' x e' q => n3 σ' G' H' L' x e' (h3 _ q)) (fun σ' G' H' L' x e' q => n4 σ' G' H' L' x e' (h4 _ q)) (fun v d G' H' x vw hd q => n5 v d G' H' x vw hd (h5 _ q)) (fun l ho o G' H' x vw h1 h2 h3 h4 q => n6 l ho o G' H' x vw h1 h2 h3 h4 (h6 _ q))
/-! loops -/
theorem s_forT (h : E K pen H0 te L fun d => ∃ ds, d = .tuple ds ∧ ∃ I : Nat → Lv → Prop, I 0 L ∧ (∀ (i : Nat) x L', ds[i]? = some x → I i L' → GT K pen H0 g x L' fun L2 => S K pen H0 t L2 { D with nx := I (i + 1), ct := I (i + 1), bk := D.nx }) ∧ (∀ L', I ds.length L' → D.nx L')) :
    S K pen H0 (tFor (iTup K te) g t) L D := fun σ G H N e n1 n2 n3 n4 n5 n6 => h σ G H e _ fun v d G1 H1 go hd ⟨ds, hds, I, i0, is, id⟩ => by
  subst hds
  cases hd with
  | tup hs ha =>
    rename_i a xs
    have x1 := e.gx go
    refine ⟨a, rfl, ⟨xs, sqT_mono go.vw.vw hs⟩, ?_⟩
    refine for_tup (fun i σ' H' => ∃ G' L', Gx pen H0 G1 H1 G' H' ∧ Ev K pen H0 G' H' σ' L' ∧ I i L') ⟨G1, L, .refl, e.go go, i0⟩ (fun i σ' H' _ ⟨G', L', x, e', _⟩ => sqT_mono (x.gg.trans e'.vw.vw) hs) (fun i y σ' H' hy ⟨G', L', x, e', q⟩ => ?_) (fun σ' H' ⟨G', L', x, e', q⟩ => ?_)
    · obtain ⟨z, hz, hd⟩ := dpa_getV ha hy
      refine is i z L' hz q σ' G' H' y e' (dp_mono x.gg _ _ hd) _ fun σ2 L2 e2 h2 => ?_
      exact h2 σ2 G' H' _ e2 (fun σ3 G3 H3 L3 x3 e3 q3 => ⟨G3, L3, x.trans x3, e3, q3⟩) (fun v d G3 H3 x3 vw hd q3 => n2 v d G3 H3 (x1.trans (x.trans x3)) vw hd q3)
        (fun σ3 G3 H3 L3 x3 e3 q3 => n1 σ3 G3 H3 L3 (x1.trans (x.trans x3)) e3 q3) (fun σ3 G3 H3 L3 x3 e3 q3 => ⟨G3, L3, x.trans x3, e3, q3⟩) (fun v d G3 H3 x3 vw hd q3 => n5 v d G3 H3 (x1.trans (x.trans x3)) vw hd q3) (fun l ho o G3 H3 x3 vw h1 h2 h3 h4 q3 => n6 l ho o G3 H3 (x1.trans (x.trans x3)) vw h1 h2 h3 h4 q3)
    · rw [dpa_len ha] at q
      exact n1 σ' G' H' L' (x1.trans x) e' (id L' q)
theorem s_forL (h : E K pen H0 te L fun d => ∃ ds, d = .list ds ∧ ∃ I : Nat → Lv → Prop, I 0 L ∧ (∀ (i : Nat) x L', ds[i]? = some x → I i L' → GT K pen H0 g x L' fun L2 => S K pen H0 t L2 { D with nx := I (i + 1), ct := I (i + 1), bk := D.nx }) ∧ (∀ L', I ds.length L' → D.nx L')) :
    S K pen H0 (tFor (iList K te) g t) L D := fun σ G H N e n1 n2 n3 n4 n5 n6 => h σ G H e _ fun v d G1 H1 go hd ⟨ds, hds, I, i0, is, id⟩ => by
  subst hds
  cases hd with
  | lst hs ha =>
    rename_i a xs
    have x1 := e.gx go
    refine ⟨a, rfl, ⟨xs, sqL_mono go.vw.vw hs⟩, ?_⟩
    refine for_list (fun i σ' H' => ∃ G' L', Gx pen H0 G1 H1 G' H' ∧ Ev K pen H0 G' H' σ' L' ∧ I i L') ⟨G1, L, .refl, e.go go, i0⟩ (fun i σ' H' _ ⟨G', L', x, e', _⟩ => sqL_mono (x.gg.trans e'.vw.vw) hs) (fun i y σ' H' hy ⟨G', L', x, e', q⟩ => ?_) (fun σ' H' ⟨G', L', x, e', q⟩ => ?_)
    · obtain ⟨z, hz, hd⟩ := dpa_getV ha hy
      refine is i z L' hz q σ' G' H' y e' (dp_mono x.gg _ _ hd) _ fun σ2 L2 e2 h2 => ?_
      exact h2 σ2 G' H' _ e2 (fun σ3 G3 H3 L3 x3 e3 q3 => ⟨G3, L3, x.trans x3, e3, q3⟩) (fun v d G3 H3 x3 vw hd q3 => n2 v d G3 H3 (x1.trans (x.trans x3)) vw hd q3)
        (fun σ3 G3 H3 L3 x3 e3 q3 => n1 σ3 G3 H3 L3 (x1.trans (x.trans x3)) e3 q3) (fun σ3 G3 H3 L3 x3 e3 q3 => ⟨G3, L3, x.trans x3, e3, q3⟩) (fun v d G3 H3 x3 vw hd q3 => n5 v d G3 H3 (x1.trans (x.trans x3)) vw hd q3) (fun l ho o G3 H3 x3 vw h1 h2 h3 h4 q3 => n6 l ho o G3 H3 (x1.trans (x.trans x3)) vw h1 h2 h3 h4 q3)
    · rw [dpa_len ha] at q
      exact n1 σ' G' H' L' (x1.trans x) e' (id L' q)
theorem s_forR (h : EA K pen H0 tl L fun ds => ∃ n : Nat, ds = [.int n] ∧ n ≤ 100000 ∧ ∃ I : Nat → Lv → Prop, I 0 L ∧ (∀ (i : Nat) L', i < n → I i L' → GT K pen H0 g (.int i) L' fun L2 => S K pen H0 t L2 { D with nx := I (i + 1), ct := I (i + 1), bk := D.nx }) ∧ (∀ L', I n L' → D.nx L')) :
    S K pen H0 (tFor (iRng1 tl) g t) L D := fun σ G H N e n1 n2 n3 n4 n5 n6 => h σ G H e _ fun vs ds G1 H1 go hd ⟨n, hds, hn, I, i0, is, id⟩ => by
  subst hds
  cases hd with
  | cons hd hd2 =>
    cases hd2
    cases hd
    have x1 := e.gx go
    refine ⟨(n : Int), rfl, by omega, by omega, ?_⟩
    rw [Int.toNat_natCast]
    refine for_range (lo := 0) (n := n) (fun i σ' H' => ∃ G' L', Gx pen H0 G1 H1 G' H' ∧ Ev K pen H0 G' H' σ' L' ∧ I i L') ⟨G1, L, .refl, e.go go, i0⟩ (fun i σ' H' hi ⟨G', L', x, e', q⟩ => ?_) (fun σ' H' ⟨G', L', x, e', q⟩ => ?_)
    · refine is i L' hi q σ' G' H' _ e' (by rw [Int.zero_add]; exact .int _) _ fun σ2 L2 e2 h2 => ?_
      exact h2 σ2 G' H' _ e2 (fun σ3 G3 H3 L3 x3 e3 q3 => ⟨G3, L3, x.trans x3, e3, q3⟩) (fun v d G3 H3 x3 vw hd q3 => n2 v d G3 H3 (x1.trans (x.trans x3)) vw hd q3)
        (fun σ3 G3 H3 L3 x3 e3 q3 => n1 σ3 G3 H3 L3 (x1.trans (x.trans x3)) e3 q3) (fun σ3 G3 H3 L3 x3 e3 q3 => ⟨G3, L3, x.trans x3, e3, q3⟩) (fun v d G3 H3 x3 vw hd q3 => n5 v d G3 H3 (x1.trans (x.trans x3)) vw hd q3) (fun l ho o G3 H3 x3 vw h1 h2 h3 h4 q3 => n6 l ho o G3 H3 (x1.trans (x.trans x3)) vw h1 h2 h3 h4 q3)
    · exact n1 σ' G' H' L' (x1.trans x) e' (id L' q)
theorem s_while (I : Nat → Lv → Prop) (h0 : ∃ m, I m L) (h : ∀ m L', I m L' → ET K pen H0 tt L' fun b => (b = true → S K pen H0 t L' { D with nx := fun L2 => ∃ m', m' < m ∧ I m' L2, ct := fun L2 => ∃ m', m' < m ∧ I m' L2, bk := D.nx }) ∧ (b = false → D.nx L')) :
    S K pen H0 (tWhile tt t) L D := fun σ G H N e n1 n2 n3 n4 n5 n6 => by
  obtain ⟨m0, i0⟩ := h0
  refine ⟨fun m σ' H' => ∃ G' L', Gx pen H0 G H G' H' ∧ Ev K pen H0 G' H' σ' L' ∧ I m L', ⟨m0, G, L, .refl, e, i0⟩, ?_⟩
  rintro m σ1 H1 ⟨G1, L1, x1, e1, q1⟩
  refine h m L1 q1 σ1 G1 H1 e1 _ fun b G2 H2 go p => ?_
  have x2 := x1.trans (e1.gx go)
  cases b with
  | false => exact n1 σ1 G2 H2 L1 x2 (e1.go go) (p.2 rfl)
  | true =>
    refine ⟨fun σ' H' => ∃ G' L' m', m' < m ∧ Gx pen H0 G H G' H' ∧ Ev K pen H0 G' H' σ' L' ∧ I m' L', fun σ' H' ⟨G', L', m', hm, r⟩ => ⟨m', hm, G', L', r⟩, ?_⟩
    exact p.1 rfl σ1 G2 H2 _ (e1.go go) (fun σ3 G3 H3 L3 x3 e3 ⟨m', hm, q3⟩ => ⟨G3, L3, m', hm, x2.trans x3, e3, q3⟩) (fun v d G3 H3 x3 vw hd q3 => n2 v d G3 H3 (x2.trans x3) vw hd q3)
      (fun σ3 G3 H3 L3 x3 e3 q3 => n1 σ3 G3 H3 L3 (x2.trans x3) e3 q3) (fun σ3 G3 H3 L3 x3 e3 ⟨m', hm, q3⟩ => ⟨G3, L3, m', hm, x2.trans x3, e3, q3⟩) (fun v d G3 H3 x3 vw hd q3 => n5 v d G3 H3 (x2.trans x3) vw hd q3) (fun l ho o G3 H3 x3 vw h1 h2 h3 h4 q3 => n6 l ho o G3 H3 (x2.trans x3) vw h1 h2 h3 h4 q3)
/-- x op= e -/
theorem s_aug {i : Nat} {x : PyData} {r : TIp} (hi : L[i]? = some (some (.d x))) (h : E K pen H0 te L fun y => R2d K pen r x y fun d => D.nx (L.set i (some (.d d)))) : S K pen H0 (tAug i te r) L D := fun σ G H N e n1 _ _ _ _ _ => by
  obtain ⟨v, h1, h2⟩ := e.sl i _ hi
  refine ⟨v, h1, h σ G H e _ fun w y G1 H1 g1 d1 p => ?_⟩
  exact p v w G1 H1 g1.vw (dp_mono g1.gg _ _ h2) d1 _ fun z d G2 H2 g2 d2 q => n1 _ G2 H2 _ ((e.gx g1).trans ((e.go g1).gx g2)) (((e.go g1).go g2).set d2) q
/-! calls -/
def SpX {α : Type} (K : PySem.W.Frag) (ts : List Addr) (Wf : α → Prop) (enc : α → List PyData) (res : α → PyData → Prop) : Sp := fun vs H Q _ => ∃ (x : α) (G : Hp), Vw ⟨none, ts⟩ G H ∧ DpAll K G vs (enc x) ∧ Wf x ∧ ∀ v d G' H', Go ⟨none, ts⟩ G H G' H' → Dp K G' v d → res x d → Q v H'
def PK.Is : Bool → PK → Prop
  | false, .pen _ _ => True
  | true, .spr => True
  | _, _ => False
def SpXk {α : Type} (b : Bool) (K : PySem.W.Frag) (ts : List Addr) (Wf : α → Prop) (enc : α → List PyData) (res : α → PyData → Prop) : Sp := fun vs H Q _ => ∃ (x : α) (p : Pn) (G : Hp) (us : List V), PK.Is b p.k ∧ vs = .ref p.a :: us ∧ Vw ⟨some p, ts⟩ G H ∧ DpAll K G us (enc x) ∧ Wf x ∧ ∀ v d G' H', Go ⟨some p, ts⟩ G H G' H' → Dp K G' v d → res x d → Q v H'
def SpXF {α : Type} (K : PySem.W.Frag) (ts : List Addr) (Wf : α → Prop) (enc : α → List PyData) (res : α → PyData → Prop) : Sp := fun vs H Q _ => ∃ (x : α) (G : Hp), Vw ⟨none, ts⟩ G H ∧ DpAll K G vs (enc x) ∧ Wf x ∧ ∀ v d G' H', Go ⟨none, ts⟩ G H G' H' → Nd K (vnew H G' H') v d → res x d → Q v H'
/-- told, seen as data -/
theorem Go.see {pen : Pc} {G H G' H' : Hp} (vw : Vw pen G H) (g : Go pen G H G' H') : Go pen G H (vmax H G' H') H' := by
  have v := vw_max (H0 := H) g.vw vw.ok
  refine ⟨fun a o e => vmax_G (g.gg _ _ e), fun a h => ?_, g.od, v⟩
  rw [← g.nw a h]
  cases e : G' a with
  | some o => exact vmax_G e
  | none =>
    rw [vmax_new e]
    cases z : newL H H' a with
    | none => rfl
    | some o => exact absurd (newL_some z).1 h
theorem e_callXF {α : Type} {pn : Option Pn} {ts : List Addr} {Wf : α → Prop} {enc : α → List PyData} {res : α → PyData → Prop} {X : XK} (h : EA K ⟨pn, ts⟩ H0 tl L fun ds => ∃ x, ds = enc x ∧ Wf x ∧ ∀ d, res x d → P d) : E K ⟨pn, ts⟩ H0 (tCall (SpXF K ts Wf enc res) [] X tl) L P := fun σ G H e Q q =>
  h σ G H e _ fun vs ds G1 H1 go hd ⟨x, hx, h1, h2⟩ => ⟨x, G1, go.vw.plain, by rw [List.append_nil, ← hx]; exact hd, h1, fun v d G' H' go2 hd2 p => by
    have g3 := Go.see go.vw (go2.lift go.vw)
    exact q v d _ H' (go.trans g3) (dp_mono vnew_max _ _ (nd_dp _ _ hd2)) (h2 d p)⟩
theorem e_callX {α : Type} {pn : Option Pn} {ts : List Addr} {Wf : α → Prop} {enc : α → List PyData} {res : α → PyData → Prop} {X : XK} (h : EA K ⟨pn, ts⟩ H0 tl L fun ds => ∃ x, ds = enc x ∧ Wf x ∧ ∀ d, res x d → P d) : E K ⟨pn, ts⟩ H0 (tCall (SpX K ts Wf enc res) [] X tl) L P := fun σ G H e Q q =>
  h σ G H e _ fun vs ds G1 H1 go hd ⟨x, hx, h1, h2⟩ => ⟨x, G1, go.vw.plain, by rw [List.append_nil, ← hx]; exact hd, h1, fun v d G' H' go2 hd2 p => q v d G' H' (go.trans (go2.lift go.vw)) hd2 (h2 d p)⟩
abbrev SpXP {α : Type} (K : PySem.W.Frag) (ts : List Addr) (Wf : α → Prop) (enc : α → List PyData) (res : α → PyData → Prop) : Sp := SpXk false K ts Wf enc res
abbrev SpXS {α : Type} (K : PySem.W.Frag) (ts : List Addr) (Wf : α → Prop) (enc : α → List PyData) (res : α → PyData → Prop) : Sp := SpXk true K ts Wf enc res
theorem e_callXP {α : Type} {b : Bool} {p : Pn} {ts : List Addr} {Wf : α → Prop} {enc : α → List PyData} {res : α → PyData → Prop} {X : XK} {i : Nat} (hi : L[i]? = some (some .pen)) (h : EA K ⟨some p, ts⟩ H0 tl L fun ds => ∃ x, ds = enc x ∧ Wf x ∧ ∀ d, res x d → P d) (hk : PK.Is b p.k := by exact trivial) : E K ⟨some p, ts⟩ H0 (tCall (SpXk b K ts Wf enc res) [] X (tCons (tVar i) tl)) L P := fun σ G H e Q q => by
  obtain ⟨v, hv, p', hp, rfl⟩ := e.sl i _ hi
  refine ⟨_, hv, h σ G H e _ fun vs ds G1 H1 go hd ⟨x, hx, h1, h2⟩ => ?_⟩
  cases hp
  exact ⟨x, p, G1, vs, hk, by rw [List.append_nil], go.vw, by rw [← hx]; exact hd, h1, fun v d G' H' go2 hd2 p => q v d G' H' (go.trans go2) hd2 (h2 d p)⟩
/-! defs -/
def st0 (N : List Str) (ds : List PyData) : Lv := ds.map (fun d => some (.d d)) ++ List.replicate (N.length - ds.length) none
def stP (N : List Str) (ds : List PyData) : Lv := some .pen :: (ds.map (fun d => some (.d d)) ++ List.replicate (N.length - (ds.length + 1)) none)
theorem start_get {N : List Str} {vs : List V} {ds : List PyData} {G : Hp} (h : DpAll K G vs ds) : ∀ (i : Nat) av, (st0 N ds)[i]? = some (some av) → ∃ v d, av = .d d ∧ (start N vs)[i]? = some (some v) ∧ Dp K G v d := fun i av hi => by
  unfold st0 at hi
  unfold L2.start
  by_cases q : i < ds.length
  · rw [List.getElem?_append_left (by rw [List.length_map]; exact q), List.getElem?_map] at hi
    cases hd : ds[i]? with
    | none => rw [hd] at hi; cases hi
    | some d =>
      rw [hd] at hi
      obtain ⟨v, h1, h2⟩ := dpa_get h hd
      refine ⟨v, d, (Option.some.inj (Option.some.inj hi)).symm, ?_, h2⟩
      rw [List.getElem?_append_left (by rw [List.length_map, dpa_len h]; exact q), List.getElem?_map, h1]
      rfl
  · rw [List.getElem?_append_right (by rw [List.length_map]; omega)] at hi
    have z := List.mem_of_getElem? hi
    have z2 := (List.mem_replicate.mp z).2
    cases z2
theorem ev_start {ts : List Addr} {N : List Str} {vs : List V} {ds : List PyData} {G H : Hp} (h : DpAll K G vs ds) (v : Vw ⟨none, ts⟩ G H) : Ev K ⟨none, ts⟩ H G H (start N vs) (st0 N ds) := by
  refine ⟨v, v.ok, fun _ h => h, ?_, fun i av hi => ?_, fun i j ds' es l h1 _ _ _ => ?_⟩
  · unfold L2.start st0
    rw [List.length_append, List.length_append, List.length_map, List.length_map, List.length_replicate, List.length_replicate, dpa_len h]
  · obtain ⟨v, d, rfl, h1, h2⟩ := start_get h i av hi
    exact ⟨v, h1, h2⟩
  · obtain ⟨v, d, e, _⟩ := start_get h i _ h1
    cases e
theorem ev_startP {ts : List Addr} {N : List Str} {p : Pn} {vs : List V} {ds : List PyData} {G H : Hp} (h : DpAll K G vs ds) (v : Vw ⟨some p, ts⟩ G H) (hN : ∃ x r, N = x :: r) : Ev K ⟨some p, ts⟩ H G H (start N (.ref p.a :: vs)) (stP N ds) := by
  obtain ⟨x, r, rfl⟩ := hN
  have e1 : start (x :: r) (.ref p.a :: vs) = some (.ref p.a) :: start r vs := by
    unfold L2.start
    rw [List.length_cons, List.length_cons, Nat.add_sub_add_right]
    rfl
  have e2 : stP (x :: r) ds = some .pen :: st0 r ds := by
    unfold stP st0
    rw [List.length_cons, Nat.add_sub_add_right]
  rw [e1, e2]
  have l0 : (start r vs).length = (st0 r ds).length := by
    unfold L2.start st0
    rw [List.length_append, List.length_append, List.length_map, List.length_map, List.length_replicate, List.length_replicate, dpa_len h]
  refine ⟨v, v.ok, fun _ h => h, ?_, fun i av hi => ?_, fun i j ds' es l h1 _ _ _ => ?_⟩
  · rw [List.length_cons, List.length_cons, l0]
  · cases i with
    | zero =>
      have e := Option.some.inj (Option.some.inj hi)
      subst e
      exact ⟨_, rfl, p, rfl, rfl⟩
    | succ i =>
      obtain ⟨v, d, rfl, h1, h2⟩ := start_get h i av hi
      exact ⟨v, h1, h2⟩
  · cases i with
    | zero => cases h1
    | succ i =>
      obtain ⟨v, d, e, _⟩ := start_get h i _ h1
      cases e
end
section
variable {P : Program} {w : World} {K : PySem.W.Frag} {mg : Str → Option Value} {base : Heap}
/-- a def without the pen -/
theorem fnX {α : Type} {x qual : Str} {st : Stmt} {f : Addr} {fd : FuncData} {N ps : List Str} {k : Nat} {ts : List Addr} {Wf : α → Prop} {enc : α → List PyData} {res : α → PyData → Prop} (F : Fun K x qual st f fd) (S0 : FnScope N ps (defScope st)) (hl : ∀ x, Wf x → (enc x).length = ps.length)
    (hbody : ∀ (cdv : Value) (A : Around) (outer : List Env) (s : Shared) (H : Hp) (E : XK), Room k (A.deeper (envOfC qual (defScope st) s.heap.objs.size f cdv)) →
      ∃ t, PSs (cxOf CX0 P w K mg base N qual (defScope st) f cdv A outer s H E).nox (defBody st) t ∧ ∀ x, Wf x → S K ⟨none, ts⟩ H t (st0 N (enc x)) { nx := fun _ => res x .none, rt := res x }) : FnOk P w K mg base CX0 (k + 1) f fd ps (SpX K ts Wf enc res) := by
  refine F.ok S0 (fun vs H Q E h => ?_) (fun cdv A outer s H vs Q E hr h => ?_)
  · obtain ⟨x, G, _, h1, h2, _⟩ := h
    rw [dpa_len h1]
    exact hl x h2
  · obtain ⟨x, G, v, h1, h2, q⟩ := h
    obtain ⟨t, ht, hS⟩ := hbody cdv A outer s H E hr
    refine ⟨t, ht, hS x h2 (L2.start N vs) G H _ (ev_start h1 v) (fun σ' G' H' L' x e' p => ?_) (fun v d G' H' x vw hd p => ?_) (fun _ _ _ _ _ _ z => z.elim) (fun _ _ _ _ _ _ z => z.elim) (fun _ _ _ _ _ _ _ z => z.elim) (fun _ _ _ _ _ _ _ _ _ _ _ z => z.elim)⟩
    · exact q .non .none G' H' ⟨x.gg, x.nw, fun a o hp e => x.od a o hp (by rw [e]; exact fun z => by cases z) e, e'.vw⟩ .non p
    · exact q v d G' H' ⟨x.gg, x.nw, fun a o hp e => x.od a o hp (by rw [e]; exact fun z => by cases z) e, vw⟩ hd p
/-- a def that tells what is new -/
theorem fnXF {α : Type} {x qual : Str} {st : Stmt} {f : Addr} {fd : FuncData} {N ps : List Str} {k : Nat} {ts : List Addr} {Wf : α → Prop} {enc : α → List PyData} {res : α → PyData → Prop} (F : Fun K x qual st f fd) (S0 : FnScope N ps (defScope st)) (hl : ∀ x, Wf x → (enc x).length = ps.length)
    (hbody : ∀ (cdv : Value) (A : Around) (outer : List Env) (s : Shared) (H : Hp) (E : XK), Room k (A.deeper (envOfC qual (defScope st) s.heap.objs.size f cdv)) →
      ∃ t, PSs (cxOf CX0 P w K mg base N qual (defScope st) f cdv A outer s H E).nox (defBody st) t ∧ ∀ x, Wf x → S K ⟨none, ts⟩ H t (st0 N (enc x)) { nx := fun _ => False, rt := fun _ => False, rn := res x }) : FnOk P w K mg base CX0 (k + 1) f fd ps (SpXF K ts Wf enc res) := by
  refine F.ok S0 (fun vs H Q E h => ?_) (fun cdv A outer s H vs Q E hr h => ?_)
  · obtain ⟨x, G, _, h1, h2, _⟩ := h
    rw [dpa_len h1]
    exact hl x h2
  · obtain ⟨x, G, v, h1, h2, q⟩ := h
    obtain ⟨t, ht, hS⟩ := hbody cdv A outer s H E hr
    refine ⟨t, ht, hS x h2 (L2.start N vs) G H _ (ev_start h1 v) (fun _ _ _ _ _ _ z => z.elim) (fun _ _ _ _ _ _ _ z => z.elim) (fun _ _ _ _ _ _ z => z.elim) (fun _ _ _ _ _ _ z => z.elim) (fun v d G' H' x vw hd p => ?_) (fun _ _ _ _ _ _ _ _ _ _ _ z => z.elim)⟩
    exact q v d G' H' ⟨x.gg, x.nw, fun a o hp e => x.od a o hp (by rw [e]; exact fun z => by cases z) e, vw⟩ hd p
/-- a def whose first argument is the pen, the spring -/
theorem fnXk {α : Type} {b : Bool} {x qual : Str} {st : Stmt} {f : Addr} {fd : FuncData} {N ps : List Str} {k : Nat} {ts : List Addr} {Wf : α → Prop} {enc : α → List PyData} {res : α → PyData → Prop} (F : Fun K x qual st f fd) (S0 : FnScope N ps (defScope st)) (hN : ∃ x r, N = x :: r) (hl : ∀ x, Wf x → (enc x).length + 1 = ps.length)
    (hbody : ∀ (cdv : Value) (A : Around) (outer : List Env) (s : Shared) (H : Hp) (E : XK), Room k (A.deeper (envOfC qual (defScope st) s.heap.objs.size f cdv)) →
      ∃ t, PSs (cxOf CX0 P w K mg base N qual (defScope st) f cdv A outer s H E).nox (defBody st) t ∧ ∀ (p : Pn) x, PK.Is b p.k → Wf x → S K ⟨some p, ts⟩ H t (stP N (enc x)) { nx := fun _ => res x .none, rt := res x }) : FnOk P w K mg base CX0 (k + 1) f fd ps (SpXk b K ts Wf enc res) := by
  refine F.ok S0 (fun vs H Q E h => ?_) (fun cdv A outer s H vs Q E hr h => ?_)
  · obtain ⟨x, p, G, us, hk, rfl, _, h1, h2, _⟩ := h
    rw [List.length_cons, dpa_len h1]
    exact hl x h2
  · obtain ⟨x, p, G, us, hk, rfl, v, h1, h2, q⟩ := h
    obtain ⟨t, ht, hS⟩ := hbody cdv A outer s H E hr
    refine ⟨t, ht, hS p x hk h2 _ G H _ (ev_startP h1 v hN) (fun σ' G' H' L' x e' p => ?_) (fun v d G' H' x vw hd p => ?_) (fun _ _ _ _ _ _ z => z.elim) (fun _ _ _ _ _ _ z => z.elim) (fun _ _ _ _ _ _ _ z => z.elim) (fun _ _ _ _ _ _ _ _ _ _ _ z => z.elim)⟩
    · exact q .non .none G' H' ⟨x.gg, x.nw, fun a o hp e => x.od a o hp (by rw [e]; exact fun z => by cases z) e, e'.vw⟩ .non p
    · exact q v d G' H' ⟨x.gg, x.nw, fun a o hp e => x.od a o hp (by rw [e]; exact fun z => by cases z) e, vw⟩ hd p
theorem fnXP {α : Type} {x qual : Str} {st : Stmt} {f : Addr} {fd : FuncData} {N ps : List Str} {k : Nat} {ts : List Addr} {Wf : α → Prop} {enc : α → List PyData} {res : α → PyData → Prop} (F : Fun K x qual st f fd) (S0 : FnScope N ps (defScope st)) (hN : ∃ x r, N = x :: r) (hl : ∀ x, Wf x → (enc x).length + 1 = ps.length)
    (hbody : ∀ (cdv : Value) (A : Around) (outer : List Env) (s : Shared) (H : Hp) (E : XK), Room k (A.deeper (envOfC qual (defScope st) s.heap.objs.size f cdv)) →
      ∃ t, PSs (cxOf CX0 P w K mg base N qual (defScope st) f cdv A outer s H E).nox (defBody st) t ∧ ∀ (pa pc : Addr) (pn : Nat) x, Wf x → S K ⟨some ⟨pa, .pen pc pn⟩, ts⟩ H t (stP N (enc x)) { nx := fun _ => res x .none, rt := res x }) : FnOk P w K mg base CX0 (k + 1) f fd ps (SpXP K ts Wf enc res) :=
  fnXk F S0 hN hl fun cdv A outer s H E hr => by
    obtain ⟨t, ht, h⟩ := hbody cdv A outer s H E hr
    refine ⟨t, ht, fun p x hk hw => ?_⟩
    obtain ⟨a, kk⟩ := p
    cases kk with
    | pen c n => exact h a c n x hw
    | spr => exact hk.elim
theorem fnXS {α : Type} {x qual : Str} {st : Stmt} {f : Addr} {fd : FuncData} {N ps : List Str} {k : Nat} {ts : List Addr} {Wf : α → Prop} {enc : α → List PyData} {res : α → PyData → Prop} (F : Fun K x qual st f fd) (S0 : FnScope N ps (defScope st)) (hN : ∃ x r, N = x :: r) (hl : ∀ x, Wf x → (enc x).length + 1 = ps.length)
    (hbody : ∀ (cdv : Value) (A : Around) (outer : List Env) (s : Shared) (H : Hp) (E : XK), Room k (A.deeper (envOfC qual (defScope st) s.heap.objs.size f cdv)) →
      ∃ t, PSs (cxOf CX0 P w K mg base N qual (defScope st) f cdv A outer s H E).nox (defBody st) t ∧ ∀ (pa : Addr) x, Wf x → S K ⟨some ⟨pa, .spr⟩, ts⟩ H t (stP N (enc x)) { nx := fun _ => res x .none, rt := res x }) : FnOk P w K mg base CX0 (k + 1) f fd ps (SpXS K ts Wf enc res) :=
  fnXk F S0 hN hl fun cdv A outer s H E hr => by
    obtain ⟨t, ht, h⟩ := hbody cdv A outer s H E hr
    refine ⟨t, ht, fun p x hk hw => ?_⟩
    obtain ⟨a, kk⟩ := p
    cases kk with
    | pen c n => exact hk.elim
    | spr => exact h a x hw
end
end Dl
set_option Elab.async false
set_option linter.all false
set_option maxRecDepth 100000
namespace Dl
open PySem PySem.Spec PyProof.Rows L2
section
variable {K : PySem.W.Frag} {pen : Pc} {H0 : Hp} {L : Lv} {P P' : PyData → Prop} {ta tb tc te ti : TE} {tl tr : TA} {tt : TT} {t u : TS} {Pb : Bool → Prop} {D : Dn} {g : TG} {gs : TGs}
/-! ### a new list -/
def EL (K : PySem.W.Frag) (pen : Pc) (H0 : Hp) (te : TE) (L : Lv) (Pl : List PyData → Prop) : Prop := ∀ (σ : L2.St) (G H : Hp), Ev K pen H0 G H σ L → ∀ Q : VK, (∀ l vs ds G' H', Go pen G H G' H' → H' l = some (.lst vs) → G' l = none → H l = none → DpAll K G' vs ds → Pl ds → Q (.ref l) H') → te σ H Q
/-- G with a list that is not yet data -/
theorem Go.list {G H G' H' : Hp} {l : Addr} {vs : List V} (vw : Vw pen G H) (g : Go pen G H G' H') (h1 : H' l = some (.lst vs)) (h2 : G' l = none) (h3 : H l = none) : Go pen G H (upd G' l (.lst vs)) H' ∧ Same G' (upd G' l (.lst vs)) := by
  have s : Same G' (upd G' l (.lst vs)) := fun a o e => by
    rw [upd_ne (ne_of_none e h2)]
    exact e
  refine ⟨⟨g.gg.trans s, fun a h => ?_, g.od, ⟨fun a o e => ?_, fun a p => ?_, g.vw.ok⟩⟩, s⟩
  · rw [upd_ne (fun z => h (by rw [z]; exact h3))]
    exact g.nw a h
  · by_cases z : a = l
    · subst z
      rw [upd_same] at e
      rw [h1]; exact e
    · rw [upd_ne z] at e
      exact g.vw.vw a o e
  · rw [upd_ne (fun z => vw.ok.there p (by rw [z]; exact h3))]
    exact g.vw.no a p
theorem e_ofL (h : EL K pen H0 te L fun ds => P (.list ds)) : E K pen H0 te L P := fun σ G H e Q q => h σ G H e Q fun l vs ds G' H' g h1 h2 h3 h4 p => by
  obtain ⟨g2, s⟩ := Go.list e.vw g h1 h2 h3
  exact q _ _ _ _ g2 (.lst (.inl (.inl upd_same)) (dpa_mono s _ _ h4)) p
theorem EL.mono {Pl Pl' : List PyData → Prop} (h : EL K pen H0 te L Pl) (k : ∀ d, Pl d → Pl' d) : EL K pen H0 te L Pl' := fun σ G H e Q q => h σ G H e Q fun l vs ds G' H' g h1 h2 h3 h4 p => q l vs ds G' H' g h1 h2 h3 h4 (k ds p)
/-! ### comprehensions -/
/-- POk behind a write elsewhere -/
theorem POk.upd {H H1 : Hp} {D : Addr} {o : HO} (h : POk pen H) (h1 : POk pen H1) (hD : H1 D = none) (hk : ∀ q, H D ≠ some (LamX.CodeO D q)) : POk pen (L2.upd H D o) := by
  refine ⟨fun p hp => (h.1 p hp).mono fun a u ho e => ?_, fun P hP => ?_⟩
  · obtain ⟨xs, k⟩ := (h1.1 p hp).lst ho
    rw [upd_ne (ne_of_none k hD)]
    exact e
  · exact tabX_upd (h.2 P hP) (fun z => h1.there (.inr hP) (by rw [z]; exact hD)) hk
/-- an object that was new at H1 and is not data changes -/
theorem Go.mut {G H1 G' H' : Hp} {D : Addr} {o : HO} (v1 : Vw pen G H1) (hD : H1 D = none) (gd : G' D = none) (hk : ∀ q, H' D ≠ some (LamX.CodeO D q)) (g : Go pen G H1 G' H') : Go pen G H1 G' (upd H' D o) := by
  refine ⟨g.gg, g.nw, fun a o hp e => ?_, ⟨fun a o e => ?_, g.vw.no, ?_⟩⟩
  · rw [upd_ne (ne_of_none e hD)]
    exact g.od a o hp e
  · rw [upd_ne (fun z => by rw [z, gd] at e; cases e)]
    exact g.vw.vw a o e
  · exact g.vw.ok.upd v1.ok hD hk
def LcI (K : PySem.W.Frag) (pen : Pc) (G H1 : Hp) (D : Addr) (J : Nat → List PyData → Prop) (i : Nat) (H' : Hp) : Prop :=
  ∃ G' vs acc, Go pen G H1 G' H' ∧ H' D = some (.lst vs) ∧ G' D = none ∧ DpAll K G' vs acc ∧ J i acc ∧ acc.length ≤ i
theorem lc_start {G H1 : Hp} {D : Addr} {J : Nat → List PyData → Prop} (v : Vw pen G H1) (hD : H1 D = none) (j0 : J 0 []) : LcI K pen G H1 D J 0 (upd H1 D (.lst [])) := by
  refine ⟨G, [], [], Go.hid v hD, upd_same, ?_, .nil, j0, Nat.le_refl _⟩
  cases q : G D with
  | none => rfl
  | some o => rw [v.vw _ _ q] at hD; cases hD
theorem lc_end {G H G1 H1 H' : Hp} {D : Addr} {J : Nat → List PyData → Prop} {n : Nat} {Q : VK} {Pl : List PyData → Prop} (go : Go pen G H G1 H1) (hD : H1 D = none) (I : LcI K pen G1 H1 D J n H') (j1 : ∀ acc, J n acc → Pl acc)
    (q : ∀ l vs ds G' H', Go pen G H G' H' → H' l = some (.lst vs) → G' l = none → H l = none → DpAll K G' vs ds → Pl ds → Q (.ref l) H') : Q (.ref D) H' := by
  obtain ⟨G', vs, acc, g, h1, h2, h3, h4, _⟩ := I
  refine q D vs acc G' H' (go.trans g) h1 h2 ?_ h3 (j1 acc h4)
  cases z : H D with
  | none => rfl
  | some o => exact absurd hD (go.dom (by rw [z]; exact fun z => by cases z))
theorem lc_turn {G H1 G' H' : Hp} {D : Addr} {J : Nat → List PyData → Prop} {i : Nat} {vs : List V} {acc : List PyData} {σ2 : L2.St} {L2 : Lv} (v1 : Vw pen G H1) (hD : H1 D = none) (hi : i < 100000) (go : Go pen G H1 G' H') (h1 : H' D = some (.lst vs)) (h2 : G' D = none) (h3 : DpAll K G' vs acc) (h5 : acc.length ≤ i)
    (e2 : Ev K pen H0 G' H' σ2 L2) (h : ET K pen H0 tt L2 fun b => (b = true → E K pen H0 te L2 fun d => J (i + 1) (acc ++ [d])) ∧ (b = false → J (i + 1) acc)) :
    tt σ2 H' fun b H3 => if b = true then te σ2 H3 fun y H4 => ∃ acc, H4 D = some (.lst acc) ∧ acc.length < sizeLine ∧ LcI K pen G H1 D J (i + 1) (upd H4 D (.lst (acc ++ [y]))) else LcI K pen G H1 D J (i + 1) H3 := by
  have np : ¬ IsPn pen D := fun p => v1.ok.there p hD
  have hz : H' D ≠ none := by rw [h1]; exact fun z => by cases z
  refine h σ2 G' H' e2 _ fun b G3 H3 g3 p => ?_
  have k1 : H3 D = some (.lst vs) := g3.od D _ np h1
  have k2 : G3 D = none := (g3.nw D hz).trans h2
  cases b with
  | true =>
    show te σ2 H3 _
    refine p.1 rfl σ2 G3 H3 (e2.go g3) _ fun y d G4 H4 g4 d4 p4 => ?_
    have m1 : H4 D = some (.lst vs) := g4.od D _ np k1
    have m2 : G4 D = none := (g4.nw D (by rw [k1]; exact fun z => by cases z)).trans k2
    have m3 := dpa_mono (g3.gg.trans g4.gg) _ _ h3
    refine ⟨vs, m1, Nat.lt_of_lt_of_le (Nat.lt_of_le_of_lt (by rw [dpa_len h3]; exact h5) hi) (by decide : 100000 ≤ sizeLine), G4, vs ++ [y], acc ++ [d], Go.mut v1 hD m2 (code_ne m1 rfl) ((go.trans g3).trans g4), upd_same, m2, dpa_app m3 (.cons d4 .nil), p4, ?_⟩
    rw [List.length_append]
    show acc.length + 1 ≤ i + 1
    omega
  | false =>
    show LcI K pen G H1 D J (i + 1) H3
    exact ⟨G3, vs, acc, go.trans g3, k1, k2, dpa_mono g3.gg _ _ h3, p.2 rfl, by omega⟩
theorem wipe1 (σ : L2.St) (j : Nat) (x : Option V) : wipe ((wipe σ [j]).set j x) [j] = wipe σ [j] := by
  show ((σ.set j none).set j x).set j none = σ.set j none
  rw [List.set_set, List.set_set]
theorem wipe2 (σ : L2.St) (j k : Nat) (x y : Option V) : wipe (((wipe σ [j, k]).set j x).set k y) [j, k] = wipe σ [j, k] := by
  show (((((σ.set k none).set j none).set j x).set k y).set k none).set j none = (σ.set k none).set j none
  apply List.ext_getElem?
  intro m
  simp only [List.getElem?_set, List.length_set]
  by_cases h1 : j = m <;> by_cases h2 : k = m <;> simp [h1, h2] <;> (try split) <;> simp_all
theorem ev_wipe1 {G H : Hp} {σ : L2.St} (e : Ev K pen H0 G H σ L) (j : Nat) : Ev K pen H0 G H (wipe σ [j]) (L.set j none) := e.unset j
theorem ev_wipe2 {G H : Hp} {σ : L2.St} (e : Ev K pen H0 G H σ L) (j k : Nat) : Ev K pen H0 G H (wipe σ [j, k]) ((L.set k none).set j none) := (e.unset k).unset j
/-- one turn, by data -/
abbrev LcT (K : PySem.W.Frag) (pen : Pc) (H0 : Hp) (tt : TT) (te : TE) (L2 : Lv) (acc : List PyData) (Jn : List PyData → Prop) : Prop :=
  ET K pen H0 tt L2 fun b => (b = true → E K pen H0 te L2 fun d => Jn (acc ++ [d])) ∧ (b = false → Jn acc)
theorem el_lcR {Pl : List PyData → Prop} {j : Nat} (h : EA K pen H0 tl L fun ds => ∃ n : Nat, ds = [.int n] ∧ n ≤ 100000 ∧ ∃ J : Nat → List PyData → Prop, J 0 [] ∧
    (∀ (i : Nat) acc, i < n → J i acc → LcT K pen H0 tt te ((L.set j none).set j (some (.d (.int i)))) acc (J (i + 1))) ∧ (∀ acc, J n acc → Pl acc)) :
    EL K pen H0 (tLc (iRng1 tl) (gName j) tt te [j]) L Pl := fun σ G H e Q q => h σ G H e _ fun vs ds G1 H1 go hd ⟨n, hds, hn, J, j0, js, je⟩ => by
  subst hds
  cases hd with
  | cons hd hd2 =>
    cases hd2
    cases hd
    refine ⟨(n : Int), rfl, by omega, by omega, fun Dl hD => ?_⟩
    rw [Int.toNat_natCast]
    refine lc_range (lo := 0) (n := n) (LcI K pen G1 H1 Dl J) (lc_start go.vw hD j0) (fun i H' hi ⟨G', vs, acc, g, h1, h2, h3, h4, h5⟩ => ?_) (fun H' I => lc_end go hD I je q)
    show wipe ((wipe σ [j]).set j (some (.int ((0 : Int) + (i : Int))))) [j] = wipe σ [j] ∧ tt ((wipe σ [j]).set j (some (.int ((0 : Int) + (i : Int))))) H' _
    refine ⟨wipe1 _ _ _, ?_⟩
    rw [Int.zero_add]
    exact lc_turn go.vw hD (by omega) g h1 h2 h3 h5 ((ev_wipe1 ((e.go go).go g) j).set (.int _)) (js i acc hi h4)
theorem e_lcR {j : Nat} (h : EA K pen H0 tl L fun ds => ∃ n : Nat, ds = [.int n] ∧ n ≤ 100000 ∧ ∃ J : Nat → List PyData → Prop, J 0 [] ∧
    (∀ (i : Nat) acc, i < n → J i acc → LcT K pen H0 tt te ((L.set j none).set j (some (.d (.int i)))) acc (J (i + 1))) ∧ (∀ acc, J n acc → P (.list acc))) :
    E K pen H0 (tLc (iRng1 tl) (gName j) tt te [j]) L P := e_ofL (el_lcR h)
theorem el_lcT {Pl : List PyData → Prop} {j : Nat} (h : E K pen H0 ta L fun d => ∃ ds, d = .tuple ds ∧ ds.length ≤ 100000 ∧ ∃ J : Nat → List PyData → Prop, J 0 [] ∧
    (∀ (i : Nat) x acc, ds[i]? = some x → J i acc → LcT K pen H0 tt te ((L.set j none).set j (some (.d x))) acc (J (i + 1))) ∧ (∀ acc, J ds.length acc → Pl acc)) :
    EL K pen H0 (tLc (iTup K ta) (gName j) tt te [j]) L Pl := fun σ G H e Q q => h σ G H e _ fun v d G1 H1 go hd ⟨ds, hds, hn, J, j0, js, je⟩ => by
  subst hds
  cases hd with
  | tup hs ha =>
    rename_i a xs
    refine ⟨a, rfl, ⟨xs, sqT_mono go.vw.vw hs⟩, fun Dl hD => ?_⟩
    refine lc_tup (xs := xs) (LcI K pen G1 H1 Dl J) (lc_start go.vw hD j0) (fun i H' _ ⟨G', vs, acc, g, _⟩ => sqT_mono (g.gg.trans g.vw.vw) hs) (fun i x H' hx ⟨G', vs, acc, g, h1, h2, h3, h4, h5⟩ => ?_) (fun H' I => ?_)
    · obtain ⟨z, hz, hd⟩ := dpa_getV ha hx
      refine ⟨wipe1 _ _ _, ?_⟩
      have := (List.getElem?_eq_some_iff.mp hz).1
      exact lc_turn go.vw hD (by omega) g h1 h2 h3 h5 ((ev_wipe1 ((e.go go).go g) j).set (dp_mono g.gg _ _ hd)) (js i z acc hz h4)
    · rw [dpa_len ha] at I
      exact lc_end go hD I je q
theorem e_lcT {j : Nat} (h : E K pen H0 ta L fun d => ∃ ds, d = .tuple ds ∧ ds.length ≤ 100000 ∧ ∃ J : Nat → List PyData → Prop, J 0 [] ∧
    (∀ (i : Nat) x acc, ds[i]? = some x → J i acc → LcT K pen H0 tt te ((L.set j none).set j (some (.d x))) acc (J (i + 1))) ∧ (∀ acc, J ds.length acc → P (.list acc))) :
    E K pen H0 (tLc (iTup K ta) (gName j) tt te [j]) L P := e_ofL (el_lcT h)
theorem el_lcL {Pl : List PyData → Prop} {j : Nat} (h : E K pen H0 ta L fun d => ∃ ds, d = .list ds ∧ ds.length ≤ 100000 ∧ ∃ J : Nat → List PyData → Prop, J 0 [] ∧
    (∀ (i : Nat) x acc, ds[i]? = some x → J i acc → LcT K pen H0 tt te ((L.set j none).set j (some (.d x))) acc (J (i + 1))) ∧ (∀ acc, J ds.length acc → Pl acc)) :
    EL K pen H0 (tLc (iList K ta) (gName j) tt te [j]) L Pl := fun σ G H e Q q => h σ G H e _ fun v d G1 H1 go hd ⟨ds, hds, hn, J, j0, js, je⟩ => by
  subst hds
  cases hd with
  | lst hs ha =>
    rename_i a xs
    refine ⟨a, rfl, ⟨xs, sqL_mono go.vw.vw hs⟩, fun Dl hD => ?_⟩
    refine lc_list (xs := xs) (LcI K pen G1 H1 Dl J) (lc_start go.vw hD j0) (fun i H' _ ⟨G', vs, acc, g, _⟩ => sqL_mono (g.gg.trans g.vw.vw) hs) (fun i x H' hx ⟨G', vs, acc, g, h1, h2, h3, h4, h5⟩ => ?_) (fun H' I => ?_)
    · obtain ⟨z, hz, hd⟩ := dpa_getV ha hx
      refine ⟨wipe1 _ _ _, ?_⟩
      have := (List.getElem?_eq_some_iff.mp hz).1
      exact lc_turn go.vw hD (by omega) g h1 h2 h3 h5 ((ev_wipe1 ((e.go go).go g) j).set (dp_mono g.gg _ _ hd)) (js i z acc hz h4)
    · rw [dpa_len ha] at I
      exact lc_end go hD I je q
theorem e_lcL {j : Nat} (h : E K pen H0 ta L fun d => ∃ ds, d = .list ds ∧ ds.length ≤ 100000 ∧ ∃ J : Nat → List PyData → Prop, J 0 [] ∧
    (∀ (i : Nat) x acc, ds[i]? = some x → J i acc → LcT K pen H0 tt te ((L.set j none).set j (some (.d x))) acc (J (i + 1))) ∧ (∀ acc, J ds.length acc → P (.list acc))) :
    E K pen H0 (tLc (iList K ta) (gName j) tt te [j]) L P := e_ofL (el_lcL h)
/-- [e for a, b in zip(x, y)], two tuples or two lists of one length -/
theorem el_lcZ {Pl : List PyData → Prop} {j k : Nat} (h : EA K pen H0 tl L fun ds => ∃ as bs, (ds = [.tuple as, .tuple bs] ∨ ds = [.list as, .list bs]) ∧ as.length = bs.length ∧ as.length ≤ 100000 ∧ ∃ J : Nat → List PyData → Prop, J 0 [] ∧
    (∀ (i : Nat) x y acc, as[i]? = some x → bs[i]? = some y → J i acc → LcT K pen H0 tt te ((((L.set k none).set j none).set j (some (.d x))).set k (some (.d y))) acc (J (i + 1))) ∧ (∀ acc, J as.length acc → Pl acc)) :
    EL K pen H0 (tLc (RZ.iZipA K tl) (gTup K 2 (gCons (gName j) (gCons (gName k) gNil))) tt te [j, k]) L Pl := fun σ G H e Q q => h σ G H e _ fun vs ds G1 H1 go hd ⟨as, bs, hds, hl, hn, J, j0, js, je⟩ => by
  have turn : ∀ (Dl : Addr) (i : Nat) (H' : Hp) (x y : V) (T : Addr) (a b : PyData), H1 Dl = none → as[i]? = some a → bs[i]? = some b → (∀ G', Same G1 G' → Dp K G' x a ∧ Dp K G' y b) → LcI K pen G1 H1 Dl J i H' → H' T = none →
      gTup K 2 (gCons (gName j) (gCons (gName k) gNil)) (.ref T) (wipe σ [j, k]) (upd H' T (.tup [x, y])) fun σ2 H2 => wipe σ2 [j, k] = wipe σ [j, k] ∧ tt σ2 H2 fun b H3 =>
        if b = true then te σ2 H3 fun y H4 => ∃ acc, H4 Dl = some (.lst acc) ∧ acc.length < sizeLine ∧ LcI K pen G1 H1 Dl J (i + 1) (upd H4 Dl (.lst (acc ++ [y]))) else LcI K pen G1 H1 Dl J (i + 1) H3 := fun Dl i H' x y T a b hD ha hb hxy ⟨G', vs, acc, g, h1, h2, h3, h4, h5⟩ hT => by
    have g2 := Go.new g.vw (o := .tup [x, y]) hT
    have nT : Dl ≠ T := ne_of_none h1 hT
    refine ⟨T, [x, y], rfl, .inl (.inl upd_same), rfl, x, [y], rfl, y, [], rfl, rfl, wipe2 _ _ _ _ _, ?_⟩
    have hi := (List.getElem?_eq_some_iff.mp ha).1
    have ex := ((((ev_wipe2 ((e.go go).go g) j k).go g2).set (i := j) (dp_mono g2.gg _ _ (hxy G' g.gg).1)).set (i := k) (dp_mono g2.gg _ _ (hxy G' g.gg).2))
    refine lc_turn go.vw hD (by omega) (g.trans g2) ?_ ?_ (dpa_mono g2.gg _ _ h3) h5 ex (js i a b acc ha hb h4)
    · rw [upd_ne nT]; exact h1
    · rw [upd_ne nT]; exact h2
  rcases hds with rfl | rfl
  · cases hd with
    | cons hd hd2 =>
      cases hd2 with
      | cons hd3 hd4 =>
        cases hd4
        cases hd with
        | tup hs ha =>
          cases hd3 with
          | tup hs' ha' =>
            rename_i a xs a' ys
            refine ⟨a, a', xs, ys, rfl, .inr ⟨sqT_mono go.vw.vw hs, sqT_mono go.vw.vw hs', fun Dl hD => ?_⟩⟩
            refine ⟨fun i m H' => m = as.length - i ∧ i ≤ as.length ∧ LcI K pen G1 H1 Dl J i H', ⟨as.length, rfl, Nat.zero_le _, lc_start go.vw hD j0⟩, ?_⟩
            rintro i m H' ⟨rfl, hi, I⟩
            obtain ⟨G', vs, acc, g, r⟩ := id I
            have z1 : SqT K H' a xs := sqT_mono (g.gg.trans g.vw.vw) hs
            have z2 : SqT K H' a' ys := sqT_mono (g.gg.trans g.vw.vw) hs'
            by_cases hlt : i < as.length
            · obtain ⟨x, hx, dx⟩ := dpa_get ha (List.getElem?_eq_getElem hlt)
              obtain ⟨y, hy, dy⟩ := dpa_get ha' (List.getElem?_eq_getElem (hl ▸ hlt))
              refine .inr ⟨⟨xs, ys, x, y, z1, z2, hx, hy⟩, LcI K pen G1 H1 Dl J (i + 1), fun H2 I2 => ⟨as.length - (i + 1), by omega, rfl, hlt, I2⟩, fun v H2 hv => ?_⟩
              obtain ⟨T, x', y', rfl, hT, rfl, f1, f2⟩ := hv
              have e1 : x' = x := Option.some.inj ((f1 _ z1).symm.trans hx)
              have e2 : y' = y := Option.some.inj ((f2 _ z2).symm.trans hy)
              subst e1 e2
              exact turn Dl i H' x' y' T _ _ hD (List.getElem?_eq_getElem hlt) (List.getElem?_eq_getElem (hl ▸ hlt)) (fun G2 s => ⟨dp_mono s _ _ dx, dp_mono s _ _ dy⟩) I hT
            · have e1 : i = as.length := by omega
              subst e1
              exact .inl ⟨⟨xs, ys, z1, z2, .inl (by rw [dpa_len ha]; exact Nat.le_refl _)⟩, lc_end go hD I je q⟩
  · cases hd with
    | cons hd hd2 =>
      cases hd2 with
      | cons hd3 hd4 =>
        cases hd4
        cases hd with
        | lst hs ha =>
          cases hd3 with
          | lst hs' ha' =>
            rename_i a xs a' ys
            refine ⟨a, a', xs, ys, rfl, .inl ⟨sqL_mono go.vw.vw hs, sqL_mono go.vw.vw hs', fun Dl hD => ?_⟩⟩
            refine ⟨fun i m H' => m = as.length - i ∧ i ≤ as.length ∧ LcI K pen G1 H1 Dl J i H', ⟨as.length, rfl, Nat.zero_le _, lc_start go.vw hD j0⟩, ?_⟩
            rintro i m H' ⟨rfl, hi, I⟩
            obtain ⟨G', vs, acc, g, r⟩ := id I
            have z1 : SqL K H' a xs := sqL_mono (g.gg.trans g.vw.vw) hs
            have z2 : SqL K H' a' ys := sqL_mono (g.gg.trans g.vw.vw) hs'
            by_cases hlt : i < as.length
            · obtain ⟨x, hx, dx⟩ := dpa_get ha (List.getElem?_eq_getElem hlt)
              obtain ⟨y, hy, dy⟩ := dpa_get ha' (List.getElem?_eq_getElem (hl ▸ hlt))
              refine .inr ⟨⟨xs, ys, x, y, z1, z2, hx, hy⟩, LcI K pen G1 H1 Dl J (i + 1), fun H2 I2 => ⟨as.length - (i + 1), by omega, rfl, hlt, I2⟩, fun v H2 hv => ?_⟩
              obtain ⟨T, x', y', rfl, hT, rfl, f1, f2⟩ := hv
              have e1 : x' = x := Option.some.inj ((f1 _ z1).symm.trans hx)
              have e2 : y' = y := Option.some.inj ((f2 _ z2).symm.trans hy)
              subst e1 e2
              exact turn Dl i H' x' y' T _ _ hD (List.getElem?_eq_getElem hlt) (List.getElem?_eq_getElem (hl ▸ hlt)) (fun G2 s => ⟨dp_mono s _ _ dx, dp_mono s _ _ dy⟩) I hT
            · have e1 : i = as.length := by omega
              subst e1
              exact .inl ⟨⟨xs, ys, z1, z2, .inl (by rw [dpa_len ha]; exact Nat.le_refl _)⟩, lc_end go hD I je q⟩
theorem e_lcZ {j k : Nat} (h : EA K pen H0 tl L fun ds => ∃ as bs, (ds = [.tuple as, .tuple bs] ∨ ds = [.list as, .list bs]) ∧ as.length = bs.length ∧ as.length ≤ 100000 ∧ ∃ J : Nat → List PyData → Prop, J 0 [] ∧
    (∀ (i : Nat) x y acc, as[i]? = some x → bs[i]? = some y → J i acc → LcT K pen H0 tt te ((((L.set k none).set j none).set j (some (.d x))).set k (some (.d y))) acc (J (i + 1))) ∧ (∀ acc, J as.length acc → P (.list acc))) :
    E K pen H0 (tLc (RZ.iZipA K tl) (gTup K 2 (gCons (gName j) (gCons (gName k) gNil))) tt te [j, k]) L P := e_ofL (el_lcZ h)
theorem et_yes (h : Pb true) : ET K pen H0 tYes L Pb := fun σ G H e Q q => q true G H (.refl e.vw) h
/-! ### slices, sums of tuples and lists -/
def cutD (xs : List PyData) (lo hi : Option Int) : List PyData := (xs.drop (HT.sIx xs.length 0 lo)).take (HT.sIx xs.length xs.length hi - HT.sIx xs.length 0 lo)
theorem dpa_cut {G : Hp} {vs : List V} {ds : List PyData} (h : DpAll K G vs ds) (lo hi : Option Int) : DpAll K G (cutV vs lo hi) (cutD ds lo hi) := by
  unfold cutV cutD
  rw [dpa_len h]
  exact dpa_take _ (dpa_drop _ h)
theorem r_slT {ds : List PyData} {lo hi : Option Int} (p : P (.tuple (cutD ds lo hi))) : RSd K pen (rSlA K) (.tuple ds) lo hi P := fun x G H v hx Q q => by
  cases hx with
  | tup hs ha =>
    rename_i a xs
    refine ⟨a, xs, rfl, sqT_mono v.vw hs, fun ⟨w1, w2⟩ => ?_, fun _ p' hp => ?_⟩
    · have e : cutD ds lo hi = ds := by
        unfold cutD
        rw [← dpa_len ha, w1, w2, dpa_len ha]
        show ds.take (ds.length - 0) = ds
        rw [Nat.sub_zero, List.take_length]
      rw [e] at p
      exact q _ _ G H (.refl v) (.tup hs ha) p
    · have g := Go.new v (o := .tup (cutV xs lo hi)) hp
      exact q _ _ _ _ g (.tup (.inl (.inl upd_same)) (dpa_mono g.gg _ _ (dpa_cut ha lo hi))) p
theorem r_slL {ds : List PyData} {lo hi : Option Int} (p : P (.list (cutD ds lo hi))) : RSd K pen (rSlL K) (.list ds) lo hi P := fun x G H v hx Q q => by
  cases hx with
  | lst hs ha =>
    rename_i a xs
    refine ⟨a, xs, rfl, sqL_mono v.vw hs, fun p' hp => ?_⟩
    have g := Go.new v (o := .lst (cutV xs lo hi)) hp
    exact q _ _ _ _ g (.lst (.inl (.inl upd_same)) (dpa_mono g.gg _ _ (dpa_cut ha lo hi))) p
theorem r_catT {as bs : List PyData} (hl : as.length + bs.length ≤ 100000) (p : P (.tuple (as ++ bs))) : R2d K pen (rCatA K) (.tuple as) (.tuple bs) P := fun x y G H v hx hy Q q => by
  cases hx with
  | tup hs ha =>
    cases hy with
    | tup hs' ha' =>
      rename_i a xs a' ys
      refine ⟨a, a', xs, ys, rfl, rfl, sqT_mono v.vw hs, sqT_mono v.vw hs', Nat.le_trans (by rw [dpa_len ha, dpa_len ha']; exact hl) (by decide : 100000 ≤ sizeLine), fun e => ?_, fun _ e => ?_, fun _ _ p' hp => ?_⟩
      · subst e
        cases ha
        exact q _ _ G H (.refl v) (.tup hs' ha') p
      · subst e
        cases ha'
        rw [List.append_nil] at p
        exact q _ _ G H (.refl v) (.tup hs ha) p
      · have g := Go.new v (o := .tup (xs ++ ys)) hp
        exact q _ _ _ _ g (.tup (.inl (.inl upd_same)) (dpa_mono g.gg _ _ (dpa_app ha ha'))) p
/-! ### isinstance -/
def tyD : PyData → String
  | .none => "NoneType"
  | .bool _ => "bool"
  | .int _ => "int"
  | .str _ => "str"
  | .list _ => "list"
  | .tuple _ => "tuple"
  | .dict _ => "dict"
theorem tyx_of {G H : Hp} (s : Same G H) : ∀ {v : V} {d : PyData}, Dp K G v d → TyX K H v (.type (tyD d))
  | _, _, .non => .base .non
  | _, _, .bl b => .base (.bl b)
  | _, _, .int i => .base (.int i)
  | _, _, .str x => .base (.str x)
  | _, _, .lst hs _ => by
    rcases hs with (h | ⟨o, h⟩) | ⟨o, its, n, h, hc, _⟩
    · exact .base (.lst (s _ _ h))
    · exact .base (.frz (s _ _ h))
    · exact .kList h hc
  | _, _, .tup hs _ => by
    rcases hs with (h | ⟨o, h⟩) | ⟨o, its, n, h, hc, _⟩
    · exact .base (.tup (s _ _ h))
    · exact .fTuple (s _ _ h)
    · exact .kTuple h hc
def isS (a T : String) : Bool := a == T || (a == "bool" && T == "int")
def isD (d : PyData) (T : String) : Bool := isS (tyD d) T
theorem kit_isS (a T : String) (ha : a = "NoneType" ∨ a = "bool" ∨ a = "int" ∨ a = "str" ∨ a = "list" ∨ a = "tuple") (hT : T = "int" ∨ T = "bool" ∨ T = "str" ∨ T = "tuple" ∨ T = "list") : kitB a T = some (isS a T) := by
  rcases ha with rfl | rfl | rfl | rfl | rfl | rfl <;> rcases hT with rfl | rfl | rfl | rfl | rfl <;> decide +kernel
theorem kit_isD (d : PyData) (T : String) (hT : T = "int" ∨ T = "bool" ∨ T = "str" ∨ T = "tuple" ∨ T = "list") (hd : ∀ x, d ≠ .dict x) : kitB (tyD d) T = some (isD d T) := by
  refine kit_isS _ _ ?_ hT
  cases d with
  | dict x => exact absurd rfl (hd x)
  | none => exact .inl rfl
  | bool _ => exact .inr (.inl rfl)
  | int _ => exact .inr (.inr (.inl rfl))
  | str _ => exact .inr (.inr (.inr (.inl rfl)))
  | list _ => exact .inr (.inr (.inr (.inr (.inl rfl))))
  | tuple _ => exact .inr (.inr (.inr (.inr (.inr rfl))))
theorem e_isi {T : String} (hT : T = "int" ∨ T = "bool" ∨ T = "str" ∨ T = "tuple" ∨ T = "list") (h : E K pen H0 ta L fun d => P (.bool (isD d T))) : E K pen H0 (tCB (rIsi K) (tCons ta (tCons (tC (.ty T)) tNil))) L P := fun σ G H e Q q =>
  h σ G H e _ fun v d G1 H1 go hd p => by
    refine ⟨v, .ty T, .type (tyD d), .type T, isD d T, rfl, .ty T, tyx_of go.vw.vw hd, kit_ty (kit_isD d T hT fun x z => ?_), q _ _ G1 H1 go (.bl _) p⟩
    subst z
    cases hd
end
end Dl
set_option Elab.async false
set_option linter.all false
set_option maxRecDepth 100000
namespace Dl
open PySem PySem.Spec PyProof.Rows L2
section
variable {K : PySem.W.Frag} {pen : Pc} {H0 : Hp} {L : Lv} {P P' : PyData → Prop} {ta tb tc te ti : TE} {tl tr : TA} {tt : TT} {t u : TS} {Pb : Bool → Prop} {D : Dn} {g : TG} {gs : TGs}
/-! ### objects of one's own, that change -/
theorem Ev.setOwn {G H : Hp} {σ : L2.St} (e : Ev K pen H0 G H σ L) {i : Nat} {l : Addr} {ho : HO} {o : OO} (hl : H l = some ho) (h0l : H0 l = none) (gl : G l = none) (old : ∀ (j : Nat) (es : OO), i ≠ j → L[j]? = some (some (.own es)) → σ[j]? ≠ some (some (.ref l))) (h : OwnOk K G l ho o) : Ev K pen H0 G H (σ.set i (some (.ref l))) (L.set i (some (.own o))) := by
  have here : ∀ (j : Nat) (av : AV), (L.set i (some (.own o)))[j]? = some (some av) → i = j → av = .own o ∧ (σ.set i (some (.ref l)))[j]? = some (some (.ref l)) := fun j av hj q => by
    subst q
    have hl : i < L.length := by
      have := (List.getElem?_eq_some_iff.mp hj).1
      rw [List.length_set] at this; exact this
    rw [List.getElem?_set_self hl] at hj
    exact ⟨(Option.some.inj (Option.some.inj hj)).symm, List.getElem?_set_self (by rw [e.len]; exact hl)⟩
  refine ⟨e.vw, e.h0, e.dom, by rw [List.length_set, List.length_set]; exact e.len, fun j av hj => ?_, fun j k ds' es l' h1 h2 h3 h4 => ?_⟩
  · by_cases q : i = j
    · obtain ⟨rfl, k⟩ := here j av hj q
      exact ⟨_, k, l, ho, rfl, hl, h0l, gl, h⟩
    · rw [List.getElem?_set_ne q] at hj
      obtain ⟨w, k1, k2⟩ := e.sl j av hj
      exact ⟨w, by rw [List.getElem?_set_ne q]; exact k1, k2⟩
  · by_cases q1 : i = j
    · by_cases q2 : i = k
      · exact q1.symm.trans q2
      · have k1 := (here j _ h1 q1).2
        rw [h3] at k1
        have z : l' = l := V.ref.inj (Option.some.inj (Option.some.inj k1))
        rw [List.getElem?_set_ne q2] at h2 h4
        exact absurd (z ▸ h4) (old k es q2 h2)
    · rw [List.getElem?_set_ne q1] at h1 h3
      by_cases q2 : i = k
      · have k1 := (here k _ h2 q2).2
        rw [h4] at k1
        have z : l' = l := V.ref.inj (Option.some.inj (Option.some.inj k1))
        exact absurd (z ▸ h3) (old j ds' q1 h1)
      · rw [List.getElem?_set_ne q2] at h2 h4
        exact e.ow j k ds' es l' h1 h2 h3 h4
theorem Ev.h0none {G H : Hp} {σ : L2.St} (e : Ev K pen H0 G H σ L) {l : Addr} (hl : H l = none) : H0 l = none := by
  cases q : H0 l with
  | none => rfl
  | some o => exact absurd hl (e.dom l (by rw [q]; exact fun z => by cases z))
theorem Ev.gnone {G H : Hp} {σ : L2.St} (e : Ev K pen H0 G H σ L) {l : Addr} (hl : H l = none) : G l = none := by
  cases q : G l with
  | none => rfl
  | some o => rw [e.vw.vw _ _ q] at hl; cases hl
/-- no own slot holds a place that was free -/
theorem Ev.oldOwn {G H : Hp} {σ : L2.St} (e : Ev K pen H0 G H σ L) {l : Addr} (hl : H l = none) : ∀ (j : Nat) (es : OO), L[j]? = some (some (.own es)) → σ[j]? ≠ some (some (.ref l)) := fun j es h1 h2 => by
  obtain ⟨v, k1, l2, ws, k2, k3, _⟩ := e.sl j _ h1
  rw [h2] at k1
  have := Option.some.inj (Option.some.inj k1)
  rw [← this] at k2
  cases k2
  rw [hl] at k3
  cases k3
/-- a new object goes to slot i -/
theorem Ev.newOwn {G H : Hp} {σ : L2.St} (e : Ev K pen H0 G H σ L) {i : Nat} {l : Addr} {ho : HO} {o : OO} (hl : H l = none) (h : OwnOk K G l ho o) : Ev K pen H0 G (upd H l ho) (σ.set i (some (.ref l))) (L.set i (some (.own o))) :=
  (e.go (Go.hid e.vw (o := ho) hl)).setOwn upd_same (e.h0none hl) (e.gnone hl) (fun j es _ h1 => e.oldOwn hl j es h1) h
def noFr : Lv → Bool
  | [] => true
  | some (.fr _) :: _ => false
  | _ :: L => noFr L
theorem noFr_get : ∀ {L : Lv} {i : Nat} {x : PyData}, noFr L = true → L[i]? = some (some (.fr x)) → False
  | [], _, _, _, h => by simp at h
  | a :: L, 0, x, n, h => by
    have := Option.some.inj h
    subst this
    cases n
  | a :: L, i + 1, x, n, h => by
    have n' : noFr L = true := by
      cases a with
      | none => exact n
      | some av => cases av <;> first | exact n | cases n
    exact noFr_get (L := L) (i := i) n' h
/-- the own object in slot j is written -/
theorem Ev.putOwn {G H : Hp} {σ : L2.St} (e : Ev K pen H0 G H σ L) (nf : noFr L = true) {j : Nat} {l : Addr} {o o' : OO} {ho : HO} (hj : L[j]? = some (some (.own o))) (hs : σ[j]? = some (some (.ref l))) (h : OwnOk K G l ho o') :
    Ev K pen H0 G (upd H l ho) σ (L.set j (some (.own o'))) ∧ Gx pen H0 G H G (upd H l ho) := by
  obtain ⟨v, k1, l2, vs, k2, k3, k4, k5, k6⟩ := e.sl j _ hj
  rw [hs] at k1
  have := Option.some.inj (Option.some.inj k1)
  rw [← this] at k2
  cases k2
  have n0 : ∀ a, H0 a ≠ none → a ≠ l := fun a h z => h (by rw [z]; exact k4)
  have ng : ∀ a o, G a = some o → a ≠ l := fun a o q z => by rw [z, k5] at q; cases q
  have vw : Vw pen G (upd H l ho) := by
    refine ⟨fun a o q => by rw [upd_ne (ng a o q)]; exact e.vw.vw a o q, e.vw.no, ?_⟩
    exact e.vw.ok.upd e.h0 k4 (fun q z => k6.noCode q (Option.some.inj (k3.symm.trans z)))
  have jl : j < L.length := (List.getElem?_eq_some_iff.mp hj).1
  refine ⟨⟨vw, e.h0, fun a h => ?_, by rw [List.length_set]; exact e.len, fun i av hi => ?_, fun i k ds' es' l' h1 h2 h3 h4 => ?_⟩, Same.refl _, fun _ _ => rfl, fun a o _ h q => by rw [upd_ne (n0 a h)]; exact q⟩
  · rw [upd_ne (n0 a h)]; exact e.dom a h
  · by_cases q : j = i
    · subst q
      rw [List.getElem?_set_self jl] at hi
      have := Option.some.inj (Option.some.inj hi)
      subst this
      exact ⟨_, hs, l, ho, rfl, upd_same, k4, k5, h⟩
    · rw [List.getElem?_set_ne q] at hi
      obtain ⟨w, m1, m2⟩ := e.sl i av hi
      refine ⟨w, m1, ?_⟩
      cases av with
      | d x => exact m2
      | pen => exact m2
      | own ds2 =>
        obtain ⟨l3, vs3, rfl, m3, m4, m5, m6⟩ := m2
        refine ⟨l3, vs3, rfl, ?_, m4, m5, m6⟩
        rw [upd_ne (fun z => q (e.ow j i o ds2 l hj hi hs (by rw [← z]; exact m1)))]
        exact m3
      | bor ds2 =>
        obtain ⟨l3, vs3, rfl, m3, m4, m5, m6⟩ := m2
        refine ⟨l3, vs3, rfl, ?_, m4, m5, m6⟩
        rw [upd_ne (n0 l3 (by rw [m4]; exact fun z => by cases z))]
        exact m3
      | fr x => exact (noFr_get nf hi).elim
  · have was : ∀ (i : Nat) (ds' : OO), (L.set j (some (.own o')))[i]? = some (some (.own ds')) → ∃ ds2, L[i]? = some (some (.own ds2)) := fun i ds' hi => by
      by_cases q : j = i
      · subst q; exact ⟨o, hj⟩
      · rw [List.getElem?_set_ne q] at hi; exact ⟨ds', hi⟩
    obtain ⟨a1, b1⟩ := was i ds' h1
    obtain ⟨a2, b2⟩ := was k es' h2
    exact e.ow i k a1 a2 l' b1 b2 h3 h4
/-- the own object's place and content -/
theorem Ev.own {G H : Hp} {σ : L2.St} (e : Ev K pen H0 G H σ L) {j : Nat} {o : OO} (hj : L[j]? = some (some (.own o))) : ∃ l ho, σ[j]? = some (some (.ref l)) ∧ H l = some ho ∧ OwnOk K G l ho o := by
  obtain ⟨x, k1, l, vs, rfl, k3, k4, k5, k6⟩ := e.sl j _ hj
  exact ⟨l, vs, k1, k3, k6⟩
theorem Ev.ownAt {G H : Hp} {σ : L2.St} (e : Ev K pen H0 G H σ L) {j : Nat} {o : OO} {l : Addr} (hj : L[j]? = some (some (.own o))) (hs : σ[j]? = some (some (.ref l))) : ∃ ho, H l = some ho ∧ OwnOk K G l ho o := by
  obtain ⟨l', ho, k1, k2, k3⟩ := e.own hj
  rw [hs] at k1
  cases k1
  exact ⟨ho, k2, k3⟩
/-- an object that is read: own, or borrowed -/
def RdO (L : Lv) (j : Nat) (o : OO) : Prop := L[j]? = some (some (.own o)) ∨ L[j]? = some (some (.bor o))
theorem Ev.rd {G H : Hp} {σ : L2.St} (e : Ev K pen H0 G H σ L) {j : Nat} {o : OO} (hj : RdO L j o) : ∃ l ho, σ[j]? = some (some (.ref l)) ∧ H l = some ho ∧ OwnOk K G l ho o := by
  rcases hj with hj | hj
  · exact e.own hj
  · obtain ⟨x, k1, l, vs, rfl, k3, k4, k5, k6⟩ := e.sl j _ hj
    exact ⟨l, vs, k1, k3, k6⟩
theorem Ev.rdAt {G H : Hp} {σ : L2.St} (e : Ev K pen H0 G H σ L) {j : Nat} {o : OO} {l : Addr} (hj : RdO L j o) (hs : σ[j]? = some (some (.ref l))) : ∃ ho, H l = some ho ∧ OwnOk K G l ho o := by
  obtain ⟨l', ho, k1, k2, k3⟩ := e.rd hj
  rw [hs] at k1
  cases k1
  exact ⟨ho, k2, k3⟩
/-- x = a new list -/
theorem s_ownL {i : Nat} (h : EL K pen H0 te L fun es => D.nx (L.set i (some (.own (.lst es))))) : S K pen H0 (tAsg te (gName i)) L D := fun σ G H N e n1 _ _ _ _ _ =>
  h σ G H e _ fun l vs ds G' H' g h1 h2 h3 h4 p => by
    have e1 := e.go g
    exact n1 _ G' H' _ (e.gx g) (e1.setOwn h1 (e.h0none h3) h2 (fun j es _ hj => e.oldOwn h3 j es hj) (o := .lst ds) h4) p
theorem el_list (h : E K pen H0 te L fun d => ∃ es, (d = .tuple es ∨ d = .list es) ∧ P (.list es)) :
    EL K pen H0 (tCB (fun xs H Q => ∃ p ys, xs = [.ref p] ∧ (SqL K H p ys ∨ SqT K H p ys) ∧ ∀ l, H l = none → Q (.ref l) (upd H l (.lst ys))) (tCons te tNil)) L fun es => P (.list es) := fun σ G H e Q q =>
  h σ G H e _ fun v d G1 H1 go hd ⟨es, hes, p⟩ => by
    have fin : ∀ (ys : List V) (l : Addr), DpAll K G1 ys es → H1 l = none → Q (.ref l) (upd H1 l (.lst ys)) := fun ys l hy hl => by
      have e1 := e.go go
      have g2 := Go.hid e1.vw (o := .lst ys) hl
      refine q l ys es G1 _ (go.trans g2) upd_same (e1.gnone hl) ?_ hy p
      cases z : H l with
      | none => rfl
      | some o => exact absurd hl (go.dom (by rw [z]; exact fun z => by cases z))
    rcases hes with rfl | rfl
    · cases hd with
      | tup hs ha => exact ⟨_, _, rfl, .inr (sqT_mono go.vw.vw hs), fun l hl => fin _ l ha hl⟩
    · cases hd with
      | lst hs ha => exact ⟨_, _, rfl, .inl (sqL_mono go.vw.vw hs), fun l hl => fin _ l ha hl⟩
theorem el_lst {Pl : List PyData → Prop} (h : EA K pen H0 tl L fun ds => ds.length ≤ 100000 ∧ Pl ds) : EL K pen H0 (tLst tl) L Pl := fun σ G H e Q q =>
  h σ G H e _ fun vs ds G1 H1 g1 d1 h1 => ⟨Nat.le_trans (by rw [dpa_len d1]; exact h1.1) (by decide : 100000 ≤ sizeLine), fun l hl => by
    have e1 := e.go g1
    have g2 := Go.hid e1.vw (o := .lst vs) hl
    refine q l vs ds G1 _ (g1.trans g2) upd_same (e1.gnone hl) ?_ d1 h1.2
    cases z : H l with
    | none => rfl
    | some o => exact absurd hl (g1.dom (by rw [z]; exact fun z => by cases z))⟩
/-- x = list(e) -/
theorem s_ownList {i : Nat} (h : E K pen H0 te L fun d => ∃ es, (d = .tuple es ∨ d = .list es) ∧ D.nx (L.set i (some (.own (.lst es))))) :
    S K pen H0 (tAsg (tCB (fun xs H Q => ∃ p ys, xs = [.ref p] ∧ (SqL K H p ys ∨ SqT K H p ys) ∧ ∀ l, H l = none → Q (.ref l) (upd H l (.lst ys))) (tCons te tNil)) (gName i)) L D :=
  s_ownL ((el_list (P := fun d => ∃ es, d = .list es ∧ D.nx (L.set i (some (.own (.lst es))))) (h.mono fun d ⟨es, e, p⟩ => ⟨es, e, es, rfl, p⟩)).mono fun ds ⟨es, e, p⟩ => by cases e; exact p)
/-- x = [] -/
theorem s_ownNil {i : Nat} (h : D.nx (L.set i (some (.own (.lst []))))) : S K pen H0 (tAsg (tLst tNil) (gName i)) L D := s_ownL (el_lst (ea_nil ⟨Nat.zero_le _, h⟩))
/-- x[k] = e -/
theorem s_putOwn {j : Nat} {ds : List PyData} (hj : L[j]? = some (some (.own (.lst ds)))) (h : E K pen H0 te L fun d => E K pen H0 ti L fun k => ∃ m : Nat, k = .int m ∧ m < ds.length ∧ D.nx (L.set j (some (.own (.lst (ds.set m d)))))) (nf : noFr L = true := by rfl) :
    S K pen H0 (tAsg te (gSub (tVar j) ti rSetL)) L D := fun σ G H N e n1 _ _ _ _ _ =>
  h σ G H e _ fun v d G1 H1 g1 d1 h1 => by
    have e1 := e.go g1
    obtain ⟨l, ho, k1, k3, k6⟩ := e1.own hj
    refine ⟨_, k1, h1 σ G1 H1 e1 _ fun w k G2 H2 g2 d2 ⟨m, hm, hl, p⟩ => ?_⟩
    subst hm
    cases d2
    have e2 := e1.go g2
    obtain ⟨ho2, q3, q6⟩ := e2.ownAt hj k1
    obtain ⟨vs2, rfl, q6⟩ := q6.lst
    obtain ⟨r1, r2⟩ := e2.putOwn nf hj k1 (o' := .lst (ds.set m d)) (ho := .lst (vs2.set m v)) (dpa_set (dp_mono g2.gg _ _ d1) m q6)
    refine ⟨l, vs2, (m : Int), m, rfl, rfl, q3, ?_, n1 σ G2 _ _ (((e.gx g1).trans (e1.gx g2)).trans r2) r1 p⟩
    rw [dpa_len q6]
    unfold ixN
    rw [if_pos (by omega), if_pos (by omega)]
    simp
/-- x.append(e) -/
theorem s_appOwn {j : Nat} {ds : List PyData} (hj : L[j]? = some (some (.own (.lst ds)))) (hz : ds.length < 100000) (h : E K pen H0 te L fun d => D.nx (L.set j (some (.own (.lst (ds ++ [d])))))) (nf : noFr L = true := by rfl) :
    S K pen H0 (tDrop (tBM K "list" rAppend (tVar j) (tCons te tNil))) L D := fun σ G H N e n1 _ _ _ _ _ => by
  obtain ⟨l, ho, k1, k3, k6⟩ := e.own hj
  obtain ⟨vs, rfl, k6⟩ := k6.lst
  refine ⟨_, k1, .inl ⟨rfl, vs, .inl (.inl k3)⟩, h σ G H e _ fun v d G1 H1 g1 d1 p => ?_⟩
  have e1 := e.go g1
  obtain ⟨ho2, q3, q6⟩ := e1.ownAt hj k1
  obtain ⟨vs2, rfl, q6⟩ := q6.lst
  obtain ⟨r1, r2⟩ := e1.putOwn nf hj k1 (o' := .lst (ds ++ [d])) (ho := .lst (vs2 ++ [v])) (dpa_app q6 (.cons d1 .nil))
  exact ⟨l, vs2, v, rfl, rfl, q3, Nat.lt_of_lt_of_le (by rw [dpa_len q6]; exact hz) (by decide : 100000 ≤ sizeLine), n1 σ G1 _ _ ((e.gx g1).trans r2) r1 p⟩
theorem dpa_erase {G : Hp} : ∀ (n : Nat) {vs : List V} {ds : List PyData}, DpAll K G vs ds → DpAll K G (vs.eraseIdx n) (ds.eraseIdx n)
  | _, _, _, .nil => .nil
  | 0, _, _, .cons _ t => t
  | n + 1, _, _, .cons h t => .cons h (dpa_erase n t)
/-- x.pop(0), the value dropped -/
theorem s_pop0 {j : Nat} {d0 : PyData} {ds : List PyData} (hj : L[j]? = some (some (.own (.lst (d0 :: ds))))) (h : D.nx (L.set j (some (.own (.lst ds))))) (nf : noFr L = true := by rfl) :
    S K pen H0 (tDrop (tBM K "list" rPopAt (tVar j) (tCons (tC (.int 0)) tNil))) L D := fun σ G H N e n1 _ _ _ _ _ => by
  obtain ⟨l, ho, k1, k3, k6⟩ := e.own hj
  obtain ⟨vs, rfl, k6⟩ := k6.lst
  cases k6 with
  | cons h1 h2 =>
    rename_i v vs
    obtain ⟨r1, r2⟩ := e.putOwn nf hj k1 (o' := .lst ds) (ho := .lst vs) h2
    exact ⟨_, k1, .inl ⟨rfl, _, .inl (.inl k3)⟩, l, v :: vs, 0, 0, v, rfl, rfl, k3, by decide, by decide, by unfold seqIndex?; simp, rfl, n1 σ G _ _ r2 r1 h⟩
/-- y = x.pop(0) as a value -/
theorem s_clearOwn {j : Nat} {ds : List PyData} (hj : L[j]? = some (some (.own (.lst ds)))) (h : D.nx (L.set j (some (.own (.lst []))))) (nf : noFr L = true := by rfl) :
    S K pen H0 (tDrop (tBM0 K "list" rClear (tVar j))) L D := fun σ G H N e n1 _ _ _ _ _ => by
  obtain ⟨l, ho, k1, k3, k6⟩ := e.own hj
  obtain ⟨vs, rfl, k6⟩ := k6.lst
  obtain ⟨r1, r2⟩ := e.putOwn nf hj k1 (o' := .lst []) (ho := .lst []) .nil
  exact ⟨_, k1, .inl ⟨rfl, _, .inl (.inl k3)⟩, l, vs, rfl, rfl, k3, n1 σ G _ _ r2 r1 h⟩
/-- tuple(x), x one's own list -/
theorem e_tupRd {j : Nat} {ds : List PyData} (hj : RdO L j (.lst ds)) (p : P (.tuple ds)) :
    E K pen H0 (tCB (fun xs H Q => ∃ p ys, xs = [.ref p] ∧ ((SqL K H p ys ∧ ∀ l, H l = none → Q (.ref l) (upd H l (.tup ys))) ∨ (SqT K H p ys ∧ Q (.ref p) H))) (tCons (tVar j) tNil)) L P := fun σ G H e Q q => by
  obtain ⟨l, ho, k1, k3, k6⟩ := e.rd hj
  obtain ⟨vs, rfl, k6⟩ := k6.lst
  refine ⟨_, k1, l, vs, rfl, .inl ⟨.inl (.inl k3), fun l' hl => ?_⟩⟩
  have g := Go.new e.vw (o := .tup vs) hl
  exact q _ _ _ _ g (.tup (.inl (.inl upd_same)) (dpa_mono g.gg _ _ k6)) p
/-- len(x), x one's own list -/
theorem e_lenRd {j : Nat} {ds : List PyData} (hj : RdO L j (.lst ds)) (p : P (.int ds.length)) :
    E K pen H0 (tCB (fun xs H Q => ∃ p ys, xs = [.ref p] ∧ (SqL K H p ys ∨ SqT K H p ys) ∧ Q (.int ys.length) H) (tCons (tVar j) tNil)) L P := fun σ G H e Q q => by
  obtain ⟨l, ho, k1, k3, k6⟩ := e.rd hj
  obtain ⟨vs, rfl, k6⟩ := k6.lst
  refine ⟨_, k1, l, vs, rfl, .inl (.inl (.inl k3)), ?_⟩
  rw [dpa_len k6]
  exact q _ _ G H (.refl e.vw) (.int _) p
theorem e_tupOwn {j : Nat} {ds : List PyData} (hj : L[j]? = some (some (.own (.lst ds)))) (p : P (.tuple ds)) :
    E K pen H0 (tCB (fun xs H Q => ∃ p ys, xs = [.ref p] ∧ ((SqL K H p ys ∧ ∀ l, H l = none → Q (.ref l) (upd H l (.tup ys))) ∨ (SqT K H p ys ∧ Q (.ref p) H))) (tCons (tVar j) tNil)) L P := e_tupRd (.inl hj) p
theorem e_lenOwn {j : Nat} {ds : List PyData} (hj : L[j]? = some (some (.own (.lst ds)))) (p : P (.int ds.length)) :
    E K pen H0 (tCB (fun xs H Q => ∃ p ys, xs = [.ref p] ∧ (SqL K H p ys ∨ SqT K H p ys) ∧ Q (.int ys.length) H) (tCons (tVar j) tNil)) L P := e_lenRd (.inl hj) p
/-! ### looking at what is one's own as data -/
def lookA : Option AV → Option AV
  | some (.own (.lst ds)) => some (.d (.list ds))
  | some (.fr d) => some (.d d)
  | a => a
def lookL (L : Lv) : Lv := L.map lookA
theorem lookL_get {L : Lv} {i : Nat} {av : AV} (h : (lookL L)[i]? = some (some av)) : ∃ a, L[i]? = some (some a) ∧ lookA (some a) = some av := by
  unfold lookL at h
  rw [List.getElem?_map] at h
  cases e : L[i]? with
  | none => rw [e] at h; cases h
  | some a =>
    rw [e] at h
    have h := Option.some.inj h
    cases a with
    | none => cases h
    | some a => exact ⟨a, rfl, h⟩
theorem same_max {G H : Hp} : Same G (vmax H0 G H) := fun _ _ h => vmax_G h
/-- the own dicts and borrowed ones stay as they are -/
theorem Ev.look {G H : Hp} {σ : L2.St} (e : Ev K pen H0 G H σ L) : Ev K pen H0 (vmax H0 G H) H σ (lookL L) := by
  refine ⟨vw_max e.vw e.h0, e.h0, e.dom, by rw [lookL, List.length_map]; exact e.len, fun i av hi => ?_, fun i j ds es l h1 h2 => ?_⟩
  · obtain ⟨a, ha, hl⟩ := lookL_get hi
    obtain ⟨v, k1, k2⟩ := e.sl i a ha
    refine ⟨v, k1, ?_⟩
    cases a with
    | d x => cases hl; exact dp_mono same_max _ _ k2
    | pen => cases hl; exact k2
    | bor o => cases hl; obtain ⟨l, ho, q1, q2, q3, q4, q5⟩ := k2; exact ⟨l, ho, q1, q2, q3, q4, q5.mono same_max⟩
    | fr x => cases hl; exact dp_mono vnew_max _ _ (nd_dp _ _ k2)
    | own o =>
      obtain ⟨l, ho, rfl, q2, q3, q4, q5⟩ := k2
      cases o with
      | lst ds =>
        cases hl
        obtain ⟨vs, rfl, q5⟩ := q5.lst
        exact .lst (.inl (.inl (by rw [vmax_new q4]; exact newL_of q3 q2))) (dpa_mono same_max _ _ q5)
      | dK m =>
        cases hl
        obtain ⟨kvs, rfl, q6⟩ := q5.dK
        refine ⟨l, _, rfl, q2, q3, ?_, q5.mono same_max⟩
        rw [vmax_new q4]
        unfold newL
        rw [q3, q2]
      | dN w m =>
        cases hl
        obtain ⟨kvs, rfl, q6⟩ := q5.dN
        refine ⟨l, _, rfl, q2, q3, ?_, q5.mono same_max⟩
        rw [vmax_new q4]
        unfold newL
        rw [q3, q2]
        rfl
  · obtain ⟨a, ha, hl⟩ := lookL_get h1
    obtain ⟨b, hb, hl2⟩ := lookL_get h2
    have own : ∀ (a : AV) (o : OO), lookA (some a) = some (.own o) → ∃ o', a = .own o' := fun a o h => by
      cases a with
      | own o' => exact ⟨o', rfl⟩
      | _ => cases h
    obtain ⟨o1, rfl⟩ := own a _ hl
    obtain ⟨o2, rfl⟩ := own b _ hl2
    exact e.ow i j o1 o2 l ha hb
/-- back to the data alone: what is without a list stays -/
def bakV (G H Gu : Hp) : Hp := fun a => match G a with
  | some o => some o
  | none => match H a with
    | some _ => none
    | none => Gu a
theorem bak_G {G H Gu : Hp} {a : Addr} {o : HO} (h : G a = some o) : bakV G H Gu a = some o := by unfold bakV; rw [h]
theorem bak_H {G H Gu : Hp} {a : Addr} (h : G a = none) (h2 : H a ≠ none) : bakV G H Gu a = none := by
  unfold bakV; rw [h]
  cases e : H a with
  | none => exact absurd e h2
  | some o => rfl
theorem bak_N {G H Gu : Hp} {a : Addr} (h : G a = none) (h2 : H a = none) : bakV G H Gu a = Gu a := by unfold bakV; rw [h, h2]
theorem look_back {G H Gu' H' : Hp} (vw : Vw pen G H) (h0 : POk pen H0) (g : Go pen (vmax H0 G H) H Gu' H') : ∃ G', Go pen G H G' H' ∧ (∀ a xs, Rd Gu' a (.tup xs) → Rd G' a (.tup xs)) ∧ ∀ a, H a = none → Gu' a = none → G' a = none := by
  have hN : ∀ a, H a = none → G a = none := fun a h => by
    cases e : G a with
    | none => rfl
    | some o => rw [vw.vw _ _ e] at h; cases h
  refine ⟨bakV G H Gu', ⟨fun a o e => bak_G e, fun a h => ?_, g.od, ⟨fun a o e => ?_, fun a p => bak_H (vw.no a p) (vw.ok.there p), g.vw.ok⟩⟩, fun a xs r => ?_, fun a h1 h2 => ?_⟩
  · cases e : G a with
    | some o => exact bak_G e
    | none => exact bak_H e h
  · cases e1 : G a with
    | some u =>
      rw [bak_G e1] at e
      cases e
      exact g.vw.vw _ _ (g.gg _ _ (vmax_G e1))
    | none =>
      by_cases e2 : H a = none
      · rw [bak_N e1 e2] at e
        exact g.vw.vw _ _ e
      · rw [bak_H e1 e2] at e; cases e
  · have one : ∀ u, (∀ ys, u ≠ HO.lst ys) → Gu' a = some u → bakV G H Gu' a = some u := fun u nu e => by
      by_cases e2 : H a = none
      · rw [bak_N (hN a e2) e2]; exact e
      · have e3 := g.nw a e2
        rw [e] at e3
        rcases vmax_cases e3.symm with k | ⟨_, _, _, ys, z⟩
        · exact bak_G k
        · exact absurd z (nu ys)
    rcases r with r | ⟨o, r⟩
    · exact .inl (one _ (fun _ z => by cases z) r)
    · exact .inr ⟨o, one _ (fun _ z => by cases z) r⟩
  · rw [bak_N (hN a h1) h1]; exact h2
theorem e_look (h : E K pen H0 te (lookL L) fun d => noL d = true ∧ P d) : E K pen H0 te L P := fun σ G H e Q q =>
  h σ _ H e.look Q fun v d G' H' g hd ⟨n, p⟩ => by
    obtain ⟨G1, g1, k, k0⟩ := look_back e.vw e.h0 g
    exact q v d G1 H' g1 (dp_nol k d v n hd) p
theorem et_look (h : ET K pen H0 tt (lookL L) Pb) : ET K pen H0 tt L Pb := fun σ G H e Q q =>
  h σ _ H e.look Q fun b G' H' g p => by
    obtain ⟨G1, g1, k, k0⟩ := look_back e.vw e.h0 g
    exact q b G1 H' g1 p
theorem ea_look {Pl : List PyData → Prop} (h : EA K pen H0 tl (lookL L) fun ds => noLs ds = true ∧ Pl ds) : EA K pen H0 tl L Pl := fun σ G H e Q q =>
  h σ _ H e.look Q fun v d G' H' g hd ⟨n, p⟩ => by
    obtain ⟨G1, g1, k, k0⟩ := look_back e.vw e.h0 g
    exact q v d G1 H' g1 (dpa_nol k d v n hd) p
/-- a new list, made while looking: its items without a list -/
theorem el_look {Pl : List PyData → Prop} (h : EL K pen H0 te (lookL L) fun ds => noLs ds = true ∧ Pl ds) : EL K pen H0 te L Pl := fun σ G H e Q q =>
  h σ _ H e.look Q fun l vs ds G' H' g h1 h2 h3 hd ⟨n, p⟩ => by
    obtain ⟨G1, g1, k, k0⟩ := look_back e.vw e.h0 g
    exact q l vs ds G1 H' g1 h1 (k0 l h3 h2) h3 (dpa_nol k ds vs n hd) p
/-- return, looking -/
theorem s_retL (h : E K pen H0 te (lookL L) D.rt) : S K pen H0 (tRet te) L D := fun σ G H N e _ n2 _ _ _ _ => h σ _ H e.look _ fun v d G' H' g hd p => by
  have x := e.look.gx g
  refine n2 v d G' H' ⟨same_max.trans x.gg, fun a ha => ?_, x.od⟩ g.vw hd p
  rw [x.nw a ha]
  cases e1 : G a with
  | some o => exact vmax_G e1
  | none =>
    rw [vmax_new e1]
    cases z : newL H0 H a with
    | none => rfl
    | some o => exact absurd (newL_some z).1 ha
/-! ### told as new -/
def EN (K : PySem.W.Frag) (pen : Pc) (H0 : Hp) (te : TE) (L : Lv) (P : PyData → Prop) : Prop := ∀ (σ : L2.St) (G H : Hp), Ev K pen H0 G H σ L → ∀ Q : VK, (∀ v d G' H', Go pen G H G' H' → Nd K (vnew H0 G' H') v d → P d → Q v H') → te σ H Q
def ENA (K : PySem.W.Frag) (pen : Pc) (H0 : Hp) (tl : TA) (L : Lv) (P : List PyData → Prop) : Prop := ∀ (σ : L2.St) (G H : Hp), Ev K pen H0 G H σ L → ∀ Q : List V → Hp → Prop, (∀ v d G' H', Go pen G H G' H' → NdAll K (vnew H0 G' H') v d → P d → Q v H') → tl σ H Q
theorem nd_of {G H : Hp} {v : V} {d : PyData} (n : noL d = true) (h : Dp K G v d) : Nd K (vnew H0 G H) v d := by
  refine dp_nd d v n (dp_nol (fun a xs r => ?_) d v n h)
  rcases r with r | ⟨o, r⟩
  · exact .inl (vnew_G r rfl)
  · exact .inr ⟨o, vnew_G r rfl⟩
theorem nda_of {G H : Hp} {v : List V} {d : List PyData} (n : noLs d = true) (h : DpAll K G v d) : NdAll K (vnew H0 G H) v d := by
  refine dpa_nda d v n (dpa_nol (fun a xs r => ?_) d v n h)
  rcases r with r | ⟨o, r⟩
  · exact .inl (vnew_G r rfl)
  · exact .inr ⟨o, vnew_G r rfl⟩
theorem en_e (h : E K pen H0 te L fun d => noL d = true ∧ P d) : EN K pen H0 te L P := fun σ G H e Q q => h σ G H e Q fun v d G' H' g hd ⟨n, p⟩ => q v d G' H' g (nd_of n hd) p
theorem en_own {j : Nat} {ds : List PyData} (hj : L[j]? = some (some (.own (.lst ds)))) (n : noLs ds = true) (p : P (.list ds)) : EN K pen H0 (tVar j) L P := fun σ G H e Q q => by
  obtain ⟨x, k1, l, ho, rfl, k3, k4, k5, k6⟩ := e.sl j _ hj
  obtain ⟨vs, rfl, k6⟩ := k6.lst
  exact ⟨_, k1, q _ _ G H (.refl e.vw) (.lst (vnew_of k5 k4 k3) (nda_of n k6)) p⟩
theorem en_el (h : EL K pen H0 te L fun ds => noLs ds = true ∧ P (.list ds)) : EN K pen H0 te L P := fun σ G H e Q q => h σ G H e Q fun l vs ds G' H' g h1 h2 h3 hd ⟨n, p⟩ =>
  q _ _ G' H' g (.lst (vnew_of h2 (e.h0none h3) h1) (nda_of n hd)) p
theorem ena_nil {Pl : List PyData → Prop} (p : Pl []) : ENA K pen H0 tNil L Pl := fun σ G H e Q q => q [] [] G H (.refl e.vw) .nil p
theorem ena_cons {Pl : List PyData → Prop} (h : EN K pen H0 ta L fun a => ENA K pen H0 tr L fun ds => Pl (a :: ds)) : ENA K pen H0 (tCons ta tr) L Pl := fun σ G H e Q q =>
  h σ G H e _ fun v a G1 H1 g1 d1 h1 => h1 σ G1 H1 (e.go g1) _ fun vs ds G2 H2 g2 d2 p => q _ _ G2 H2 (g1.trans g2) (.cons (nd_mono (vnew_go e.h0 g2 g1.vw.vw) _ _ d1) d2) p
theorem nda_len {W : Hp} : ∀ {vs : List V} {ds : List PyData}, NdAll K W vs ds → vs.length = ds.length
  | _, _, .nil => rfl
  | _, _, .cons _ h => by rw [List.length_cons, List.length_cons, nda_len h]
theorem en_tup (h : ENA K pen H0 tl L fun ds => ds.length ≤ 100000 ∧ P (.tuple ds)) : EN K pen H0 (tTup tl) L P := fun σ G H e Q q =>
  h σ G H e _ fun vs ds G1 H1 g1 d1 h1 => ⟨Nat.le_trans (by rw [nda_len d1]; exact h1.1) (by decide : 100000 ≤ sizeLine), fun p hp => by
    have g2 := Go.new g1.vw (o := .tup vs) hp
    exact q _ _ _ _ (g1.trans g2) (.tup (.inl (.inl (vnew_G upd_same rfl))) (nda_mono (vnew_go e.h0 g2 g1.vw.vw) _ _ d1)) h1.2⟩
theorem en_if {t : TT} (h : ET K pen H0 t L fun a => (a = true → EN K pen H0 ta L P) ∧ (a = false → EN K pen H0 tb L P)) : EN K pen H0 (tIf t ta tb) L P := fun σ G H e Q q =>
  h σ G H e _ fun a G1 H1 g1 h1 => by
    cases a with
    | true => exact h1.1 rfl σ G1 H1 (e.go g1) Q fun w b G2 H2 g2 d2 p => q w b G2 H2 (g1.trans g2) d2 p
    | false => exact h1.2 rfl σ G1 H1 (e.go g1) Q fun w b G2 H2 g2 d2 p => q w b G2 H2 (g1.trans g2) d2 p
theorem EN.mono {P' : PyData → Prop} (h : EN K pen H0 te L P) (k : ∀ d, P d → P' d) : EN K pen H0 te L P' := fun σ G H e Q q => h σ G H e Q fun v d G' H' g hd p => q v d G' H' g hd (k d p)
/-- a call that tells what is new, seen from a frame: lists new at the call are new in the frame -/
theorem vnew_call {G1 H1 G' H' : Hp} (dom : ∀ a, H0 a ≠ none → H1 a ≠ none) : Same (vnew H1 G' H') (vnew H0 G' H') := fun a o h => by
  rcases vnew_cases h with ⟨k, z⟩ | ⟨k, k0, k1, xs, rfl⟩
  · exact vnew_G k z
  · refine vnew_of k ?_ k1
    cases z : H0 a with
    | none => rfl
    | some u => exact absurd k0 (dom a (by rw [z]; exact fun z => by cases z))
theorem en_callF {α : Type} {pn : Option Pn} {ts : List Addr} {Wf : α → Prop} {enc : α → List PyData} {res : α → PyData → Prop} {X : XK} (h : EA K ⟨pn, ts⟩ H0 tl L fun ds => ∃ x, ds = enc x ∧ Wf x ∧ ∀ d, res x d → P d) : EN K ⟨pn, ts⟩ H0 (tCall (SpXF K ts Wf enc res) [] X tl) L P := fun σ G H e Q q =>
  h σ G H e _ fun vs ds G1 H1 go hd ⟨x, hx, h1, h2⟩ => ⟨x, G1, go.vw.plain, by rw [List.append_nil, ← hx]; exact hd, h1, fun v d G' H' go2 hd2 p =>
    q v d G' H' (go.trans (go2.lift go.vw)) (nd_mono (vnew_call (G1 := G1) (e.go go).dom) _ _ hd2) (h2 d p)⟩
theorem s_retN (h : EN K pen H0 te L D.rn) : S K pen H0 (tRet te) L D := fun σ G H N e _ _ _ _ n5 _ => h σ G H e _ fun v d G' H' g hd p => n5 v d G' H' (e.gx g) g.vw hd p
/-- x = what is told as new -/
theorem Ev.setFr {G H : Hp} {σ : L2.St} (e : Ev K pen H0 G H σ L) {i : Nat} {v : V} {x : PyData} (h : Nd K (vnew H0 G H) v x) : Ev K pen H0 G H (σ.set i (some v)) (L.set i (some (.fr x))) := by
  refine ⟨e.vw, e.h0, e.dom, by rw [List.length_set, List.length_set]; exact e.len, fun j av hj => ?_, fun j k ds es l h1 h2 h3 h4 => ?_⟩
  · by_cases q : i = j
    · subst q
      have hl : i < L.length := by
        have := (List.getElem?_eq_some_iff.mp hj).1
        rw [List.length_set] at this; exact this
      rw [List.getElem?_set_self hl] at hj
      have := Option.some.inj (Option.some.inj hj)
      subst this
      exact ⟨v, List.getElem?_set_self (by rw [e.len]; exact hl), h⟩
    · rw [List.getElem?_set_ne q] at hj
      obtain ⟨w, h1, h2⟩ := e.sl j av hj
      exact ⟨w, by rw [List.getElem?_set_ne q]; exact h1, h2⟩
  · have nj : ∀ (j : Nat) (ds : OO), (L.set i (some (.fr x)))[j]? = some (some (.own ds)) → i ≠ j := fun j ds hj q => by
      subst q
      have hl : i < L.length := by
        have := (List.getElem?_eq_some_iff.mp hj).1
        rw [List.length_set] at this; exact this
      rw [List.getElem?_set_self hl] at hj
      cases hj
    have q1 := nj j ds h1
    have q2 := nj k es h2
    rw [List.getElem?_set_ne q1] at h1 h3
    rw [List.getElem?_set_ne q2] at h2 h4
    exact e.ow j k ds es l h1 h2 h3 h4
theorem s_asgN {i : Nat} (h : EN K pen H0 te L fun d => D.nx (L.set i (some (.fr d)))) : S K pen H0 (tAsg te (gName i)) L D := fun σ G H N e n1 _ _ _ _ _ =>
  h σ G H e _ fun v d G' H' g hd p => n1 _ G' H' _ (e.gx g) ((e.go g).setFr hd) p
def onlyD : Lv → Bool
  | [] => true
  | some (.own _) :: _ => false
  | some (.fr _) :: _ => false
  | _ :: L => onlyD L
theorem onlyD_get : ∀ {L : Lv} {i : Nat} {a : AV}, onlyD L = true → L[i]? = some (some a) → (∀ o, a ≠ .own o) ∧ (∀ x, a ≠ .fr x)
  | [], _, _, _, h => by simp at h
  | a :: L, 0, x, n, h => by
    have := Option.some.inj h
    subst this
    cases x <;> first | cases n | exact ⟨fun _ z => (by cases z), fun _ z => (by cases z)⟩
  | a :: L, i + 1, x, n, h => by
    have n' : onlyD L = true := by
      cases a with
      | none => exact n
      | some av => cases av <;> first | exact n | cases n
    exact onlyD_get (L := L) (i := i) n' h
/-- a list that was told is changed, and looked at no more -/
theorem Ev.spoil {G H : Hp} {σ : L2.St} (e : Ev K pen H0 G H σ L) (od : onlyD L = true) {l : Addr} {ho : HO} (h0 : H0 l = none) (g : G l = none) (hk : ∀ q, H l ≠ some (LamX.CodeO l q)) : Ev K pen H0 G (upd H l ho) σ L ∧ Gx pen H0 G H G (upd H l ho) := by
  have n0 : ∀ a, H0 a ≠ none → a ≠ l := fun a h z => h (by rw [z]; exact h0)
  have ng : ∀ a o, G a = some o → a ≠ l := fun a o q z => by rw [z, g] at q; cases q
  refine ⟨⟨⟨fun a o q => by rw [upd_ne (ng a o q)]; exact e.vw.vw a o q, e.vw.no, e.vw.ok.upd e.h0 h0 hk⟩, e.h0, fun a h => by rw [upd_ne (n0 a h)]; exact e.dom a h, e.len, fun i av hi => ?_, e.ow⟩, Same.refl _, fun _ _ => rfl, fun a o _ h q => by rw [upd_ne (n0 a h)]; exact q⟩
  obtain ⟨v, k1, k2⟩ := e.sl i av hi
  obtain ⟨no, nf⟩ := onlyD_get od hi
  refine ⟨v, k1, ?_⟩
  cases av with
  | d x => exact k2
  | pen => exact k2
  | own o => exact absurd rfl (no o)
  | fr x => exact absurd rfl (nf x)
  | bor o =>
    obtain ⟨l3, vs3, rfl, m3, m4, m5, m6⟩ := k2
    refine ⟨l3, vs3, rfl, ?_, m4, m5, m6⟩
    rw [upd_ne (n0 l3 (by rw [m4]; exact fun z => by cases z))]
    exact m3
theorem same_new {G H : Hp} {σ : L2.St} (e : Ev K pen H0 G H σ L) : Same (vnew H0 G H) H := vnew_max.trans (vw_max e.vw e.h0).vw
theorem nd_list {G H : Hp} {v : V} {ds : List PyData} (h : Nd K (vnew H0 G H) v (.list ds)) : ∃ l vs, v = .ref l ∧ H l = some (.lst vs) ∧ H0 l = none ∧ G l = none ∧ vs.length = ds.length := by
  cases h with
  | lst hs ha =>
    rcases vnew_cases hs with ⟨_, z⟩ | ⟨k, k0, k1, _⟩
    · cases z
    · exact ⟨_, _, rfl, k1, k0, k, nda_len ha⟩
theorem nda_get {W : Hp} : ∀ {vs : List V} {ds : List PyData} {i : Nat} {d : PyData}, NdAll K W vs ds → ds[i]? = some d → ∃ v, vs[i]? = some v ∧ Nd K W v d
  | _, _, _, _, .nil, e => by simp at e
  | _, _, 0, _, .cons (v := v) h _, e => by
    have e' := Option.some.inj e
    subst e'
    exact ⟨v, rfl, h⟩
  | _, _, i + 1, d, .cons _ t, e => nda_get (i := i) (d := d) t e
theorem Ev.forget {G H : Hp} {σ : L2.St} (e : Ev K pen H0 G H σ L) (i : Nat) (od : onlyD (L.set i none) = true) : Ev K pen H0 G H σ (L.set i none) := ⟨e.vw, e.h0, e.dom, by rw [List.length_set]; exact e.len, fun j av hj => by
    by_cases q : i = j
    · subst q
      have hl : i < L.length := by
        have := (List.getElem?_eq_some_iff.mp hj).1
        rw [List.length_set] at this; exact this
      rw [List.getElem?_set_self hl] at hj
      cases hj
    · rw [List.getElem?_set_ne q] at hj
      exact e.sl j av hj, fun j k a b l' h1 h2 => by
    have z : ∀ (j : Nat) (o : OO), (L.set i none)[j]? ≠ some (some (.own o)) := fun j o hj => (onlyD_get od hj).1 o rfl
    exact absurd h1 (z j a)⟩
/-- x.append(e), x told as new -/
theorem s_appFr {i : Nat} {ds : List PyData} (hi : L[i]? = some (some (.fr (.list ds)))) (hz : ds.length < 100000) (h : E K pen H0 te (L.set i none) fun _ => D.nx (L.set i none)) (od : onlyD (L.set i none) = true := by rfl) :
    S K pen H0 (tDrop (tBM K "list" rAppend (tVar i) (tCons te tNil))) L D := fun σ G H N e n1 _ _ _ _ _ => by
  obtain ⟨v, k1, k2⟩ := e.sl i _ hi
  obtain ⟨l, vs, rfl, m1, m2, m3, m4⟩ := nd_list k2
  have e' := e.forget i od
  refine ⟨_, k1, .inl ⟨rfl, vs, .inl (.inl m1)⟩, h σ G H e' _ fun w d G1 H1 g1 d1 p => ?_⟩
  have np : ¬ IsPn pen l := fun q => e.h0.there q m2
  have q1 := g1.od _ _ np m1
  have q2 : G1 l = none := (g1.nw l (by rw [m1]; exact fun z => by cases z)).trans m3
  obtain ⟨r1, r2⟩ := (e'.go g1).spoil od (ho := .lst (vs ++ [w])) m2 q2 (code_ne q1 rfl)
  exact ⟨l, vs, w, rfl, rfl, q1, Nat.lt_of_lt_of_le (by rw [m4]; exact hz) (by decide : 100000 ≤ sizeLine), n1 σ G1 _ _ ((e'.gx g1).trans r2) r1 p⟩
theorem s_clearFr {i : Nat} {ds : List PyData} (hi : L[i]? = some (some (.fr (.list ds)))) (h : D.nx (L.set i none)) (od : onlyD (L.set i none) = true := by rfl) :
    S K pen H0 (tDrop (tBM0 K "list" rClear (tVar i))) L D := fun σ G H N e n1 _ _ _ _ _ => by
  obtain ⟨v, k1, k2⟩ := e.sl i _ hi
  obtain ⟨l, vs, rfl, m1, m2, m3, m4⟩ := nd_list k2
  obtain ⟨r1, r2⟩ := (e.forget i od).spoil od (ho := .lst []) m2 m3 (code_ne m1 rfl)
  exact ⟨_, k1, .inl ⟨rfl, vs, .inl (.inl m1)⟩, l, vs, rfl, rfl, m1, n1 σ G _ _ r2 r1 h⟩
theorem fr_part {G H : Hp} {σ : L2.St} (e : Ev K pen H0 G H σ L) {i k : Nat} {ds es : List PyData} (hi : L[i]? = some (some (.fr (.tuple ds)))) (hk : ds[k]? = some (.list es)) :
    ∃ t xs l vs, σ[i]? = some (some (.ref t)) ∧ SqT K H t xs ∧ xs[k]? = some (.ref l) ∧ H l = some (.lst vs) ∧ H0 l = none ∧ G l = none ∧ vs.length = es.length := by
  obtain ⟨v, k1, k2⟩ := e.sl i _ hi
  cases k2 with
  | tup hs ha =>
    obtain ⟨w, q1, q2⟩ := nda_get ha hk
    obtain ⟨l, vs, rfl, m1, m2, m3, m4⟩ := nd_list q2
    exact ⟨_, _, l, vs, k1, sqT_mono (same_new e) hs, q1, m1, m2, m3, m4⟩
/-- x[k].append(e), x a told tuple -/
theorem s_appFrT {i k : Nat} {ds es : List PyData} (hi : L[i]? = some (some (.fr (.tuple ds)))) (hk : ds[k]? = some (.list es)) (hz : es.length < 100000) (h : E K pen H0 te (L.set i none) fun _ => D.nx (L.set i none)) (od : onlyD (L.set i none) = true := by rfl) :
    S K pen H0 (tDrop (tBM K "list" rAppend (tOp (rIxT K) (tVar i) (tC (.int k))) (tCons te tNil))) L D := fun σ G H N e n1 _ _ _ _ _ => by
  obtain ⟨t, xs, l, vs, k1, k2, k3, m1, m2, m3, m4⟩ := fr_part e hi hk
  have e' := e.forget i od
  refine ⟨_, k1, t, xs, k, .ref l, rfl, rfl, k2, atI_nat k3, .inl ⟨rfl, vs, .inl (.inl m1)⟩, h σ G H e' _ fun w d G1 H1 g1 d1 p => ?_⟩
  have np : ¬ IsPn pen l := fun q => e.h0.there q m2
  have q1 := g1.od _ _ np m1
  have q2 : G1 l = none := (g1.nw l (by rw [m1]; exact fun z => by cases z)).trans m3
  obtain ⟨r1, r2⟩ := (e'.go g1).spoil od (ho := .lst (vs ++ [w])) m2 q2 (code_ne q1 rfl)
  exact ⟨l, vs, w, rfl, rfl, q1, Nat.lt_of_lt_of_le (by rw [m4]; exact hz) (by decide : 100000 ≤ sizeLine), n1 σ G1 _ _ ((e'.gx g1).trans r2) r1 p⟩
theorem s_clearFrT {i k : Nat} {ds es : List PyData} (hi : L[i]? = some (some (.fr (.tuple ds)))) (hk : ds[k]? = some (.list es)) (h : D.nx (L.set i none)) (od : onlyD (L.set i none) = true := by rfl) :
    S K pen H0 (tDrop (tBM0 K "list" rClear (tOp (rIxT K) (tVar i) (tC (.int k))))) L D := fun σ G H N e n1 _ _ _ _ _ => by
  obtain ⟨t, xs, l, vs, k1, k2, k3, m1, m2, m3, m4⟩ := fr_part e hi hk
  obtain ⟨r1, r2⟩ := (e.forget i od).spoil od (ho := .lst []) m2 m3 (code_ne m1 rfl)
  exact ⟨_, k1, t, xs, k, .ref l, rfl, rfl, k2, atI_nat k3, .inl ⟨rfl, vs, .inl (.inl m1)⟩, l, vs, rfl, rfl, m1, n1 σ G _ _ r2 r1 h⟩
theorem r_neB {i j : Bool} (p : P (.bool (!decide (i = j)))) : R2d K pen rNe (.bool i) (.bool j) P := fun x y G H v hx hy Q q => by
  cases hx
  cases hy
  refine ⟨rfl, ?_⟩
  rw [show decide (V.bl i = V.bl j) = decide (i = j) by rw [dec_bl]; exact Bool.beq_eq_decide_eq i j]
  exact q _ _ G H (.refl v) (.bl _) p
/-- False not in a list of truths -/
theorem dpa_bls {G : Hp} : ∀ {vs : List V} {bs : List Bool}, DpAll K G vs (bs.map PyData.bool) → vs = bs.map V.bl
  | _, [], h => by cases h; rfl
  | _, b :: bs, h => by
    cases h with
    | cons h1 h2 =>
      cases h1
      rw [dpa_bls h2]
      rfl
theorem inV_false (bs : List Bool) : inV (.bl false) (bs.map V.bl) = bs.any (!·) := by
  unfold inV
  rw [List.any_map]
  congr 1
  funext b
  cases b <;> rfl
theorem flat_bls (bs : List Bool) : (bs.map V.bl).all flatV = true := by
  rw [List.all_eq_true]
  intro x hx
  obtain ⟨b, _, rfl⟩ := List.mem_map.mp hx
  rfl
theorem r_notIn {bs : List Bool} (p : P (.bool (!bs.any (!·)))) : R2d K pen (rIn K true) (.bool false) (.list (bs.map PyData.bool)) P := fun x y G H v hx hy Q q => by
  cases hx
  cases hy with
  | lst hs ha =>
    have e := dpa_bls ha
    subst e
    refine ⟨_, _, rfl, .inl (sqL_mono v.vw hs), rfl, flat_bls bs, ?_⟩
    rw [if_pos rfl, inV_false]
    exact q _ _ G H (.refl v) (.bl _) p
end
/-! ### the pen's own def -/
section
variable {K : PySem.W.Frag} {p : Pn} {pa pc : Addr} {pn : Nat} {ts : List Addr} {H0 : Hp} {L : Lv} {P P' : PyData → Prop} {ta tb tc te ti : TE} {D : Dn}
theorem Ev.pen {G H : Hp} {σ : L2.St} (e : Ev K ⟨some p, ts⟩ H0 G H σ L) {i : Nat} (hi : L[i]? = some (some .pen)) : σ[i]? = some (some (.ref p.a)) := by
  obtain ⟨v, hv, q, hq, rfl⟩ := e.sl i _ hi
  cases hq
  exact hv
/-- the pen is written -/
theorem Ev.putPen {G H : Hp} {σ : L2.St} (e : Ev K ⟨some p, ts⟩ H0 G H σ L) {o : HO} (h : PenOk p (upd H p.a o)) : Ev K ⟨some p, ts⟩ H0 G (upd H p.a o) σ L ∧ Gx ⟨some p, ts⟩ H0 G H G (upd H p.a o) := by
  have h0 : H0 p.a ≠ none := e.h0.there (.inl ⟨p, rfl, rfl⟩)
  have ga : G p.a = none := e.vw.no _ (.inl ⟨p, rfl, rfl⟩)
  refine ⟨⟨⟨fun b o q => ?_, e.vw.no, fun p' hp' => by cases hp'; exact h, fun P hP => tabX_upd (e.vw.ok.2 P hP) (fun z => e.vw.ok.apart (p := p) rfl hP (.inl z)) (let ⟨_, hx⟩ := (e.vw.ok.1 p rfl).lst (.inl rfl); code_ne hx rfl)⟩, e.h0, fun b hb => ?_, e.len, fun j av hj => ?_, e.ow⟩, Same.refl _, fun _ _ => rfl, fun b o hb _ q => ?_⟩
  · rw [upd_ne (fun w => by rw [w, ga] at q; cases q)]; exact e.vw.vw b o q
  · by_cases w : b = p.a
    · rw [w, upd_same]; exact fun z => by cases z
    · rw [upd_ne w]; exact e.dom b hb
  · obtain ⟨x, q1, q2⟩ := e.sl j av hj
    refine ⟨x, q1, ?_⟩
    cases av with
    | d x => exact q2
    | pen => exact q2
    | own ds =>
      obtain ⟨l, vs, rfl, k3, k4, k5⟩ := q2
      exact ⟨l, vs, rfl, by rw [upd_ne (fun w => h0 (by rw [← w]; exact k4))]; exact k3, k4, k5⟩
    | bor ds =>
      obtain ⟨l, vs, rfl, k3, k4, k5, k6⟩ := q2
      exact ⟨l, vs, rfl, by rw [upd_ne (fun w => k5 (.inl ⟨p, rfl, w⟩))]; exact k3, k4, k5, k6⟩
    | fr x =>
      refine nd_mono (fun a o h => ?_) _ _ q2
      rcases vnew_cases h with ⟨k, z⟩ | ⟨k, k0, k1, xs, rfl⟩
      · exact vnew_G k z
      · exact vnew_of k k0 (by rw [upd_ne (fun w => h0 (by rw [← w]; exact k0))]; exact k1)
  · rw [upd_ne (fun w => hb (.inl ⟨p, rfl, w⟩))]; exact q
theorem e_pen {i : Nat} {k : Int} (hi : L[i]? = some (some .pen)) (hk : k = 1 ∨ k = 2) (h : ∀ z : Int, 0 ≤ z → P (.int z)) : E K ⟨some ⟨pa, .pen pc pn⟩, ts⟩ H0 (tOp (rIxL K) (tVar i) (tC (.int k))) L P := fun σ G H e Q q => by
  obtain ⟨cells, at_, rest, m1, m2, m3, m4, m5⟩ := e.vw.ok.1 _ rfl
  refine ⟨_, e.pen hi, pa, _, k, .int (if k = 1 then at_ else rest), rfl, rfl, .inl (.inl m1), ?_, q _ _ G H (.refl e.vw) (.int _) (h _ ?_)⟩
  · rcases hk with rfl | rfl
    · rfl
    · rfl
  · split <;> assumption
theorem e_penLen {i : Nat} (hi : L[i]? = some (some .pen)) (h : P (.int pn)) : E K ⟨some ⟨pa, .pen pc pn⟩, ts⟩ H0 (tCB (fun xs H Q => ∃ p ys, xs = [.ref p] ∧ (SqL K H p ys ∨ SqT K H p ys) ∧ Q (.int ys.length) H) (tCons (tOp (rIxL K) (tVar i) (tC (.int 0))) tNil)) L P := fun σ G H e Q q => by
  obtain ⟨cells, at_, rest, m1, m2, m3, m4, m5⟩ := e.vw.ok.1 _ rfl
  refine ⟨_, e.pen hi, pa, _, 0, .ref pc, rfl, rfl, .inl (.inl m1), rfl, pc, _, rfl, .inl (.inl (.inl m2)), ?_⟩
  rw [List.length_map, m5]
  exact q _ _ G H (.refl e.vw) (.int _) h
theorem e_penIx {i : Nat} (hi : L[i]? = some (some .pen)) (h : E K ⟨some ⟨pa, .pen pc pn⟩, ts⟩ H0 ti L fun k => ∃ m : Nat, k = .int m ∧ m < pn ∧ ∀ z : Int, P (.int z)) : E K ⟨some ⟨pa, .pen pc pn⟩, ts⟩ H0 (tOp (rIxL K) (tOp (rIxL K) (tVar i) (tC (.int 0))) ti) L P := fun σ G H e Q q => by
  obtain ⟨cells, at_, rest, m1, m2, m3, m4, m5⟩ := e.vw.ok.1 _ rfl
  refine ⟨_, e.pen hi, pa, _, 0, .ref pc, rfl, rfl, .inl (.inl m1), rfl, h σ G H e _ fun v k G1 H1 go hd ⟨m, hm, hl, hp⟩ => ?_⟩
  subst hm
  cases hd
  have m2' : H1 pc = some (.lst (cells.map V.int)) := go.od _ _ (fun z => by
    rcases z with ⟨q, z, w⟩ | z
    · cases z
      have w : pc = pa := w
      rw [w, m1] at m2
      cases cells with
      | nil => cases m2
      | cons x r => cases m2
    · exact e.vw.ok.apart (p := ⟨pa, .pen pc pn⟩) rfl z (.inr ⟨_, _, rfl, rfl⟩)) m2
  refine ⟨pc, _, (m : Int), .int cells[m], rfl, rfl, .inl (.inl m2'), ?_, q _ _ G1 H1 go (.int _) (hp _)⟩
  refine atI_nat ?_
  rw [List.getElem?_map, List.getElem?_eq_getElem (by rw [m5]; exact hl)]
  rfl
theorem s_pen {i : Nat} {k : Int} (hi : L[i]? = some (some .pen)) (hk : k = 1 ∨ k = 2) (h : E K ⟨some ⟨pa, .pen pc pn⟩, ts⟩ H0 te L fun d => ∃ z, d = .int z ∧ 0 ≤ z ∧ D.nx L) : S K ⟨some ⟨pa, .pen pc pn⟩, ts⟩ H0 (tAsg te (gSub (tVar i) (tC (.int k)) rSetL)) L D := fun σ G H N e n1 _ _ _ _ _ =>
  h σ G H e _ fun v d G1 H1 g1 d1 ⟨z, hz, z0, hp⟩ => by
    subst hz
    cases d1
    have e1 := e.go g1
    obtain ⟨cells, at_, rest, m1, m2, m3, m4, m5⟩ := e1.vw.ok.1 _ rfl
    have ne : pc ≠ pa := fun w => by
      have m1 : H1 pa = _ := m1
      rw [w, m1] at m2
      cases cells with
      | nil => cases m2
      | cons x r => cases m2
    have put : ∀ (a r : Int), 0 ≤ a → 0 ≤ r → N.nx σ (upd H1 pa (.lst [.ref pc, .int a, .int r])) := fun a r ha hr => by
      obtain ⟨r1, r2⟩ := e1.putPen (p := ⟨pa, .pen pc pn⟩) (o := .lst [.ref pc, .int a, .int r]) ⟨cells, a, r, upd_same, by show upd H1 pa _ pc = _; rw [upd_ne ne]; exact m2, ha, hr, m5⟩
      exact n1 σ G1 _ L ((e.gx g1).trans r2) r1 hp
    rcases hk with rfl | rfl
    · exact ⟨_, e1.pen hi, pa, _, 1, 1, rfl, rfl, m1, rfl, put z rest z0 m4⟩
    · exact ⟨_, e1.pen hi, pa, _, 2, 2, rfl, rfl, m1, rfl, put at_ z m3 z0⟩
/-- the spring -/
theorem e_spr {i : Nat} (hi : L[i]? = some (some .pen)) (h : ∀ z : Int, P (.int z)) : E K ⟨some ⟨pa, .spr⟩, ts⟩ H0 (tOp (rIxL K) (tVar i) (tC (.int 0))) L P := fun σ G H e Q q => by
  obtain ⟨z, m1⟩ := e.vw.ok.1 _ rfl
  exact ⟨_, e.pen hi, pa, _, 0, .int z, rfl, rfl, .inl (.inl m1), rfl, q _ _ G H (.refl e.vw) (.int _) (h _)⟩
theorem s_spr {i : Nat} (hi : L[i]? = some (some .pen)) (h : E K ⟨some ⟨pa, .spr⟩, ts⟩ H0 te L fun d => ∃ z, d = .int z ∧ D.nx L) : S K ⟨some ⟨pa, .spr⟩, ts⟩ H0 (tAsg te (gSub (tVar i) (tC (.int 0)) rSetL)) L D := fun σ G H N e n1 _ _ _ _ _ =>
  h σ G H e _ fun v d G1 H1 g1 d1 ⟨z, hz, hp⟩ => by
    subst hz
    cases d1
    have e1 := e.go g1
    obtain ⟨z0, m1⟩ := e1.vw.ok.1 _ rfl
    obtain ⟨r1, r2⟩ := e1.putPen (p := ⟨pa, .spr⟩) (o := .lst [.int z]) ⟨z, upd_same⟩
    exact ⟨_, e1.pen hi, pa, _, 0, 0, rfl, rfl, m1, rfl, n1 σ G1 _ L ((e.gx g1).trans r2) r1 hp⟩
end
def WfTake (m : Int) : Prop := 0 < m ∧ m ≤ 10 ^ 60
def resTake (m : Int) (d : PyData) : Prop := ∃ z : Nat, d = .int (z : Int) ∧ (z : Int) < m
theorem resTake_of {z m : Int} (h0 : 0 ≤ z) (h1 : z < m) : resTake m (.int z) := ⟨z.toNat, by rw [Int.toNat_of_nonneg h0], by rw [Int.toNat_of_nonneg h0]; exact h1⟩
theorem take_all {m : Int} {P : PyData → Prop} (h : ∀ k : Nat, (k : Int) < m → P (.int (k : Int))) : ∀ d, resTake m d → P d := fun d ⟨k, e, hk⟩ => by rw [e]; exact h k hk
abbrev spTake (K : PySem.W.Frag) (ts : List Addr) : Sp := SpXP (α := Int) K ts WfTake (fun m => [.int m]) resTake
section
variable {K : PySem.W.Frag} {pen : Pc} {H0 : Hp} {P P' : PyData → Prop}
theorem r_modAny {i j : Int} (hc : 0 < j) (p : ∀ z, 0 ≤ z → z < j → P (.int z)) : R2d K pen (rI (fun _ j => 0 < j) fun i j => .int (i % j)) (.int i) (.int j) P := r_mod hc (p _ (Int.emod_nonneg _ (by omega)) (Int.emod_lt_of_pos _ hc))
theorem r_fdivW {i j : Int} (hc : CDivW i j) (p : P (.int (i / j))) : R2d K pen (rI CDivW fun i j => .int (i / j)) (.int i) (.int j) P := r_I (f := fun i j => .int (i / j)) (fun _ => .int _) hc p
theorem r_pow {i j : Int} (hc : CPow i j) (p : P (.int (i ^ j.toNat))) : R2d K pen (rI CPow fun i j => .int (i ^ j.toNat)) (.int i) (.int j) P := r_I (f := fun i j => .int (i ^ j.toNat)) (fun _ => .int _) hc p
end
end Dl
namespace Dl
open PySem PySem.Spec PyProof.Rows L2
theorem nox_K {CX : CXT} {P : Program} {w : World} {K : PySem.W.Frag} {mg : Str → Option Value} {base : Heap} {N : List Str} {qual : Str} {scope : Scope} {f : Addr} {cd : Value} {A : Around} {outer : List Env} {s : Shared} {H : Hp} {E : XK} : (cxOf CX P w K mg base N qual scope f cd A outer s H E).nox.K = K := rfl
theorem cx_K {CX : CXT} {P : Program} {w : World} {K : PySem.W.Frag} {mg : Str → Option Value} {base : Heap} {N : List Str} {qual : Str} {scope : Scope} {f : Addr} {cd : Value} {A : Around} {outer : List Env} {s : Shared} {H : Hp} {E : XK} : (cxOf CX P w K mg base N qual scope f cd A outer s H E).K = K := rfl
theorem blk_K {X : Cx} {s : Shared} {H : Hp} {sc : Scope} {env : Env} {fp : List Addr} : (X.blk s H sc env fp).K = X.K := rfl
end Dl
namespace Dl
open PySem PySem.Spec PyProof.Rows L2
section
variable {X : Cx} (K : PySem.W.Frag)
theorem kx_ixT (h : X.K = K) : IxR X (rIxT K) := by subst h; exact ix_tup
theorem kx_ixL (h : X.K = K) : IxR X (rIxL K) := by subst h; exact ix_list
theorem kx_slT (h : X.K = K) : SlR X (rSlA K) := by subst h; exact sl_tupA
theorem kx_slL (h : X.K = K) : SlR X (rSlL K) := by subst h; exact sl_list
theorem kx_catT (h : X.K = K) : OpR X (binaryOp .Add) (rCatA K) := by subst h; exact op_catA
theorem kx_in (h : X.K = K) : OpR X (compareOp .In) (rIn K false) := by subst h; exact op_in_seq
theorem kx_notIn (h : X.K = K) : OpR X (compareOp .NotIn) (rIn K true) := by subst h; exact op_notIn_seq
theorem kx_eqD (h : X.K = K) (hu : X.A.units + 64 < cLine) : OpR X (compareOp .Eq) (rEqD K) := by subst h; exact op_eqD hu
theorem kx_neD (h : X.K = K) (hu : X.A.units + 64 < cLine) : OpR X (compareOp .NotEq) (rNeD K) := by subst h; exact op_neD hu
theorem kx_len (h : X.K = K) : CallR X (.builtin "len") (fun xs H Q => ∃ p ys, xs = [.ref p] ∧ (SqL K H p ys ∨ SqT K H p ys) ∧ Q (.int ys.length) H) := by subst h; exact call_len_seq
theorem kx_list (h : X.K = K) : CallR X (.type "list") (fun xs H Q => ∃ p ys, xs = [.ref p] ∧ (SqL K H p ys ∨ SqT K H p ys) ∧ ∀ l, H l = none → Q (.ref l) (upd H l (.lst ys))) := by subst h; exact call_list_of
theorem kx_tuple (h : X.K = K) : CallR X (.type "tuple") (fun xs H Q => ∃ p ys, xs = [.ref p] ∧ ((SqL K H p ys ∧ ∀ l, H l = none → Q (.ref l) (upd H l (.tup ys))) ∨ (SqT K H p ys ∧ Q (.ref p) H))) := by subst h; exact call_tuple_of
theorem kx_isi (h : X.K = K) : CallR X (.builtin "isinstance") (rIsi K) := by subst h; exact call_isi
variable {l tg : Expr} {tl : TE}
theorem kx_piL (h : X.K = K) (hl : PE X l tl) : PI X tg l (iList K tl) := by subst h; exact pi_list hl
theorem kx_piT (h : X.K = K) (hl : PE X l tl) : PI X tg l (iTup K tl) := by subst h; exact pi_tup hl
theorem kx_zip {e e2 : Expr} {ta : TA} {p pos tpos : Pos} {elts : List Expr} {kk : Nat} (h : X.K = K) (hg : Gl X "zip") (hm : X.mg "zip" = none) (ha : PA X [e, e2] ta)
    (hs : starEach [e, e2] X.env = (false, eval e X.env) :: starEach [e2] X.env := by rfl) (hpl : (backTo pos (starEach [e2] X.env)).any (·.1) = false := by rfl) :
    PI X (.Tuple elts kk tpos) (.Call (.Name "zip" p) [e, e2] [] pos) (RZ.iZipA K ta) := by subst h; exact RZ.pi_zipA hg hm ha hs hpl
theorem kx_pgT {es : List Expr} {k : Nat} {t : TGs} {n : Nat} {pos : Pos} (h : X.K = K) (hc : X.calm = true) (hp : PGs X es t)
    (hn : (assignEach es X.env).length = n := by rfl) (hst : (assignEach es X.env).findIdx? (·.1) = none := by rfl) : PG X (.Tuple es k pos) (gTup K n t) := by subst h; exact pg_tup hc hp hn hst
end
end Dl
namespace Dl
open PySem PySem.Spec PyProof.Rows L2
inductive Ty where
  | int | bool | str | tuple | list
def Ty.s : Ty → String
  | .int => "int"
  | .bool => "bool"
  | .str => "str"
  | .tuple => "tuple"
  | .list => "list"
def isT : PyData → Ty → Bool
  | .bool _, .int => true
  | .bool _, .bool => true
  | .int _, .int => true
  | .str _, .str => true
  | .tuple _, .tuple => true
  | .list _, .list => true
  | _, _ => false
theorem isT_eq (d : PyData) (t : Ty) : isD d t.s = isT d t := by
  cases d with
  | none => cases t <;> (show isS "NoneType" _ = _) <;> decide +kernel
  | bool b => cases t <;> (show isS "bool" _ = _) <;> (first | (show _ = true; decide +kernel) | (show _ = false; decide +kernel))
  | int b => cases t <;> (show isS "int" _ = _) <;> (first | (show _ = true; decide +kernel) | (show _ = false; decide +kernel))
  | str b => cases t <;> (show isS "str" _ = _) <;> (first | (show _ = true; decide +kernel) | (show _ = false; decide +kernel))
  | list b => cases t <;> (show isS "list" _ = _) <;> (first | (show _ = true; decide +kernel) | (show _ = false; decide +kernel))
  | tuple b => cases t <;> (show isS "tuple" _ = _) <;> (first | (show _ = true; decide +kernel) | (show _ = false; decide +kernel))
  | dict b => cases t <;> (show isS "dict" _ = _) <;> (first | (show _ = true; decide +kernel) | (show _ = false; decide +kernel))
section
variable {K : PySem.W.Frag} {pen : Pc} {H0 : Hp} {L : Lv} {P : PyData → Prop} {ta : TE}
theorem e_isT (t : Ty) (h : E K pen H0 ta L fun d => P (.bool (isT d t))) : E K pen H0 (tCB (rIsi K) (tCons ta (tCons (tC (.ty t.s)) tNil))) L P :=
  e_isi (by cases t <;> simp [Ty.s]) (h.mono fun d p => by rw [isT_eq]; exact p)
theorem e_isI (h : E K pen H0 ta L fun d => P (.bool (isT d .int))) : E K pen H0 (tCB (rIsi K) (tCons ta (tCons (tC (.ty "int")) tNil))) L P := e_isT .int h
theorem e_isB (h : E K pen H0 ta L fun d => P (.bool (isT d .bool))) : E K pen H0 (tCB (rIsi K) (tCons ta (tCons (tC (.ty "bool")) tNil))) L P := e_isT .bool h
theorem e_isS (h : E K pen H0 ta L fun d => P (.bool (isT d .str))) : E K pen H0 (tCB (rIsi K) (tCons ta (tCons (tC (.ty "str")) tNil))) L P := e_isT .str h
theorem e_isTu (h : E K pen H0 ta L fun d => P (.bool (isT d .tuple))) : E K pen H0 (tCB (rIsi K) (tCons ta (tCons (tC (.ty "tuple")) tNil))) L P := e_isT .tuple h
theorem e_isL (h : E K pen H0 ta L fun d => P (.bool (isT d .list))) : E K pen H0 (tCB (rIsi K) (tCons ta (tCons (tC (.ty "list")) tNil))) L P := e_isT .list h
def isNone : PyData → Bool
  | .none => true
  | _ => false
theorem r_isNone {a : PyData} (p : P (.bool (isNone a))) : R2d K pen (fun x y H Q => y = .non ∧ Q (.bl (decide (x = .non))) H) a .none P := r_isN (by cases a <;> exact p)
end
/-- data with a bound on its depth and its lengths -/
def Flat : Nat → PyData → Prop
  | _, .none => True
  | _, .bool _ => True
  | _, .int _ => True
  | _, .str _ => True
  | n + 1, .tuple ds => ds.length ≤ 1000 ∧ ∀ d ∈ ds, Flat n d
  | n + 1, .list ds => ds.length ≤ 1000 ∧ ∀ d ∈ ds, Flat n d
  | _, _ => False
end Dl
set_option Elab.async false
set_option linter.all false
set_option maxRecDepth 100000
namespace Dl
open PySem PySem.Spec PyProof.Rows L2
/-! ### forgetting slots -/
def Sub (L' L : Lv) : Prop := L'.length = L.length ∧ ∀ (i : Nat) av, L'[i]? = some (some av) → L[i]? = some (some av)
theorem Sub.refl (L : Lv) : Sub L L := ⟨rfl, fun _ _ h => h⟩
theorem Sub.trans {A B C : Lv} (h : Sub A B) (k : Sub B C) : Sub A C := ⟨h.1.trans k.1, fun i av q => k.2 i av (h.2 i av q)⟩
theorem Sub.nil : Sub [] [] := Sub.refl _
theorem Sub.keep {x : Option AV} {L' L : Lv} (h : Sub L' L) : Sub (x :: L') (x :: L) := by
  refine ⟨by rw [List.length_cons, List.length_cons, h.1], fun i av q => ?_⟩
  cases i with
  | zero => exact q
  | succ i => exact h.2 i av q
theorem Sub.drop {x : Option AV} {L' L : Lv} (h : Sub L' L) : Sub (none :: L') (x :: L) := by
  refine ⟨by rw [List.length_cons, List.length_cons, h.1], fun i av q => ?_⟩
  cases i with
  | zero => cases q
  | succ i => exact h.2 i av q
section
variable {K : PySem.W.Frag} {pen : Pc} {H0 : Hp} {L L' : Lv} {P P' : PyData → Prop} {ta tb tc te ti : TE} {tl tr : TA} {tt : TT} {t u : TS} {Pb : Bool → Prop} {D : Dn} {g : TG} {gs : TGs}
theorem Ev.sub {G H : Hp} {σ : L2.St} (e : Ev K pen H0 G H σ L) (s : Sub L' L) : Ev K pen H0 G H σ L' :=
  ⟨e.vw, e.h0, e.dom, e.len.trans s.1.symm, fun i av h => e.sl i av (s.2 i av h), fun i j ds es l h1 h2 => e.ow i j ds es l (s.2 _ _ h1) (s.2 _ _ h2)⟩
theorem S.sub (h : S K pen H0 t L' D) (s : Sub L' L) : S K pen H0 t L D := fun σ G H N e => h σ G H N (e.sub s)
theorem E.sub (h : E K pen H0 te L' P) (s : Sub L' L) : E K pen H0 te L P := fun σ G H e => h σ G H (e.sub s)
theorem GT.sub {d : PyData} {Q : Lv → Prop} (h : GT K pen H0 g d L' Q) (s : Sub L' L) : GT K pen H0 g d L Q := fun σ G H v e => h σ G H v (e.sub s)
/-- what a loop keeps, with slots forgotten -/
abbrev Wk (I : Nat → Lv → Prop) (i : Nat) (L : Lv) : Prop := ∃ L3, Sub L3 L ∧ I i L3
theorem s_forRw (h : EA K pen H0 tl L fun ds => ∃ n : Nat, ds = [.int n] ∧ n ≤ 100000 ∧ ∃ I : Nat → Lv → Prop, Wk I 0 L ∧ (∀ (i : Nat) L', i < n → I i L' → GT K pen H0 g (.int i) L' fun L2 => S K pen H0 t L2 { D with nx := Wk I (i + 1), ct := Wk I (i + 1), bk := D.nx }) ∧ (∀ L', I n L' → ∀ L4, Sub L' L4 → D.nx L4)) :
    S K pen H0 (tFor (iRng1 tl) g t) L D := s_forR fun σ G H e Q q => h σ G H e Q fun vs ds G' H' go hd ⟨n, h1, h2, I, h3, h4, h5⟩ => q vs ds G' H' go hd ⟨n, h1, h2, Wk I, h3, fun i L' hi ⟨L3, s, hI⟩ => (h4 i L3 hi hI).sub s, fun L' ⟨L3, s, hI⟩ => h5 L3 hI L' s⟩
theorem s_forTw (h : E K pen H0 te L fun d => ∃ ds, d = .tuple ds ∧ ∃ I : Nat → Lv → Prop, Wk I 0 L ∧ (∀ (i : Nat) x L', ds[i]? = some x → I i L' → GT K pen H0 g x L' fun L2 => S K pen H0 t L2 { D with nx := Wk I (i + 1), ct := Wk I (i + 1), bk := D.nx }) ∧ (∀ L', I ds.length L' → ∀ L4, Sub L' L4 → D.nx L4)) :
    S K pen H0 (tFor (iTup K te) g t) L D := s_forT fun σ G H e Q q => h σ G H e Q fun v d G' H' go hd ⟨ds, h1, I, h3, h4, h5⟩ => q v d G' H' go hd ⟨ds, h1, Wk I, h3, fun i x L' hi ⟨L3, s, hI⟩ => (h4 i x L3 hi hI).sub s, fun L' ⟨L3, s, hI⟩ => h5 L3 hI L' s⟩
theorem s_forLw (h : E K pen H0 te L fun d => ∃ ds, d = .list ds ∧ ∃ I : Nat → Lv → Prop, Wk I 0 L ∧ (∀ (i : Nat) x L', ds[i]? = some x → I i L' → GT K pen H0 g x L' fun L2 => S K pen H0 t L2 { D with nx := Wk I (i + 1), ct := Wk I (i + 1), bk := D.nx }) ∧ (∀ L', I ds.length L' → ∀ L4, Sub L' L4 → D.nx L4)) :
    S K pen H0 (tFor (iList K te) g t) L D := s_forL fun σ G H e Q q => h σ G H e Q fun v d G' H' go hd ⟨ds, h1, I, h3, h4, h5⟩ => q v d G' H' go hd ⟨ds, h1, Wk I, h3, fun i x L' hi ⟨L3, s, hI⟩ => (h4 i x L3 hi hI).sub s, fun L' ⟨L3, s, hI⟩ => h5 L3 hI L' s⟩
/-! ### the law's beginning -/
theorem pen_start {ts : List Addr} {N : Ends} {σ : L2.St} {H1 : Hp} {p c : Addr} {cells : List Int} (hp : H1 p = some (.lst [.ref c, .int 0, .int 0])) (hc : H1 c = some (.lst (cells.map V.int))) (hlen : σ.length = L.length)
    (hL : ∀ (i : Nat) av, L[i]? = some (some av) → av = .pen ∧ σ[i]? = some (some (.ref p))) (hts : ∀ P ∈ ts, _root_.Gx.TabX H1 P) (h : S K ⟨some ⟨p, .pen c cells.length⟩, ts⟩ H1 t L { nx := fun _ => False, rt := fun d => d = .bool true }) (q : ∀ H', N.rt (.bl true) H') : t N σ H1 := by
  have ok : POk ⟨some ⟨p, .pen c cells.length⟩, ts⟩ H1 := ⟨fun p' e => by cases e; exact ⟨cells, 0, 0, hp, hc, Int.le_refl _, Int.le_refl _, rfl⟩, hts⟩
  refine h σ (fun _ => none) H1 N ⟨⟨fun a o e => (nomatch e), fun _ _ => rfl, ok⟩, ok, fun _ h => h, hlen, fun i av hi => ?_, fun i j ds es l h1 => ?_⟩ (fun _ _ _ _ _ _ z => z.elim) (fun v d G' H' _ _ hd e => ?_) (fun _ _ _ _ _ _ z => z.elim) (fun _ _ _ _ _ _ z => z.elim) (fun _ _ _ _ _ _ _ z => z.elim) (fun _ _ _ _ _ _ _ _ _ _ _ z => z.elim)
  · obtain ⟨rfl, e⟩ := hL i av hi
    exact ⟨_, e, _, rfl, rfl⟩
  · cases (hL i _ h1).1
  · subst e
    cases hd
    exact q H'
def spPen (K : PySem.W.Frag) : Sp := fun vs H Q _ => ∃ (a : Addr) (ns : List Int), vs = [.ref a] ∧ SqL K H a (ns.map V.int) ∧
  ∀ (p c : Addr) (cells : List Int) H', H' p = some (.lst [.ref c, .int 0, .int 0]) → H' c = some (.lst (cells.map V.int)) → Q (.ref p) H'
def spLaw (K : PySem.W.Frag) : Sp := fun vs H Q _ => ∃ (a : Addr) (ns : List Int), vs = [.ref a] ∧ SqL K H a (ns.map V.int) ∧ ns.length ≤ 63 ∧ ∀ H', Q (.bl true) H'
theorem cut_ints (ns : List Int) (lo hi : Option Int) : ∃ ms : List Int, cutV (ns.map V.int) lo hi = ms.map V.int := by
  unfold cutV
  exact ⟨_, by rw [← List.map_drop, ← List.map_take]⟩
end
section
variable {P : Program} {w : World} {K : PySem.W.Frag} {mg : Str → Option Value} {base : Heap}
theorem fn_never {α : Type} {ts : List Addr} {k : Nat} {f : Addr} {fd : FuncData} {ps : List Str} {enc : α → List PyData} {res : α → PyData → Prop} : FnOk P w K mg base CX0 k f fd ps (SpX K ts (fun _ : α => False) enc res) :=
  ⟨fun _ _ _ _ ⟨_, _, _, _, z, _⟩ => z.elim, fun _ _ _ _ _ _ _ _ _ _ _ _ _ ⟨_, _, _, _, z, _⟩ => z.elim⟩
end
end Dl
set_option Elab.async false
set_option linter.all false
set_option maxRecDepth 100000
namespace Dl
open PySem PySem.Spec PyProof.Rows L2 _root_.Gx GxR
/-! ### a def whose code object is known -/
structure FunC (K : PySem.W.Frag) (x qual : Str) (st : Stmt) (f : Addr) (fd : FuncData) (c : Addr) : Prop where
  ex : ∃ (oc : Value) (od : Option Addr) (kV doc pm : Value) (an : Option Addr) (ct : Value) (osl : Array (Option Value)),
    fd = PySem.W.fnOf x qual (defArgs st) (defBody st) (defScope st) .none kV doc pm an (.ref c) ct ∧ K.lookup f = some ⟨oc, od, .func fd, osl⟩ ∧ PySem.W.codeIn K (.ref c) qual = true
  kp : PySem.W.keepIn K (.ref f) = true
section
variable {P : Program} {w : World} {K : PySem.W.Frag} {mg : Str → Option Value} {base : Heap}
theorem FunC.plain {x qual : Str} {st : Stmt} {f c : Addr} {fd : FuncData} (F : FunC K x qual st f fd c) : Fun K x qual st f fd := by
  obtain ⟨oc, od, kV, doc, pm, an, ct, osl, e, l, h⟩ := F.ex
  exact ⟨⟨oc, od, kV, doc, pm, an, .ref c, ct, osl, e, l, h⟩, F.kp⟩
theorem funC_mk {x qual : Str} {st : Stmt} {f c : Addr} {oc : Value} {od an : Option Addr} {osl : Array (Option Value)} {kV doc pm ct : Value} (l : K.lookup f = some ⟨oc, od, .func (PySem.W.fnOf x qual (defArgs st) (defBody st) (defScope st) .none kV doc pm an (.ref c) ct), osl⟩)
    (h : PySem.W.codeIn K (.ref c) qual = true) (k : PySem.W.keepIn K (.ref f) = true) : FunC K x qual st f (PySem.W.fnOf x qual (defArgs st) (defBody st) (defScope st) .none kV doc pm an (.ref c) ct) c := ⟨⟨oc, od, kV, doc, pm, an, ct, osl, rfl, l, h⟩, k⟩
theorem FunC.ok {x qual : Str} {st : Stmt} {f c : Addr} {fd : FuncData} {N ps : List Str} {k : Nat} {sp : Sp} (F : FunC K x qual st f fd c) (S : FnScope N ps (defScope st)) (len : ∀ vs H Q E, sp vs H Q E → vs.length = ps.length)
    (hbody : ∀ (A : Around) (outer : List Env) (s : Shared) (H : Hp) (vs : List V) (Q : VK) (E : XK), Room k (A.deeper (envOfC qual (defScope st) s.heap.objs.size f (.ref c))) → sp vs H Q E →
      ∃ t, PSs (cxOf CX0 P w K mg base N qual (defScope st) f (.ref c) A outer s H E).nox (defBody st) t ∧ t { nx := fun _ H' => Q .non H', rt := Q } (L2.start N vs) H) : FnOk P w K mg base CX0 (k + 1) f fd ps sp := by
  obtain ⟨oc, od, kV, doc, pm, an, ct, osl, rfl, lk, hcd⟩ := F.ex
  refine fn_of lk hcd S len fun A outer s H vs Q E hr hsp => ?_
  obtain ⟨t, h, q⟩ := hbody A outer s H vs Q E hr hsp
  exact ⟨t, h.nox, q⟩
/-- a def without the pen, its code object known -/
theorem fnXc {α : Type} {x qual : Str} {st : Stmt} {f c : Addr} {fd : FuncData} {N ps : List Str} {k : Nat} {ts : List Addr} {Wf : α → Prop} {enc : α → List PyData} {res : α → PyData → Prop} (F : FunC K x qual st f fd c) (S0 : FnScope N ps (defScope st)) (hl : ∀ x, Wf x → (enc x).length = ps.length)
    (hbody : ∀ (A : Around) (outer : List Env) (s : Shared) (H : Hp) (E : XK), Room k (A.deeper (envOfC qual (defScope st) s.heap.objs.size f (.ref c))) →
      ∃ t, PSs (cxOf CX0 P w K mg base N qual (defScope st) f (.ref c) A outer s H E).nox (defBody st) t ∧ ∀ x, Wf x → S K ⟨none, ts⟩ H t (st0 N (enc x)) { nx := fun _ => res x .none, rt := res x }) : FnOk P w K mg base CX0 (k + 1) f fd ps (SpX K ts Wf enc res) := by
  refine F.ok S0 (fun vs H Q E h => ?_) (fun A outer s H vs Q E hr h => ?_)
  · obtain ⟨x, G, _, h1, h2, _⟩ := h
    rw [dpa_len h1]
    exact hl x h2
  · obtain ⟨x, G, v, h1, h2, q⟩ := h
    obtain ⟨t, ht, hS⟩ := hbody A outer s H E hr
    refine ⟨t, ht, hS x h2 (L2.start N vs) G H _ (ev_start h1 v) (fun σ' G' H' L' x e' p => ?_) (fun v d G' H' x vw hd p => ?_) (fun _ _ _ _ _ _ z => z.elim) (fun _ _ _ _ _ _ z => z.elim) (fun _ _ _ _ _ _ _ z => z.elim) (fun _ _ _ _ _ _ _ _ _ _ _ z => z.elim)⟩
    · exact q .non .none G' H' ⟨x.gg, x.nw, fun a o hp e => x.od a o hp (by rw [e]; exact fun z => by cases z) e, e'.vw⟩ .non p
    · exact q v d G' H' ⟨x.gg, x.nw, fun a o hp e => x.od a o hp (by rw [e]; exact fun z => by cases z) e, vw⟩ hd p
end
/-! ### all(..), any(..) by data -/
section
variable {K : PySem.W.Frag} {pn : Option Pn} {ts : List Addr} {H0 : Hp} {L : Lv} {P P' : PyData → Prop} {ta tb tc te ti : TE} {tl tr : TA} {tt : TT} {Tb : Addr} {go : Bool}
/-- the table has grown -/
theorem Go.tab {c : Pc} {G H H' : Hp} (v : Vw c G H) (hT : Tb ∈ c.ts) (h : TabbedX Tb H H') : Go c G H G H' := by
  refine ⟨Same.refl _, fun _ _ => rfl, fun a o n e => ?_, ⟨fun a o e => ?_, v.no, fun p hp => ?_, fun P hP => ?_⟩⟩
  · exact h.2 a o (fun z => n (.inr (by rw [z]; exact hT))) e
  · exact h.2 a o (fun z => by rw [z, v.no _ (.inr hT)] at e; cases e) (v.vw a o e)
  · exact (v.ok.1 p hp).mono fun a o ho e => h.2 a o (fun z => v.ok.apart hp hT (z ▸ ho)) e
  · exact (v.ok.2 P hP).other h (v.ok.2 Tb hT)
/-- one turn of the element, by data: J is kept, or it ends -/
abbrev GnT (K : PySem.W.Frag) (c : Pc) (H0 : Hp) (go : Bool) (tt : TT) (te : TE) (L2 : Lv) (Jn : Prop) (P : PyData → Prop) : Prop :=
  ET K c H0 tt L2 fun b => (b = true → E K c H0 te L2 fun d => ∃ k, d = .bool k ∧ (k = go → Jn) ∧ (k = !go → P (.bool (!go)))) ∧ (b = false → Jn)
theorem gn_turn {c : Pc} {G1 H1 G' H' : Hp} {σ2 : L2.St} {L2 : Lv} {Jn : Prop} {Nx : Hp → Prop} {Q : VK} (g : Go c G1 H1 G' H') (e2 : Ev K c H0 G' H' σ2 L2) (h : GnT K c H0 go tt te L2 Jn P)
    (hN : ∀ G3 H3, Go c G1 H1 G3 H3 → Jn → Nx H3) (q : ∀ v d G' H', Go c G1 H1 G' H' → Dp K G' v d → P d → Q v H') :
    tt σ2 H' fun b H3 => if b = true then te σ2 H3 fun y H4 => YdB go (fun H => Q (.bl (!go)) H) y H4 Nx else Nx H3 := by
  refine h σ2 G' H' e2 _ fun b G3 H3 g3 p => ?_
  cases b with
  | false => exact hN G3 H3 (g.trans g3) (p.2 rfl)
  | true =>
    show te σ2 H3 _
    refine p.1 rfl σ2 G3 H3 (e2.go g3) _ fun y d G4 H4 g4 d4 ⟨k, hk, p1, p2⟩ => ?_
    subst hk
    cases d4
    refine ⟨k, rfl, ?_⟩
    by_cases z : k = go
    · rw [if_pos z]
      exact hN G4 H4 ((g.trans g3).trans g4) (p1 z)
    · rw [if_neg z]
      exact q _ _ G4 H4 ((g.trans g3).trans g4) (.bl _) (p2 (by cases k <;> cases go <;> simp_all))
theorem e_genT {j : Nat} (hT : Tb ∈ ts) (h : E K ⟨pn, ts⟩ H0 ta L fun d => ∃ ds, d = .tuple ds ∧ ∃ J : Nat → Prop, J 0 ∧
    (∀ (i : Nat) x, ds[i]? = some x → J i → GnT K ⟨pn, ts⟩ H0 go tt te ((L.set j none).set j (some (.d x))) (J (i + 1)) P) ∧ (J ds.length → P (.bool go))) :
    E K ⟨pn, ts⟩ H0 (tGen Tb go (iTup K ta) (gName j) tt te [j]) L P := fun σ G H e Q q => h σ G H e _ fun v d G1 H1 gg hd ⟨ds, hds, J, j0, js, je⟩ => by
  subst hds
  cases hd with
  | tup hs ha =>
    rename_i a xs
    refine ⟨a, rfl, ⟨xs, sqT_mono gg.vw.vw hs⟩, gg.vw.ok.2 Tb hT, fun H2 htab => ?_⟩
    have g2 := Go.tab gg.vw hT htab
    refine ⟨fun i m H' => m = ds.length - i ∧ i ≤ ds.length ∧ J i ∧ ∃ G', Go ⟨pn, ts⟩ G1 H2 G' H', ⟨ds.length, rfl, Nat.zero_le _, j0, G1, .refl g2.vw⟩, ?_⟩
    rintro i m H' ⟨rfl, hi, hJ, G', g⟩
    have z1 : SqT K H' a xs := sqT_mono (g.gg.trans g.vw.vw) hs
    have q' : ∀ v d G' H', Go ⟨pn, ts⟩ G1 H2 G' H' → Dp K G' v d → P d → Q v H' := fun v d G' H' g hd p => q v d G' H' ((gg.trans g2).trans g) hd p
    by_cases hlt : i < ds.length
    · obtain ⟨x, hx, dx⟩ := dpa_get ha (List.getElem?_eq_getElem hlt)
      refine .inr ⟨⟨xs, x, z1, hx⟩, fun H3 => J (i + 1) ∧ ∃ G', Go ⟨pn, ts⟩ G1 H2 G' H3, fun H3 ⟨k1, k2⟩ => ⟨ds.length - (i + 1), by omega, rfl, hlt, k1, k2⟩, fun y H3 hy => ?_⟩
      obtain ⟨rfl, hy⟩ := hy
      have e1 : y = x := Option.some.inj ((hy _ z1).symm.trans hx)
      subst e1
      refine ⟨wipe1 _ _ _, ?_⟩
      exact gn_turn g ((ev_wipe1 (((e.go gg).go g2).go g) j).set (dp_mono g.gg _ _ dx)) (js i _ (List.getElem?_eq_getElem hlt) hJ) (fun G3 H3 g3 k => ⟨k, G3, g3⟩) q'
    · have e1 : i = ds.length := by omega
      subst e1
      exact .inl ⟨⟨xs, z1, by rw [dpa_len ha]; exact Nat.le_refl _⟩, q' _ _ G' H' g (.bl _) (je hJ)⟩
theorem e_genL {j : Nat} (hT : Tb ∈ ts) (h : E K ⟨pn, ts⟩ H0 ta L fun d => ∃ ds, d = .list ds ∧ ∃ J : Nat → Prop, J 0 ∧
    (∀ (i : Nat) x, ds[i]? = some x → J i → GnT K ⟨pn, ts⟩ H0 go tt te ((L.set j none).set j (some (.d x))) (J (i + 1)) P) ∧ (J ds.length → P (.bool go))) :
    E K ⟨pn, ts⟩ H0 (tGen Tb go (iList K ta) (gName j) tt te [j]) L P := fun σ G H e Q q => h σ G H e _ fun v d G1 H1 gg hd ⟨ds, hds, J, j0, js, je⟩ => by
  subst hds
  cases hd with
  | lst hs ha =>
    rename_i a xs
    refine ⟨a, rfl, ⟨xs, sqL_mono gg.vw.vw hs⟩, gg.vw.ok.2 Tb hT, fun H2 htab => ?_⟩
    have g2 := Go.tab gg.vw hT htab
    refine ⟨fun i m H' => m = ds.length - i ∧ i ≤ ds.length ∧ J i ∧ ∃ G', Go ⟨pn, ts⟩ G1 H2 G' H', ⟨ds.length, rfl, Nat.zero_le _, j0, G1, .refl g2.vw⟩, ?_⟩
    rintro i m H' ⟨rfl, hi, hJ, G', g⟩
    have z1 : SqL K H' a xs := sqL_mono (g.gg.trans g.vw.vw) hs
    have q' : ∀ v d G' H', Go ⟨pn, ts⟩ G1 H2 G' H' → Dp K G' v d → P d → Q v H' := fun v d G' H' g hd p => q v d G' H' ((gg.trans g2).trans g) hd p
    by_cases hlt : i < ds.length
    · obtain ⟨x, hx, dx⟩ := dpa_get ha (List.getElem?_eq_getElem hlt)
      refine .inr ⟨⟨xs, x, z1, hx⟩, fun H3 => J (i + 1) ∧ ∃ G', Go ⟨pn, ts⟩ G1 H2 G' H3, fun H3 ⟨k1, k2⟩ => ⟨ds.length - (i + 1), by omega, rfl, hlt, k1, k2⟩, fun y H3 hy => ?_⟩
      obtain ⟨rfl, hy⟩ := hy
      have e1 : y = x := Option.some.inj ((hy _ z1).symm.trans hx)
      subst e1
      refine ⟨wipe1 _ _ _, ?_⟩
      exact gn_turn g ((ev_wipe1 (((e.go gg).go g2).go g) j).set (dp_mono g.gg _ _ dx)) (js i _ (List.getElem?_eq_getElem hlt) hJ) (fun G3 H3 g3 k => ⟨k, G3, g3⟩) q'
    · have e1 : i = ds.length := by omega
      subst e1
      exact .inl ⟨⟨xs, z1, by rw [dpa_len ha]; exact Nat.le_refl _⟩, q' _ _ G' H' g (.bl _) (je hJ)⟩
/-- over zip of two tuples of one length -/
theorem e_genZ {j k : Nat} (hT : Tb ∈ ts) (h : EA K ⟨pn, ts⟩ H0 tl L fun ds => ∃ as bs, ds = [.tuple as, .tuple bs] ∧ as.length = bs.length ∧ ∃ J : Nat → Prop, J 0 ∧
    (∀ (i : Nat) x y, as[i]? = some x → bs[i]? = some y → J i → GnT K ⟨pn, ts⟩ H0 go tt te ((((L.set k none).set j none).set j (some (.d x))).set k (some (.d y))) (J (i + 1)) P) ∧ (J as.length → P (.bool go))) :
    E K ⟨pn, ts⟩ H0 (tGen Tb go (RZ.iZipA K tl) (gTup K 2 (gCons (gName j) (gCons (gName k) gNil))) tt te [j, k]) L P := fun σ G H e Q q => h σ G H e _ fun vs ds G1 H1 gg hd ⟨as, bs, hds, hl, J, j0, js, je⟩ => by
  subst hds
  cases hd with
  | cons hd hd2 =>
    cases hd2 with
    | cons hd3 hd4 =>
      cases hd4
      cases hd with
      | tup hs ha =>
        cases hd3 with
        | tup hs' ha' =>
          rename_i a xs a' ys
          refine ⟨a, a', xs, ys, rfl, .inr ⟨sqT_mono gg.vw.vw hs, sqT_mono gg.vw.vw hs', gg.vw.ok.2 Tb hT, fun H2 htab => ?_⟩⟩
          have g2 := Go.tab gg.vw hT htab
          refine ⟨fun i m H' => m = as.length - i ∧ i ≤ as.length ∧ J i ∧ ∃ G', Go ⟨pn, ts⟩ G1 H2 G' H', ⟨as.length, rfl, Nat.zero_le _, j0, G1, .refl g2.vw⟩, ?_⟩
          rintro i m H' ⟨rfl, hi, hJ, G', g⟩
          have z1 : SqT K H' a xs := sqT_mono (g.gg.trans g.vw.vw) hs
          have z2 : SqT K H' a' ys := sqT_mono (g.gg.trans g.vw.vw) hs'
          have q' : ∀ v d G' H', Go ⟨pn, ts⟩ G1 H2 G' H' → Dp K G' v d → P d → Q v H' := fun v d G' H' g hd p => q v d G' H' ((gg.trans g2).trans g) hd p
          by_cases hlt : i < as.length
          · obtain ⟨x, hx, dx⟩ := dpa_get ha (List.getElem?_eq_getElem hlt)
            obtain ⟨y, hy, dy⟩ := dpa_get ha' (List.getElem?_eq_getElem (hl ▸ hlt))
            refine .inr ⟨⟨xs, ys, x, y, z1, z2, hx, hy⟩, fun H3 => J (i + 1) ∧ ∃ G', Go ⟨pn, ts⟩ G1 H2 G' H3, fun H3 ⟨k1, k2⟩ => ⟨as.length - (i + 1), by omega, rfl, hlt, k1, k2⟩, fun v H3 hv => ?_⟩
            obtain ⟨T, x', y', rfl, hT', rfl, f1, f2⟩ := hv
            have e1 : x' = x := Option.some.inj ((f1 _ z1).symm.trans hx)
            have e2 : y' = y := Option.some.inj ((f2 _ z2).symm.trans hy)
            subst e1 e2
            have g3 := Go.new g.vw (o := .tup [x', y']) hT'
            refine ⟨T, [x', y'], rfl, .inl (.inl upd_same), rfl, x', [y'], rfl, y', [], rfl, rfl, wipe2 _ _ _ _ _, ?_⟩
            have ex := (((ev_wipe2 (((e.go gg).go g2).go g) j k).go g3).set (i := j) (dp_mono (g.gg.trans g3.gg) _ _ dx)).set (i := k) (dp_mono (g.gg.trans g3.gg) _ _ dy)
            exact gn_turn (g.trans g3) ex (js i _ _ (List.getElem?_eq_getElem hlt) (List.getElem?_eq_getElem (hl ▸ hlt)) hJ) (fun G3 H3 g3 k => ⟨k, G3, g3⟩) q'
          · have e1 : i = as.length := by omega
            subst e1
            exact .inl ⟨⟨xs, ys, z1, z2, .inl (by rw [dpa_len ha]; exact Nat.le_refl _)⟩, q' _ _ G' H' g (.bl _) (je hJ)⟩
end
end Dl
set_option Elab.async false
set_option linter.all false
set_option maxRecDepth 100000
namespace Dl
open PySem PySem.Spec PyProof.Rows L2
/-! ### dicts with text keys, made and read -/
def DictOk (K : PySem.W.Frag) (G : Hp) (kvs : List (Key × V)) (m : List (Str × PyData)) : Prop := Paired (fun (kv : Key × V) (xd : Str × PyData) => kv.1 = Sum.inr xd.1 ∧ Dp K G kv.2 xd.2) kvs m
theorem dictOk_mono {K : PySem.W.Frag} {G G' : Hp} (e : Same G G') {kvs : List (Key × V)} {m : List (Str × PyData)} (h : DictOk K G kvs m) : DictOk K G' kvs m := Paired.mapP h fun _ _ z => ⟨z.1, dp_mono e _ _ z.2⟩
section
variable (K : PySem.W.Frag) (pen : Pc) (H0 : Hp)
def ED (te : TE) (L : Lv) (P : List (Str × PyData) → Prop) : Prop := ∀ (σ : L2.St) (G H : Hp), Ev K pen H0 G H σ L → ∀ Q : VK, (∀ p kvs m G' H', Go pen G H G' H' → G' p = some (.dK kvs) → DictOk K G' kvs m → P m → Q (.ref p) H') → te σ H Q
def EPs (trs : List (TE × TE)) (L : Lv) (P : List (Str × PyData) → Prop) : Prop := ∀ (σ : L2.St) (G H : Hp), Ev K pen H0 G H σ L → ∀ Q : List (V × V) → Hp → Prop, (∀ ps kvs m G' H', Go pen G H G' H' → ps = kvs.map (fun kv => (kV kv.1, kv.2)) → DictOk K G' kvs m → P m → Q ps H') → tPairs trs σ H Q
end
section
variable {K : PySem.W.Frag} {pen : Pc} {H0 : Hp} {L : Lv} {P : PyData → Prop} {Pm : List (Str × PyData) → Prop} {td ty tk tv : TE} {tl : TA} {trs : List (TE × TE)}
theorem eps_nil (h : Pm []) : EPs K pen H0 [] L Pm := fun σ G H e Q q => q [] [] [] G H (.refl e.vw) rfl .nil h
theorem eps_cons (h : E K pen H0 tk L fun k => ∃ x : Str, k = .str x ∧ E K pen H0 tv L fun d => EPs K pen H0 trs L fun m => Pm ((x, d) :: m)) : EPs K pen H0 ((tk, tv) :: trs) L Pm := fun σ G H e Q q =>
  h σ G H e _ fun v k G1 H1 g1 d1 ⟨x, hx, h1⟩ => by
    subst hx
    cases d1
    refine h1 σ G1 H1 (e.go g1) _ fun u d G2 H2 g2 d2 h2 => ?_
    refine h2 σ G2 H2 (e.go (g1.trans g2)) _ fun ps kvs m G3 H3 g3 hps hm p => ?_
    subst hps
    exact q _ ((Sum.inr x, u) :: kvs) ((x, d) :: m) G3 H3 ((g1.trans g2).trans g3) rfl (.cons ⟨rfl, dp_mono g3.gg _ _ d2⟩ hm) p
theorem dictOk_len {G : Hp} {kvs : List (Key × V)} {m : List (Str × PyData)} (h : DictOk K G kvs m) : kvs.length = m.length := Paired.length h
theorem dictOk_keys {G : Hp} : ∀ {kvs : List (Key × V)} {m : List (Str × PyData)}, DictOk K G kvs m → kvs.map (·.1) = m.map (fun xd => Sum.inr xd.1)
  | _, _, .nil => rfl
  | _, _, .cons h t => by rw [List.map_cons, List.map_cons, h.1, dictOk_keys t]
theorem merge_nodup : ∀ (more acc : List (Key × V)), (acc.map (·.1) ++ more.map (·.1)).Nodup → mergeK acc more = acc ++ more
  | [], acc, _ => by rw [List.append_nil]; rfl
  | kv :: r, acc, h => by
    show mergeK (putK acc kv.1 kv.2) r = acc ++ kv :: r
    have hn : kv.1 ∉ acc.map (·.1) := fun z => by
      rw [List.nodup_append] at h
      exact h.2.2 _ z _ (List.mem_cons_self ..) rfl
    have e : putK acc kv.1 kv.2 = acc ++ [kv] := by
      unfold putK
      rw [if_neg]
      intro z
      obtain ⟨x, hx, hk⟩ := List.any_eq_true.mp z
      exact hn (List.mem_map.mpr ⟨x, hx, of_decide_eq_true hk⟩)
    rw [e, merge_nodup r (acc ++ [kv]) (by rw [List.map_append, List.append_assoc]; exact h), List.append_assoc]
    rfl
theorem ed_disp (h : EPs K pen H0 trs L fun m => m.length ≤ 15 ∧ (m.map (·.1)).Nodup ∧ Pm m) : ED K pen H0 (tDisp trs) L Pm := fun σ G H e Q q p hp => by
  have g0 := Go.hid e.vw (o := .dK []) hp
  refine h σ G _ (e.go g0) _ fun ps kvs m G1 H1 g1 hps hm ⟨h1, h2, h3⟩ => ?_
  have hH : (upd H p (.dK [])) p = some (.dK []) := upd_same
  have np : ¬ IsPn pen p := fun z => e.vw.ok.there z hp
  have k1 : H1 p = some (.dK []) := g1.od p _ np hH
  have gp : G p = none := by
    cases z : G p with
    | none => rfl
    | some o => rw [e.vw.vw _ _ z] at hp; cases hp
  have k2 : G1 p = none := (g1.nw p (by rw [hH]; exact fun z => by cases z)).trans gp
  refine ⟨k1, kvs, hps, by rw [dictOk_len hm]; exact h1, ?_⟩
  have e1 : mergeK [] kvs = kvs := merge_nodup kvs [] (by
    show (kvs.map (·.1)).Nodup
    rw [dictOk_keys hm]
    rw [show (m.map fun xd => (Sum.inr xd.1 : Key)) = (m.map (·.1)).map Sum.inr by rw [List.map_map]; rfl]
    exact List.Pairwise.map _ (fun a b hab z => hab (Sum.inr.inj z)) h2)
  rw [e1]
  have s : Same G1 (upd G1 p (.dK kvs)) := fun a o z => by rw [upd_ne (ne_of_none z k2)]; exact z
  have gm := Go.mut (o := .dK kvs) e.vw hp k2 (code_ne k1 rfl) (g0.trans g1)
  refine q p kvs m (upd G1 p (.dK kvs)) _ ⟨gm.gg.trans s, fun a ha => ?_, gm.od, ⟨fun a o z => ?_, fun a z => ?_, gm.vw.ok⟩⟩ upd_same (dictOk_mono s hm) h3
  · rw [upd_ne (fun z => ha (by rw [z]; exact hp))]; exact gm.nw a ha
  · by_cases y : a = p
    · subst y; rw [upd_same] at z ⊢; exact z
    · rw [upd_ne y] at z; exact gm.vw.vw a o z
  · rw [upd_ne (fun (y : a = p) => np (by rw [← y]; exact z))]; exact gm.vw.no a z
theorem dict_val {G : Hp} (x : Str) : ∀ {kvs : List (Key × V)} {m : List (Str × PyData)}, DictOk K G kvs m → Dp K G ((valV kvs (Sum.inr x)).getD .non) ((m.lookup x).getD .none)
  | _, _, .nil => .non
  | kv :: kvs, (y, d) :: m, .cons h t => by
    obtain ⟨h1, h2⟩ := h
    unfold valV
    rw [List.find?_cons, List.lookup_cons]
    by_cases z : x = y
    · subst z
      rw [h1, decide_eq_true rfl, beq_self_eq_true]
      exact h2
    · have e1 : decide (kv.1 = Sum.inr x) = false := decide_eq_false (by rw [h1]; exact fun q => z (Sum.inr.inj q).symm)
      have e2 : (x == y) = false := beq_eq_false_iff_ne.mpr z
      rw [e1, e2]
      exact dict_val x t
theorem e_dget1 (h : ED K pen H0 td L fun m => E K pen H0 ty L fun k => ∃ x : Str, k = .str x ∧ P ((m.lookup x).getD .none)) : E K pen H0 (tDGet1 td ty) L P := fun σ G H e Q q =>
  h σ G H e _ fun p kvs m G1 H1 g1 hp hm h1 => ⟨p, rfl, .inl ⟨kvs, .inl (g1.vw.vw _ _ hp)⟩, h1 σ G1 H1 (e.go g1) _ fun v k G2 H2 g2 d2 ⟨x, hx, pp⟩ => by
    subst hx
    cases d2
    exact ⟨_, DGet.k (k := Sum.inr x) (g2.vw.vw _ _ (g2.gg _ _ hp)), q _ _ G2 H2 (g1.trans g2) (dict_val x (dictOk_mono g2.gg hm)) pp⟩⟩
/-! defs that tell a dict -/
def SpXD {α : Type} (K : PySem.W.Frag) (ts : List Addr) (Wf : α → Prop) (enc : α → List PyData) (res : α → List (Str × PyData)) : Sp := fun vs H Q _ => ∃ (x : α) (G : Hp), Vw ⟨none, ts⟩ G H ∧ DpAll K G vs (enc x) ∧ Wf x ∧ ∀ p kvs G' H', Go ⟨none, ts⟩ G H G' H' → G' p = some (.dK kvs) → DictOk K G' kvs (res x) → Q (.ref p) H'
theorem ed_callX {α : Type} {pn : Option Pn} {ts : List Addr} {Wf : α → Prop} {enc : α → List PyData} {res : α → List (Str × PyData)} {X : XK} (h : EA K ⟨pn, ts⟩ H0 tl L fun ds => ∃ x, ds = enc x ∧ Wf x ∧ Pm (res x)) : ED K ⟨pn, ts⟩ H0 (tCall (SpXD K ts Wf enc res) [] X tl) L Pm := fun σ G H e Q q =>
  h σ G H e _ fun vs ds G1 H1 go hd ⟨x, hx, h1, h2⟩ => ⟨x, G1, go.vw.plain, by rw [List.append_nil, ← hx]; exact hd, h1, fun p kvs G' H' go2 hp hm => q p kvs _ G' H' (go.trans (go2.lift go.vw)) hp hm h2⟩
end
section
variable {P : Program} {w : World} {K : PySem.W.Frag} {mg : Str → Option Value} {base : Heap}
theorem fnXD {α : Type} {x qual : Str} {st : Stmt} {f : Addr} {fd : FuncData} {N ps : List Str} {k : Nat} {ts : List Addr} {Wf : α → Prop} {enc : α → List PyData} {res : α → List (Str × PyData)} (F : Fun K x qual st f fd) (S0 : FnScope N ps (defScope st)) (hl : ∀ x, Wf x → (enc x).length = ps.length)
    (hbody : ∀ (cdv : Value) (A : Around) (outer : List Env) (s : Shared) (H : Hp) (E : XK), Room k (A.deeper (envOfC qual (defScope st) s.heap.objs.size f cdv)) →
      ∃ t, PSs (cxOf CX0 P w K mg base N qual (defScope st) f cdv A outer s H E).nox (defBody st) (tRet t) ∧ ∀ x, Wf x → ED K ⟨none, ts⟩ H t (st0 N (enc x)) fun m => m = res x) : FnOk P w K mg base CX0 (k + 1) f fd ps (SpXD K ts Wf enc res) := by
  refine F.ok S0 (fun vs H Q E h => ?_) (fun cdv A outer s H vs Q E hr h => ?_)
  · obtain ⟨x, G, _, h1, h2, _⟩ := h
    rw [dpa_len h1]
    exact hl x h2
  · obtain ⟨x, G, v, h1, h2, q⟩ := h
    obtain ⟨t, ht, hS⟩ := hbody cdv A outer s H E hr
    exact ⟨tRet t, ht, hS x h2 (L2.start N vs) G H (ev_start h1 v) _ fun p kvs m G' H' g hp hm e => by subst e; exact q p kvs G' H' g hp hm⟩
end
end Dl
set_option Elab.async false
set_option linter.all false
set_option maxRecDepth 100000
set_option maxHeartbeats 4000000
namespace Dl
open PySem PySem.Spec PyProof.Rows L2
/-! ### xs + ys of lists that are read -/
def rCatL (K : PySem.W.Frag) : R2 := fun x y H Q => ∃ l b xs zs, x = .ref l ∧ y = .ref b ∧ SqL K H l xs ∧ SqL K H b zs ∧ xs.length + zs.length ≤ sizeLine ∧ ∀ p, H p = none → Q (.ref p) (upd H p (.lst (xs ++ zs)))
section
variable {X : Cx}
theorem op_catL : OpR X (binaryOp .Add) (rCatL X.K) := by
  intro pins s σ H x y v u Q I rx ry h
  obtain ⟨l, b, xs, zs, rfl, rfl, hH, hB, hz, q⟩ := h
  cases rx
  cases ry
  obtain ⟨its, r, ⟨⟨cls, dd, data, sl⟩, n, ho, hc, hdd, hd⟩, z⟩ := I.list hH
  obtain ⟨its2, r2, ⟨⟨cls2, dd2, data2, sl2⟩, n2, ho2, hc2, hdd2, hd2⟩, z2⟩ := I.list hB
  simp only at hc hd hc2 hd2
  subst hc hd hc2 hd2
  have hl := r.length
  have hl2 := r2.length
  have ea : its.toArray ++ its2.toArray = (its ++ its2).toArray := by simp
  refine concat_meets ⟨_, ho, rfl⟩ ⟨_, ho2, rfl⟩ noFill_list_add seq_list_add PySem.F.slot_list_add PySem.F.entry_list_add (PySem.F.args_list_add_2 _ _) (list_addW l b its.toArray its2.toArray n n2 dd dd2 sl sl2 (by rw [List.size_toArray, List.size_toArray]; omega)) ⟨ho, ho2, ?_⟩
  rw [ea]
  exact ⟨.ref _, _, I.lnew (t' := s.toks) (r.append r2) (by rw [List.length_append]; omega), rfl, q _ I.fresh⟩
/-! ### a tuple once -/
theorem tuple_mul1 (l : Addr) (items : Array Value) (n : Nat) (dd : Option Addr) (sl : Array (Option Value)) (u : Tok) :
    Meets (Builtin.«tuple.__mul__» ⟨[.ref l, .int 1 u], []⟩) (fun _ R s => s.heap.get? l = some { cls := .type "tuple", dict := dd, data := .seq items n, slots := sl } ∧ R (.ok (.ret (Value.ref l))) s) :=
  .of_wp fun prog w A R s h => by
    obtain ⟨hp, g, d, tk, os⟩ := s
    obtain ⟨hl, h⟩ := h
    have f1 := AutoSeq1.idx_int
    have c0 : (decide ((1 : Int) < -(2 ^ 63)) || decide ((1 : Int) ≥ 2 ^ 63)) = false := by decide
    have c1 : (items.isEmpty || (1 : Int) == 1) = true := by rw [Bool.or_eq_true]; exact .inr rfl
    wp_walk using wpAny_loadPart' hl
    repeat (first
      | (refine wpAny_ite_false (decide_eq_false (by rw [c0]; exact Bool.false_ne_true)) ?_; wp_walk using wpAny_loadPart' hl)
      | (refine wpAny_ite_true (decide_eq_true c1) ?_; wp_walk using wpAny_loadPart' hl))
    exact ⟨_, rfl, h⟩
def rRepA (K : PySem.W.Frag) : R2 := fun x y H Q => ∃ l k xs, x = .ref l ∧ y = .int k ∧ SqT K H l xs ∧ xs ≠ [] ∧ 1 ≤ k ∧ k ≤ 1000 ∧ xs.length ≤ 1000 ∧ (k = 1 → Q (.ref l) H) ∧ (2 ≤ k → ∀ p, H p = none → Q (.ref p) (upd H p (.tup (List.replicate k.toNat xs).flatten)))
theorem op_repA : OpR X (binaryOp .Mult) (rRepA X.K) := by
  intro pins s σ H x y v u Q I rx ry h
  obtain ⟨l, k, xs, rfl, rfl, hT, hne, h1, h2, hz, q1, q2⟩ := h
  by_cases e : k = 1
  · subst e
    cases rx
    obtain ⟨t, rfl⟩ := ry
    obtain ⟨its, r, ⟨⟨cls, dd, data, sl⟩, ho, hc, n, hd⟩, hs⟩ := I.tuple hT
    simp only at hc hd
    subst hc hd
    refine wpAny_binaryOp_repeat_ref (T := "tuple") (U := "int") (by decide) ⟨_, ho, rfl⟩ (fun s' => typeIs_int s' 1 t) noFill_tuple_mul F.fills_int_mul F.slot_int_rmul repeat_tuple F.slot_int_index.lookup
      (call_meets F.slot_int_rmul (typeIs_int s 1 t) F.entry_int_rmul (F.args_int_rmul_2 _ _) (int_rmul_tuple 1 t l its.toArray n dd sl)
        ⟨ho, rfl, ⟨_, ho, rfl⟩, call_meets F.slot_tuple_mul ⟨_, ho, rfl⟩ F.entry_tuple_mul (F.args_tuple_mul_2 _ _) (tuple_mul1 l its.toArray n dd sl t) ⟨ho, ?_⟩⟩)
    exact ⟨.ref l, H, I, rfl, q1 rfl⟩
  · exact op_repT pins s σ H _ _ v u Q I rx ry ⟨l, k, xs, rfl, rfl, hT, hne, by omega, h2, hz, q2 (by omega)⟩
theorem kx_catL {K : PySem.W.Frag} (h : X.K = K) : OpR X (binaryOp .Add) (rCatL K) := by subst h; exact op_catL
theorem kx_repA {K : PySem.W.Frag} (h : X.K = K) : OpR X (binaryOp .Mult) (rRepA K) := by subst h; exact op_repA
end
section
variable {K : PySem.W.Frag} {pen : Pc} {H0 : Hp} {L : Lv} {P : PyData → Prop} {ta te : TE} {tl : TA}
theorem r_catL {as bs : List PyData} (hl : as.length + bs.length ≤ 100000) (p : P (.list (as ++ bs))) : R2d K pen (rCatL K) (.list as) (.list bs) P := fun x y G H v hx hy Q q => by
  cases hx with
  | lst hs ha =>
    cases hy with
    | lst hs' ha' =>
      rename_i a xs a' ys
      refine ⟨a, a', xs, ys, rfl, rfl, sqL_mono v.vw hs, sqL_mono v.vw hs', Nat.le_trans (by rw [dpa_len ha, dpa_len ha']; exact hl) (by decide : 100000 ≤ sizeLine), fun p' hp => ?_⟩
      have g := Go.new v (o := .lst (xs ++ ys)) hp
      exact q _ _ _ _ g (.lst (.inl (.inl upd_same)) (dpa_mono g.gg _ _ (dpa_app ha ha'))) p
theorem dpa_rep {G : Hp} {vs : List V} {ds : List PyData} (h : DpAll K G vs ds) : ∀ n : Nat, DpAll K G (List.replicate n vs).flatten (List.replicate n ds).flatten
  | 0 => .nil
  | n + 1 => by
    rw [List.replicate_succ, List.replicate_succ, List.flatten_cons, List.flatten_cons]
    exact dpa_app h (dpa_rep h n)
theorem r_repA {ds : List PyData} {k : Nat} (h0 : ds ≠ []) (h1 : 1 ≤ k) (h2 : k ≤ 1000) (h3 : ds.length ≤ 1000) (p : P (.tuple (List.replicate k ds).flatten)) : R2d K pen (rRepA K) (.tuple ds) (.int k) P := fun x y G H v hx hy Q q => by
  cases hx with
  | tup hs ha =>
    cases hy
    rename_i a xs
    have hl := dpa_len ha
    refine ⟨a, k, xs, rfl, rfl, sqT_mono v.vw hs, fun z => h0 ?_, by omega, by omega, by omega, fun e => ?_, fun _ p' hp => ?_⟩
    · rw [z] at hl
      exact List.eq_nil_of_length_eq_zero hl.symm
    · have e : k = 1 := by omega
      subst e
      have e1 : (List.replicate 1 ds).flatten = ds := by rw [List.replicate_one, List.flatten_singleton]
      rw [e1] at p
      exact q _ _ G H (.refl v) (.tup hs ha) p
    · have g := Go.new v (o := .tup (List.replicate ((k : Int)).toNat xs).flatten) hp
      exact q _ _ _ _ g (.tup (.inl (.inl upd_same)) (dpa_mono g.gg _ _ (dpa_rep ha k))) p
theorem r_notBl {i j : Bool} (p : P (.bool (!decide (i = j)))) : R2d K pen rNotB (.bool i) (.bool j) P := fun x y G H v hx hy Q q => by
  cases hx
  cases hy
  exact ⟨i, j, rfl, rfl, q _ _ G H (.refl v) (.bl _) p⟩
/-! ### all(f(x) for x in xs) -/
theorem e_allT {pn : Option Pn} {ts : List Addr} {Tb : Addr} {j : Nat} (f : PyData → Bool) (hT : Tb ∈ ts) (h : E K ⟨pn, ts⟩ H0 ta L fun d => ∃ ds, d = .tuple ds ∧ (∀ x ∈ ds, E K ⟨pn, ts⟩ H0 te ((L.set j none).set j (some (.d x))) fun d => d = .bool (f x)) ∧ P (.bool (ds.all f))) :
    E K ⟨pn, ts⟩ H0 (_root_.Gx.tGen Tb true (iTup K ta) (gName j) tYes te [j]) L P := by
  refine e_genT hT (h.mono fun d ⟨ds, e, hx, hp⟩ => ⟨ds, e, fun i => ds.all f = (ds.drop i).all f, rfl, fun i x hi hJ => et_yes ⟨fun _ => (hx x (List.mem_of_getElem? hi)).mono fun d e2 => ⟨f x, e2, fun hk => ?_, fun hk => ?_⟩, fun z => by cases z⟩, fun hJ => ?_⟩)
  · obtain ⟨hlt, hg⟩ := List.getElem?_eq_some_iff.mp hi
    rw [hJ, List.drop_eq_getElem_cons hlt, List.all_cons, hg, hk, Bool.true_and]
  · obtain ⟨hlt, hg⟩ := List.getElem?_eq_some_iff.mp hi
    rw [hJ, List.drop_eq_getElem_cons hlt, List.all_cons, hg, hk] at hp
    exact hp
  · rw [hJ, List.drop_eq_nil_of_le (Nat.le_refl _)] at hp
    exact hp
theorem e_allZ {pn : Option Pn} {ts : List Addr} {Tb : Addr} {j k : Nat} (f : PyData → PyData → Bool) (hT : Tb ∈ ts) (h : EA K ⟨pn, ts⟩ H0 tl L fun ds => ∃ as bs, ds = [.tuple as, .tuple bs] ∧ as.length = bs.length ∧
    (∀ x ∈ as, ∀ y ∈ bs, E K ⟨pn, ts⟩ H0 te ((((L.set k none).set j none).set j (some (.d x))).set k (some (.d y))) fun d => d = .bool (f x y)) ∧ P (.bool ((as.zip bs).all fun p => f p.1 p.2))) :
    E K ⟨pn, ts⟩ H0 (_root_.Gx.tGen Tb true (RZ.iZipA K tl) (gTup K 2 (gCons (gName j) (gCons (gName k) gNil))) tYes te [j, k]) L P := by
  have hm : ∀ {P P' : List PyData → Prop}, EA K ⟨pn, ts⟩ H0 tl L P → (∀ d, P d → P' d) → EA K ⟨pn, ts⟩ H0 tl L P' := fun h k σ G H e Q q => h σ G H e Q fun v d G' H' g hd p => q v d G' H' g hd (k d p)
  refine e_genZ hT (hm h fun d ⟨as, bs, e, hl, hx, hp⟩ => ⟨as, bs, e, hl, fun i => ((as.zip bs).all fun p => f p.1 p.2) = (((as.drop i).zip (bs.drop i)).all fun p => f p.1 p.2), rfl, fun i x y hi hi2 hJ => et_yes ⟨fun _ => (hx x (List.mem_of_getElem? hi) y (List.mem_of_getElem? hi2)).mono fun d e2 => ⟨f x y, e2, fun hk => ?_, fun hk => ?_⟩, fun z => by cases z⟩, fun hJ => ?_⟩)
  · obtain ⟨hlt, hg⟩ := List.getElem?_eq_some_iff.mp hi
    obtain ⟨hlt2, hg2⟩ := List.getElem?_eq_some_iff.mp hi2
    rw [hJ, List.drop_eq_getElem_cons hlt, List.drop_eq_getElem_cons hlt2, List.zip_cons_cons, List.all_cons, hg, hg2, hk, Bool.true_and]
  · obtain ⟨hlt, hg⟩ := List.getElem?_eq_some_iff.mp hi
    obtain ⟨hlt2, hg2⟩ := List.getElem?_eq_some_iff.mp hi2
    rw [hJ, List.drop_eq_getElem_cons hlt, List.drop_eq_getElem_cons hlt2, List.zip_cons_cons, List.all_cons, hg, hg2, hk] at hp
    exact hp
  · rw [hJ, List.drop_eq_nil_of_le (Nat.le_refl _)] at hp
    exact hp
/-! ### [f(x) for x in xs] -/
theorem e_mapT {j : Nat} (f : PyData → PyData) (h : E K pen H0 ta L fun d => ∃ ds, d = .tuple ds ∧ ds.length ≤ 100000 ∧ (∀ x ∈ ds, E K pen H0 te ((L.set j none).set j (some (.d x))) fun d => d = f x) ∧ P (.list (ds.map f))) :
    E K pen H0 (tLc (iTup K ta) (gName j) tYes te [j]) L P := by
  refine e_lcT (h.mono fun d ⟨ds, e, hz, hx, hp⟩ => ⟨ds, e, hz, fun i acc => acc = (ds.take i).map f, rfl, fun i x acc hi hJ => et_yes ⟨fun _ => (hx x (List.mem_of_getElem? hi)).mono fun d e2 => ?_, fun z => by cases z⟩, fun acc hJ => ?_⟩)
  · obtain ⟨hlt, hg⟩ := List.getElem?_eq_some_iff.mp hi
    rw [hJ, e2, List.take_succ_eq_append_getElem hlt, List.map_append, hg]
    rfl
  · rw [hJ, List.take_length]
    exact hp
end
/-! ### the end with tables -/
theorem tabB_of {base : Heap} {mg : Str → Option Value} {c P : Addr} (h : LamX.TabB base mg c P) : GxR.TabB base mg c P := ⟨h.code, h.bm, h.gP⟩
theorem tabG_nil {H : Hp} {P : Addr} (h : H P = some (.tbl #[])) : _root_.Gx.TabX H P := _root_.Gx.tabX_nil h
/-- the tables of all defs of the top are empty -/
def AllTabs (q : Program) (K : PySem.W.Frag) (mg : Str → Option Value) (h : Heap) : Prop := ∀ (x : Str) (fa c P : Addr) (o : Obj) (fd : FuncData) (e : Value) (dd : Option Addr) (vs : Array Value) (sl : Array (Option Value)), ((recsOf q).any fun e => e.name == x) = true → mg x = some (.ref fa) →
  K.lookup fa = some o → o.data = .func fd → fd.code = .ref c → K.lookup c = some ⟨e, dd, .fields vs, sl⟩ → vs[11]? = some (.ref P) → h.get? P = some { cls := .none, data := .fields #[] }
theorem walk_ofTabs {l : PySem.W.OpenLaw} {n k : Nat} {q : Program} {loose : List Str} {XP : (Str → Option Value) → Heap → Prop} {YP : World → Heap → Prop} {d : DefRec} {K : Params → PySem.W.Frag} {CX : World → CXT} {x : Str}
    (hn : l.most = some n) (hn2 : n ≤ sizeLine) (hdf : d.params.defaults = []) (hr : Room k callerA) (hY : ∀ (w : World) (h : Heap), YP w h → (K w.params).In h)
    (F : ∀ (w : World) (mg : Str → Option Value) (fa : Addr) (h : Heap), (K w.params).In h → h.Ns mainGlobals mg → mg d.name = some (.ref fa) → AllTabs q (K w.params) mg h → LamX.LawAtS l w (K w.params) (CX w) k n x mg fa h)
    (hCX : ∀ (w : World) (H : Hp) (s : Shared) (e : Value) (s' : Shared), CX w [] H s (fun _ _ _ => False) e s' → False) :
    PySem.W.WalkO q loose XP YP l.row.toRowW d [] (fun f vs => PySem.call f vs) := by
  refine Att.attach_callB hn hdf fun w s₀ s₁ mg mb fa o pm cd doc a vs ns G Y ho hd hcd hmg hobj hints hlen hbits hg => ?_
  have KX := hY w _ Y
  have own : AllTabs q (K w.params) mg s₁.heap := fun x f c P o1 fd1 e dd vs1 sl hrec hx k1 k2 k3 k4 k5 => by
    obtain ⟨dL, hm, hn1⟩ := List.any_eq_true.mp hrec
    obtain ⟨a', o', fd', c', P', h1, h2, h3, h4, h5, h6⟩ := G.T.tab dL hm
    rw [beq_iff_eq.mp hn1, hx] at h1
    cases h1
    rw [KX _ _ k1] at h2
    cases h2
    rw [k2] at h3
    cases h3
    rw [k3] at h4
    cases h4
    obtain ⟨⟨oc, vc, e1, _, e3, e4⟩, hP⟩ := h6
    rw [KX _ _ k4] at e1
    cases e1
    cases e3
    rw [k5] at e4
    cases e4
    exact hP
  obtain ⟨fd, cs, sp, hT, nT, C, hb, hsp, hF⟩ := F w mg fa _ KX G.T.g hmg own
  exact LamX.law_callTs KX G.T.g G.T.b G.T.builtins G.T.nolimit hg hT nT C G.T.bmain hobj hints (Nat.le_trans hlen hn2) hr hF hb (fun H hH hS => hsp H a ns hlen hbits hH hS) fun H e s' => hCX w H s₁ e s'
end Dl
set_option Elab.async false
set_option linter.all false
set_option maxRecDepth 100000
namespace Dl
open PySem PySem.Spec PyProof.Rows L2
/-! ### the law's beginning, with tables -/
theorem tabG_upd {H : Hp} {P l : Addr} {o : HO} (h : _root_.Gx.TabX H P) (hn : H l = none) : _root_.Gx.TabX (upd H l o) P := by
  exact h.keep fun a u e => by rw [upd_ne (fun z => by rw [z, hn] at e; cases e)]; exact e
def spPenT (K : PySem.W.Frag) (ts : List Addr) : Sp := fun vs H Q _ => ∃ (a : Addr) (ns : List Int), vs = [.ref a] ∧ SqL K H a (ns.map V.int) ∧ (∀ P ∈ ts, _root_.Gx.TabX H P) ∧
  ∀ (p c : Addr) (cells : List Int) H', H' p = some (.lst [.ref c, .int 0, .int 0]) → H' c = some (.lst (cells.map V.int)) → (∀ P ∈ ts, _root_.Gx.TabX H' P) → Q (.ref p) H'
def spLawT (K : PySem.W.Frag) (ts : List Addr) : Sp := fun vs H Q _ => ∃ (a : Addr) (ns : List Int), vs = [.ref a] ∧ SqL K H a (ns.map V.int) ∧ ns.length ≤ 63 ∧ (∀ P ∈ ts, _root_.Gx.TabX H P) ∧ ∀ H', Q (.bl true) H'
end Dl
set_option Elab.async false
set_option linter.all false
set_option maxRecDepth 100000
set_option maxHeartbeats 4000000
namespace Dl
open PySem PySem.Spec PyProof.Rows L2
/-! ### sorted(set(t)), t a tuple of ints -/
def rSetI (K : PySem.W.Frag) (w : World) : List V → Hp → VK → Prop := fun xs H Q => ∃ (l : Addr) (ns : List Int), xs = [V.ref l] ∧ SqT K H l (ns.map V.int) ∧ ns.length ≤ 1000 ∧ ∀ p c, H p = none → c ≤ ns.length → Q (.ref p) (upd H p (SetO w p (fun j => decide (j ∈ ns)) c))
section
variable {X : Cx}
theorem cr_setI (hc : X.calm = true) : CallR X (.type "set") (rSetI X.K X.w) := by
  intro pins s σ H xs us Q I r h
  obtain ⟨l, ns, rfl, hl, hz, q⟩ := h
  rw [Vals.ref1 r]
  obtain ⟨its, rv, pt, _⟩ := I.tuple hl
  have hb : (2000 : Nat) < scanBound := by decide +kernel
  refine call_set_tupI (P := X.prog) (w := X.w) ns (I.ok.hd hc) (show s.heap.IsTuple l its.toArray from pt) (by simpa using rv.ints) (by omega) fun h' tk c R hcl kp => ?_
  exact ⟨.ref s.heap.objs.size, _, I.laid (t' := tk) kp (Nat.le_refl _) (setO_new R), rfl, q _ c I.fresh hcl⟩
theorem kx_setI {K : PySem.W.Frag} {w : World} (h : X.K = K) (hw : X.w = w) (hc : X.calm = true) : CallR X (.type "set") (rSetI K w) := by subst h; subst hw; exact cr_setI hc
theorem kx_sortedSet {w : World} (hw : X.w = w) (hc : X.calm = true) : CallR X (.builtin "sorted") (rSortedSet w) := by subst hw; exact cr_sortedSet hc
end
def intsL (l : List Int) : List PyData := l.map .int
theorem dpa_ints {K : PySem.W.Frag} {G : Hp} : ∀ {vs : List V} {ns : List Int}, DpAll K G vs (intsL ns) → vs = ns.map V.int
  | _, [], h => by cases h; rfl
  | _, n :: ns, h => by
    cases h with
    | cons h1 h2 =>
      cases h1
      rw [dpa_ints h2]
      rfl
theorem ints_dpa {K : PySem.W.Frag} {G : Hp} : ∀ ns : List Int, DpAll K G (ns.map V.int) (intsL ns)
  | [] => .nil
  | n :: ns => .cons (.int n) (ints_dpa ns)
section
variable {K : PySem.W.Frag} {pen : Pc} {H0 : Hp} {L : Lv} {P : PyData → Prop} {ta te : TE} {tl : TA} {w : World}
theorem e_sortSet (h : E K pen H0 ta L fun d => ∃ ns : List Int, d = .tuple (intsL ns) ∧ ns.length < 64 ∧ ∀ ms : List Int, ms.Pairwise (· < ·) → (∀ k, k ∈ ms ↔ k ∈ ns) → P (.list (intsL ms))) :
    E K pen H0 (tCB (rSortedSet w) (tCons (tCB (rSetI K w) (tCons ta tNil)) tNil)) L P := fun σ G H e Q q => h σ G H e _ fun v d G1 H1 go hd ⟨ns, hds, hz, hp⟩ => by
  subst hds
  cases hd with
  | tup hs ha =>
    rename_i a xs
    have ex := dpa_ints ha
    subst ex
    refine ⟨a, ns, rfl, sqT_mono go.vw.vw hs, by omega, fun p c hpn hc => ?_⟩
    refine ⟨p, _, c, rfl, upd_same, by omega, fun ms r hm1 hm2 hm3 hr => ?_⟩
    have g2 := Go.hid go.vw (o := SetO w p (fun j => decide (j ∈ ns)) c) hpn
    have g3 := Go.new g2.vw (o := .lst (ms.map V.int)) hr
    exact q _ _ _ _ ((go.trans g2).trans g3) (.lst (.inl (.inl upd_same)) (ints_dpa ms)) (hp ms hm1 fun k => by rw [hm2 k, decide_eq_true_eq])
/-! ### k in t, k not in t, t a tuple of ints -/
theorem inV_ints (k : Int) (ns : List Int) : inV (.int k) (ns.map V.int) = decide (k ∈ ns) := by
  unfold inV
  rw [List.any_map]
  have e : ((fun y => eqV y (V.int k)) ∘ V.int) = fun n : Int => decide (n = k) := by
    funext n
    rfl
  rw [e]
  by_cases h : k ∈ ns
  · rw [decide_eq_true h, List.any_eq_true]
    exact ⟨k, h, decide_eq_true rfl⟩
  · rw [decide_eq_false h, List.any_eq_false]
    intro n hn z
    exact h (of_decide_eq_true z ▸ hn)
theorem r_inI {k : Int} {ns : List Int} (p : P (.bool (decide (k ∈ ns)))) : R2d K pen (rIn K false) (.int k) (.tuple (intsL ns)) P := fun x y G H v hx hy Q q => by
  cases hx
  cases hy with
  | tup hs ha =>
    rename_i a xs
    have ex := dpa_ints ha
    subst ex
    refine ⟨a, _, rfl, .inr (sqT_mono v.vw hs), rfl, ?_, ?_⟩
    · rw [List.all_eq_true]
      intro z hz
      obtain ⟨n, _, rfl⟩ := List.mem_map.mp hz
      rfl
    · rw [if_neg Bool.false_ne_true, inV_ints]
      exact q _ _ G H (.refl v) (.bl _) p
theorem r_notInI {k : Int} {ns : List Int} (p : P (.bool (!decide (k ∈ ns)))) : R2d K pen (rIn K true) (.int k) (.tuple (intsL ns)) P := fun x y G H v hx hy Q q => by
  cases hx
  cases hy with
  | tup hs ha =>
    rename_i a xs
    have ex := dpa_ints ha
    subst ex
    refine ⟨a, _, rfl, .inr (sqT_mono v.vw hs), rfl, ?_, ?_⟩
    · rw [List.all_eq_true]
      intro z hz
      obtain ⟨n, _, rfl⟩ := List.mem_map.mp hz
      rfl
    · rw [if_pos rfl, inV_ints]
      exact q _ _ G H (.refl v) (.bl _) p
end
end Dl
set_option Elab.async false
set_option linter.all false
set_option maxRecDepth 100000
set_option maxHeartbeats 4000000
namespace Dl
open PySem PySem.Spec PyProof.Rows L2
/-! ### t == () -/
def rEqNil (K : PySem.W.Frag) : R2 := fun x y H Q => ∃ a b xs, x = .ref a ∧ y = .ref b ∧ SqT K H a xs ∧ SqT K H b [] ∧ Q (.bl (decide (xs.length = 0))) H
section
variable {X : Cx}
theorem op_eqNil {k : Nat} (hr : Room k X.A) : OpR X (compareOp .Eq) (rEqNil X.K) := by
  intro pins s σ H x y v u Q I rx ry h
  obtain ⟨a, b, xs, rfl, rfl, ha, hb, q⟩ := h
  cases rx
  cases ry
  obtain ⟨its, r1, p1, _⟩ := I.tuple ha
  obtain ⟨its2, r2, p2, _⟩ := I.tuple hb
  have l1 := r1.length
  cases r2
  refine SeqAt.eq_tupleAt (e := fun _ => true) (show s.heap.IsTuple a its.toArray from p1) (show s.heap.IsTuple b #[] from p2) (Nat.lt_of_le_of_lt (Nat.le_add_right _ _) hr.units) (fun j _ h2 => absurd h2 (Nat.not_lt_zero _)) ?_
  refine ⟨.bl (decide (xs.length = 0)), H, I, ?_, q⟩
  show Value.bool _ = Value.bool _
  congr 1
  rw [show min its.toArray.size (#[] : Array Value).size = 0 from Nat.min_zero _]
  show (true && (its.toArray.size == 0)) = _
  rw [Bool.true_and, List.size_toArray, ← l1, Bool.eq_iff_iff, beq_iff_eq, decide_eq_true_eq]
theorem kx_eqNil {K : PySem.W.Frag} {k : Nat} (h : X.K = K) (hr : Room k X.A) : OpR X (compareOp .Eq) (rEqNil K) := by subst h; exact op_eqNil hr
end
section
variable {K : PySem.W.Frag} {pen : Pc} {H0 : Hp} {L : Lv} {P : PyData → Prop} {td ty ta te : TE} {tl : TA}
theorem r_eqNil {ds : List PyData} (p : P (.bool (decide (ds.length = 0)))) : R2d K pen (rEqNil K) (.tuple ds) (.tuple []) P := fun x y G H v hx hy Q q => by
  cases hx with
  | tup hs ha =>
    cases hy with
    | tup hs' ha' =>
      rename_i a xs a' ys
      cases ha'
      refine ⟨a, a', xs, rfl, rfl, sqT_mono v.vw hs, sqT_mono v.vw hs', ?_⟩
      rw [dpa_len ha]
      exact q _ _ G H (.refl v) (.bl _) p
/-! ### d[k] -/
theorem dict_some {G : Hp} (x : Str) {d : PyData} : ∀ {kvs : List (Key × V)} {m : List (Str × PyData)}, DictOk K G kvs m → m.lookup x = some d → ∃ v, valV kvs (Sum.inr x) = some v ∧ Dp K G v d
  | _, _, .nil, e => by cases e
  | kv :: kvs, (y, d') :: m, .cons h t, e => by
    obtain ⟨h1, h2⟩ := h
    unfold valV
    rw [List.find?_cons]
    rw [List.lookup_cons] at e
    by_cases z : x = y
    · subst z
      rw [beq_self_eq_true] at e
      cases e
      rw [h1, decide_eq_true rfl]
      exact ⟨_, rfl, h2⟩
    · rw [beq_eq_false_iff_ne.mpr z] at e
      rw [decide_eq_false (by rw [h1]; exact fun q => z (Sum.inr.inj q).symm)]
      exact dict_some x t e
theorem e_dget (h : ED K pen H0 td L fun m => E K pen H0 ty L fun k => ∃ x : Str, k = .str x ∧ ∃ d, m.lookup x = some d ∧ P d) : E K pen H0 (tDGet td ty) L P := fun σ G H e Q q =>
  h σ G H e _ fun p kvs m G1 H1 g1 hp hm h1 => h1 σ G1 H1 (e.go g1) _ fun v k G2 H2 g2 d2 ⟨x, hx, d, hd, pp⟩ => by
    subst hx
    cases d2
    obtain ⟨u, hu, du⟩ := dict_some x (dictOk_mono g2.gg hm) hd
    exact ⟨p, u, rfl, by rw [← hu]; exact DGet.k (k := Sum.inr x) (g2.vw.vw _ _ (g2.gg _ _ hp)), q _ _ G2 H2 (g1.trans g2) du pp⟩
/-! ### texts -/
def strsL (l : List Str) : List PyData := l.map .str
theorem dpa_strs {G : Hp} : ∀ {vs : List V} {ns : List Str}, DpAll K G vs (strsL ns) → vs = ns.map V.str
  | _, [], h => by cases h; rfl
  | _, n :: ns, h => by
    cases h with
    | cons h1 h2 =>
      cases h1
      rw [dpa_strs h2]
      rfl
theorem inV_strs (k : Str) (ns : List Str) : inV (.str k) (ns.map V.str) = decide (k ∈ ns) := by
  unfold inV
  rw [List.any_map]
  by_cases h : k ∈ ns
  · rw [decide_eq_true h, List.any_eq_true]
    exact ⟨k, h, show (k == k) = true from beq_self_eq_true k⟩
  · rw [decide_eq_false h, List.any_eq_false]
    intro n hn z
    have z : (n == k) = true := z
    exact h (beq_iff_eq.mp z ▸ hn)
theorem flat_strs (ns : List Str) : (ns.map V.str).all flatV = true := by
  rw [List.all_eq_true]
  intro x hx
  obtain ⟨b, _, rfl⟩ := List.mem_map.mp hx
  rfl
theorem r_inS {k : Str} {ns : List Str} (p : P (.bool (decide (k ∈ ns)))) : R2d K pen (rIn K false) (.str k) (.tuple (strsL ns)) P := fun x y G H v hx hy Q q => by
  cases hx
  cases hy with
  | tup hs ha =>
    have ex := dpa_strs ha
    subst ex
    refine ⟨_, _, rfl, .inr (sqT_mono v.vw hs), rfl, flat_strs ns, ?_⟩
    rw [if_neg Bool.false_ne_true, inV_strs]
    exact q _ _ G H (.refl v) (.bl _) p
theorem r_notInS {k : Str} {ns : List Str} (p : P (.bool (!decide (k ∈ ns)))) : R2d K pen (rIn K true) (.str k) (.tuple (strsL ns)) P := fun x y G H v hx hy Q q => by
  cases hx
  cases hy with
  | tup hs ha =>
    have ex := dpa_strs ha
    subst ex
    refine ⟨_, _, rfl, .inr (sqT_mono v.vw hs), rfl, flat_strs ns, ?_⟩
    rw [if_pos rfl, inV_strs]
    exact q _ _ G H (.refl v) (.bl _) p
theorem r_addS {i j : Str} (h : i.length + j.length ≤ 100000) (p : P (.str (i ++ j))) : R2d K pen (fun x y H Q => ∃ i j, x = .str i ∧ y = .str j ∧ i.length + j.length ≤ sizeLine ∧ Q (.str (i ++ j)) H) (.str i) (.str j) P := fun x y G H v hx hy Q q => by
  cases hx
  cases hy
  exact ⟨i, j, rfl, rfl, Nat.le_trans h (by decide : 100000 ≤ sizeLine), q _ _ G H (.refl v) (.str _) p⟩
theorem r_slS {z : Str} {lo hi : Option Int} (h : z.length ≤ 100000) (p : P (.str (cutS z lo hi))) : RSd K pen rSlS (.str z) lo hi P := fun x G H v hx Q q => by
  cases hx
  exact ⟨z, rfl, Nat.le_trans h (by decide : 100000 ≤ sizeLine), q _ _ G H (.refl v) (.str _) p⟩
theorem e_upper (h : E K pen H0 te L fun d => ∃ z : Str, d = .str z ∧ z.length ≤ 100000 ∧ P (.str (Txt.upper z))) : E K pen H0 (tM0 (fun x xs H Q => ∃ a, x = .str a ∧ xs = [] ∧ a.length ≤ 5592405 ∧ Q (.str (Txt.upper a)) H) te) L P := fun σ G H e Q q =>
  h σ G H e _ fun v d G1 H1 go hd ⟨z, hz, hl, p⟩ => by
    subst hz
    cases hd
    exact ⟨⟨z, rfl⟩, z, rfl, rfl, Nat.le_trans hl (by decide), q _ _ G1 H1 go (.str _) p⟩
theorem c_strI {i : Int} (h : i.natAbs.log2 < 1920) (p : P (.str (toString i))) : RCd K pen (fun xs H Q => ∃ i, xs = [.int i] ∧ i.natAbs.log2 < 1920 ∧ Q (.str (toString i)) H) [.int i] P := fun vs G H v hv Q q => by
  cases hv with
  | cons h1 h2 =>
    cases h2
    cases h1
    exact ⟨i, rfl, h, q _ _ G H (.refl v) (.str _) p⟩
theorem r_neg {i : Int} (p : P (.int (-i))) : RUd K pen (rU fun i => .int (-i)) (.int i) P := fun x G H v hx Q q => by
  cases hx
  exact ⟨i, rfl, q _ _ G H (.refl v) (.int _) p⟩
theorem cutS_len (z : Str) (lo hi : Option Int) : (cutS z lo hi).length ≤ z.length := by
  show (((z.cps.toList.drop _).take _).toArray).size ≤ z.cps.size
  rw [List.size_toArray, List.length_take, List.length_drop, Array.length_toList]
  omega
theorem e_mapL {j : Nat} (f : PyData → PyData) (h : E K pen H0 ta L fun d => ∃ ds, d = .list ds ∧ ds.length ≤ 100000 ∧ (∀ x ∈ ds, E K pen H0 te ((L.set j none).set j (some (.d x))) fun d => d = f x) ∧ P (.list (ds.map f))) :
    E K pen H0 (tLc (iList K ta) (gName j) tYes te [j]) L P := by
  refine e_lcL (h.mono fun d ⟨ds, e, hz, hx, hp⟩ => ⟨ds, e, hz, fun i acc => acc = (ds.take i).map f, rfl, fun i x acc hi hJ => et_yes ⟨fun _ => (hx x (List.mem_of_getElem? hi)).mono fun d e2 => ?_, fun z => by cases z⟩, fun acc hJ => ?_⟩)
  · obtain ⟨hlt, hg⟩ := List.getElem?_eq_some_iff.mp hi
    rw [hJ, e2, List.take_succ_eq_append_getElem hlt, List.map_append, hg]
    rfl
  · rw [hJ, List.take_length]
    exact hp
end
end Dl
set_option Elab.async false
set_option linter.all false
set_option maxRecDepth 100000
set_option maxHeartbeats 4000000
namespace Dl
open PySem PySem.Spec PyProof.Rows L2
/-! ### what is walked, by its items -/
def Wlk (K : PySem.W.Frag) (pen : Pc) (J : It) (G1 : Hp) (xs : List PyData) : Prop := ∀ G' H', Same G1 G' → Vw pen G' H' →
  (∀ (i : Nat) x, xs[i]? = some x → J.go i H' ∧ ∀ v H2, J.yld i H' v H2 → ∃ G2, Go pen G' H' G2 H2 ∧ Dp K G2 v x) ∧ J.stop xs.length H'
def IT (K : PySem.W.Frag) (pen : Pc) (H0 : Hp) (ti : TI) (L : Lv) (P : List PyData → Prop) : Prop := ∀ (σ : L2.St) (G H : Hp), Ev K pen H0 G H σ L → ∀ R : It → Hp → Prop, (∀ J G1 H1 xs, Go pen G H G1 H1 → Wlk K pen J G1 xs → P xs → R J H1) → ti σ H R
section
variable {K : PySem.W.Frag} {pen : Pc} {H0 : Hp} {L : Lv} {P : List PyData → Prop} {Pd : PyData → Prop} {te ta : TE} {tl : TA} {ti : TI} {tt : TT} {t : TS} {D : Dn} {g : TG} {gs : TGs}
theorem IT.mono {P' : List PyData → Prop} (h : IT K pen H0 ti L P) (k : ∀ d, P d → P' d) : IT K pen H0 ti L P' := fun σ G H e R r => h σ G H e R fun J G1 H1 xs g w p => r J G1 H1 xs g w (k xs p)
theorem it_list (h : E K pen H0 te L fun d => ∃ ds, d = .list ds ∧ P ds) : IT K pen H0 (iList K te) L P := fun σ G H e R r => h σ G H e _ fun v d G1 H1 go hd ⟨ds, hds, p⟩ => by
  subst hds
  cases hd with
  | lst hs ha =>
    rename_i a xs
    refine ⟨a, rfl, ⟨xs, sqL_mono go.vw.vw hs⟩, r _ G1 H1 ds go (fun G' H' s v => ⟨fun i x hx => ?_, ?_⟩) p⟩
    · have z := sqL_mono (s.trans v.vw) hs
      obtain ⟨y, hy, dy⟩ := dpa_get ha hx
      refine ⟨⟨xs, y, z, hy⟩, fun w H2 hw => ?_⟩
      obtain ⟨rfl, f⟩ := hw
      have e1 : w = y := Option.some.inj ((f _ z).symm.trans hy)
      subst e1
      exact ⟨G', .refl v, dp_mono s _ _ dy⟩
    · exact ⟨xs, sqL_mono (s.trans v.vw) hs, by rw [dpa_len ha]; exact Nat.le_refl _⟩
theorem it_tup (h : E K pen H0 te L fun d => ∃ ds, d = .tuple ds ∧ P ds) : IT K pen H0 (iTup K te) L P := fun σ G H e R r => h σ G H e _ fun v d G1 H1 go hd ⟨ds, hds, p⟩ => by
  subst hds
  cases hd with
  | tup hs ha =>
    rename_i a xs
    refine ⟨a, rfl, ⟨xs, sqT_mono go.vw.vw hs⟩, r _ G1 H1 ds go (fun G' H' s v => ⟨fun i x hx => ?_, ?_⟩) p⟩
    · have z := sqT_mono (s.trans v.vw) hs
      obtain ⟨y, hy, dy⟩ := dpa_get ha hx
      refine ⟨⟨xs, y, z, hy⟩, fun w H2 hw => ?_⟩
      obtain ⟨rfl, f⟩ := hw
      have e1 : w = y := Option.some.inj ((f _ z).symm.trans hy)
      subst e1
      exact ⟨G', .refl v, dp_mono s _ _ dy⟩
    · exact ⟨xs, sqT_mono (s.trans v.vw) hs, by rw [dpa_len ha]; exact Nat.le_refl _⟩
/-- lo, lo + 1, .., n of them -/
def rngL (lo : Int) (n : Nat) : List PyData := (List.range n).map fun i => .int (lo + (i : Nat))
theorem rngL_len (lo : Int) (n : Nat) : (rngL lo n).length = n := by unfold rngL; rw [List.length_map, List.length_range]
theorem rngL_get {lo : Int} {n i : Nat} {x : PyData} (h : (rngL lo n)[i]? = some x) : i < n ∧ x = .int (lo + i) := by
  have hi : i < n := by
    have := (List.getElem?_eq_some_iff.mp h).1
    rw [rngL_len] at this; exact this
  refine ⟨hi, ?_⟩
  unfold rngL at h
  rw [List.getElem?_map, List.getElem?_range hi] at h
  exact (Option.some.inj h).symm
theorem wlk_rng (lo : Int) (n : Nat) (G : Hp) : Wlk K pen (Itr lo n) G (rngL lo n) := fun G' H' s v => ⟨fun i x hx => by
    obtain ⟨hi, rfl⟩ := rngL_get hx
    refine ⟨hi, fun w H2 hw => ?_⟩
    obtain ⟨rfl, rfl⟩ := hw
    exact ⟨G', .refl v, .int _⟩, by rw [rngL_len]; exact Nat.le_refl _⟩
theorem it_rng (h : EA K pen H0 tl L fun ds => ∃ j : Int, ds = [.int j] ∧ -(2 ^ 62) ≤ j ∧ j < 2 ^ 62 ∧ P (rngL 0 j.toNat)) : IT K pen H0 (iRng1 tl) L P := fun σ G H e R r => h σ G H e _ fun vs ds G1 H1 go hd ⟨j, hds, h1, h2, p⟩ => by
  subst hds
  cases hd with
  | cons hd hd2 =>
    cases hd2
    cases hd
    exact ⟨j, rfl, h1, h2, r _ G1 H1 _ go (wlk_rng _ _ _) p⟩
theorem it_rng2 (h : EA K pen H0 tl L fun ds => ∃ i j : Int, ds = [.int i, .int j] ∧ (-(2 ^ 62) ≤ i ∧ i < 2 ^ 62 ∧ -(2 ^ 62) ≤ j ∧ j < 2 ^ 62) ∧ P (rngL i (j - i).toNat)) : IT K pen H0 (iRng2 tl) L P := fun σ G H e R r => h σ G H e _ fun vs ds G1 H1 go hd ⟨i, j, hds, h1, p⟩ => by
  subst hds
  cases hd with
  | cons hd hd2 =>
    cases hd2 with
    | cons hd3 hd4 =>
      cases hd4
      cases hd
      cases hd3
      exact ⟨i, j, rfl, h1, r _ G1 H1 _ go (wlk_rng _ _ _) p⟩
/-- enumerate(list) -/
def enumL (ds : List PyData) : List PyData := ds.mapIdx fun i x => .tuple [.int (i : Nat), x]
theorem enumL_get {ds : List PyData} {i : Nat} {x : PyData} (h : (enumL ds)[i]? = some x) : ∃ y, ds[i]? = some y ∧ x = .tuple [.int (i : Nat), y] := by
  unfold enumL at h
  rw [List.getElem?_mapIdx] at h
  cases e : ds[i]? with
  | none => rw [e] at h; cases h
  | some y => rw [e] at h; exact ⟨y, rfl, (Option.some.inj h).symm⟩
theorem enumL_len (ds : List PyData) : (enumL ds).length = ds.length := by unfold enumL; rw [List.length_mapIdx]
theorem it_enum (h : EA K pen H0 tl L fun es => ∃ ds, es = [.list ds] ∧ P (enumL ds)) : IT K pen H0 (iEnum K tl) L P := fun σ G H e R r => h σ G H e _ fun vs es G1 H1 go hd ⟨ds, hds, p⟩ => by
  subst hds
  cases hd with
  | cons hd hd2 =>
    cases hd2
    cases hd with
    | lst hs ha =>
      rename_i a xs
      refine ⟨a, xs, rfl, sqL_mono go.vw.vw hs, r _ G1 H1 _ go (fun G' H' s v => ⟨fun i x hx => ?_, ?_⟩) p⟩
      · have z := sqL_mono (s.trans v.vw) hs
        obtain ⟨y', hy', rfl⟩ := enumL_get hx
        obtain ⟨y, hy, dy⟩ := dpa_get ha hy'
        refine ⟨⟨xs, y, z, hy⟩, fun w H2 hw => ?_⟩
        obtain ⟨T, u, rfl, hT, rfl, f⟩ := hw
        have e1 : u = y := Option.some.inj ((f _ z).symm.trans hy)
        subst e1
        have g2 := Go.new v (o := .tup [.int (i : Nat), u]) hT
        exact ⟨_, g2, .tup (.inl (.inl upd_same)) (.cons (.int _) (.cons (dp_mono (s.trans g2.gg) _ _ dy) .nil))⟩
      · exact ⟨xs, sqL_mono (s.trans v.vw) hs, by rw [dpa_len ha, enumL_len]; exact Nat.le_refl _⟩
/-- zip -/
def zipL (as bs : List PyData) : List PyData := (as.zip bs).map fun p => .tuple [p.1, p.2]
theorem zipL_len (as bs : List PyData) : (zipL as bs).length = min as.length bs.length := by unfold zipL; rw [List.length_map, List.length_zip]
theorem zipL_get {as bs : List PyData} {i : Nat} {x : PyData} (h : (zipL as bs)[i]? = some x) : ∃ a b, as[i]? = some a ∧ bs[i]? = some b ∧ x = .tuple [a, b] := by
  unfold zipL at h
  rw [List.getElem?_map] at h
  cases e : (as.zip bs)[i]? with
  | none => rw [e] at h; cases h
  | some y =>
    rw [e] at h
    obtain ⟨h1, h2⟩ := List.getElem?_zip_eq_some.mp e
    exact ⟨y.1, y.2, h1, h2, (Option.some.inj h).symm⟩
theorem it_zip (h : EA K pen H0 tl L fun es => ∃ as bs, (es = [.tuple as, .tuple bs] ∨ es = [.list as, .list bs]) ∧ P (zipL as bs)) : IT K pen H0 (RZ.iZipA K tl) L P := fun σ G H e R r => h σ G H e _ fun vs es G1 H1 go hd ⟨as, bs, hds, p⟩ => by
  rcases hds with rfl | rfl
  · cases hd with
    | cons hd hd2 =>
      cases hd2 with
      | cons hd3 hd4 =>
        cases hd4
        cases hd with
        | tup hs ha =>
          cases hd3 with
          | tup hs' ha' =>
            rename_i a xs a' ys
            refine ⟨a, a', xs, ys, rfl, .inr ⟨sqT_mono go.vw.vw hs, sqT_mono go.vw.vw hs', r _ G1 H1 _ go (fun G' H' s v => ⟨fun i x hx => ?_, ?_⟩) p⟩⟩
            · have z := sqT_mono (s.trans v.vw) hs
              have z' := sqT_mono (s.trans v.vw) hs'
              obtain ⟨x1, x2, hx1, hx2, rfl⟩ := zipL_get hx
              obtain ⟨y1, hy1, dy1⟩ := dpa_get ha hx1
              obtain ⟨y2, hy2, dy2⟩ := dpa_get ha' hx2
              refine ⟨⟨xs, ys, y1, y2, z, z', hy1, hy2⟩, fun w H2 hw => ?_⟩
              obtain ⟨T, u1, u2, rfl, hT, rfl, f1, f2⟩ := hw
              have e1 : u1 = y1 := Option.some.inj ((f1 _ z).symm.trans hy1)
              have e2 : u2 = y2 := Option.some.inj ((f2 _ z').symm.trans hy2)
              subst e1 e2
              have g2 := Go.new v (o := .tup [u1, u2]) hT
              exact ⟨_, g2, .tup (.inl (.inl upd_same)) (.cons (dp_mono (s.trans g2.gg) _ _ dy1) (.cons (dp_mono (s.trans g2.gg) _ _ dy2) .nil))⟩
            · refine ⟨xs, ys, sqT_mono (s.trans v.vw) hs, sqT_mono (s.trans v.vw) hs', ?_⟩
              rw [dpa_len ha, dpa_len ha', zipL_len]
              omega
  · cases hd with
    | cons hd hd2 =>
      cases hd2 with
      | cons hd3 hd4 =>
        cases hd4
        cases hd with
        | lst hs ha =>
          cases hd3 with
          | lst hs' ha' =>
            rename_i a xs a' ys
            refine ⟨a, a', xs, ys, rfl, .inl ⟨sqL_mono go.vw.vw hs, sqL_mono go.vw.vw hs', r _ G1 H1 _ go (fun G' H' s v => ⟨fun i x hx => ?_, ?_⟩) p⟩⟩
            · have z := sqL_mono (s.trans v.vw) hs
              have z' := sqL_mono (s.trans v.vw) hs'
              obtain ⟨x1, x2, hx1, hx2, rfl⟩ := zipL_get hx
              obtain ⟨y1, hy1, dy1⟩ := dpa_get ha hx1
              obtain ⟨y2, hy2, dy2⟩ := dpa_get ha' hx2
              refine ⟨⟨xs, ys, y1, y2, z, z', hy1, hy2⟩, fun w H2 hw => ?_⟩
              obtain ⟨T, u1, u2, rfl, hT, rfl, f1, f2⟩ := hw
              have e1 : u1 = y1 := Option.some.inj ((f1 _ z).symm.trans hy1)
              have e2 : u2 = y2 := Option.some.inj ((f2 _ z').symm.trans hy2)
              subst e1 e2
              have g2 := Go.new v (o := .tup [u1, u2]) hT
              exact ⟨_, g2, .tup (.inl (.inl upd_same)) (.cons (dp_mono (s.trans g2.gg) _ _ dy1) (.cons (dp_mono (s.trans g2.gg) _ _ dy2) .nil))⟩
            · refine ⟨xs, ys, sqL_mono (s.trans v.vw) hs, sqL_mono (s.trans v.vw) hs', ?_⟩
              rw [dpa_len ha, dpa_len ha', zipL_len]
              omega
/-! ### for, over anything that is walked -/
theorem s_forI (h : IT K pen H0 ti L fun xs => ∃ I : Nat → Lv → Prop, Wk I 0 L ∧ (∀ (i : Nat) x L', xs[i]? = some x → I i L' → GT K pen H0 g x L' fun L2 => S K pen H0 t L2 { D with nx := Wk I (i + 1), ct := Wk I (i + 1), bk := D.nx }) ∧ (∀ L', I xs.length L' → ∀ L4, Sub L' L4 → D.nx L4)) :
    S K pen H0 (tFor ti g t) L D := fun σ G H N e n1 n2 n3 n4 n5 n6 => h σ G H e _ fun J G1 H1 xs go w ⟨I, i0, is, id⟩ => by
  have x1 := e.gx go
  refine ⟨fun i m σ' H' => m = xs.length - i ∧ i ≤ xs.length ∧ ∃ G' L', Gx pen H0 G1 H1 G' H' ∧ Ev K pen H0 G' H' σ' L' ∧ I i L', ⟨xs.length, rfl, Nat.zero_le _, ?_⟩, ?_⟩
  · obtain ⟨L3, s, hI⟩ := i0
    exact ⟨G1, L3, .refl, (e.go go).sub s, hI⟩
  rintro i m σ1 H2 ⟨rfl, hi, G2, L2, x2, e2, q2⟩
  obtain ⟨w1, w2⟩ := w G2 H2 x2.gg e2.vw
  by_cases hlt : i < xs.length
  · obtain ⟨k1, k2⟩ := w1 i _ (List.getElem?_eq_getElem hlt)
    refine .inr ⟨k1, fun σ' H' => ∃ G' L', Gx pen H0 G1 H1 G' H' ∧ Ev K pen H0 G' H' σ' L' ∧ Wk I (i + 1) L', fun σ' H' ⟨G', L', a, b, L3, s, c⟩ => ⟨xs.length - (i + 1), by omega, rfl, hlt, G', L3, a, b.sub s, c⟩, fun v H3 hy => ?_⟩
    obtain ⟨G3, g3, d3⟩ := k2 v H3 hy
    have x3 := x2.trans (e2.gx g3)
    refine is i _ L2 (List.getElem?_eq_getElem hlt) q2 σ1 G3 H3 v (e2.go g3) d3 _ fun σ4 L4 e4 h4 => ?_
    exact h4 σ4 G3 H3 _ e4 (fun σ5 G5 H5 L5 x5 e5 q5 => ⟨G5, L5, x3.trans x5, e5, q5⟩) (fun v d G5 H5 x5 vw hd q5 => n2 v d G5 H5 (x1.trans (x3.trans x5)) vw hd q5)
      (fun σ5 G5 H5 L5 x5 e5 q5 => n1 σ5 G5 H5 L5 (x1.trans (x3.trans x5)) e5 q5) (fun σ5 G5 H5 L5 x5 e5 q5 => ⟨G5, L5, x3.trans x5, e5, q5⟩) (fun v d G5 H5 x5 vw hd q5 => n5 v d G5 H5 (x1.trans (x3.trans x5)) vw hd q5) (fun l ho o G5 H5 x5 vw h1 h2 h3 h4 q5 => n6 l ho o G5 H5 (x1.trans (x3.trans x5)) vw h1 h2 h3 h4 q5)
  · have e1 : i = xs.length := by omega
    subst e1
    exact .inl ⟨w2, n1 σ1 G2 H2 L2 (x1.trans x2) e2 (id L2 q2 L2 (Sub.refl _))⟩
/-! ### targets within a comprehension -/
def Agree (vs : List Nat) (σ σ' : L2.St) : Prop := σ'.length = σ.length ∧ ∀ j, j ∉ vs → σ'[j]? = σ[j]?
theorem wipe_get (σ : L2.St) : ∀ (vs : List Nat) (j : Nat), (wipe σ vs)[j]? = if j ∈ vs then (if j < σ.length then some none else none) else σ[j]?
  | [], j => by simp [wipe]
  | v :: vs, j => by
    unfold wipe
    rw [List.getElem?_set, wipe_get σ vs j, wipe_length]
    by_cases h : v = j
    · subst h
      simp
    · rw [if_neg h]
      have : (j ∈ v :: vs) = (j ∈ vs) := by rw [List.mem_cons]; exact propext ⟨fun z => z.resolve_left fun q => h q.symm, .inr⟩
      simp only [this]
theorem wipe_agree {vs : List Nat} {σ σ' : L2.St} (h : Agree vs (wipe σ vs) σ') : wipe σ' vs = wipe σ vs := by
  apply List.ext_getElem?
  intro j
  have hl := h.1
  rw [wipe_length] at hl
  rw [wipe_get, wipe_get, hl]
  by_cases hj : j ∈ vs
  · rw [if_pos hj, if_pos hj]
  · rw [if_neg hj, if_neg hj, h.2 j hj, wipe_get, if_neg hj]
def wipeL (L : Lv) : List Nat → Lv
  | [] => L
  | v :: vs => (wipeL L vs).set v none
theorem ev_wipe {G H : Hp} {σ : L2.St} (e : Ev K pen H0 G H σ L) : ∀ vs : List Nat, Ev K pen H0 G H (wipe σ vs) (wipeL L vs)
  | [] => e
  | v :: vs => (ev_wipe e vs).unset v
def GTw (K : PySem.W.Frag) (pen : Pc) (H0 : Hp) (vs : List Nat) (g : TG) (d : PyData) (L : Lv) (P : Lv → Prop) : Prop := ∀ (σ : L2.St) (G H : Hp) (v : V), Ev K pen H0 G H σ L → Dp K G v d → ∀ R : L2.St → Hp → Prop, (∀ σ' L', Agree vs σ σ' → Ev K pen H0 G H σ' L' → P L' → R σ' H) → g v σ H R
def GTws (K : PySem.W.Frag) (pen : Pc) (H0 : Hp) (vs : List Nat) (g : TGs) (ds : List PyData) (L : Lv) (P : Lv → Prop) : Prop := ∀ (σ : L2.St) (G H : Hp) (us : List V), Ev K pen H0 G H σ L → DpAll K G us ds → ∀ R : L2.St → Hp → Prop, (∀ σ' L', Agree vs σ σ' → Ev K pen H0 G H σ' L' → P L' → R σ' H) → g us σ H R
theorem gw_name {vs : List Nat} {i : Nat} {d : PyData} {P : Lv → Prop} (hi : i ∈ vs) (h : P (L.set i (some (.d d)))) : GTw K pen H0 vs (gName i) d L P := fun σ G H v e hd R r =>
  r _ _ ⟨List.length_set .., fun j hj => List.getElem?_set_ne fun (z : i = j) => hj (z ▸ hi)⟩ (e.set hd) h
theorem gw_tup {vs : List Nat} {n : Nat} {ds : List PyData} {P : Lv → Prop} (hn : ds.length = n) (h : GTws K pen H0 vs gs ds L P) : GTw K pen H0 vs (gTup K n gs) (.tuple ds) L P := fun σ G H v e hd R r => by
  cases hd with
  | tup hs ha => exact ⟨_, _, rfl, sqT_mono e.vw.vw hs, (dpa_len ha).trans hn, h σ G H _ e ha R r⟩
theorem gws_nil {vs : List Nat} {P : Lv → Prop} (h : P L) : GTws K pen H0 vs gNil [] L P := fun σ G H us e hd R r => by
  cases hd
  exact ⟨rfl, r _ _ ⟨rfl, fun _ _ => rfl⟩ e h⟩
theorem gws_cons {vs : List Nat} {d : PyData} {ds : List PyData} {P : Lv → Prop} (h : GTw K pen H0 vs g d L fun L' => GTws K pen H0 vs gs ds L' P) : GTws K pen H0 vs (gCons g gs) (d :: ds) L P := fun σ G H us e hd R r => by
  cases hd with
  | cons h1 h2 =>
    refine ⟨_, _, rfl, h σ G H _ e h1 _ fun σ' L' a e' h' => ?_⟩
    exact h' σ' G H _ e' h2 R fun σ2 L2 a2 e2 p2 => r σ2 L2 ⟨a2.1.trans a.1, fun j hj => (a2.2 j hj).trans (a.2 j hj)⟩ e2 p2
/-! ### a comprehension over anything that is walked -/
theorem el_lcI {vs : List Nat} {Pl : List PyData → Prop} (h : IT K pen H0 ti L fun xs => xs.length ≤ 100000 ∧ ∃ J : Nat → List PyData → Prop, J 0 [] ∧
    (∀ (i : Nat) x acc, xs[i]? = some x → J i acc → GTw K pen H0 vs g x (wipeL L vs) fun L2 => LcT K pen H0 tt te L2 acc (J (i + 1))) ∧ (∀ acc, J xs.length acc → Pl acc)) :
    EL K pen H0 (tLc ti g tt te vs) L Pl := fun σ G H e Q q => h σ G H e _ fun It G1 H1 xs go w ⟨hn, J, j0, js, je⟩ => fun Dl hD => by
  refine ⟨fun i m H' => m = xs.length - i ∧ i ≤ xs.length ∧ LcI K pen G1 H1 Dl J i H', ⟨xs.length, rfl, Nat.zero_le _, lc_start go.vw hD j0⟩, ?_⟩
  rintro i m H' ⟨rfl, hi, I⟩
  obtain ⟨G', us, acc, g1, h1, h2, h3, h4, h5⟩ := id I
  obtain ⟨w1, w2⟩ := w G' H' g1.gg g1.vw
  by_cases hlt : i < xs.length
  · obtain ⟨k1, k2⟩ := w1 i _ (List.getElem?_eq_getElem hlt)
    refine .inr ⟨k1, LcI K pen G1 H1 Dl J (i + 1), fun H2 I2 => ⟨xs.length - (i + 1), by omega, rfl, hlt, I2⟩, fun v H2 hv => ?_⟩
    obtain ⟨G2, g2, d2⟩ := k2 v H2 hv
    have np : ¬ IsPn pen Dl := fun p => go.vw.ok.there p hD
    have e2 := ev_wipe (((e.go go).go g1).go g2) vs
    refine js i _ acc (List.getElem?_eq_getElem hlt) h4 (wipe σ vs) G2 H2 v e2 d2 _ fun σ3 L3 ag e3 h6 => ⟨wipe_agree ag, ?_⟩
    exact lc_turn go.vw hD (by omega) (g1.trans g2) (g2.od Dl _ np h1) ((g2.nw Dl (by rw [h1]; exact fun z => by cases z)).trans h2) (dpa_mono g2.gg _ _ h3) h5 e3 h6
  · have e1 : i = xs.length := by omega
    subst e1
    exact .inl ⟨w2, lc_end go hD I je q⟩
theorem e_lcI {vs : List Nat} (h : IT K pen H0 ti L fun xs => xs.length ≤ 100000 ∧ ∃ J : Nat → List PyData → Prop, J 0 [] ∧
    (∀ (i : Nat) x acc, xs[i]? = some x → J i acc → GTw K pen H0 vs g x (wipeL L vs) fun L2 => LcT K pen H0 tt te L2 acc (J (i + 1))) ∧ (∀ acc, J xs.length acc → Pd (.list acc))) :
    E K pen H0 (tLc ti g tt te vs) L Pd := e_ofL (el_lcI h)
/-- the plain way: each item gives one, or none -/
theorem el_lcF {vs : List Nat} {Pl : List PyData → Prop} (f : Nat → PyData → Option PyData) (h : IT K pen H0 ti L fun xs => xs.length ≤ 100000 ∧
    (∀ (i : Nat) x, xs[i]? = some x → GTw K pen H0 vs g x (wipeL L vs) fun L2 => ET K pen H0 tt L2 fun b => (b = true → E K pen H0 te L2 fun d => f i x = some d) ∧ (b = false → f i x = none)) ∧ Pl ((xs.mapIdx f).filterMap id)) :
    EL K pen H0 (tLc ti g tt te vs) L Pl := by
  refine el_lcI (h.mono fun xs ⟨hn, hs, hp⟩ => ⟨hn, fun i acc => acc = ((xs.take i).mapIdx f).filterMap id, by simp, fun i x acc hx ha => ?_, fun acc ha => ?_⟩)
  · have key : ((xs.take (i + 1)).mapIdx f).filterMap id = ((xs.take i).mapIdx f).filterMap id ++ (f i x).toList := by
      obtain ⟨hlt, hg⟩ := List.getElem?_eq_some_iff.mp hx
      rw [List.take_succ_eq_append_getElem hlt, List.mapIdx_append, List.filterMap_append, hg]
      congr 1
      simp only [List.mapIdx_cons, List.mapIdx_nil, List.length_take]
      rw [Nat.min_eq_left (Nat.le_of_lt hlt)]
      simp only [Nat.zero_add]
      cases f i x <;> rfl
    intro σ G H v e hd R r
    refine hs i x hx σ G H v e hd R fun σ' L' ag e' p => r σ' L' ag e' (p.mono fun b pb => ⟨fun hb => (pb.1 hb).mono fun d hd => ?_, fun hb => ?_⟩)
    · show acc ++ [d] = _
      rw [ha, key, hd]; rfl
    · show acc = _
      rw [ha, key, pb.2 hb]; simp
  · have ha : acc = ((xs.take xs.length).mapIdx f).filterMap id := ha
    rw [List.take_length] at ha
    rw [ha]; exact hp
/-! ### all(..), any(..) over anything that is walked -/
theorem e_genI {pn : Option Pn} {ts : List Addr} {Tb : Addr} {go : Bool} {vs : List Nat} (hT : Tb ∈ ts) (h : IT K ⟨pn, ts⟩ H0 ti L fun xs => ∃ J : Nat → Prop, J 0 ∧
    (∀ (i : Nat) x, xs[i]? = some x → J i → GTw K ⟨pn, ts⟩ H0 vs g x (wipeL L vs) fun L2 => GnT K ⟨pn, ts⟩ H0 go tt te L2 (J (i + 1)) Pd) ∧ (J xs.length → Pd (.bool go))) :
    E K ⟨pn, ts⟩ H0 (_root_.Gx.tGen Tb go ti g tt te vs) L Pd := fun σ G H e Q q => h σ G H e _ fun It G1 H1 xs gg w ⟨J, j0, js, je⟩ => by
  refine ⟨gg.vw.ok.2 Tb hT, fun H2 htab => ?_⟩
  have g2 := Go.tab gg.vw hT htab
  refine ⟨fun i m H' => m = xs.length - i ∧ i ≤ xs.length ∧ J i ∧ ∃ G', Go ⟨pn, ts⟩ G1 H2 G' H', ⟨xs.length, rfl, Nat.zero_le _, j0, G1, .refl g2.vw⟩, ?_⟩
  rintro i m H' ⟨rfl, hi, hJ, G', g'⟩
  have q' : ∀ v d G' H', Go ⟨pn, ts⟩ G1 H2 G' H' → Dp K G' v d → Pd d → Q v H' := fun v d G' H' g hd p => q v d G' H' ((gg.trans g2).trans g) hd p
  obtain ⟨w1, w2⟩ := w G' H' g'.gg g'.vw
  by_cases hlt : i < xs.length
  · obtain ⟨k1, k2⟩ := w1 i _ (List.getElem?_eq_getElem hlt)
    refine .inr ⟨k1, fun H3 => J (i + 1) ∧ ∃ G', Go ⟨pn, ts⟩ G1 H2 G' H3, fun H3 ⟨k1, k2⟩ => ⟨xs.length - (i + 1), by omega, rfl, hlt, k1, k2⟩, fun y H3 hy => ?_⟩
    obtain ⟨G3, g3, d3⟩ := k2 y H3 hy
    refine js i _ (List.getElem?_eq_getElem hlt) hJ (wipe σ vs) G3 H3 y (ev_wipe ((((e.go gg).go g2).go g').go g3) vs) d3 _ fun σ4 L4 ag e4 h4 => ⟨wipe_agree ag, ?_⟩
    exact gn_turn (g'.trans g3) e4 h4 (fun G3 H3 g3 k => ⟨k, G3, g3⟩) q'
  · have e1 : i = xs.length := by omega
    subst e1
    exact .inl ⟨w2, q' _ _ G' H' g' (.bl _) (je hJ)⟩
/-- all(f(x) ..) -/
theorem e_allI {pn : Option Pn} {ts : List Addr} {Tb : Addr} {vs : List Nat} (f : PyData → Bool) (hT : Tb ∈ ts) (h : IT K ⟨pn, ts⟩ H0 ti L fun xs => (∀ x ∈ xs, GTw K ⟨pn, ts⟩ H0 vs g x (wipeL L vs) fun L2 => E K ⟨pn, ts⟩ H0 te L2 fun d => d = .bool (f x)) ∧ Pd (.bool (xs.all f))) :
    E K ⟨pn, ts⟩ H0 (_root_.Gx.tGen Tb true ti g tYes te vs) L Pd := by
  refine e_genI hT (h.mono fun xs ⟨hx, hp⟩ => ⟨fun i => xs.all f = (xs.drop i).all f, rfl, fun i x hi hJ => ?_, fun hJ => ?_⟩)
  · intro σ G H v e hd R r
    obtain ⟨hlt, hg⟩ := List.getElem?_eq_some_iff.mp hi
    refine hx x (List.mem_of_getElem? hi) σ G H v e hd R fun σ' L' ag e' p => r σ' L' ag e' (et_yes ⟨fun _ => p.mono fun d e2 => ⟨f x, e2, fun hk => ?_, fun hk => ?_⟩, fun z => by cases z⟩)
    · rw [hJ, List.drop_eq_getElem_cons hlt, List.all_cons, hg, hk, Bool.true_and]
    · rw [hJ, List.drop_eq_getElem_cons hlt, List.all_cons, hg, hk] at hp
      exact hp
  · rw [hJ, List.drop_eq_nil_of_le (Nat.le_refl _)] at hp
    exact hp
/-! ### own lists kept from now on -/
theorem s_frz {j : Nat} {ds : List PyData} (hj : L[j]? = some (some (.own (.lst ds)))) (h : S K pen H0 t (L.set j (some (.d (.list ds)))) D) (nf : noFr L = true := by rfl) : S K pen H0 t L D := fun σ G H N e n1 n2 n3 n4 n5 n6 => by
  obtain ⟨x, k1, l, ho, rfl, k3, k4, k5, k6⟩ := e.sl j _ hj
  obtain ⟨vs, rfl, k6⟩ := k6.lst
  have s : Same G (upd G l (.lst vs)) := fun a o q => by rw [upd_ne (ne_of_none q k5)]; exact q
  have x0 : Gx pen H0 G H (upd G l (.lst vs)) H := ⟨s, fun a h => upd_ne (fun z => h (by rw [z]; exact k4)), fun _ _ _ _ q => q⟩
  have vw : Vw pen (upd G l (.lst vs)) H := ⟨fun a o q => by
    by_cases z : a = l
    · subst z; rw [upd_same] at q; rw [k3]; exact q
    · rw [upd_ne z] at q; exact e.vw.vw a o q, fun a p => by rw [upd_ne (fun z => e.h0.there p (by rw [z]; exact k4))]; exact e.vw.no a p, e.vw.ok⟩
  have jl : j < L.length := (List.getElem?_eq_some_iff.mp hj).1
  have e1 : Ev K pen H0 (upd G l (.lst vs)) H σ (L.set j (some (.d (.list ds)))) := by
    refine ⟨vw, e.h0, e.dom, by rw [List.length_set]; exact e.len, fun i av hi => ?_, fun i k o1 o2 l' h1 h2 h3 h4 => ?_⟩
    · by_cases q : j = i
      · subst q
        rw [List.getElem?_set_self jl] at hi
        have := Option.some.inj (Option.some.inj hi)
        subst this
        exact ⟨_, k1, .lst (.inl (.inl upd_same)) (dpa_mono s _ _ k6)⟩
      · rw [List.getElem?_set_ne q] at hi
        obtain ⟨w, m1, m2⟩ := e.sl i av hi
        refine ⟨w, m1, ?_⟩
        cases av with
        | d x => exact dp_mono s _ _ m2
        | pen => exact m2
        | own o =>
          obtain ⟨l3, vs3, rfl, m3, m4, m5, m6⟩ := m2
          refine ⟨l3, vs3, rfl, m3, m4, ?_, m6.mono s⟩
          rw [upd_ne (fun z => q (e.ow j i _ o l hj hi k1 (by rw [← z]; exact m1)))]
          exact m5
        | bor o =>
          obtain ⟨l3, vs3, rfl, m3, m4, m5, m6⟩ := m2
          exact ⟨l3, vs3, rfl, m3, m4, m5, m6.mono s⟩
        | fr x => exact (noFr_get nf hi).elim
    · have was : ∀ (i : Nat) (o : OO), (L.set j (some (.d (.list ds))))[i]? = some (some (.own o)) → L[i]? = some (some (.own o)) := fun i o hi => by
        by_cases q : j = i
        · subst q
          rw [List.getElem?_set_self jl] at hi
          cases hi
        · rw [List.getElem?_set_ne q] at hi; exact hi
      exact e.ow i k o1 o2 l' (was _ _ h1) (was _ _ h2) h3 h4
  exact h σ _ H N e1 (fun σ' G' H' L' x e' q => n1 σ' G' H' L' (x0.trans x) e' q) (fun v d G' H' x vw hd q => n2 v d G' H' (x0.trans x) vw hd q) (fun σ' G' H' L' x e' q => n3 σ' G' H' L' (x0.trans x) e' q) (fun σ' G' H' L' x e' q => n4 σ' G' H' L' (x0.trans x) e' q) (fun v d G' H' x vw hd q => n5 v d G' H' (x0.trans x) vw hd q) (fun l ho o G' H' x vw h1 h2 h3 h4 q => n6 l ho o G' H' (x0.trans x) vw h1 h2 h3 h4 q)
end
end Dl
set_option Elab.async false
set_option linter.all false
set_option maxRecDepth 100000
set_option maxHeartbeats 4000000
namespace Dl
open PySem PySem.Spec PyProof.Rows L2
/-! ### the law's beginning, the script as data -/
def spPenS (K : PySem.W.Frag) : Sp := fun vs H Q _ => ∃ (a : Addr) (ns : List Int), vs = [.ref a] ∧ SqL K H a (ns.map V.int) ∧
  ∀ (p c : Addr) (cells : List Int) H', Same H H' → H p = none → H' p = some (.lst [.ref c, .int 0, .int 0]) → H' c = some (.lst (cells.map V.int)) → Q (.ref p) H'
section
variable {K : PySem.W.Frag} {pen : Pc} {H0 : Hp} {L : Lv} {P : PyData → Prop} {te ta ti ty tx tv : TE} {tl : TA} {tt : TT} {t : TS} {D : Dn} {Pb : Bool → Prop} {Pl : List PyData → Prop}
theorem script_view {H : Hp} {a : Addr} {ns : List Int} (hS : SqL K H a (ns.map V.int)) (ok : POk pen H) (np : Rd H a (.lst (ns.map V.int)) → ∀ p, pen.pen = some p → p.a ≠ a) : ∃ G, Vw pen G H ∧ Dp K G (.ref a) (.list (intsL ns)) := by
  rcases hS with r | k
  · refine ⟨fun b => if b = a then H a else none, ⟨fun b o h => ?_, fun b q => ?_, ok⟩, .lst (.inl ?_) (ints_dpa ns)⟩
    · by_cases z : b = a
      · rw [show (if b = a then H a else none) = H a from if_pos z] at h; rw [z]; exact h
      · rw [show (if b = a then H a else none) = none from if_neg z] at h; cases h
    · refine if_neg fun z => ?_
      rcases q with ⟨p, hp, e⟩ | hP
      · exact np r p hp (e.symm.trans z)
      · obtain ⟨ps, e, _⟩ := ok.2 b hP
        rw [z] at e
        rcases r with r | ⟨o, r⟩
        · rw [r] at e; cases e
        · rw [r] at e; cases e
    · rcases r with r | ⟨o, r⟩
      · exact .inl ((if_pos rfl).trans r)
      · exact .inr ⟨o, (if_pos rfl).trans r⟩
  · exact ⟨fun _ => none, ⟨fun _ _ h => (nomatch h), fun _ _ => rfl, ok⟩, .lst (.inr k) (ints_dpa ns)⟩
theorem pen_startS {ts : List Addr} {N : Ends} {σ : L2.St} {H1 : Hp} {p c a : Addr} {cells ns : List Int} (hp : H1 p = some (.lst [.ref c, .int 0, .int 0])) (hc : H1 c = some (.lst (cells.map V.int))) (hS : SqL K H1 a (ns.map V.int)) (hlen : σ.length = L.length)
    (hL : ∀ (i : Nat) av, L[i]? = some (some av) → (av = .pen ∧ σ[i]? = some (some (.ref p))) ∨ (av = .d (.list (intsL ns)) ∧ σ[i]? = some (some (.ref a)))) (hts : ∀ P ∈ ts, _root_.Gx.TabX H1 P)
    (h : S K ⟨some ⟨p, .pen c cells.length⟩, ts⟩ H1 t L { nx := fun _ => False, rt := fun d => d = .bool true }) (q : ∀ H', N.rt (.bl true) H') : t N σ H1 := by
  have ok : POk ⟨some ⟨p, .pen c cells.length⟩, ts⟩ H1 := ⟨fun p' e => by cases e; exact ⟨cells, 0, 0, hp, hc, Int.le_refl _, Int.le_refl _, rfl⟩, hts⟩
  obtain ⟨G, v, d⟩ := script_view hS ok (fun r p' e => by
    cases e
    intro z
    have z : p = a := z
    rcases r with r | ⟨o, r⟩
    · rw [← z, hp] at r
      cases ns with
      | nil => cases r
      | cons n ns => cases r
    · rw [← z, hp] at r; cases r)
  refine h σ G H1 N ⟨v, ok, fun _ h => h, hlen, fun i av hi => ?_, fun i j ds es l h1 => ?_⟩ (fun _ _ _ _ _ _ z => z.elim) (fun v d G' H' _ _ hd e => ?_) (fun _ _ _ _ _ _ z => z.elim) (fun _ _ _ _ _ _ z => z.elim) (fun _ _ _ _ _ _ _ z => z.elim) (fun _ _ _ _ _ _ _ _ _ _ _ z => z.elim)
  · rcases hL i av hi with ⟨rfl, e⟩ | ⟨rfl, e⟩
    · exact ⟨_, e, _, rfl, rfl⟩
    · exact ⟨_, e, d⟩
  · rcases hL i _ h1 with ⟨z, _⟩ | ⟨z, _⟩ <;> cases z
  · subst e
    cases hd
    exact q H'
theorem law_start {ts : List Addr} {N : Ends} {σ : L2.St} {H1 : Hp} {a : Addr} {ns : List Int} (hS : SqL K H1 a (ns.map V.int)) (hlen : σ.length = L.length)
    (hL : ∀ (i : Nat) av, L[i]? = some (some av) → av = .d (.list (intsL ns)) ∧ σ[i]? = some (some (.ref a))) (hts : ∀ P ∈ ts, _root_.Gx.TabX H1 P)
    (h : S K ⟨none, ts⟩ H1 t L { nx := fun _ => False, rt := fun d => d = .bool true }) (q : ∀ H', N.rt (.bl true) H') : t N σ H1 := by
  have ok : POk ⟨none, ts⟩ H1 := ⟨fun p' e => (by cases e), hts⟩
  obtain ⟨G, v, d⟩ := script_view hS ok (fun _ p' e => by cases e)
  refine h σ G H1 N ⟨v, ok, fun _ h => h, hlen, fun i av hi => ?_, fun i j ds es l h1 => ?_⟩ (fun _ _ _ _ _ _ z => z.elim) (fun v d G' H' _ _ hd e => ?_) (fun _ _ _ _ _ _ z => z.elim) (fun _ _ _ _ _ _ z => z.elim) (fun _ _ _ _ _ _ _ z => z.elim) (fun _ _ _ _ _ _ _ _ _ _ _ z => z.elim)
  · obtain ⟨rfl, e⟩ := hL i av hi
    exact ⟨_, e, d⟩
  · cases (hL i _ h1).1
  · subst e
    cases hd
    exact q H'
/-! ### a list of one int becomes the spring -/
def noPen : Lv → Bool
  | [] => true
  | some .pen :: _ => false
  | some (.bor _) :: _ => false
  | _ :: L => noPen L
theorem noPen_all : ∀ {L : Lv} {i : Nat} {a : AV}, noPen L = true → L[i]? = some (some a) → a ≠ .pen ∧ ∀ o, a ≠ .bor o
  | [], _, _, _, h => by simp at h
  | a :: L, 0, x, n, h => by
    have := Option.some.inj h
    subst this
    cases x <;> first | cases n | exact ⟨fun z => (by cases z), fun _ z => (by cases z)⟩
  | a :: L, i + 1, x, n, h => by
    have n' : noPen L = true := by
      cases a with
      | none => exact n
      | some av => cases av <;> first | exact n | cases n
    exact noPen_all (L := L) (i := i) n' h
theorem noPen_get {L : Lv} {i : Nat} (n : noPen L = true) : L[i]? ≠ some (some .pen) := fun h => (noPen_all n h).1 rfl
theorem s_spring {ts : List Addr} {i : Nat} {z : Int} (hi : L[i]? = some (some (.own (.lst [.int z]))))
    (h : ∀ pa H1, S K ⟨some ⟨pa, .spr⟩, ts⟩ H1 t (L.set i (some .pen)) { D with nx := fun L' => ∃ L3, Sub L3 L' ∧ noPen L3 = true ∧ D.nx L3, bk := fun L' => ∃ L3, Sub L3 L' ∧ noPen L3 = true ∧ D.bk L3, ct := fun L' => ∃ L3, Sub L3 L' ∧ noPen L3 = true ∧ D.ct L3 })
    (od : onlyD (L.set i none) = true := by rfl) (np : noPen (L.set i none) = true := by rfl) : S K ⟨none, ts⟩ H0 t L D := fun σ G H N e n1 n2 n3 n4 n5 n6 => by
  obtain ⟨x, k1, l, ho, rfl, k3, k4, k5, k6⟩ := e.sl i _ hi
  obtain ⟨vs, rfl, k6⟩ := k6.lst
  have il : i < L.length := (List.getElem?_eq_some_iff.mp hi).1
  cases k6 with
  | cons h1 h2 =>
    cases h2
    cases h1
    have nots : l ∉ ts := fun z => e.h0.there (.inr z) k4
    have ok : POk ⟨some ⟨l, .spr⟩, ts⟩ H := ⟨fun p hp => by cases hp; exact ⟨z, k3⟩, e.vw.ok.2⟩
    have vw : Vw ⟨some ⟨l, .spr⟩, ts⟩ G H := ⟨e.vw.vw, fun a q => by
      rcases q with ⟨p, hp, rfl⟩ | q
      · cases hp; exact k5
      · exact e.vw.no a (.inr q), ok⟩
    have get : ∀ (j : Nat) (av : AV), (L.set i (some .pen))[j]? = some (some av) → (i = j ∧ av = .pen) ∨ (i ≠ j ∧ L[j]? = some (some av) ∧ (L.set i none)[j]? = some (some av)) := fun j av hj => by
      by_cases q : i = j
      · subst q
        rw [List.getElem?_set_self il] at hj
        exact .inl ⟨rfl, (Option.some.inj (Option.some.inj hj)).symm⟩
      · rw [List.getElem?_set_ne q] at hj
        exact .inr ⟨q, hj, by rw [List.getElem?_set_ne q]; exact hj⟩
    have e1 : Ev K ⟨some ⟨l, .spr⟩, ts⟩ H G H σ (L.set i (some .pen)) := by
      refine ⟨vw, ok, fun _ h => h, by rw [List.length_set]; exact e.len, fun j av hj => ?_, fun j k o1 o2 l' h1 => ?_⟩
      · rcases get j av hj with ⟨rfl, rfl⟩ | ⟨_, hj, hj2⟩
        · exact ⟨_, k1, _, rfl, rfl⟩
        · obtain ⟨w, m1, m2⟩ := e.sl j av hj
          refine ⟨w, m1, ?_⟩
          cases av with
          | d x => exact m2
          | pen => exact absurd hj2 (noPen_get np)
          | own o => exact absurd rfl ((onlyD_get od hj2).1 o)
          | fr x => exact absurd rfl ((onlyD_get od hj2).2 x)
          | bor o =>
            obtain ⟨l3, vs3, rfl, m3, m4, m5, m6⟩ := m2
            refine ⟨l3, vs3, rfl, m3, m3, fun q => ?_, m6⟩
            rcases q with ⟨p, hp, q⟩ | q
            · cases hp
              have q : l3 = l := q
              rw [q, k4] at m4; cases m4
            · exact m5 (.inr q)
      · rcases get j _ h1 with ⟨_, z⟩ | ⟨_, _, hj2⟩
        · cases z
        · exact absurd rfl ((onlyD_get od hj2).1 o1)
    have bx : ∀ {G' H'}, Gx ⟨some ⟨l, .spr⟩, ts⟩ H G H G' H' → Gx ⟨none, ts⟩ H0 G H G' H' := fun x => ⟨x.gg, fun a ha => x.nw a (e.dom a ha), fun a o hp ha q => x.od a o (fun z => by
      rcases z with ⟨p, hp', z⟩ | z
      · cases hp'
        exact ha (by rw [z]; exact k4)
      · exact hp (.inr z)) (e.dom a ha) q⟩
    have bv : ∀ {G' H'}, Vw ⟨some ⟨l, .spr⟩, ts⟩ G' H' → Vw ⟨none, ts⟩ G' H' := fun v => v.plain
    have be : ∀ {σ' G' H' L' L3}, Gx ⟨some ⟨l, .spr⟩, ts⟩ H G H G' H' → Ev K ⟨some ⟨l, .spr⟩, ts⟩ H G' H' σ' L' → Sub L3 L' → noPen L3 = true → Ev K ⟨none, ts⟩ H0 G' H' σ' L3 := fun {σ' G' H' L' L3} x e' s n => by
      have e3 := e'.sub s
      refine ⟨bv e3.vw, e.h0, fun a ha => e3.dom a (e.dom a ha), e3.len, fun j av hj => ?_, e3.ow⟩
      obtain ⟨w, m1, m2⟩ := e3.sl j av hj
      refine ⟨w, m1, ?_⟩
      cases av with
      | d x => exact m2
      | pen => exact absurd hj (noPen_get n)
      | own o =>
        obtain ⟨l3, vs3, rfl, m3, m4, m5⟩ := m2
        exact ⟨l3, vs3, rfl, m3, e.h0none m4, m5⟩
      | fr x => exact nd_mono (vnew_call (G1 := G) e.dom) _ _ m2
      | bor o => exact absurd rfl ((noPen_all n hj).2 o)
    refine h l H σ G H N e1 (fun σ' G' H' L' x e' ⟨L3, s, n, q⟩ => n1 σ' G' H' L3 (bx x) (be x e' s n) q) (fun v d G' H' x vw hd q => n2 v d G' H' (bx x) (bv vw) hd q) (fun σ' G' H' L' x e' ⟨L3, s, n, q⟩ => n3 σ' G' H' L3 (bx x) (be x e' s n) q) (fun σ' G' H' L' x e' ⟨L3, s, n, q⟩ => n4 σ' G' H' L3 (bx x) (be x e' s n) q) (fun v d G' H' x vw hd q => n5 v d G' H' (bx x) (bv vw) (nd_mono (vnew_call (G1 := G) e.dom) _ _ hd) q) (fun l' ho o G' H' x vw h1 h2 h3 h4 q => n6 l' ho o G' H' (bx x) (bv vw) h1 (e.h0none h2) h3 h4 q)
/-! ### a list as a test -/
def tTru (K : PySem.W.Frag) (ta : TE) : TT := fun σ H Q => ta σ H fun x H' => ∃ k, TruV K x H' k ∧ Q k H'
theorem kx_truth {X : Cx} {a : Expr} (h : X.K = K) (ha : PE X a ta) (he : ∀ whole, isTrue a X.env whole = (do let v ← whole; standAt a.pos; holding [v] (truthy v))) : PT X a (tTru K ta) := by subst h; exact pt_truth ha he
theorem kx_enum {X : Cx} {e : Expr} {p pos tpos : Pos} {elts : List Expr} {kk : Nat} (h : X.K = K) (hg : Gl X "enumerate") (hm : X.mg "enumerate" = none) (ha : PA X [e] tl) (hs : starEach [e] X.env = [(false, eval e X.env)] := by rfl) :
    PI X (.Tuple elts kk tpos) (.Call (.Name "enumerate" p) [e] [] pos) (iEnum K tl) := by subst h; exact pi_enum hg hm ha hs
theorem dpa_empty {G : Hp} {vs : List V} {ds : List PyData} (h : DpAll K G vs ds) : vs.isEmpty = ds.isEmpty := by cases h <;> rfl
theorem et_truL (h : E K pen H0 ta L fun d => ∃ ds, (d = .list ds ∨ d = .tuple ds) ∧ Pb (!ds.isEmpty)) : ET K pen H0 (tTru K ta) L Pb := fun σ G H e Q q => h σ G H e _ fun v d G1 H1 go hd ⟨ds, hds, p⟩ => by
  rcases hds with rfl | rfl
  · cases hd with
    | lst hs ha => exact ⟨!ds.isEmpty, .inl ⟨_, sqL_mono go.vw.vw hs, by rw [dpa_empty ha]⟩, q _ G1 H1 go p⟩
  · cases hd with
    | tup hs ha => exact ⟨!ds.isEmpty, .inr (.inl ⟨_, sqT_mono go.vw.vw hs, by rw [dpa_empty ha]⟩), q _ G1 H1 go p⟩
theorem et_truI (h : E K pen H0 ta L fun d => ∃ i, d = .int i ∧ Pb (i != 0)) : ET K pen H0 (tTru K ta) L Pb := fun σ G H e Q q => h σ G H e _ fun v d G1 H1 go hd ⟨i, hi, p⟩ => by
  subst hi
  cases hd
  exact ⟨_, rfl, q _ G1 H1 go p⟩
/-! ### sorted(list of ints) -/
theorem el_sortI (h : E K pen H0 te L fun d => ∃ ns : List Int, d = .list (intsL ns) ∧ ∀ ms : List Int, ms.Perm ns → ms.Pairwise (· ≤ ·) → Pl (intsL ms)) : EL K pen H0 (tCB (rSortedI K) (tCons te tNil)) L Pl := fun σ G H e Q q => h σ G H e _ fun v d G1 H1 go hd ⟨ns, hds, p⟩ => by
  subst hds
  cases hd with
  | lst hs ha =>
    rename_i a xs
    have ex := dpa_ints ha
    subst ex
    refine ⟨a, ns, rfl, sqL_mono go.vw.vw hs, fun ms r hp hw hr => ?_⟩
    have e1 := e.go go
    have g2 := Go.hid e1.vw (o := .lst (ms.map V.int)) hr
    refine q r _ _ G1 _ (go.trans g2) upd_same (e1.gnone hr) ?_ (ints_dpa ms) (p ms hp hw)
    cases z : H r with
    | none => rfl
    | some o => exact absurd hr (go.dom (by rw [z]; exact fun z => by cases z))
theorem kx_sortI {X : Cx} (h : X.K = K) : CallR X (.builtin "sorted") (rSortedI K) := by subst h; exact cr_sortedI
/-! ### dicts of one's own -/
section
variable {κ : Type} [DecidableEq κ]
def valD (m : List (κ × PyData)) (k : κ) : Option PyData := (m.find? fun kv => decide (kv.1 = k)).map (·.2)
def putD (m : List (κ × PyData)) (k : κ) (d : PyData) : List (κ × PyData) := if (m.any fun kv => decide (kv.1 = k)) = true then m.map (fun kv => if kv.1 = k then (kv.1, d) else kv) else m ++ [(k, d)]
def dropD (m : List (κ × PyData)) (k : κ) : List (κ × PyData) := m.filter fun kv => decide (kv.1 ≠ k)
theorem kv_val {G : Hp} (k : κ) : ∀ {kvs : List (κ × V)} {m : List (κ × PyData)}, KvOk K G kvs m → (∃ v d, valV kvs k = some v ∧ valD m k = some d ∧ Dp K G v d) ∨ (valV kvs k = none ∧ valD m k = none)
  | _, _, .nil => .inr ⟨rfl, rfl⟩
  | kv :: kvs, xd :: m, .cons h t => by
    obtain ⟨h1, h2⟩ := h
    by_cases z : xd.1 = k
    · refine .inl ⟨kv.2, xd.2, valV_pos (h1.trans z), ?_, h2⟩
      unfold valD
      rw [List.find?_cons, decide_eq_true z]
      rfl
    · rw [valV_neg (fun q => z (h1.symm.trans q))]
      have : valD (xd :: m) k = valD m k := by
        unfold valD
        rw [List.find?_cons, decide_eq_false z]
      rw [this]
      exact kv_val k t
theorem kv_any {G : Hp} (k : κ) : ∀ {kvs : List (κ × V)} {m : List (κ × PyData)}, KvOk K G kvs m → (kvs.any fun kv => decide (kv.1 = k)) = (m.any fun kv => decide (kv.1 = k))
  | _, _, .nil => rfl
  | kv :: kvs, xd :: m, .cons h t => by
    rw [List.any_cons, List.any_cons, kv_any k t, h.1]
theorem kv_put {G : Hp} {v : V} {d : PyData} (k : κ) (hd : Dp K G v d) {kvs : List (κ × V)} {m : List (κ × PyData)} (h : KvOk K G kvs m) : KvOk K G (putK kvs k v) (putD m k d) := by
  unfold putK putD
  rw [kv_any k h]
  by_cases a : (m.any fun kv => decide (kv.1 = k)) = true
  · rw [if_pos a, if_pos a]
    clear a
    induction h with
    | nil => exact .nil
    | cons h t ih =>
      refine .cons ?_ ih
      rename_i kv xd kvs m
      show ((if kv.1 = k then (kv.1, v) else kv).1 = (if xd.1 = k then (xd.1, d) else xd).1) ∧ Dp K G (if kv.1 = k then (kv.1, v) else kv).2 (if xd.1 = k then (xd.1, d) else xd).2
      rw [h.1]
      by_cases z : xd.1 = k
      · rw [if_pos z, if_pos z]; exact ⟨rfl, hd⟩
      · rw [if_neg z, if_neg z]; exact h
  · rw [if_neg a, if_neg a]
    clear a
    induction h with
    | nil => exact .cons ⟨rfl, hd⟩ .nil
    | cons h t ih => exact .cons h ih
theorem kv_drop {G : Hp} (k : κ) {kvs : List (κ × V)} {m : List (κ × PyData)} (h : KvOk K G kvs m) : KvOk K G (dropK kvs k) (dropD m k) := by
  unfold dropK dropD
  induction h with
  | nil => exact .nil
  | cons h t ih =>
    rename_i kv xd kvs m
    rw [List.filter_cons, List.filter_cons, h.1]
    by_cases z : xd.1 = k
    · rw [if_neg (by simp [z]), if_neg (by simp [z])]; exact ih
    · rw [if_pos (by simp [z]), if_pos (by simp [z])]; exact .cons h ih
theorem kv_len {G : Hp} {kvs : List (κ × V)} {m : List (κ × PyData)} (h : KvOk K G kvs m) : kvs.length = m.length := Paired.length h
theorem kv_keys {G : Hp} : ∀ {kvs : List (κ × V)} {m : List (κ × PyData)}, KvOk K G kvs m → kvs.map (·.1) = m.map (·.1)
  | _, _, .nil => rfl
  | _, _, .cons h t => by rw [List.map_cons, List.map_cons, h.1, kv_keys t]
theorem valD_put (m : List (κ × PyData)) (k j : κ) (d : PyData) : valD (putD m k d) j = if j = k then some d else valD m j := by
  unfold putD
  by_cases a : (m.any fun kv => decide (kv.1 = k)) = true
  · rw [if_pos a]
    have gen : ∀ m : List (κ × PyData), valD (m.map fun kv => if kv.1 = k then (kv.1, d) else kv) j = if j = k then (if (m.any fun kv => decide (kv.1 = k)) = true then some d else none) else valD m j := fun m => by
      induction m with
      | nil => unfold valD; simp
      | cons x m ih =>
        unfold valD at ih ⊢
        rw [List.map_cons, List.find?_cons, List.find?_cons, List.any_cons]
        by_cases z : x.1 = k
        · rw [if_pos z, decide_eq_true z]
          by_cases w : j = k
          · subst w; simp [z]
          · have w2 : ¬ x.1 = j := fun q => w (q.symm.trans z)
            simp only [decide_eq_false w2]
            rw [ih, if_neg w, if_neg w]
        · rw [if_neg z, decide_eq_false z, Bool.false_or]
          by_cases w : x.1 = j
          · have w2 : ¬ j = k := fun q => z (w.trans q)
            simp [w, w2]
          · simp only [decide_eq_false w]
            exact ih
    rw [gen m, if_pos a]
  · rw [if_neg a]
    have none : ∀ m : List (κ × PyData), ¬ (m.any fun kv => decide (kv.1 = k)) = true → valD (m ++ [(k, d)]) j = if j = k then some d else valD m j := fun m => by
      induction m with
      | nil =>
        intro _
        unfold valD
        by_cases w : k = j
        · subst w; simp
        · have w2 : ¬ j = k := fun q => w q.symm
          simp [w, w2]
      | cons x m ih =>
        intro a
        rw [List.any_cons, Bool.or_eq_true, not_or] at a
        have ih := ih a.2
        unfold valD at ih ⊢
        rw [List.cons_append, List.find?_cons, List.find?_cons]
        by_cases w : x.1 = j
        · have w2 : ¬ j = k := fun q => a.1 (decide_eq_true (w.trans q))
          simp [w, w2]
        · simp only [decide_eq_false w]
          exact ih
    exact none m a
theorem valD_drop (m : List (κ × PyData)) (k j : κ) : valD (dropD m k) j = if j = k then none else valD m j := by
  unfold dropD valD
  induction m with
  | nil => simp
  | cons x m ih =>
    rw [List.filter_cons]
    by_cases z : x.1 = k
    · rw [if_neg (by simp [z]), ih, List.find?_cons]
      by_cases w : j = k
      · rw [if_pos w, if_pos w]
      · rw [if_neg w, if_neg w, decide_eq_false (fun q => w (q.symm.trans z))]
    · rw [if_pos (by simp [z]), List.find?_cons, List.find?_cons]
      by_cases w : x.1 = j
      · have w2 : ¬ j = k := fun q => z (w.trans q)
        rw [if_neg w2, decide_eq_true w]
      · rw [decide_eq_false w]
        exact ih
theorem dropD_none {m : List (κ × PyData)} {k : κ} (h : valD m k = none) : dropD m k = m := by
  unfold dropD
  unfold valD at h
  rw [Option.map_eq_none_iff, List.find?_eq_none] at h
  exact List.filter_eq_self.mpr fun x hx => by
    have := h x hx
    simpa using this
theorem putD_len (m : List (κ × PyData)) (k : κ) (d : PyData) : (putD m k d).length ≤ m.length + 1 := by
  unfold putD
  split
  · rw [List.length_map]; omega
  · rw [List.length_append]; exact Nat.le_refl _
end
/-- a key -/
def KeyD : PyData → Key → Prop
  | .int i, k => k = .inl i
  | .str x, k => k = .inr x
  | _, _ => False
theorem key_v {G : Hp} {v : V} {d : PyData} {k : Key} (h : Dp K G v d) (hk : KeyD d k) : v = kV k := by
  cases h <;> first | exact hk.elim | (cases hk; rfl)
theorem s_dnew {i : Nat} (h : D.nx (L.set i (some (.own (.dK []))))) : S K pen H0 (tAsg tDNewK (gName i)) L D := fun σ G H N e n1 _ _ _ _ _ => fun p hp =>
  n1 _ G _ _ (e.gx (Go.hid e.vw hp)) (e.newOwn (o := .dK []) (ho := .dK []) hp .nil) h
theorem s_dput {j : Nat} {m : List (Key × PyData)} (hj : L[j]? = some (some (.own (.dK m)))) (hz : m.length < 100000) (h : E K pen H0 tv L fun d => E K pen H0 ty L fun k => ∃ key, KeyD k key ∧ D.nx (L.set j (some (.own (.dK (putD m key d)))))) (nf : noFr L = true := by rfl) :
    S K pen H0 (sDPut (tVar j) ty tv) L D := fun σ G H N e n1 _ _ _ _ _ => h σ G H e _ fun v d G1 H1 g1 d1 h1 => by
  have e1 := e.go g1
  obtain ⟨l, ho, k1, k3, k6⟩ := e1.own hj
  refine ⟨_, k1, h1 σ G1 H1 e1 _ fun w k G2 H2 g2 d2 ⟨key, hk, p⟩ => ?_⟩
  have e2 := e1.go g2
  obtain ⟨ho2, q3, q6⟩ := e2.ownAt hj k1
  obtain ⟨kvs, rfl, q6⟩ := q6.dK
  obtain ⟨r1, r2⟩ := e2.putOwn nf hj k1 (o' := .dK (putD m key d)) (ho := .dK (putK kvs key v)) (kv_put key (dp_mono g2.gg _ _ d1) q6)
  have hv := key_v d2 hk
  subst hv
  exact ⟨l, _, rfl, DPut.k q3 (Nat.lt_of_lt_of_le (by rw [kv_len q6]; exact hz) (by decide : 100000 ≤ sizeLine)), n1 σ G2 _ _ (((e.gx g1).trans (e1.gx g2)).trans r2) r1 p⟩
theorem e_dget2O {j : Nat} {m : List (Key × PyData)} (hj : RdO L j (.dK m)) (h : E K pen H0 ty L fun k => ∃ key, KeyD k key ∧ E K pen H0 tx L fun x => P ((valD m key).getD x)) : E K pen H0 (tDGet2 (tVar j) ty tx) L P := fun σ G H e Q q => by
  obtain ⟨l, ho, k1, k3, k6⟩ := e.rd hj
  obtain ⟨kvs, rfl, k6⟩ := k6.dK
  refine ⟨_, k1, l, rfl, .inl ⟨kvs, .inl k3⟩, h σ G H e _ fun w k G1 H1 g1 d1 ⟨key, hk, h1⟩ => ?_⟩
  refine h1 σ G1 H1 (e.go g1) _ fun x dx G2 H2 g2 d2 p => ?_
  have e2 := (e.go g1).go g2
  obtain ⟨ho2, q3, q6⟩ := e2.rdAt hj k1
  obtain ⟨kvs2, rfl, q6⟩ := q6.dK
  have hv := key_v d1 hk
  subst hv
  refine ⟨_, DGet.k q3, ?_⟩
  rcases kv_val key q6 with ⟨v, d, z1, z2, z3⟩ | ⟨z1, z2⟩
  · rw [z1]
    rw [z2] at p
    exact q v d G2 H2 (g1.trans g2) z3 p
  · rw [z1]
    rw [z2] at p
    exact q x dx G2 H2 (g1.trans g2) d2 p
theorem e_dgetO {j : Nat} {m : List (Key × PyData)} (hj : RdO L j (.dK m)) (h : E K pen H0 ty L fun k => ∃ key, KeyD k key ∧ ∃ d, valD m key = some d ∧ P d) : E K pen H0 (tDGet (tVar j) ty) L P := fun σ G H e Q q => by
  obtain ⟨l, ho, k1, k3, k6⟩ := e.rd hj
  refine ⟨_, k1, h σ G H e _ fun w k G1 H1 g1 d1 ⟨key, hk, d, hd, p⟩ => ?_⟩
  obtain ⟨ho2, q3, q6⟩ := (e.go g1).rdAt hj k1
  obtain ⟨kvs2, rfl, q6⟩ := q6.dK
  have hv := key_v d1 hk
  subst hv
  rcases kv_val key q6 with ⟨v, d', z1, z2, z3⟩ | ⟨z1, z2⟩
  · rw [z2] at hd
    cases hd
    exact ⟨l, v, rfl, by rw [← z1]; exact DGet.k q3, q v _ G1 H1 g1 z3 p⟩
  · rw [z2] at hd; cases hd
theorem e_dinO {j : Nat} {m : List (Key × PyData)} (hj : RdO L j (.dK m)) (h : E K pen H0 ty L fun k => ∃ key, KeyD k key ∧ P (.bool (valD m key).isSome)) : E K pen H0 (tDIn ty (tVar j)) L P := fun σ G H e Q q =>
  h σ G H e _ fun w k G1 H1 g1 d1 ⟨key, hk, p⟩ => by
    obtain ⟨l, ho2, k1, q3, q6⟩ := (e.go g1).rd hj
    obtain ⟨kvs2, rfl, q6⟩ := q6.dK
    have hv := key_v d1 hk
    subst hv
    refine ⟨_, k1, l, _, rfl, DGet.k q3, ?_⟩
    have e3 : (valV kvs2 key).isSome = (valD m key).isSome := by
      rcases kv_val key q6 with ⟨v, d', z1, z2, z3⟩ | ⟨z1, z2⟩ <;> rw [z1, z2] <;> rfl
    rw [e3]
    exact q _ _ G1 H1 g1 (.bl _) p
theorem e_dnotinO {j : Nat} {m : List (Key × PyData)} (hj : RdO L j (.dK m)) (h : E K pen H0 ty L fun k => ∃ key, KeyD k key ∧ P (.bool (!(valD m key).isSome))) : E K pen H0 (tDNotIn ty (tVar j)) L P := fun σ G H e Q q =>
  h σ G H e _ fun w k G1 H1 g1 d1 ⟨key, hk, p⟩ => by
    obtain ⟨l, ho2, k1, q3, q6⟩ := (e.go g1).rd hj
    obtain ⟨kvs2, rfl, q6⟩ := q6.dK
    have hv := key_v d1 hk
    subst hv
    refine ⟨_, k1, l, _, rfl, DGet.k q3, ?_⟩
    have e3 : (valV kvs2 key).isSome = (valD m key).isSome := by
      rcases kv_val key q6 with ⟨v, d', z1, z2, z3⟩ | ⟨z1, z2⟩ <;> rw [z1, z2] <;> rfl
    rw [e3]
    exact q _ _ G1 H1 g1 (.bl _) p
/-- d.pop(k, x), the value dropped -/
theorem s_dpop2 {j : Nat} {m : List (Key × PyData)} (hj : L[j]? = some (some (.own (.dK m)))) (h : E K pen H0 ty L fun k => ∃ key, KeyD k key ∧ E K pen H0 tx L fun _ => D.nx (L.set j (some (.own (.dK (dropD m key)))))) (nf : noFr L = true := by rfl) :
    S K pen H0 (tDrop (tDPop2 (tVar j) ty tx)) L D := fun σ G H N e n1 _ _ _ _ _ => by
  obtain ⟨l, ho, k1, k3, k6⟩ := e.own hj
  obtain ⟨kvs, rfl, k6⟩ := k6.dK
  refine ⟨_, k1, l, rfl, .inl ⟨kvs, .inl k3⟩, h σ G H e _ fun w k G1 H1 g1 d1 ⟨key, hk, h1⟩ => ?_⟩
  have e1 := e.go g1
  refine h1 σ G1 H1 e1 _ fun x dx G2 H2 g2 d2 p => ?_
  have e2 := e1.go g2
  obtain ⟨ho2, q3, q6⟩ := e2.ownAt hj k1
  obtain ⟨kvs2, rfl, q6⟩ := q6.dK
  have hv := key_v d1 hk
  subst hv
  refine ⟨kvs2, key, q3, rfl, fun v hv => ?_, fun hn => ?_⟩
  · obtain ⟨r1, r2⟩ := e2.putOwn nf hj k1 (o' := .dK (dropD m key)) (ho := .dK (dropK kvs2 key)) (kv_drop key q6)
    exact n1 σ G2 _ _ (((e.gx g1).trans (e1.gx g2)).trans r2) r1 p
  · rcases kv_val key q6 with ⟨v, d', z1, z2, z3⟩ | ⟨z1, z2⟩
    · rw [hn] at z1; cases z1
    · rw [dropD_none z2] at p
      have jl : j < L.length := (List.getElem?_eq_some_iff.mp hj).1
      have es : L.set j (some (.own (.dK m))) = L := by
        apply List.ext_getElem?
        intro i
        by_cases q : j = i
        · subst q; rw [List.getElem?_set_self jl, hj]
        · rw [List.getElem?_set_ne q]
      rw [es] at p
      exact n1 σ G2 _ _ ((e.gx g1).trans (e1.gx g2)) e2 p
/-- sorted(d), int keys -/
def rSortDI : List V → Hp → VK → Prop := fun xs H Q => ∃ (a : Addr) (kvs : List (Key × V)) (ks : List Int), xs = [.ref a] ∧ Rd H a (.dK kvs) ∧ kvs.map (·.1) = ks.map Sum.inl ∧ ks.length < 64 ∧
    ∀ (ys : List Int) (p : Addr), ys.Perm ks → ys.Pairwise (· ≤ ·) → H p = none → Q (.ref p) (upd H p (.lst (ys.map V.int)))
theorem kx_sortDI {X : Cx} (hc : X.calm = true) : CallR X (.builtin "sorted") rSortDI := call_sortedDI hc
theorem el_sortD {j : Nat} {m : List (Key × PyData)} {ks : List Int} (hj : RdO L j (.dK m)) (hk : m.map (·.1) = ks.map Sum.inl) (hz : ks.length < 64) (h : ∀ ys : List Int, ys.Perm ks → ys.Pairwise (· ≤ ·) → Pl (intsL ys)) : EL K pen H0 (tCB rSortDI (tCons (tVar j) tNil)) L Pl := fun σ G H e Q q => by
  obtain ⟨l, ho, k1, k3, k6⟩ := e.rd hj
  obtain ⟨kvs, rfl, k6⟩ := k6.dK
  refine ⟨_, k1, l, kvs, ks, rfl, .inl k3, by rw [kv_keys k6, hk], hz, fun ys p hp hw hn => ?_⟩
  have g := Go.hid e.vw (o := .lst (ys.map V.int)) hn
  exact q p _ _ G _ g upd_same (e.gnone hn) hn (ints_dpa ys) (h ys hp hw)
theorem r_ipI {f : Int → Int → Int} {i j : Int} (p : P (.int (f i j))) : R2d K pen (ipI f) (.int i) (.int j) P := fun x y G H v hx hy Q q => by
  cases hx
  cases hy
  exact ⟨i, j, rfl, rfl, q _ _ G H (.refl v) (.int _) p⟩
theorem s_cut {u : TS} (M : Lv → Prop) (h : S K pen H0 t L { D with nx := M }) (h2 : ∀ L', M L' → S K pen H0 u L' D) : S K pen H0 (tSeq t u) L D :=
  s_seq (h.mono (fun L h => h2 L h) (fun _ h => h) (fun _ h => h) (fun _ h => h))
end
end Dl
set_option Elab.async false
set_option linter.all false
set_option maxRecDepth 100000
set_option maxHeartbeats 4000000
namespace Dl
open PySem PySem.Spec PyProof.Rows L2
/-! ### objects handed in and told -/
abbrev Ag := Sum PyData OO
def ArgOk (K : PySem.W.Frag) (c : Pc) (G H : Hp) (v : V) : Ag → Prop
  | .inl d => Dp K G v d
  | .inr o => ∃ l ho, v = .ref l ∧ H l = some ho ∧ ¬ IsPn c l ∧ OwnOk K G l ho o
def ArgsOk (K : PySem.W.Frag) (c : Pc) (G H : Hp) : List V → List Ag → Prop := Paired (ArgOk K c G H)
section
variable {K : PySem.W.Frag} {pen : Pc} {H0 : Hp} {L : Lv} {P : PyData → Prop} {te ta ti ty tx tv : TE} {tl tr : TA} {tt : TT} {t : TS} {D : Dn} {Pb : Bool → Prop} {Pl : List PyData → Prop} {Po : OO → Prop} {Pa : List Ag → Prop}
theorem ArgOk.go {G H G' H' : Hp} (g : Go pen G H G' H') {v : V} {a : Ag} (h : ArgOk K pen G H v a) : ArgOk K pen G' H' v a := by
  cases a with
  | inl d => exact dp_mono g.gg _ _ h
  | inr o =>
    obtain ⟨l, ho, e, h1, h2, h3⟩ := h
    exact ⟨l, ho, e, g.od _ _ h2 h1, h2, h3.mono g.gg⟩
/-- a new object, not yet data -/
def EK (K : PySem.W.Frag) (pen : Pc) (H0 : Hp) (te : TE) (L : Lv) (Po : OO → Prop) : Prop := ∀ (σ : L2.St) (G H : Hp), Ev K pen H0 G H σ L → ∀ Q : VK, (∀ l ho o G' H', Go pen G H G' H' → H' l = some ho → G' l = none → H l = none → OwnOk K G' l ho o → Po o → Q (.ref l) H') → te σ H Q
def EAO (K : PySem.W.Frag) (pen : Pc) (H0 : Hp) (tl : TA) (L : Lv) (Pa : List Ag → Prop) : Prop := ∀ (σ : L2.St) (G H : Hp), Ev K pen H0 G H σ L → ∀ Q : List V → Hp → Prop, (∀ vs es G' H', Go pen G H G' H' → ArgsOk K pen G' H' vs es → Pa es → Q vs H') → tl σ H Q
theorem eao_nil (p : Pa []) : EAO K pen H0 tNil L Pa := fun σ G H e Q q => q [] [] G H (.refl e.vw) .nil p
theorem eao_d (h : E K pen H0 ta L fun a => EAO K pen H0 tr L fun es => Pa (.inl a :: es)) : EAO K pen H0 (tCons ta tr) L Pa := fun σ G H e Q q =>
  h σ G H e _ fun v a G1 H1 g1 d1 h1 => h1 σ G1 H1 (e.go g1) _ fun vs es G2 H2 g2 d2 p => q _ _ G2 H2 (g1.trans g2) (.cons (show ArgOk K pen G2 H2 v (.inl a) from dp_mono g2.gg _ _ d1) d2) p
theorem eao_rd {j : Nat} {o : OO} (hj : RdO L j o) (h : EAO K pen H0 tr L fun es => Pa (.inr o :: es)) : EAO K pen H0 (tCons (tVar j) tr) L Pa := fun σ G H e Q q => by
  have key : ∃ l ho, σ[j]? = some (some (.ref l)) ∧ H l = some ho ∧ ¬ IsPn pen l ∧ OwnOk K G l ho o := by
    rcases hj with hj | hj
    · obtain ⟨x, k1, l, vs, rfl, k3, k4, k5, k6⟩ := e.sl j _ hj
      exact ⟨l, vs, k1, k3, fun z => e.h0.there z k4, k6⟩
    · obtain ⟨x, k1, l, vs, rfl, k3, k4, k5, k6⟩ := e.sl j _ hj
      exact ⟨l, vs, k1, k3, k5, k6⟩
  obtain ⟨l, ho, k1, k2, k3, k4⟩ := key
  refine ⟨_, k1, h σ G H e _ fun vs es G2 H2 g2 d2 p => ?_⟩
  exact q _ _ G2 H2 g2 (.cons (ArgOk.go g2 (a := .inr o) ⟨l, ho, rfl, k2, k3, k4⟩) d2) p
theorem eao_k (h : EK K pen H0 ta L fun o => EAO K pen H0 tr L fun es => Pa (.inr o :: es)) : EAO K pen H0 (tCons ta tr) L Pa := fun σ G H e Q q =>
  h σ G H e _ fun l ho o G1 H1 g1 k1 k2 k3 k4 h1 => h1 σ G1 H1 (e.go g1) _ fun vs es G2 H2 g2 d2 p => by
    have np : ¬ IsPn pen l := fun z => e.vw.ok.there z k3
    exact q _ _ G2 H2 (g1.trans g2) (.cons (ArgOk.go g2 (a := .inr o) ⟨l, ho, rfl, k1, np, k4⟩) d2) p
/-! defs that tell a new object -/
def SpXN {α : Type} (K : PySem.W.Frag) (ts : List Addr) (Wf : α → Prop) (enc : α → List PyData) (res : α → OO → Prop) : Sp := fun vs H Q _ => ∃ (x : α) (G : Hp), Vw ⟨none, ts⟩ G H ∧ DpAll K G vs (enc x) ∧ Wf x ∧ ∀ l ho o G' H', Go ⟨none, ts⟩ G H G' H' → H' l = some ho → G' l = none → H l = none → OwnOk K G' l ho o → res x o → Q (.ref l) H'
theorem ek_call {α : Type} {pn : Option Pn} {ts : List Addr} {Wf : α → Prop} {enc : α → List PyData} {res : α → OO → Prop} {X : XK} (h : EA K ⟨pn, ts⟩ H0 tl L fun ds => ∃ x, ds = enc x ∧ Wf x ∧ ∀ o, res x o → Po o) : EK K ⟨pn, ts⟩ H0 (tCall (SpXN K ts Wf enc res) [] X tl) L Po := fun σ G H e Q q =>
  h σ G H e _ fun vs ds G1 H1 go hd ⟨x, hx, h1, h2⟩ => ⟨x, G1, go.vw.plain, by rw [List.append_nil, ← hx]; exact hd, h1, fun l ho o G' H' go2 k1 k2 k3 k4 p => by
    refine q l ho o G' H' (go.trans (go2.lift go.vw)) k1 k2 ?_ k4 (h2 o p)
    cases z : H l with
    | none => rfl
    | some u => exact absurd k3 (go.dom (by rw [z]; exact fun z => by cases z))⟩
theorem s_asgK {i : Nat} (h : EK K pen H0 te L fun o => D.nx (L.set i (some (.own o)))) : S K pen H0 (tAsg te (gName i)) L D := fun σ G H N e n1 _ _ _ _ _ =>
  h σ G H e _ fun l ho o G' H' g h1 h2 h3 h4 p => by
    have e1 := e.go g
    exact n1 _ G' H' _ (e.gx g) (e1.setOwn h1 (e.h0none h3) h2 (fun j es _ hj => e.oldOwn h3 j es hj) h4) p
theorem s_retO {j : Nat} {o : OO} (hj : L[j]? = some (some (.own o))) (h : D.ro o) : S K pen H0 (tRet (tVar j)) L D := fun σ G H N e _ _ _ _ _ n6 => by
  obtain ⟨x, k1, l, vs, rfl, k3, k4, k5, k6⟩ := e.sl j _ hj
  exact ⟨_, k1, n6 l vs o G H .refl e.vw k3 k4 k5 k6 h⟩
/-! defs to which objects are handed -/
def SpXO {α : Type} (K : PySem.W.Frag) (ts : List Addr) (Wf : α → Prop) (enc : α → List Ag) (res : α → PyData → Prop) : Sp := fun vs H Q _ => ∃ (x : α) (G : Hp), Vw ⟨none, ts⟩ G H ∧ ArgsOk K ⟨none, ts⟩ G H vs (enc x) ∧ Wf x ∧ ∀ v d G' H', Go ⟨none, ts⟩ G H G' H' → Nd K (vnew H G' H') v d → res x d → Q v H'
theorem args_plain {pn : Option Pn} {ts : List Addr} {G H : Hp} {vs : List V} {es : List Ag} (h : ArgsOk K ⟨pn, ts⟩ G H vs es) : ArgsOk K ⟨none, ts⟩ G H vs es := Paired.mapP h fun v a z => by
  cases a with
  | inl d => exact z
  | inr o =>
    obtain ⟨l, ho, e, h1, h2, h3⟩ := z
    exact ⟨l, ho, e, h1, fun q => h2 (by rcases q with ⟨p, q, _⟩ | q; cases q; exact .inr q), h3⟩
theorem en_callO {α : Type} {pn : Option Pn} {ts : List Addr} {Wf : α → Prop} {enc : α → List Ag} {res : α → PyData → Prop} {X : XK} (h : EAO K ⟨pn, ts⟩ H0 tl L fun es => ∃ x, es = enc x ∧ Wf x ∧ ∀ d, res x d → P d) : EN K ⟨pn, ts⟩ H0 (tCall (SpXO K ts Wf enc res) [] X tl) L P := fun σ G H e Q q =>
  h σ G H e _ fun vs es G1 H1 go hd ⟨x, hx, h1, h2⟩ => ⟨x, G1, go.vw.plain, by rw [List.append_nil, ← hx]; exact args_plain hd, h1, fun v d G' H' go2 hd2 p =>
    q v d G' H' (go.trans (go2.lift go.vw)) (nd_mono (vnew_call (G1 := G1) (e.go go).dom) _ _ hd2) (h2 d p)⟩
theorem e_callO {α : Type} {pn : Option Pn} {ts : List Addr} {Wf : α → Prop} {enc : α → List Ag} {res : α → PyData → Prop} {X : XK} (h : EAO K ⟨pn, ts⟩ H0 tl L fun es => ∃ x, es = enc x ∧ Wf x ∧ ∀ d, res x d → P d) : E K ⟨pn, ts⟩ H0 (tCall (SpXO K ts Wf enc res) [] X tl) L P := fun σ G H e Q q =>
  h σ G H e _ fun vs es G1 H1 go hd ⟨x, hx, h1, h2⟩ => ⟨x, G1, go.vw.plain, by rw [List.append_nil, ← hx]; exact args_plain hd, h1, fun v d G' H' go2 hd2 p => by
    have g3 := Go.see go.vw (go2.lift go.vw)
    exact q v d _ H' (go.trans g3) (dp_mono vnew_max _ _ (nd_dp _ _ hd2)) (h2 d p)⟩
def agA : Ag → AV
  | .inl d => .d d
  | .inr o => .bor o
def st0O (N : List Str) (es : List Ag) : Lv := es.map (fun a => some (agA a)) ++ List.replicate (N.length - es.length) none
theorem args_get {G H : Hp} : ∀ {vs : List V} {es : List Ag} {i : Nat} {a : Ag}, ArgsOk K pen G H vs es → es[i]? = some a → ∃ v, vs[i]? = some v ∧ ArgOk K pen G H v a
  | _, _, _, _, .nil, e => by simp at e
  | _, _, 0, _, .cons (a := v) h _, e => by
    have e' := Option.some.inj e
    subst e'
    exact ⟨v, rfl, h⟩
  | _, _, i + 1, a, .cons _ t, e => args_get (i := i) (a := a) t e
theorem args_len {G H : Hp} {vs : List V} {es : List Ag} (h : ArgsOk K pen G H vs es) : vs.length = es.length := Paired.length h
theorem ev_startO {ts : List Addr} {N : List Str} {vs : List V} {es : List Ag} {G H : Hp} (h : ArgsOk K ⟨none, ts⟩ G H vs es) (v : Vw ⟨none, ts⟩ G H) : Ev K ⟨none, ts⟩ H G H (start N vs) (st0O N es) := by
  have get : ∀ (i : Nat) av, (st0O N es)[i]? = some (some av) → ∃ u a, av = agA a ∧ (start N vs)[i]? = some (some u) ∧ ArgOk K ⟨none, ts⟩ G H u a := fun i av hi => by
    unfold st0O at hi
    unfold L2.start
    by_cases q : i < es.length
    · rw [List.getElem?_append_left (by rw [List.length_map]; exact q), List.getElem?_map] at hi
      cases hd : es[i]? with
      | none => rw [hd] at hi; cases hi
      | some a =>
        rw [hd] at hi
        obtain ⟨u, h1, h2⟩ := args_get h hd
        refine ⟨u, a, (Option.some.inj (Option.some.inj hi)).symm, ?_, h2⟩
        rw [List.getElem?_append_left (by rw [List.length_map, args_len h]; exact q), List.getElem?_map, h1]
        rfl
    · rw [List.getElem?_append_right (by rw [List.length_map]; omega)] at hi
      have z := List.mem_of_getElem? hi
      have z2 := (List.mem_replicate.mp z).2
      cases z2
  refine ⟨v, v.ok, fun _ h => h, ?_, fun i av hi => ?_, fun i j ds' es' l h1 _ _ _ => ?_⟩
  · unfold L2.start st0O
    rw [List.length_append, List.length_append, List.length_map, List.length_map, List.length_replicate, List.length_replicate, args_len h]
  · obtain ⟨u, a, rfl, h1, h2⟩ := get i av hi
    refine ⟨u, h1, ?_⟩
    cases a with
    | inl d => exact h2
    | inr o =>
      obtain ⟨l, ho, e, k1, k2, k3⟩ := h2
      exact ⟨l, ho, e, k1, k1, k2, k3⟩
  · obtain ⟨u, a, e, _⟩ := get i _ h1
    cases a <;> cases e
end
section
variable {P : Program} {w : World} {K : PySem.W.Frag} {mg : Str → Option Value} {base : Heap}
theorem fnXN {α : Type} {x qual : Str} {st : Stmt} {f : Addr} {fd : FuncData} {N ps : List Str} {k : Nat} {ts : List Addr} {Wf : α → Prop} {enc : α → List PyData} {res : α → OO → Prop} (F : Fun K x qual st f fd) (S0 : FnScope N ps (defScope st)) (hl : ∀ x, Wf x → (enc x).length = ps.length)
    (hbody : ∀ (cdv : Value) (A : Around) (outer : List Env) (s : Shared) (H : Hp) (E : XK), Room k (A.deeper (envOfC qual (defScope st) s.heap.objs.size f cdv)) →
      ∃ t, PSs (cxOf CX0 P w K mg base N qual (defScope st) f cdv A outer s H E).nox (defBody st) t ∧ ∀ x, Wf x → S K ⟨none, ts⟩ H t (st0 N (enc x)) { nx := fun _ => False, rt := fun _ => False, ro := res x }) : FnOk P w K mg base CX0 (k + 1) f fd ps (SpXN K ts Wf enc res) := by
  refine F.ok S0 (fun vs H Q E h => ?_) (fun cdv A outer s H vs Q E hr h => ?_)
  · obtain ⟨x, G, _, h1, h2, _⟩ := h
    rw [dpa_len h1]
    exact hl x h2
  · obtain ⟨x, G, v, h1, h2, q⟩ := h
    obtain ⟨t, ht, hS⟩ := hbody cdv A outer s H E hr
    refine ⟨t, ht, hS x h2 (L2.start N vs) G H _ (ev_start h1 v) (fun _ _ _ _ _ _ z => z.elim) (fun _ _ _ _ _ _ _ z => z.elim) (fun _ _ _ _ _ _ z => z.elim) (fun _ _ _ _ _ _ z => z.elim) (fun _ _ _ _ _ _ _ z => z.elim) (fun l ho o G' H' x vw k1 k2 k3 k4 p => ?_)⟩
    exact q l ho o G' H' ⟨x.gg, x.nw, fun a o hp e => x.od a o hp (by rw [e]; exact fun z => by cases z) e, vw⟩ k1 k3 k2 k4 p
theorem fnXO {α : Type} {x qual : Str} {st : Stmt} {f : Addr} {fd : FuncData} {N ps : List Str} {k : Nat} {ts : List Addr} {Wf : α → Prop} {enc : α → List Ag} {res : α → PyData → Prop} (F : Fun K x qual st f fd) (S0 : FnScope N ps (defScope st)) (hl : ∀ x, Wf x → (enc x).length = ps.length)
    (hbody : ∀ (cdv : Value) (A : Around) (outer : List Env) (s : Shared) (H : Hp) (E : XK), Room k (A.deeper (envOfC qual (defScope st) s.heap.objs.size f cdv)) →
      ∃ t, PSs (cxOf CX0 P w K mg base N qual (defScope st) f cdv A outer s H E).nox (defBody st) t ∧ ∀ x, Wf x → S K ⟨none, ts⟩ H t (st0O N (enc x)) { nx := fun _ => False, rt := fun _ => False, rn := res x }) : FnOk P w K mg base CX0 (k + 1) f fd ps (SpXO K ts Wf enc res) := by
  refine F.ok S0 (fun vs H Q E h => ?_) (fun cdv A outer s H vs Q E hr h => ?_)
  · obtain ⟨x, G, _, h1, h2, _⟩ := h
    rw [args_len h1]
    exact hl x h2
  · obtain ⟨x, G, v, h1, h2, q⟩ := h
    obtain ⟨t, ht, hS⟩ := hbody cdv A outer s H E hr
    refine ⟨t, ht, hS x h2 (L2.start N vs) G H _ (ev_startO h1 v) (fun _ _ _ _ _ _ z => z.elim) (fun _ _ _ _ _ _ _ z => z.elim) (fun _ _ _ _ _ _ z => z.elim) (fun _ _ _ _ _ _ z => z.elim) (fun v d G' H' x vw hd p => ?_) (fun _ _ _ _ _ _ _ _ _ _ _ z => z.elim)⟩
    exact q v d G' H' ⟨x.gg, x.nw, fun a o hp e => x.od a o hp (by rw [e]; exact fun z => by cases z) e, vw⟩ hd p
end
end Dl
set_option Elab.async false
set_option linter.all false
set_option maxRecDepth 100000
set_option maxHeartbeats 4000000
namespace Dl
open PySem PySem.Spec PyProof.Rows L2
/-! ### sorted(list of pairs of ints): the same pairs in some order -/
def rSortPS (K : PySem.W.Frag) : List V → Hp → VK → Prop := fun us H Q => ∃ b zs, us = [V.ref b] ∧ SqL K H b zs ∧ (∀ z ∈ zs, ∃ t i j, z = V.ref t ∧ SqT K H t [.int i, .int j]) ∧ ∀ ws r, ws.Perm zs → H r = none → Q (.ref r) (upd H r (.lst ws))
section
variable {X : Cx}
theorem cr_sortPS : CallR X (.builtin "sorted") (rSortPS X.K) := by
  intro pins s σ H us cs Q I r h
  obtain ⟨b, zs, rfl, hb, hz, q⟩ := h
  obtain ⟨items, rv, hl, hsz⟩ := I.list hb
  rw [Vals.ref1 r]
  obtain ⟨m1, m2⟩ := refs_back rv fun z hm => (hz z hm).imp fun t ⟨_, _, e, _⟩ => e
  refine Srt.sorted_pairs hl.isList (rv.length ▸ hsz) (fun c hc => ?_) fun h2 p out perm kept hp new => ?_
  · obtain ⟨t, rfl⟩ := m2 c hc
    obtain ⟨t2, i, j, e, ht⟩ := hz (V.ref t) (m1 ▸ List.mem_map.mpr ⟨_, hc, rfl⟩)
    cases e
    obtain ⟨two, r2, ⟨ob, hob, hcl, n, hdat⟩, _⟩ := I.tuple ht
    obtain ⟨c1, c2, rfl, ⟨k1, rfl⟩, ⟨k2, rfl⟩⟩ := vals2 r2
    exact ⟨i, j, t, ob, k1, k2, n, rfl, hob, hcl, hdat⟩
  · have all : ∀ c ∈ out, ∃ a, c = Value.ref a := fun c hc => m2 c (perm.mem_iff.mp hc)
    obtain ⟨n, hn⟩ := new
    have hlen : (out.map backV).length ≤ sizeLine := by
      rw [List.length_map, perm.length_eq, ← rv.length]
      exact hsz
    exact ⟨.ref p, upd H p (.lst (out.map backV)), I.laid (t' := s.toks) kept hp ⟨hlen, out, n, vals_back all, hn⟩, rfl, q _ p (m1 ▸ perm.map backV) (I.hok.fresh hp)⟩
theorem kx_sortPS {K : PySem.W.Frag} (h : X.K = K) : CallR X (.builtin "sorted") (rSortPS K) := by subst h; exact cr_sortPS
theorem kx_max {K : PySem.W.Frag} (h : X.K = K) (hc : X.calm = true) : CallR X (.builtin "max") (rMax K) := by subst h; exact cr_max hc
theorem kx_all {K : PySem.W.Frag} (h : X.K = K) (hc : X.calm = true) : CallR X (.builtin "all") (rAll K) := by subst h; exact cr_all hc
end
abbrev pairD (p : Int × Int) : PyData := .tuple [.int p.1, .int p.2]
def pairsL (ps : List (Int × Int)) : List PyData := ps.map pairD
section
variable {K : PySem.W.Frag} {pen : Pc} {H0 : Hp} {L : Lv} {P : PyData → Prop} {te ta tb ti ty tx tv : TE} {tl tr : TA} {tt : TT} {t : TS} {D : Dn} {Pb : Bool → Prop} {Pl : List PyData → Prop}
theorem dpa_perm {α : Type} {G : Hp} {f : α → PyData} {vs ws : List V} (h : ws.Perm vs) : ∀ {ps : List α}, DpAll K G vs (ps.map f) → ∃ qs : List α, qs.Perm ps ∧ DpAll K G ws (qs.map f) := by
  induction h with
  | nil => intro ps h; exact ⟨ps, .refl _, h⟩
  | cons x _ ih =>
    intro ps h
    cases ps with
    | nil => cases h
    | cons p ps =>
      cases h with
      | cons h1 h2 =>
        obtain ⟨qs, a, b⟩ := ih h2
        exact ⟨p :: qs, a.cons p, .cons h1 b⟩
  | swap x y l =>
    intro ps h
    rcases ps with _ | ⟨p, _ | ⟨q, ps⟩⟩
    · cases h
    · cases h with
      | cons h1 h2 => cases h2
    · cases h with
      | cons h1 h2 =>
        cases h2 with
        | cons h3 h4 => exact ⟨q :: p :: ps, .swap p q ps, .cons h3 (.cons h1 h4)⟩
  | trans _ _ ih1 ih2 =>
    intro ps h
    obtain ⟨qs, a, b⟩ := ih2 h
    obtain ⟨rs, c, d⟩ := ih1 b
    exact ⟨rs, c.trans a, d⟩
theorem EL.out {G H G1 H1 : Hp} {σ : L2.St} {l : Addr} (e : Ev K pen H0 G H σ L) (go : Go pen G H G1 H1) (hl : H1 l = none) : H l = none := by
  cases z : H l with
  | none => rfl
  | some o => exact absurd hl (go.dom (by rw [z]; exact fun z => by cases z))
theorem el_sortP (h : E K pen H0 te L fun d => ∃ ps : List (Int × Int), d = .list (pairsL ps) ∧ ∀ qs : List (Int × Int), qs.Perm ps → Pl (pairsL qs)) : EL K pen H0 (tCB (rSortPS K) (tCons te tNil)) L Pl := fun σ G H e Q q => h σ G H e _ fun v d G1 H1 go hd ⟨ps, hds, p⟩ => by
  subst hds
  cases hd with
  | lst hs ha =>
    rename_i a xs
    refine ⟨a, xs, rfl, sqL_mono go.vw.vw hs, fun x hx => ?_, fun ys r hp hr => ?_⟩
    · obtain ⟨i, hi, hg⟩ := List.mem_iff_getElem.mp hx
      obtain ⟨d, hd, dd⟩ := dpa_getV ha (show xs[i]? = some x by rw [List.getElem?_eq_getElem hi, hg])
      unfold pairsL at hd
      rw [List.getElem?_map] at hd
      cases hq : ps[i]? with
      | none => rw [hq] at hd; cases hd
      | some pr =>
        rw [hq] at hd
        cases hd
        cases dd with
        | tup k1 k2 =>
          cases k2 with
          | cons k3 k4 =>
            cases k4 with
            | cons k5 k6 =>
              cases k6
              cases k3
              cases k5
              exact ⟨_, _, _, rfl, sqT_mono go.vw.vw k1⟩
    · obtain ⟨qs, h1, h2⟩ := dpa_perm hp ha
      have e1 := e.go go
      have g2 := Go.hid e1.vw (o := .lst ys) hr
      exact q r ys _ G1 _ (go.trans g2) upd_same (e1.gnone hr) (EL.out e go hr) h2 (p qs h1)
/-! ### max(list of ints), all(list of truths) -/
theorem c_maxL {ns : List Int} (h : 0 < ns.length) (p : ∀ m, m ∈ ns → (∀ y, y ∈ ns → y ≤ m) → P (.int m)) : RCd K pen (rMax K) [.list (intsL ns)] P := fun vs G H v hv Q q => by
  cases hv with
  | cons h1 h2 =>
    cases h2
    cases h1 with
    | lst hs ha =>
      have ex := dpa_ints ha
      subst ex
      exact ⟨_, ns, rfl, sqL_mono v.vw hs, h, fun m h1 h2 => q _ _ G H (.refl v) (.int _) (p m h1 h2)⟩
theorem c_allL {bs : List Bool} (p : P (.bool (bs.all id))) : RCd K pen (rAll K) [.list (bs.map PyData.bool)] P := fun vs G H v hv Q q => by
  cases hv with
  | cons h1 h2 =>
    cases h2
    cases h1 with
    | lst hs ha =>
      have ex := dpa_bls ha
      subst ex
      exact ⟨_, bs, rfl, sqL_mono v.vw hs, q _ _ G H (.refl v) (.bl _) p⟩
/-! ### list * int, tuple(range(n)), list(range(n)) -/
theorem el_rep (h : EL K pen H0 ta L fun ds => E K pen H0 tb L fun b => ∃ k : Nat, b = .int k ∧ k ≤ 100000 ∧ ds.length * k ≤ 100000 ∧ Pl (List.replicate k ds).flatten) : EL K pen H0 (tOp rRep ta tb) L Pl := fun σ G H e Q q => h σ G H e _ fun l vs ds G1 H1 go k1 k2 k3 k4 h1 => by
  refine h1 σ G1 H1 (e.go go) _ fun w b G2 H2 g2 d2 ⟨k, hk, hkk, hz, p⟩ => ?_
  subst hk
  cases d2
  have np : ¬ IsPn pen l := fun z => e.vw.ok.there z k3
  have hlv := dpa_len k4
  refine ⟨l, k, vs, rfl, rfl, g2.od _ _ np k1, by omega, by omega, Nat.le_trans (by rw [hlv]; exact hz) (by decide : 100000 ≤ sizeLine), fun r hr => ?_⟩
  have e2 := (e.go go).go g2
  have g3 := Go.hid e2.vw (o := .lst (List.replicate ((k : Int)).toNat vs).flatten) hr
  exact q r _ _ G2 _ ((go.trans g2).trans g3) upd_same (e2.gnone hr) (EL.out e (go.trans g2) hr) (dpa_rep (dpa_mono g2.gg _ _ k4) k) p
theorem dpa_rng {G : Hp} (n : Nat) : DpAll K G (rgV 0 n) (rngL 0 n) := by
  unfold rgV rngL
  rw [show ((n : Int) - 0).toNat = n by omega]
  induction List.range n with
  | nil => exact .nil
  | cons a r ih => exact .cons (.int _) ih
theorem e_tupRg (h : E K pen H0 te L fun d => ∃ n : Nat, d = .int n ∧ n ≤ 100000 ∧ P (.tuple (rngL 0 n))) : E K pen H0 (tTupRg (tRg1 te)) L P := fun σ G H e Q q => h σ G H e _ fun v d G1 H1 go hd ⟨n, hn, hz, p⟩ => by
  subst hn
  cases hd
  refine ⟨n, rfl, RgOk.of_le (by omega) (by omega) (by omega) (by omega), fun r hr => ?_⟩
  have g2 := Go.new go.vw (o := .tup (rgV 0 n)) hr
  exact q _ _ _ _ (go.trans g2) (.tup (.inl (.inl upd_same)) (dpa_rng n)) p
theorem el_lstRg (h : E K pen H0 te L fun d => ∃ n : Nat, d = .int n ∧ n ≤ 100000 ∧ Pl (rngL 0 n)) : EL K pen H0 (tLstRg (tRg1 te)) L Pl := fun σ G H e Q q => h σ G H e _ fun v d G1 H1 go hd ⟨n, hn, hz, p⟩ => by
  subst hn
  cases hd
  refine ⟨n, rfl, RgOk.of_le (by omega) (by omega) (by omega) (by omega), fun r hr => ?_⟩
  have e1 := e.go go
  have g2 := Go.hid e1.vw (o := .lst (rgV 0 n)) hr
  exact q r _ _ G1 _ (go.trans g2) upd_same (e1.gnone hr) (EL.out e go hr) (dpa_rng n) p
/-- list + list, new -/
theorem el_catL (h : E K pen H0 ta L fun a => E K pen H0 tb L fun b => ∃ as bs, a = .list as ∧ b = .list bs ∧ as.length + bs.length ≤ 100000 ∧ Pl (as ++ bs)) : EL K pen H0 (tOp (rCatL K) ta tb) L Pl := fun σ G H e Q q =>
  h σ G H e _ fun v a G1 H1 g1 d1 h1 => h1 σ G1 H1 (e.go g1) _ fun w b G2 H2 g2 d2 ⟨as, bs, ea, eb, hz, p⟩ => by
    subst ea eb
    have d1 := dp_mono g2.gg _ _ d1
    cases d1 with
    | lst hs ha =>
      cases d2 with
      | lst hs' ha' =>
        rename_i a1 xs a2 ys
        refine ⟨a1, a2, xs, ys, rfl, rfl, sqL_mono g2.vw.vw hs, sqL_mono g2.vw.vw hs', Nat.le_trans (by rw [dpa_len ha, dpa_len ha']; exact hz) (by decide : 100000 ≤ sizeLine), fun r hr => ?_⟩
        have e2 := (e.go g1).go g2
        have g3 := Go.hid e2.vw (o := .lst (xs ++ ys)) hr
        exact q r _ _ G2 _ ((g1.trans g2).trans g3) upd_same (e2.gnone hr) (EL.out e (g1.trans g2) hr) (dpa_app ha ha') p
/-- a call that tells a new list -/
theorem el_callF {α : Type} {pn : Option Pn} {ts : List Addr} {Wf : α → Prop} {enc : α → List PyData} {res : α → PyData → Prop} {X : XK} (h : EA K ⟨pn, ts⟩ H0 tl L fun ds => ∃ x, ds = enc x ∧ Wf x ∧ ∀ d, res x d → ∃ es, d = .list es ∧ noLs es = true ∧ Pl es) : EL K ⟨pn, ts⟩ H0 (tCall (SpXF K ts Wf enc res) [] X tl) L Pl := fun σ G H e Q q =>
  h σ G H e _ fun vs ds G1 H1 go hd ⟨x, hx, h1, h2⟩ => ⟨x, G1, go.vw.plain, by rw [List.append_nil, ← hx]; exact hd, h1, fun v d G' H' go2 hd2 p => by
    obtain ⟨es, rfl, hn, pp⟩ := h2 d p
    cases hd2 with
    | lst hs ha =>
      rename_i l us
      rcases vnew_cases hs with ⟨_, z⟩ | ⟨k, k0, k1, _⟩
      · cases z
      · refine q l us es G' H' (go.trans (go2.lift go.vw)) k1 k (EL.out e go k0) (dpa_nol (fun a xs r => ?_) es us hn (nda_dpa _ _ ha)) pp
        rcases r with r | ⟨o, r⟩
        · rcases vnew_cases r with ⟨g, _⟩ | ⟨_, _, _, ys, z⟩
          · exact .inl g
          · cases z
        · rcases vnew_cases r with ⟨g, _⟩ | ⟨_, _, _, ys, z⟩
          · exact .inr ⟨o, g⟩
          · cases z⟩
end
end Dl
set_option Elab.async false
set_option linter.all false
set_option maxRecDepth 100000
set_option maxHeartbeats 4000000
/-! ### enumerate(tuple) -/
namespace Dl
open PySem PySem.Spec PyProof.Rows L2
abbrev enO (a : Addr) : Obj := { cls := .type "enumerate", data := .fields #[.none, .bool false, .ref a, rawInt 0, .none, .none] }
abbrev tiO (t : Addr) : Obj := { cls := .type "tuple_iterator", data := .fields #[.ref t, .int 0 0] }
theorem enumNewOne {v : Value} {o : Obj} {Hh : Heap → Prop} (B : Begins v o Hh) : Meets (Builtin.«enumerate.__new__» ⟨[.type "enumerate", v], []⟩) (fun _ R s => Hh s.heap ∧ R (.ok (.ret (.ref (s.heap.push o).objs.size))) { s with heap := (s.heap.push o).push (enO s.heap.objs.size) }) :=
  .of_wp fun prog w A R s hyp => by
    obtain ⟨hp, gl, dd, tok, out⟩ := s
    obtain ⟨hB, hR⟩ := hyp
    have sb := sub_enumerate
    have first : ∀ {A' : Around} {E : Value → Shared → Prop} {Q : Value → Shared → Prop}, Q (.ref hp.objs.size) ⟨hp.push o, gl, dd, tok, out⟩ → wpAny (model prog w) A' (pyIter v) Q E ⟨hp, gl, dd, tok, out⟩ := fun q => B.iter prog w _ _ ⟨hp, gl, dd, tok, out⟩ _ hB q
    wp_walk using first
    refine wpAny_stack_any fun frames => wpAny_pure ?_
    split
    · rename_i cl _ _ _ _ _
      cases (cl == Value.type "enumerate") <;> (wp_walk using first; exact ⟨_, rfl, hR⟩)
    · wp_walk using first
      exact ⟨_, rfl, hR⟩
theorem callEnumT {prog : Program} {w : World} {A : Around} {E : Value → Shared → Prop} {s : Shared} {t : Addr} {items : Array Value} {Q : Value → Shared → Prop} (hT : s.heap.IsTuple t items)
    (hq : ∀ h', IsEnum h' (s.heap.objs.size + 1) s.heap.objs.size 0 .none → h'.IsTupleIter s.heap.objs.size t 0 → (∀ b u, s.heap.get? b = some u → h'.get? b = some u) → Q (.ref (s.heap.objs.size + 1)) { s with heap := h' }) :
    wpAny (model prog w) A (call (.type "enumerate") [.ref t]) Q E s := by
  refine callType_new F.called_enumerate (by decide) (F.typeCall_enumerate_1 _) (F.newCall_enumerate_1 _) (fun obj => F.args_object_init_2 obj _) F.entry_enumerate_new (enumNewOne (begins_tuple t items)) ⟨hT, ?_⟩
  have size1 : (s.heap.push (tiO t)).objs.size = s.heap.objs.size + 1 := Heap.size_push ..
  have isE : IsEnum ((s.heap.push (tiO t)).push (enO s.heap.objs.size)) (s.heap.objs.size + 1) s.heap.objs.size 0 .none := by
    have := Heap.get?_push_size (s.heap.push (tiO t)) (o := enO s.heap.objs.size) rfl
    rw [size1] at this
    exact this
  show _ ∧ _
  rw [size1]
  exact ⟨⟨_, isE, rfl⟩, hq _ isE ⟨_, Heap.get?_push_of_some _ (Heap.get?_push_size _ rfl), rfl, rfl⟩ fun b u e => Heap.get?_push_of_some _ (Heap.get?_push_of_some _ e)⟩
/-- the tuple at a, each item in a new pair -/
def ItEt (K : PySem.W.Frag) (a : Addr) : It :=
  ⟨fun i H => ∃ (xs : List V) (x : V), SqT K H a xs ∧ xs[i]? = some x, fun i H v H' => ∃ T x, v = .ref T ∧ H T = none ∧ H' = upd H T (.tup [.int (i : Nat), x]) ∧ ∀ xs, SqT K H a xs → xs[i]? = some x, fun i H => ∃ xs : List V, SqT K H a xs ∧ xs.length ≤ i⟩
theorem turn_enumT {P : Program} {w : World} {K : PySem.W.Frag} {elts : List Expr} {kk : Nat} {tpos : Pos} (a e it : Addr) (hne : e ≠ it) (hea : e ≠ a) (hia : a ≠ it) :
    Turn P w K (.Tuple elts kk tpos) (ItEt K a) [e, it] e (fun i h => (∃ old, IsEnum h e it ((i : Nat) : Int) old) ∧ h.IsTupleIter it a i) where
  mem := List.mem_cons_self ..
  obj := fun i h st b hb => by
    obtain ⟨⟨old, hE⟩, ⟨o, ho, hc, hd⟩⟩ := st
    rcases List.mem_cons.mp hb with rfl | hb
    · exact ⟨_, hE, fun v q => nomatch q⟩
    · rw [List.mem_singleton.mp hb]
      exact ⟨o, ho, fun v q => by rw [hd] at q; cases q⟩
  keep := fun i h h' st k => ⟨st.1.imp fun old hE => k e (List.mem_cons_self ..) _ hE, st.2.at fun o q => k it (List.mem_cons_of_mem _ (List.mem_cons_self ..)) o q⟩
  item := by
    intro X hP hw hK hc i pins s σ H E I hf st hg
    subst hP hw hK
    obtain ⟨⟨old, hE⟩, hI⟩ := st
    obtain ⟨xs, x, hq, hx⟩ := hg
    obtain ⟨its, rv, pt, hz⟩ := I.tuple hq
    obtain ⟨u, hu, ru⟩ := rv.get hx
    have le : e < s.heap.objs.size := Heap.lt_size hE
    have li : it < s.heap.objs.size := by obtain ⟨_, q, _⟩ := hI; exact Heap.lt_size q
    have hil : i < its.toArray.size := by
      have := (List.getElem?_eq_some_iff.mp hu).1
      simpa using this
    refine wpAny_pyNext_enum_itemD (Draws.tuple (A := X.A.in1) (I.ok.hd hc) it a hia its.toArray) hE ⟨hI, pt⟩ hil hne (by simp [hne, hea]) fun y h' tk hy out hst hT hsz hk => ?_
    have ey : y = u := by
      have h1 : its.toArray[i]? = some u := by simpa using hu
      exact Option.some.inj (hy.symm.trans h1)
    subst ey
    refine ⟨_, rfl, wpAny_letOwnedTupleGo_enum (s := { s with heap := h', toks := tk + 1 }) out fun h2 hE2 sb => ?_⟩
    have hT2 : h2.get? s.heap.objs.size = some { cls := .type "tuple", data := .seq #[.int i tk, y] } := (sb.2 _ (Nat.ne_of_gt le)).trans hT
    have okT : ObjOk X.prog X.w (upd H s.heap.objs.size (.tup [.int (i : Nat), x])) h2 s.heap.objs.size (.tup [.int (i : Nat), x]) :=
      ⟨by show 2 ≤ sizeLine; decide, [.int i tk, y], .cons ⟨_, rfl⟩ (.cons ru .nil), ⟨_, hT2, rfl, _, rfl⟩⟩
    have I1 : Inv X pins σ (upd H s.heap.objs.size (.tup [.int (i : Nat), x])) { s with heap := h2, toks := tk + 1 } :=
      I.turnedNew (ch := [e, it]) (fun b ob hb q => (sb.2 b (fun z => hb (z ▸ List.mem_cons_self ..))).trans (hk b ob (fun z => hb (z ▸ List.mem_cons_self ..)) (fun z => hb (z ▸ List.mem_cons_of_mem _ (List.mem_cons_self ..))) q)) hf (Nat.le_refl _) okT
    refine ⟨.ref s.heap.objs.size, _, I1, rfl, ⟨_, x, rfl, I.hok.fresh (Nat.le_refl _), rfl, fun ys hy2 => by rw [I.tuple_inj hy2 hq]; exact hx⟩, ⟨⟨y, ?_⟩, hst.1.at fun o q => (sb.2 it (Ne.symm hne)).trans q⟩, fun b hb => ?_⟩
    · rw [show ((i + 1 : Nat) : Int) = (i : Int) + 1 by omega]
      exact hE2
    · have lb : b < s.heap.objs.size := by
        rcases List.mem_cons.mp hb with rfl | hb
        · exact le
        · rw [List.mem_singleton.mp hb]; exact li
      rw [upd_ne (Nat.ne_of_lt lb)]
      exact (hf b hb).1
  done := by
    intro X hP hw hK hc i pins s σ H E I hf st hg
    subst hP hw hK
    obtain ⟨⟨old, hE⟩, hI⟩ := st
    obtain ⟨xs, hq, hx⟩ := hg
    obtain ⟨its, rv, pt, hz⟩ := I.tuple hq
    obtain ⟨f0, f1, f2, f3, f4, f5⟩ := hf it (List.mem_cons_of_mem _ (List.mem_cons_self ..))
    have hl := rv.length
    have none_ : its.toArray[i]? = none := by simp; omega
    have D0 : Draws X.prog X.w X.A.in1 it [it, a] i (fun _ _ => True) (fun j h => j = i ∧ h.IsTupleIter it a i ∧ h.IsTuple a its.toArray) :=
      { live := fun _ _ st => let ⟨o, ho, _⟩ := st.2.1; ⟨o, ho⟩
        frame := fun _ _ _ st hk => ⟨st.1, st.2.1.at fun o q => hk it (List.mem_cons_self ..) o q, st.2.2.at fun o q => hk a (List.mem_cons_of_mem _ (List.mem_cons_self ..)) o q⟩
        item := fun j s Q E hj st _ => absurd hj (by rw [st.1]; exact Nat.lt_irrefl _)
        done := fun s Q E st hE => wpAny_nextOf_tuple_end (A := X.A.in1) (I.ok.hd hc) st.2.1 st.2.2 none_ hE }
    exact wpAny_pyNext_enum_endD D0 hE ⟨rfl, hI, pt⟩ fun h' eb => ⟨rfl, I.turned (t' := s.toks) (fun b o hb q => eb b o hb q) f0 f1 f3 f4 f5⟩
  self := fun A i s Q E st hQ => let ⟨⟨_, hE⟩, _⟩ := st; wpAny_pyIter_enum hE hQ
def iEnumT (K : PySem.W.Frag) (ta : TA) : TI := fun σ H R => ta σ H fun vs H1 => ∃ a xs, vs = [.ref a] ∧ SqT K H1 a xs ∧ R (ItEt K a) H1
theorem pi_enumT {X : Cx} {e : Expr} {ta : TA} {p pos tpos : Pos} {elts : List Expr} {kk : Nat} (hg : Gl X "enumerate") (hm : X.mg "enumerate" = none) (ha : PA X [e] ta) (hs : starEach [e] X.env = [(false, eval e X.env)] := by rfl) :
    PI X (.Tuple elts kk tpos) (.Call (.Name "enumerate" p) [e] [] pos) (iEnumT X.K ta) := by
  refine ⟨fun pins s σ H R I hyp => ?_⟩
  refine Call_ (ld_blt I hg hm boot_enumerate (PyProof.Rows.callWith_type1 (thn (ha.run pos pins s σ H _ I hyp) fun us s1 ⟨vs, H1, I1, r1, q1⟩ => ?_) hs rfl))
  obtain ⟨a, xs, rfl, hq, q⟩ := q1
  rw [Vals.ref1 r1]
  obtain ⟨its, rv, pt, hz⟩ := I1.tuple hq
  have la : a < s1.heap.objs.size := by obtain ⟨_, q, _⟩ := pt; exact Heap.lt_size q
  refine callEnumT (items := its.toArray) pt fun h' hE hI hk => wpAny_pyIter_enum hE ?_
  have I2 : Inv X pins σ H1 { s1 with heap := h' } := I1.kept (t' := s1.toks) hk
  refine ⟨s1.heap.objs.size + 1, [s1.heap.objs.size + 1, s1.heap.objs.size], _, _, H1, rfl, I2, turn_enumT a (s1.heap.objs.size + 1) s1.heap.objs.size (Nat.succ_ne_self _) (Nat.ne_of_gt (Nat.lt_succ_of_lt la)) (Nat.ne_of_lt la), ⟨⟨.none, hE⟩, hI⟩, fun b hb => ?_, q⟩
  have ge : s1.heap.objs.size ≤ b := by
    rcases List.mem_cons.mp hb with rfl | hb
    · exact Nat.le_succ _
    · rw [List.mem_singleton.mp hb]; exact Nat.le_refl _
  exact I1.fpOk ge (I1.hok.fresh ge)
theorem kx_enumT {K : PySem.W.Frag} {tl : TA} {X : Cx} {e : Expr} {p pos tpos : Pos} {elts : List Expr} {kk : Nat} (h : X.K = K) (hg : Gl X "enumerate") (hm : X.mg "enumerate" = none) (ha : PA X [e] tl) (hs : starEach [e] X.env = [(false, eval e X.env)] := by rfl) :
    PI X (.Tuple elts kk tpos) (.Call (.Name "enumerate" p) [e] [] pos) (iEnumT K tl) := by subst h; exact pi_enumT hg hm ha hs
theorem it_enumT {K : PySem.W.Frag} {pen : Pc} {H0 : Hp} {L : Lv} {P : List PyData → Prop} {tl : TA} (h : EA K pen H0 tl L fun es => ∃ ds, es = [.tuple ds] ∧ P (enumL ds)) : IT K pen H0 (iEnumT K tl) L P := fun σ G H e R r => h σ G H e _ fun vs es G1 H1 go hd ⟨ds, hds, p⟩ => by
  subst hds
  cases hd with
  | cons hd hd2 =>
    cases hd2
    cases hd with
    | tup hs ha =>
      rename_i a xs
      refine ⟨a, xs, rfl, sqT_mono go.vw.vw hs, r _ G1 H1 _ go (fun G' H' s v => ⟨fun i x hx => ?_, ?_⟩) p⟩
      · have z := sqT_mono (s.trans v.vw) hs
        obtain ⟨y', hy', rfl⟩ := enumL_get hx
        obtain ⟨y, hy, dy⟩ := dpa_get ha hy'
        refine ⟨⟨xs, y, z, hy⟩, fun w H2 hw => ?_⟩
        obtain ⟨T, u, rfl, hT, rfl, f⟩ := hw
        have e1 : u = y := Option.some.inj ((f _ z).symm.trans hy)
        subst e1
        have g2 := Go.new v (o := .tup [.int (i : Nat), u]) hT
        exact ⟨_, g2, .tup (.inl (.inl upd_same)) (.cons (.int _) (.cons (dp_mono (s.trans g2.gg) _ _ dy) .nil))⟩
      · exact ⟨xs, sqT_mono (s.trans v.vw) hs, by rw [dpa_len ha, enumL_len]; exact Nat.le_refl _⟩
end Dl
set_option Elab.async false
set_option linter.all false
set_option maxRecDepth 100000
set_option maxHeartbeats 4000000
namespace Dl
open PySem PySem.Spec PyProof.Rows L2
section
variable {K : PySem.W.Frag} {pen : Pc} {H0 : Hp} {L : Lv} {D : Dn}
/-- d[xs.pop(0)] = True -/
theorem s_dputPop {i j : Nat} {m : List (Key × PyData)} {d0 : PyData} {ds : List PyData} {key : Key} {b : Bool} (hj : L[j]? = some (some (.own (.dK m)))) (hi : L[i]? = some (some (.own (.lst (d0 :: ds))))) (hz : m.length < 100000) (hk : KeyD d0 key) (hij : i ≠ j)
    (h : D.nx ((L.set i (some (.own (.lst ds)))).set j (some (.own (.dK (putD m key (.bool b))))))) (nf : noFr L = true := by rfl) (nf2 : noFr (L.set i (some (.own (.lst ds)))) = true := by rfl) :
    S K pen H0 (sDPut (tVar j) (tBM K "list" rPopAt (tVar i) (tCons (tC (.int 0)) tNil)) (tC (.bl b))) L D := fun σ G H N e n1 _ _ _ _ _ => by
  obtain ⟨l, ho, k1, k3, k6⟩ := e.own hi
  obtain ⟨vs, rfl, k6⟩ := k6.lst
  obtain ⟨a, ha, q1, q3, q6⟩ := e.own hj
  cases k6 with
  | cons h1 h2 =>
    rename_i v vs
    obtain ⟨r1, r2⟩ := e.putOwn nf hi k1 (o' := .lst ds) (ho := .lst vs) h2
    have hj2 : (L.set i (some (.own (.lst ds))))[j]? = some (some (.own (.dK m))) := by rw [List.getElem?_set_ne hij]; exact hj
    obtain ⟨ha2, w3, w6⟩ := r1.ownAt hj2 q1
    obtain ⟨kvs, rfl, w6⟩ := w6.dK
    have hv := key_v h1 hk
    subst hv
    obtain ⟨z1, z2⟩ := r1.putOwn nf2 hj2 q1 (o' := .dK (putD m key (.bool b))) (ho := .dK (putK kvs key (.bl b))) (kv_put key (.bl b) w6)
    exact ⟨_, q1, _, k1, .inl ⟨rfl, _, .inl (.inl k3)⟩, l, _ :: vs, 0, 0, _, rfl, rfl, k3, by decide, by decide, by unfold seqIndex?; simp, rfl, a, _, rfl, DPut.k w3 (Nat.lt_of_lt_of_le (by rw [kv_len w6]; exact hz) (by decide : 100000 ≤ sizeLine)), n1 σ G _ _ (r2.trans z2) z1 h⟩
end
end Dl
set_option Elab.async false
set_option linter.all false
set_option maxRecDepth 100000
set_option maxHeartbeats 4000000
namespace Dl
open PySem PySem.Spec PyProof.Rows L2
/-! ### a tuple no time, once, more often -/
theorem tupleMul0 (l : Addr) (items : Array Value) (n : Nat) (dd : Option Addr) (sl : Array (Option Value)) (u : Tok) (he : items.isEmpty = false) :
    Meets (Builtin.«tuple.__mul__» ⟨[.ref l, .int 0 u], []⟩) (fun _ R s => s.heap.get? l = some { cls := .type "tuple", dict := dd, data := .seq items n, slots := sl } ∧ R (.ok (.ret (Value.ref s.heap.objs.size))) { s with heap := s.heap.push { cls := Value.type "tuple", data := Data.seq #[] }, toks := s.toks }) :=
  .of_wp fun prog w A R s hyp => by
    obtain ⟨hp, gl, dd2, tok, out⟩ := s
    obtain ⟨hl, hR⟩ := hyp
    have f1 := AutoSeq1.idx_int
    have a0 : (decide ((0 : Int) < -(2 ^ 63)) || decide ((0 : Int) ≥ 2 ^ 63)) = false := by decide
    have a1 : (items.isEmpty || (0 : Int) == 1) = false := by rw [he]; rfl
    have a2 : (decide ((0 : Int) ≤ 0) || items.isEmpty) = true := by simp
    wp_walk using wpAny_loadPart' hl
    repeat (first
      | (refine wpAny_ite_false (decide_eq_false (by rw [a0]; exact Bool.false_ne_true)) ?_; wp_walk using wpAny_loadPart' hl)
      | (refine wpAny_ite_false (decide_eq_false (by rw [a1]; exact Bool.false_ne_true)) ?_; wp_walk using wpAny_loadPart' hl)
      | (refine wpAny_ite_true (decide_eq_true a2) ?_; wp_walk using wpAny_loadPart' hl))
    exact ⟨_, rfl, hR⟩
def rRepB (K : PySem.W.Frag) : R2 := fun x y H Q => ∃ l xs, x = .ref l ∧ SqT K H l xs ∧ xs ≠ [] ∧ ((y = .int 1 ∧ Q (.ref l) H) ∨ (y = .int 0 ∧ ∀ p, H p = none → Q (.ref p) (upd H p (.tup []))))
section
variable {X : Cx}
theorem op_repB : OpR X (binaryOp .Mult) (rRepB X.K) := by
  intro pins s σ H x y v u Q I rx ry hyp
  obtain ⟨l, xs, rfl, hT, hne, hyp⟩ := hyp
  cases rx
  obtain ⟨its, r, ⟨⟨cls, dd, data, sl⟩, ho, hc, n, hd⟩, hs⟩ := I.tuple hT
  simp only at hc hd
  subst hc hd
  have hie : its.toArray.isEmpty = false := by
    cases its with
    | nil => cases r; exact absurd rfl hne
    | cons a b => rfl
  rcases hyp with ⟨rfl, q⟩ | ⟨rfl, q⟩
  · obtain ⟨t, rfl⟩ := ry
    refine wpAny_binaryOp_repeat_ref (T := "tuple") (U := "int") (by decide) ⟨_, ho, rfl⟩ (fun s2 => typeIs_int s2 1 t) noFill_tuple_mul F.fills_int_mul F.slot_int_rmul repeat_tuple F.slot_int_index.lookup ?_
    refine call_meets F.slot_int_rmul (typeIs_int s 1 t) F.entry_int_rmul (F.args_int_rmul_2 _ _) (int_rmul_tuple 1 t l its.toArray n dd sl) ⟨ho, rfl, ⟨_, ho, rfl⟩, ?_⟩
    exact call_meets F.slot_tuple_mul ⟨_, ho, rfl⟩ F.entry_tuple_mul (F.args_tuple_mul_2 _ _) (tuple_mul1 l its.toArray n dd sl t) ⟨ho, .ref l, H, I, rfl, q⟩
  · obtain ⟨t, rfl⟩ := ry
    refine wpAny_binaryOp_repeat_ref (T := "tuple") (U := "int") (by decide) ⟨_, ho, rfl⟩ (fun s2 => typeIs_int s2 0 t) noFill_tuple_mul F.fills_int_mul F.slot_int_rmul repeat_tuple F.slot_int_index.lookup ?_
    refine call_meets F.slot_int_rmul (typeIs_int s 0 t) F.entry_int_rmul (F.args_int_rmul_2 _ _) (int_rmul_tuple 0 t l its.toArray n dd sl) ⟨ho, rfl, ⟨_, ho, rfl⟩, ?_⟩
    refine call_meets F.slot_tuple_mul ⟨_, ho, rfl⟩ F.entry_tuple_mul (F.args_tuple_mul_2 _ _) (tupleMul0 l its.toArray n dd sl t hie) ⟨ho, ?_⟩
    exact ⟨.ref s.heap.objs.size, upd H s.heap.objs.size (.tup []), I.laid (t' := s.toks) (fun c o e => Heap.get?_push_of_some _ e) (Nat.le_refl _) (show ObjOk X.prog X.w _ _ _ (.tup []) from ⟨Nat.zero_le _, [], .nil, IsTup.new _ _⟩), rfl, q _ I.fresh⟩
theorem kx_repB {K : PySem.W.Frag} (h : X.K = K) : OpR X (binaryOp .Mult) (rRepB K) := by subst h; exact op_repB
end
theorem r_repB {K : PySem.W.Frag} {pen : Pc} {P : PyData → Prop} {ds : List PyData} {b : Bool} (h0 : ds ≠ []) (p : P (.tuple (if b = true then ds else []))) : R2d K pen (rRepB K) (.tuple ds) (.int (if b = true then 1 else 0)) P := fun x y G H v hx hy Q q => by
  cases hx with
  | tup hs ha =>
    cases hy
    rename_i a xs
    have hn : xs ≠ [] := fun z => by subst z; cases ha; exact h0 rfl
    refine ⟨a, xs, rfl, sqT_mono v.vw hs, hn, ?_⟩
    cases b with
    | true => exact .inl ⟨rfl, q _ _ G H (.refl v) (.tup hs ha) p⟩
    | false =>
      refine .inr ⟨rfl, fun r hr => ?_⟩
      have g := Go.new v (o := .tup []) hr
      exact q _ _ _ _ g (.tup (.inl (.inl upd_same)) .nil) p
end Dl
set_option Elab.async false
set_option linter.all false
set_option maxRecDepth 100000
/-! a comprehension that pops from one's own list -/
namespace Dl
open PySem PySem.Spec PyProof.Rows L2
variable {K : PySem.W.Frag} {pen : Pc} {H0 : Hp} {L : Lv} {D : Dn}
theorem set_same {α : Type} {l : List α} {j : Nat} {x : α} (h : l[j]? = some x) : l.set j x = l := by
  apply List.ext_getElem?
  intro i
  rw [List.getElem?_set]
  by_cases e : j = i
  · subst e
    rw [if_pos rfl, h, if_pos (List.getElem?_eq_some_iff.mp h).1]
  · rw [if_neg e]
/-- an object beside the slots is written -/
theorem Ev.aside {G H H1 : Hp} {σ : L2.St} {j : Nat} {o : OO} {l Da : Addr} {ho : HO} (e : Ev K pen H0 G H σ L) (hj : L[j]? = some (some (.own o))) (hs : σ[j]? = some (some (.ref l))) (hl : l ≠ Da)
    (only : ∀ (i : Nat) av, L[i]? = some (some av) → i ≠ j → (∃ x, av = .d x) ∨ av = .pen) (h0 : H0 Da = none) (g0 : G Da = none) (p1 : POk pen H1) (hD : H1 Da = none) (hk : ∀ q, H Da ≠ some (LamX.CodeO Da q)) : Ev K pen H0 G (upd H Da ho) σ L := by
  refine ⟨⟨fun a u q => by rw [upd_ne (fun z => by rw [z, g0] at q; cases q)]; exact e.vw.vw a u q, e.vw.no, e.vw.ok.upd p1 hD hk⟩, e.h0, fun a h => ?_, e.len, fun i av hi => ?_, e.ow⟩
  · by_cases z : a = Da
    · rw [z, upd_same]; exact fun q => by cases q
    · rw [upd_ne z]; exact e.dom a h
  · obtain ⟨v, k1, k2⟩ := e.sl i av hi
    refine ⟨v, k1, ?_⟩
    by_cases z : i = j
    · subst z
      have : av = .own o := Option.some.inj (Option.some.inj (hi.symm.trans hj))
      subst this
      obtain ⟨l2, vs, rfl, q1, q2, q3, q4⟩ := k2
      have : l2 = l := by
        have := hs.symm.trans k1
        injection this with this
        injection this with this
        injection this with this
        exact this.symm
      subst this
      exact ⟨l2, vs, rfl, by rw [upd_ne hl]; exact q1, q2, q3, q4⟩
    · rcases only i av hi z with ⟨x, rfl⟩ | rfl
      · exact k2
      · exact k2
theorem s_retLcPop {ti : TI} {tk : TE} {v j : Nat} {ds0 : List PyData} (hj : L[j]? = some (some (.own (.lst ds0)))) (hvj : v ≠ j)
    (only : ∀ (i : Nat) av, L[i]? = some (some av) → i ≠ j → (∃ x, av = .d x) ∨ av = .pen) (nf : noFr L = true)
    (h : IT K pen H0 ti L fun xs => xs.length ≤ 100000 ∧ ∃ J : Nat → List PyData → List PyData → Prop, J 0 ds0 [] ∧
      (∀ (i : Nat) x ds acc, xs[i]? = some x → J i ds acc → E K pen H0 tk (((L.set j (some (.own (.lst ds)))).set v none).set v (some (.d x))) fun d => ∃ m : Nat, d = .int m ∧ m < 100000 ∧ ∃ y, ds[m]? = some y ∧ J (i + 1) (ds.eraseIdx m) (acc ++ [y])) ∧ (∀ ds acc, J xs.length ds acc → D.rt (.list acc)))
    (nfs : ∀ ds, noFr (L.set j (some (.own (.lst ds)))) = true := by intros; rfl) :
    S K pen H0 (tRet (tLc ti (gName v) tYes (tBM K "list" rPopAt (tVar j) (tCons tk tNil)) [v])) L D := fun σ G H N e _ n2 _ _ _ _ => h σ G H e _ fun It G1 H1 xs go w ⟨hn, J, j0, js, je⟩ => fun Dl hD => by
  have e1 := e.go go
  obtain ⟨l, ho, k1, k3, k6⟩ := e1.own hj
  have hl : l ≠ Dl := fun z => by rw [z, hD] at k3; cases k3
  have h0D : H0 Dl = none := by
    cases z : H0 Dl with
    | none => rfl
    | some o => exact absurd hD (e1.dom Dl (by rw [z]; exact fun z => by cases z))
  have g1D : G1 Dl = none := by
    cases q : G1 Dl with
    | none => rfl
    | some o => rw [e1.vw.vw _ _ q] at hD; cases hD
  have np : ¬ IsPn pen Dl := fun p => go.vw.ok.there p hD
  have hjl : j < L.length := (List.getElem?_eq_some_iff.mp hj).1
  have hjs : ∀ ds, (L.set j (some (.own (.lst ds))))[j]? = some (some (.own (.lst ds))) := fun ds => List.getElem?_set_self hjl
  have only' : ∀ (ds : List PyData) (i : Nat) av, (L.set j (some (.own (.lst ds))))[i]? = some (some av) → i ≠ j → (∃ x, av = .d x) ∨ av = .pen := fun ds i av hi hne => only i av (by rw [List.getElem?_set_ne (fun z => hne z.symm)] at hi; exact hi) hne
  refine ⟨fun i m H' => m = xs.length - i ∧ i ≤ xs.length ∧ ∃ G' us ds acc, Gx pen H0 G1 H1 G' H' ∧ Ev K pen H0 G' H' σ (L.set j (some (.own (.lst ds)))) ∧ H' Dl = some (.lst us) ∧ G' Dl = none ∧ DpAll K G' us acc ∧ J i ds acc ∧ acc.length ≤ i,
    ⟨xs.length, rfl, Nat.zero_le _, G1, [], ds0, [], ?_, ?_, upd_same, g1D, .nil, j0, Nat.le_refl _⟩, ?_⟩
  · exact ⟨Same.refl _, fun _ _ => rfl, fun a o p h q => by rw [upd_ne (fun z => h (by rw [z]; exact h0D))]; exact q⟩
  · rw [set_same hj]
    exact e1.aside hj k1 hl only h0D g1D e1.vw.ok hD (code_ne0 hD)
  rintro i m H' ⟨rfl, hi, G', us, ds, acc, gx, ev, d1, d2, d3, jj, al⟩
  obtain ⟨w1, w2⟩ := w G' H' gx.gg ev.vw
  by_cases hlt : i < xs.length
  · obtain ⟨q1, q2⟩ := w1 i _ (List.getElem?_eq_getElem hlt)
    refine .inr ⟨q1, fun H' => i + 1 ≤ xs.length ∧ ∃ G' us ds acc, Gx pen H0 G1 H1 G' H' ∧ Ev K pen H0 G' H' σ (L.set j (some (.own (.lst ds)))) ∧ H' Dl = some (.lst us) ∧ G' Dl = none ∧ DpAll K G' us acc ∧ J (i + 1) ds acc ∧ acc.length ≤ i + 1, fun H2 I2 => ⟨xs.length - (i + 1), by omega, rfl, I2⟩, fun u H2 hu => ?_⟩
    obtain ⟨G2, g2, du⟩ := q2 u H2 hu
    have e2 := ev.go g2
    refine ⟨wipe1 _ _ _, ?_⟩
    have e3 := (ev_wipe1 e2 v).set (i := v) du
    have sj : ((wipe σ [v]).set v (some u))[j]? = some (some (.ref l)) := by
      rw [List.getElem?_set_ne hvj]
      show (σ.set v none)[j]? = _
      rw [List.getElem?_set_ne hvj]
      exact k1
    obtain ⟨ho2, r1, r2⟩ := e2.ownAt (hjs ds) k1
    obtain ⟨vs2, rfl, r2⟩ := r2.lst
    show tBM K "list" rPopAt (tVar j) (tCons tk tNil) _ H2 _
    refine ⟨_, sj, .inl ⟨rfl, vs2, .inl (.inl r1)⟩, js i _ ds acc (List.getElem?_eq_getElem hlt) jj _ G2 H2 e3 _ fun uu d G3 H3 g3 d3' hm => ?_⟩
    obtain ⟨m, rfl, hm1, y, hy, jn⟩ := hm
    cases d3'
    have e4 := e2.go g3
    obtain ⟨ho3, t1, t2⟩ := e4.ownAt (hjs ds) k1
    obtain ⟨vs3, rfl, t2⟩ := t2.lst
    obtain ⟨yv, hyv, dy⟩ := dpa_get t2 hy
    have hml : m < vs3.length := (List.getElem?_eq_some_iff.mp hyv).1
    obtain ⟨p1, p2⟩ := e4.putOwn (nfs ds) (hjs ds) k1 (o' := .lst (ds.eraseIdx m)) (ho := .lst (vs3.eraseIdx m)) (dpa_erase m t2)
    rw [List.set_set] at p1
    have b1 : H3 Dl = some (.lst us) := g3.od Dl _ np (g2.od Dl _ np d1)
    have b2 : G3 Dl = none := ((g3.nw Dl (by rw [g2.od Dl _ np d1]; exact fun z => by cases z)).trans (g2.nw Dl (by rw [d1]; exact fun z => by cases z))).trans d2
    refine ⟨l, vs3, m, m, yv, rfl, rfl, t1, by omega, by omega, ?_, hyv, us, ?_, ?_, hlt, G3, us ++ [yv], ds.eraseIdx m, acc ++ [y], ?_, ?_, upd_same, b2, dpa_app (dpa_mono (g2.gg.trans g3.gg) _ _ d3) (.cons dy .nil), jn, ?_⟩
    · unfold seqIndex?
      simp
      omega
    · rw [upd_ne (fun z => hl z.symm)]; exact b1
    · exact Nat.lt_of_lt_of_le (by rw [dpa_len d3]; omega) (by decide : 100000 ≤ sizeLine)
    · refine ((gx.trans (ev.gx g2)).trans (e2.gx g3)).trans (p2.trans ⟨Same.refl _, fun _ _ => rfl, fun a o p h q => ?_⟩)
      rw [upd_ne (fun z => h (by rw [z]; exact h0D))]
      exact q
    · exact p1.aside (hjs _) k1 hl (only' _) h0D b2 go.vw.ok hD (code_ne (by rw [upd_ne (fun z => hl z.symm)]; exact b1) rfl)
    · rw [List.length_append]
      show acc.length + 1 ≤ i + 1
      omega
  · have e1' : i = xs.length := by omega
    subst e1'
    refine .inl ⟨w2, ?_⟩
    have s : Same G' (upd G' Dl (.lst us)) := fun a o q => by rw [upd_ne (ne_of_none q d2)]; exact q
    refine n2 (.ref Dl) (.list acc) (upd G' Dl (.lst us)) H' ((e.gx go).trans (gx.trans ⟨s, fun a h => upd_ne (fun z => h (by rw [z]; exact h0D)), fun _ _ _ _ q => q⟩)) ⟨fun a o q => ?_, fun a p => ?_, ev.vw.ok⟩ (.lst (.inl (.inl upd_same)) (dpa_mono s _ _ d3)) (je ds acc jj)
    · by_cases z : a = Dl
      · subst z
        rw [upd_same] at q
        rw [← q]
        exact d1
      · rw [upd_ne z] at q
        exact ev.vw.vw a o q
    · rw [upd_ne (fun z => np (by rw [← z]; exact p))]
      exact ev.vw.no a p
theorem kx_bm {X : Cx} {K : PySem.W.Frag} {o e : Expr} {es : List Expr} {to : TE} {t : TA} {name : Str} {apos cpos : Pos} {T id : String} {r : V → List V → Hp → VK → Prop} (h : X.K = K)
    (pa : PlainAttrs T) (slot : Slot T name id) (hty : typeOf (.builtin id) = pure (.type "method_descriptor")) (hm : MtR X id r) (ho : PE X o to) (ha : PA X (e :: es) t)
    (h1 : attributeBase o name X.env (eval o X.env) = eval o X.env := by rfl)
    (h2 : ((backTo cpos (starEach (e :: es) X.env)).all (fun x => !x.1) && (backToKw cpos (keywordEach [] X.env)).all (fun x => x.1.isSome) && decide ((e :: es).length + ([] : List Keyword).length + (if ([] : List Keyword).isEmpty then 0 else 1) < 30)) = true := by rfl)
    (h3 : (apos.endLine == cpos.line) = true := by rfl) (h4 : starEach (e :: es) X.env = (false, eval e X.env) :: starEach es X.env := by rfl) (h5 : (backTo cpos (starEach es X.env)).any (·.1) = false := by rfl) :
    PE X (.Call (.Attribute o name apos) (e :: es) [] cpos) (tBM K T r to t) := by
  subst h
  exact pe_bm pa slot hty hm ho ha h1 h2 h3 h4 h5
/-! defs to which the pen is handed and that tell a new object -/
def SpXPN {α : Type} (b : Bool) (K : PySem.W.Frag) (ts : List Addr) (Wf : α → Prop) (enc : α → List PyData) (res : α → OO → Prop) : Sp := fun vs H Q _ => ∃ (x : α) (p : Pn) (G : Hp) (us : List V), PK.Is b p.k ∧ vs = .ref p.a :: us ∧ Vw ⟨some p, ts⟩ G H ∧ DpAll K G us (enc x) ∧ Wf x ∧ ∀ l ho o G' H', Go ⟨some p, ts⟩ G H G' H' → H' l = some ho → G' l = none → H l = none → OwnOk K G' l ho o → res x o → Q (.ref l) H'
theorem ek_callP {tl : TA} {Po : OO → Prop} {α : Type} {b : Bool} {p : Pn} {ts : List Addr} {Wf : α → Prop} {enc : α → List PyData} {res : α → OO → Prop} {X : XK} {i : Nat} (hi : L[i]? = some (some .pen)) (h : EA K ⟨some p, ts⟩ H0 tl L fun ds => ∃ x, ds = enc x ∧ Wf x ∧ ∀ o, res x o → Po o) (hk : PK.Is b p.k := by exact trivial) : EK K ⟨some p, ts⟩ H0 (tCall (SpXPN b K ts Wf enc res) [] X (tCons (tVar i) tl)) L Po := fun σ G H e Q q => by
  obtain ⟨v, hv, p', hp, rfl⟩ := e.sl i _ hi
  refine ⟨_, hv, h σ G H e _ fun vs ds G1 H1 go hd ⟨x, hx, h1, h2⟩ => ?_⟩
  cases hp
  refine ⟨x, p, G1, vs, hk, by rw [List.append_nil], go.vw, by rw [← hx]; exact hd, h1, fun l ho o G' H' go2 k1 k2 k3 k4 pp => ?_⟩
  refine q l ho o G' H' (go.trans go2) k1 k2 ?_ k4 (h2 o pp)
  cases z : H l with
  | none => rfl
  | some u => exact absurd k3 (go.dom (by rw [z]; exact fun z => by cases z))
theorem fnXPN {P : Program} {w : World} {mg : Str → Option Value} {base : Heap} {α : Type} {b : Bool} {x qual : Str} {st : Stmt} {f : Addr} {fd : FuncData} {N ps : List Str} {k : Nat} {ts : List Addr} {Wf : α → Prop} {enc : α → List PyData} {res : α → OO → Prop} (F : Fun K x qual st f fd) (S0 : FnScope N ps (defScope st)) (hN : ∃ x r, N = x :: r) (hl : ∀ x, Wf x → (enc x).length + 1 = ps.length)
    (hbody : ∀ (cdv : Value) (A : Around) (outer : List Env) (s : Shared) (H : Hp) (E : XK), Room k (A.deeper (envOfC qual (defScope st) s.heap.objs.size f cdv)) →
      ∃ t, PSs (cxOf CX0 P w K mg base N qual (defScope st) f cdv A outer s H E).nox (defBody st) t ∧ ∀ (p : Pn) x, PK.Is b p.k → Wf x → S K ⟨some p, ts⟩ H t (stP N (enc x)) { nx := fun _ => False, rt := fun _ => False, ro := res x }) : FnOk P w K mg base CX0 (k + 1) f fd ps (SpXPN b K ts Wf enc res) := by
  refine F.ok S0 (fun vs H Q E h => ?_) (fun cdv A outer s H vs Q E hr h => ?_)
  · obtain ⟨x, p, G, us, hk, rfl, _, h1, h2, _⟩ := h
    rw [List.length_cons, dpa_len h1]
    exact hl x h2
  · obtain ⟨x, p, G, us, hk, rfl, v, h1, h2, q⟩ := h
    obtain ⟨t, ht, hS⟩ := hbody cdv A outer s H E hr
    refine ⟨t, ht, hS p x hk h2 _ G H _ (ev_startP h1 v hN) (fun _ _ _ _ _ _ z => z.elim) (fun _ _ _ _ _ _ _ z => z.elim) (fun _ _ _ _ _ _ z => z.elim) (fun _ _ _ _ _ _ z => z.elim) (fun _ _ _ _ _ _ _ z => z.elim) (fun l ho o G' H' x vw k1 k2 k3 k4 p => ?_)⟩
    exact q l ho o G' H' ⟨x.gg, x.nw, fun a o hp e => x.od a o hp (by rw [e]; exact fun z => by cases z) e, vw⟩ k1 k3 k2 k4 p
/-- one's own list, so many times -/
theorem el_repOwn {tb : TE} {Pl : List PyData → Prop} {j : Nat} {ds : List PyData} (hj : L[j]? = some (some (.own (.lst ds)))) (h : E K pen H0 tb L fun b => ∃ k : Nat, b = .int k ∧ k ≤ 100000 ∧ ds.length * k ≤ 100000 ∧ Pl (List.replicate k ds).flatten) : EL K pen H0 (tOp rRep (tVar j) tb) L Pl := fun σ G H e Q q => by
  obtain ⟨l, ho, q1, q3, q6⟩ := e.own hj
  refine ⟨_, q1, h σ G H e _ fun w b G2 H2 g2 d2 ⟨k, hk, hkk, hz, p⟩ => ?_⟩
  subst hk
  cases d2
  have e2 := e.go g2
  obtain ⟨ho2, r3, r6⟩ := e2.ownAt hj q1
  obtain ⟨vs, rfl, r6⟩ := r6.lst
  have hlv := dpa_len r6
  refine ⟨l, k, vs, rfl, rfl, r3, by omega, by omega, Nat.le_trans (by rw [hlv]; exact hz) (by decide : 100000 ≤ sizeLine), fun r hr => ?_⟩
  have g3 := Go.hid e2.vw (o := .lst (List.replicate ((k : Int)).toNat vs).flatten) hr
  exact q r _ _ G2 _ (g2.trans g3) upd_same (e2.gnone hr) (EL.out e g2 hr) (dpa_rep r6 k) p
end Dl
set_option Elab.async false
set_option linter.all false
set_option maxRecDepth 100000
/-! sum(1 for x in .. if f(x)) -/
namespace Dl
open PySem PySem.Spec PyProof.Rows L2
variable {K : PySem.W.Frag} {pen : Pc} {H0 : Hp} {L : Lv} {D : Dn} {Pd : PyData → Prop} {ti : TI} {g : TG} {tt : TT} {te : TE}
theorem e_sumI {pn : Option Pn} {ts : List Addr} {Tb : Addr} {vs : List Nat} (f : PyData → Bool) (hT : Tb ∈ ts) (h : IT K ⟨pn, ts⟩ H0 ti L fun xs => xs.length ≤ 100000 ∧ (∀ (i : Nat) x, xs[i]? = some x → GTw K ⟨pn, ts⟩ H0 vs g x (wipeL L vs) fun L2 => ET K ⟨pn, ts⟩ H0 tt L2 fun b => b = f x ∧ (b = true → E K ⟨pn, ts⟩ H0 te L2 fun d => d = .int 1)) ∧ Pd (.int ((xs.filter f).length : Int))) :
    E K ⟨pn, ts⟩ H0 (_root_.Gx.tSum Tb ti g tt te vs) L Pd := fun σ G H e Q q => h σ G H e _ fun It G1 H1 xs gg w ⟨hn, js, je⟩ => by
  refine ⟨gg.vw.ok.2 Tb hT, fun H2 htab => ?_⟩
  have g2 := Go.tab gg.vw hT htab
  have hfl : (xs.filter f).length ≤ xs.length := List.length_filter_le ..
  refine ⟨fun i m n H' => m = xs.length - i ∧ i ≤ xs.length ∧ n = ((xs.drop i).filter f).length ∧ ∃ G', Go ⟨pn, ts⟩ G1 H2 G' H', (xs.filter f).length, by omega, ⟨xs.length, rfl, Nat.zero_le _, rfl, G1, .refl g2.vw⟩, ?_⟩
  rintro i m n H' ⟨rfl, hi, rfl, G', g'⟩
  have q' : ∀ v d G' H', Go ⟨pn, ts⟩ G1 H2 G' H' → Dp K G' v d → Pd d → Q v H' := fun v d G' H' g hd p => q v d G' H' ((gg.trans g2).trans g) hd p
  obtain ⟨w1, w2⟩ := w G' H' g'.gg g'.vw
  by_cases hlt : i < xs.length
  · obtain ⟨k1, k2⟩ := w1 i _ (List.getElem?_eq_getElem hlt)
    refine .inr ⟨k1, fun n' H3 => n' = ((xs.drop (i + 1)).filter f).length ∧ ∃ G', Go ⟨pn, ts⟩ G1 H2 G' H3, fun n' H3 ⟨k1, k2⟩ => ⟨xs.length - (i + 1), by omega, rfl, hlt, k1, k2⟩, fun y H3 hy => ?_⟩
    obtain ⟨G3, g3, d3⟩ := k2 y H3 hy
    have hdrop : ((xs.drop i).filter f).length = (if f xs[i] = true then 1 else 0) + ((xs.drop (i + 1)).filter f).length := by
      rw [List.drop_eq_getElem_cons hlt, List.filter_cons]
      split
      · rw [List.length_cons]; omega
      · omega
    refine js i _ (List.getElem?_eq_getElem hlt) (wipe σ vs) G3 H3 y (ev_wipe ((((e.go gg).go g2).go g').go g3) vs) d3 _ fun σ4 L4 ag e4 h4 => ⟨wipe_agree ag, ?_⟩
    refine h4 σ4 G3 H3 e4 _ fun b G4 H4 g4 ⟨hb, h5⟩ => ?_
    cases b with
    | false =>
      show _ ∧ _
      refine ⟨?_, G4, (g'.trans g3).trans g4⟩
      rw [hdrop, if_neg (by rw [← hb]; exact Bool.false_ne_true)]
      omega
    | true =>
      show te σ4 H4 _
      refine h5 rfl σ4 G4 H4 (e4.go g4) _ fun v d G5 H5 g5 d5 p5 => ?_
      subst p5
      cases d5
      refine ⟨rfl, _, ?_, rfl, G5, ((g'.trans g3).trans g4).trans g5⟩
      rw [hdrop, if_pos hb.symm]
      omega
  · have e1 : i = xs.length := by omega
    subst e1
    refine .inl ⟨w2, q' _ _ G' H' g' (.int _) ?_⟩
    rw [List.drop_length]
    show Pd (.int (((xs.filter f).length : Int) - ((0 : Nat) : Int)))
    rw [Int.natCast_zero, Int.sub_zero]
    exact je
theorem dpa_rng2 {G : Hp} (i j : Int) : DpAll K G (rgV i j) (rngL i (j - i).toNat) := by
  unfold rgV rngL
  induction List.range (j - i).toNat with
  | nil => exact .nil
  | cons a r ih => exact .cons (.int _) ih
theorem el_lstRg2 {ta tb : TE} {Pl : List PyData → Prop} (h : E K pen H0 ta L fun a => E K pen H0 tb L fun b => ∃ i j : Int, a = .int i ∧ b = .int j ∧ -100000 ≤ i ∧ i ≤ 100000 ∧ -100000 ≤ j ∧ j ≤ 100000 ∧ Pl (rngL i (j - i).toNat)) : EL K pen H0 (tLstRg (tRg2 ta tb)) L Pl := fun σ G H e Q q =>
  h σ G H e _ fun v a G1 H1 go hd h1 => h1 σ G1 H1 (e.go go) _ fun w b G2 H2 go2 hd2 ⟨i, j, ea, eb, z1, z2, z3, z4, p⟩ => by
    subst ea eb
    cases hd
    cases hd2
    refine ⟨i, j, rfl, rfl, ⟨by omega, by omega, by omega, by omega, by omega⟩, fun r hr => ?_⟩
    have e1 := (e.go go).go go2
    have g2 := Go.hid e1.vw (o := .lst (rgV i j)) hr
    exact q r _ _ G2 _ ((go.trans go2).trans g2) upd_same (e1.gnone hr) (EL.out e (go.trans go2) hr) (dpa_rng2 i j) p
end Dl
set_option Elab.async false
set_option linter.all false
set_option maxRecDepth 100000
/-! max of a list of pairs, a list with another one spread in it -/
namespace Dl
open PySem PySem.Spec PyProof.Rows L2
def rMaxP (K : PySem.W.Frag) : List V → Hp → VK → Prop := fun vs H Q => ∃ (a : Addr) (xs : List V) (d0 : PyData) (ds : List PyData), vs = [V.ref a] ∧ SqL K H a xs ∧ DpAll K H xs (d0 :: ds) ∧ PySem.W.AlikeAll (d0 :: ds) ∧ PyData.depthAll (d0 :: ds) ≤ 60 ∧ ∀ (i : Nat) v, xs[i]? = some v → (d0 :: ds)[i]? = some (PySem.W.maxD d0 ds) → Q v H
theorem maxD_mem (d0 : PyData) : ∀ ds : List PyData, PySem.W.maxD d0 ds ∈ d0 :: ds := fun ds => by
  unfold PySem.W.maxD
  induction ds generalizing d0 with
  | nil => exact List.mem_cons_self ..
  | cons d ds ih =>
    rw [List.foldl_cons]
    split
    · exact List.mem_cons_of_mem _ (ih d)
    · rcases List.mem_cons.mp (ih d0) with z | z
      · rw [z]; exact List.mem_cons_self ..
      · exact List.mem_cons_of_mem _ (List.mem_cons_of_mem _ z)
theorem cr_maxP {X : Cx} (hc : X.calm = true) (hu : X.A.units + 64 < cLine) : CallR X (.builtin "max") (rMaxP X.K) := by
  intro pins s σ H vs us Q I r h
  obtain ⟨a, xs, d0, ds, rfl, hs, hd, hal, hdp, q⟩ := h
  obtain ⟨its, rv, hl, _⟩ := I.list hs
  rw [Vals.ref1 r]
  obtain ⟨as, hr⟩ := Dp.readsAll I (d0 :: ds) xs its hd rv
  refine PySem.W.max_list_data (I.ok.hd hc) hl.isList (as := as) (by simpa using hr) hal (by omega) fun i v h' tk bs hv hrd hk => ?_
  have hv' : its[i]? = some v := by simpa using hv
  obtain ⟨y, hy, hyv⟩ : ∃ y, xs[i]? = some y ∧ RelV y v := by
    have hlen := rv.length
    have hi : i < its.length := (List.getElem?_eq_some_iff.mp hv').1
    obtain ⟨y, hy⟩ : ∃ y, xs[i]? = some y := ⟨_, List.getElem?_eq_getElem (by omega)⟩
    obtain ⟨u, hu2, ru⟩ := rv.get hy
    rw [hv'] at hu2
    cases hu2
    exact ⟨y, hy, ru⟩
  obtain ⟨d, hdi, hdy⟩ := dpa_getV hd hy
  have I' := I.kept (t' := tk) hk
  obtain ⟨cs, hr2⟩ := Dp.reads I' d y v hdy hyv
  have e : d = PySem.W.maxD d0 ds := PySem.W.alike_unique d _ v cs bs (hal.1 d (List.mem_of_getElem? hdi) _ (maxD_mem d0 ds)) hr2 hrd
  exact ⟨y, H, I', hyv, q i y hy (e ▸ hdi)⟩
theorem kx_maxP {X : Cx} {K : PySem.W.Frag} (h : X.K = K) (hc : X.calm = true) (hu : X.A.units + 64 < cLine) : CallR X (.builtin "max") (rMaxP K) := by subst h; exact cr_maxP hc hu
section
variable {K : PySem.W.Frag} {pen : Pc} {H0 : Hp} {L : Lv} {P : PyData → Prop} {te : TE} {tr : TA} {Pl : List PyData → Prop}
theorem pair_lt (a y : Int × Int) : (PySem.W.dataLt (pairD a) (pairD y) = true → a.1 ≤ y.1) ∧ (PySem.W.dataLt (pairD a) (pairD y) = false → y.1 ≤ a.1) := by
  obtain ⟨a1, a2⟩ := a
  obtain ⟨y1, y2⟩ := y
  show (PySem.W.dataLt (.tuple [.int a1, .int a2]) (.tuple [.int y1, .int y2]) = true → a1 ≤ y1) ∧ (PySem.W.dataLt (.tuple [.int a1, .int a2]) (.tuple [.int y1, .int y2]) = false → y1 ≤ a1)
  rw [PySem.W.dataLt_tuple]
  by_cases e : a1 = y1
  · subst e
    exact ⟨fun _ => Int.le_refl _, fun _ => Int.le_refl _⟩
  · have ne : PyData.eqv (.int a1) (.int y1) = false := by
      show decide (a1 = y1) = false
      exact decide_eq_false e
    rw [PySem.W.dataLt_all_no (by rfl) ne, PySem.W.dataLt_int]
    exact ⟨fun h => Int.le_of_lt (of_decide_eq_true h), fun h => by have := of_decide_eq_false h; omega⟩
theorem maxD_pairs (c0 : Int × Int) : ∀ cs : List (Int × Int), ∃ m ∈ c0 :: cs, PySem.W.maxD (pairD c0) (pairsL cs) = pairD m ∧ ∀ y ∈ c0 :: cs, y.1 ≤ m.1 := fun cs => by
  unfold PySem.W.maxD pairsL
  induction cs generalizing c0 with
  | nil => exact ⟨c0, List.mem_cons_self .., rfl, fun y hy => by rw [List.mem_singleton.mp hy]; exact Int.le_refl _⟩
  | cons c cs ih =>
    rw [List.map_cons, List.foldl_cons]
    obtain ⟨q1, q2⟩ := pair_lt c0 c
    cases hb : PySem.W.dataLt (pairD c0) (pairD c) with
    | true =>
      rw [if_pos rfl]
      obtain ⟨m, h1, h2, h3⟩ := ih c
      refine ⟨m, List.mem_cons_of_mem _ h1, h2, fun y hy => ?_⟩
      rcases List.mem_cons.mp hy with rfl | hy
      · have := q1 hb
        have := h3 c (List.mem_cons_self ..)
        omega
      · exact h3 y hy
    | false =>
      rw [if_neg Bool.false_ne_true]
      obtain ⟨m, h1, h2, h3⟩ := ih c0
      refine ⟨m, ?_, h2, fun y hy => ?_⟩
      · rcases List.mem_cons.mp h1 with z | z
        · rw [z]; exact List.mem_cons_self ..
        · exact List.mem_cons_of_mem _ (List.mem_cons_of_mem _ z)
      · rcases List.mem_cons.mp hy with z | hy
        · rw [z]; exact h3 c0 (List.mem_cons_self ..)
        · rcases List.mem_cons.mp hy with z | hy
          · have := q2 hb
            have := h3 c0 (List.mem_cons_self ..)
            rw [z]
            omega
          · exact h3 y (List.mem_cons_of_mem _ hy)
theorem alike_pairs (cs : List (Int × Int)) : PySem.W.AlikeAll (pairsL cs) := ⟨fun x hx y hy => by
  obtain ⟨a, _, rfl⟩ := List.mem_map.mp hx
  obtain ⟨b, _, rfl⟩ := List.mem_map.mp hy
  rfl, fun x hx => by
  obtain ⟨a, _, rfl⟩ := List.mem_map.mp hx
  exact fun z => by cases z⟩
theorem depth_pairs : ∀ cs : List (Int × Int), PyData.depthAll (pairsL cs) ≤ 1
  | [] => Nat.zero_le _
  | c :: cs => by
    show PyData.depthAll (pairD c :: pairsL cs) ≤ 1
    rw [PyData.depthAll]
    exact Nat.max_le.mpr ⟨Nat.le_of_ble_eq_true rfl, depth_pairs cs⟩
theorem c_maxP {c0 : Int × Int} {cs : List (Int × Int)} (p : ∀ m, m ∈ c0 :: cs → (∀ y, y ∈ c0 :: cs → y.1 ≤ m.1) → P (pairD m)) : RCd K pen (rMaxP K) [.list (pairsL (c0 :: cs))] P := fun vs G H v hv Q q => by
  cases hv with
  | cons h1 h2 =>
    cases h2
    cases h1 with
    | lst hs ha =>
      obtain ⟨m, m1, m2, m3⟩ := maxD_pairs c0 cs
      refine ⟨_, _, pairD c0, pairsL cs, rfl, sqL_mono v.vw hs, dpa_mono v.vw _ _ ha, alike_pairs (c0 :: cs), Nat.le_trans (depth_pairs (c0 :: cs)) (by decide), fun i y hy hd => ?_⟩
      obtain ⟨d, e1, e2⟩ := dpa_getV ha hy
      have e3 : d = pairD m := by
        rw [← m2]
        exact Option.some.inj (e1.symm.trans hd)
      subst e3
      exact q y _ G H (.refl v) e2 (p m m1 m3)
theorem ea_star (h : E K pen H0 te L fun d => ∃ ds, (d = .tuple ds ∨ d = .list ds) ∧ EA K pen H0 tr L fun es => Pl (ds ++ es)) : EA K pen H0 (StX.tStar K te tr) L Pl := fun σ G H e Q q =>
  h σ G H e _ fun v d G1 H1 g1 d1 ⟨ds, hds, h1⟩ => by
    rcases hds with rfl | rfl
    · cases d1 with
      | tup hs ha => exact ⟨_, _, rfl, .inl (sqT_mono g1.vw.vw hs), h1 σ G1 H1 (e.go g1) _ fun vs es G2 H2 g2 d2 p => q _ _ G2 H2 (g1.trans g2) (dpa_app (dpa_mono g2.gg _ _ ha) d2) p⟩
    · cases d1 with
      | lst hs ha => exact ⟨_, _, rfl, .inr (sqL_mono g1.vw.vw hs), h1 σ G1 H1 (e.go g1) _ fun vs es G2 H2 g2 d2 p => q _ _ G2 H2 (g1.trans g2) (dpa_app (dpa_mono g2.gg _ _ ha) d2) p⟩
end
end Dl
set_option Elab.async false
set_option linter.all false
set_option maxRecDepth 100000
/-! one's own list: pop at a place, insert; abs -/
namespace Dl
open PySem PySem.Spec PyProof.Rows L2
variable {K : PySem.W.Frag} {pen : Pc} {H0 : Hp} {L : Lv} {D : Dn} {te ta : TE} {P : PyData → Prop}
theorem s_popAtD {j : Nat} {ds : List PyData} (hj : L[j]? = some (some (.own (.lst ds)))) (h : E K pen H0 te L fun d => ∃ m : Nat, d = .int m ∧ m < ds.length ∧ m < 100000 ∧ D.nx (L.set j (some (.own (.lst (ds.eraseIdx m)))))) (nf : noFr L = true := by rfl) :
    S K pen H0 (tDrop (tBM K "list" rPopAt (tVar j) (tCons te tNil))) L D := fun σ G H N e n1 _ _ _ _ _ => by
  obtain ⟨l, ho, k1, k3, k6⟩ := e.own hj
  obtain ⟨vs, rfl, k6⟩ := k6.lst
  refine ⟨_, k1, .inl ⟨rfl, vs, .inl (.inl k3)⟩, h σ G H e _ fun v d G1 H1 g1 d1 ⟨m, hm, hml, hmz, p⟩ => ?_⟩
  subst hm
  cases d1
  have e1 := e.go g1
  obtain ⟨ho2, q3, q6⟩ := e1.ownAt hj k1
  obtain ⟨vs2, rfl, q6⟩ := q6.lst
  have hl := dpa_len q6
  obtain ⟨r1, r2⟩ := e1.putOwn nf hj k1 (o' := .lst (ds.eraseIdx m)) (ho := .lst (vs2.eraseIdx m)) (dpa_erase m q6)
  refine ⟨l, vs2, m, m, _, rfl, rfl, q3, by omega, by omega, ?_, List.getElem?_eq_getElem (by omega), n1 σ G1 _ _ ((e.gx g1).trans r2) r1 p⟩
  unfold seqIndex?
  simp
  omega
theorem s_insOwn {j : Nat} {ds : List PyData} (hj : L[j]? = some (some (.own (.lst ds)))) (hz : ds.length < 100000) (h : E K pen H0 ta L fun a => E K pen H0 te L fun d => ∃ m : Nat, a = .int m ∧ m < 100000 ∧ D.nx (L.set j (some (.own (.lst (ds.take m ++ [d] ++ ds.drop m)))))) (nf : noFr L = true := by rfl) :
    S K pen H0 (tDrop (tBM K "list" (fun x vs H Q => ∃ (l : Addr) (xs : List V) (i : Int) (y : V), x = .ref l ∧ vs = [.int i, y] ∧ H l = some (.lst xs) ∧ xs.length < sizeLine ∧ 0 ≤ i ∧ i < 2 ^ 63 ∧ Q .non (upd H l (.lst (xs.take i.toNat ++ [y] ++ xs.drop i.toNat)))) (tVar j) (tCons ta (tCons te tNil)))) L D := fun σ G H N e n1 _ _ _ _ _ => by
  obtain ⟨l, ho, k1, k3, k6⟩ := e.own hj
  obtain ⟨vs, rfl, k6⟩ := k6.lst
  refine ⟨_, k1, .inl ⟨rfl, vs, .inl (.inl k3)⟩, h σ G H e _ fun v a G1 H1 g1 d1 h1 => ?_⟩
  refine h1 σ G1 H1 (e.go g1) _ fun u d G2 H2 g2 d2 ⟨m, hm, hmz, p⟩ => ?_
  subst hm
  cases d1
  have e2 := (e.go g1).go g2
  obtain ⟨ho2, q3, q6⟩ := e2.ownAt hj k1
  obtain ⟨vs2, rfl, q6⟩ := q6.lst
  have hl := dpa_len q6
  obtain ⟨r1, r2⟩ := e2.putOwn nf hj k1 (o' := .lst (ds.take m ++ [d] ++ ds.drop m)) (ho := .lst (vs2.take m ++ [u] ++ vs2.drop m)) (dpa_app (dpa_app (dpa_take m q6) (.cons d2 .nil)) (dpa_drop m q6))
  exact ⟨l, vs2, m, u, rfl, rfl, q3, Nat.lt_of_lt_of_le (by omega) (by decide : 100000 ≤ sizeLine), by omega, by omega, n1 σ G2 _ _ (((e.gx g1).trans ((e.go g1).gx g2)).trans r2) r1 p⟩
theorem c_abs {i : Int} (p : P (.int (if i < 0 then -i else i))) : RCd K pen (fun xs H Q => ∃ i, xs = [.int i] ∧ Q (.int (if i < 0 then -i else i)) H) [.int i] P := fun vs G H v hv Q q => by
  cases hv with
  | cons h1 h2 =>
    cases h2
    cases h1
    exact ⟨i, rfl, q _ _ G H (.refl v) (.int _) p⟩
end Dl
set_option Elab.async false
set_option linter.all false
set_option maxRecDepth 100000
/-! order of pairs, lists turned about, the greatest of a dict's values, sorted sets of pairs -/
namespace Dl
open PySem PySem.Spec PyProof.Rows L2
def rLtD (K : PySem.W.Frag) : R2 := fun x y H Q => ∃ da db, Dp K H x da ∧ Dp K H y db ∧ PySem.W.alike da db = true ∧ da ≠ .none ∧ da.depth ≤ 30 ∧ Q (.bl (PySem.W.dataLt da db)) H
def rGeD (K : PySem.W.Frag) : R2 := fun x y H Q => ∃ da db, Dp K H x da ∧ Dp K H y db ∧ PySem.W.alike da db = true ∧ da ≠ .none ∧ da.depth ≤ 30 ∧ Q (.bl (!PySem.W.dataLt da db)) H
section
variable {X : Cx}
theorem op_ltD (hu : X.A.units + 64 < cLine) : OpR X (compareOp .Lt) (rLtD X.K) := by
  intro pins s σ H x y v u Q I rx ry h
  obtain ⟨da, db, h1, h2, h3, h4, h5, q⟩ := h
  obtain ⟨as, r1⟩ := Dp.reads I da x v h1 rx
  obtain ⟨bs, r2⟩ := Dp.reads I db y u h2 ry
  have := Nat.min_le_left da.depth db.depth
  exact PySem.W.rcLt_alike da db X.A s v u as bs r1 r2 h3 h4 (by omega) X.prog X.w X.xe _ ⟨.bl _, H, I, rfl, q⟩
theorem op_geD (hu : X.A.units + 64 < cLine) : OpR X (compareOp .GtE) (rGeD X.K) := by
  intro pins s σ H x y v u Q I rx ry h
  obtain ⟨da, db, h1, h2, h3, h4, h5, q⟩ := h
  obtain ⟨as, r1⟩ := Dp.reads I da x v h1 rx
  obtain ⟨bs, r2⟩ := Dp.reads I db y u h2 ry
  have := Nat.min_le_left da.depth db.depth
  exact PySem.W.rcGe_alike da db X.A s v u as bs r1 r2 h3 h4 (by omega) X.prog X.w X.xe _ ⟨.bl _, H, I, rfl, q⟩
theorem kx_ltD {K : PySem.W.Frag} (h : X.K = K) (hu : X.A.units + 64 < cLine) : OpR X (compareOp .Lt) (rLtD K) := by subst h; exact op_ltD hu
theorem kx_geD {K : PySem.W.Frag} (h : X.K = K) (hu : X.A.units + 64 < cLine) : OpR X (compareOp .GtE) (rGeD K) := by subst h; exact op_geD hu
theorem kx_revL {K : PySem.W.Frag} {e : Expr} {te : TE} {k : Nat} {p1 p2 p3 pos : Pos} (h : X.K = K) (he : PE X e te) : PE X (.Subscript e (.Slice none none (some (.UnaryOp .USub (.Constant (.int 1) k p1) p2)) p3) pos) (tRevL K te) := by subst h; exact pe_revL he
theorem kx_setOfT {K : PySem.W.Frag} {P : Program} {w : World} (h : X.K = K) (hP : X.prog = P) (hw : X.w = w) (hc : X.calm = true) (hu : X.A.units + 64 < cLine) : CallR X (.type "set") (rSetOfT K P w) := by subst h hP hw; exact cr_setOfT hc hu
theorem kx_sortedT {K : PySem.W.Frag} {P : Program} {w : World} (h : X.K = K) (hP : X.prog = P) (hw : X.w = w) (hc : X.calm = true) : CallR X (.builtin "sorted") (rSortedT K P w) := by subst h hP hw; exact cr_sortedT hc
end
section
variable {K : PySem.W.Frag} {pen : Pc} {H0 : Hp} {L : Lv} {P : PyData → Prop} {te : TE} {Pl : List PyData → Prop}
theorem r_ltP {a b : Int × Int} (p : P (.bool (PySem.W.dataLt (pairD a) (pairD b)))) : R2d K pen (rLtD K) (pairD a) (pairD b) P := fun x y G H v hx hy Q q =>
  ⟨_, _, dp_mono v.vw _ _ hx, dp_mono v.vw _ _ hy, rfl, (fun z => by cases z), (show (1 : Nat) ≤ 30 by decide), q _ _ G H (.refl v) (.bl _) p⟩
theorem r_geP {a b : Int × Int} (p : P (.bool (!PySem.W.dataLt (pairD a) (pairD b)))) : R2d K pen (rGeD K) (pairD a) (pairD b) P := fun x y G H v hx hy Q q =>
  ⟨_, _, dp_mono v.vw _ _ hx, dp_mono v.vw _ _ hy, rfl, (fun z => by cases z), (show (1 : Nat) ≤ 30 by decide), q _ _ G H (.refl v) (.bl _) p⟩
theorem dpa_rev {G : Hp} : ∀ {vs : List V} {ds : List PyData}, DpAll K G vs ds → DpAll K G vs.reverse ds.reverse
  | _, _, .nil => .nil
  | _, _, .cons h t => by rw [List.reverse_cons, List.reverse_cons]; exact dpa_app (dpa_rev t) (.cons h .nil)
theorem el_revL (h : E K pen H0 te L fun d => ∃ ds, d = .list ds ∧ Pl ds.reverse) : EL K pen H0 (tRevL K te) L Pl := fun σ G H e Q q =>
  h σ G H e _ fun v d G1 H1 go hd ⟨ds, hds, p⟩ => by
    subst hds
    cases hd with
    | lst hs ha =>
      rename_i a xs
      refine ⟨a, xs, rfl, sqL_mono go.vw.vw hs, fun r hr => ?_⟩
      have e1 := e.go go
      have g2 := Go.hid e1.vw (o := .lst xs.reverse) hr
      exact q r _ _ G1 _ (go.trans g2) upd_same (e1.gnone hr) (EL.out e go hr) (dpa_rev ha) p
theorem dp_intV {G : Hp} {v : V} {n : Int} (h : Dp K G v (.int n)) : v = .int n := by cases h; rfl
theorem e_maxVals {c : Int} {j : Nat} {m : List (Key × PyData)} {ns : List Int} (hj : RdO L j (.dK m)) (hm : m.map (·.2) = intsL ns) (h0 : ns = [] → P (.int c)) (h1 : ∀ x, x ∈ ns → (∀ y ∈ ns, y ≤ x) → P (.int x)) : E K pen H0 (_root_.Gx.tMaxVals (tVar j) c) L P := fun σ G H e Q q => by
  obtain ⟨l, ho, k1, k3, k6⟩ := e.rd hj
  obtain ⟨kvs, rfl, k6⟩ := k6.dK
  have key : ∀ {kvs : List (Key × V)} {m : List (Key × PyData)} {ns : List Int}, KvOk K G kvs m → m.map (·.2) = intsL ns → kvs.map (·.2) = ns.map V.int := fun {kvs m ns} h => by
    induction h generalizing ns with
    | nil => intro hm; cases ns with
      | nil => rfl
      | cons a b => cases hm
    | cons hd tl ih =>
      intro hm
      cases ns with
      | nil => cases hm
      | cons a b =>
        have e1 := (List.cons.inj hm).1
        have e2 := (List.cons.inj hm).2
        rw [List.map_cons, List.map_cons, ih e2]
        have h3 := hd.2
        have e1 : _ = PyData.int a := e1
        simp only at e1
        rw [e1] at h3
        exact congrArg (· :: b.map V.int) (dp_intV h3)
  exact ⟨_, k1, l, kvs, ns, rfl, k3, key k6 hm, fun hn => q _ _ G H (.refl e.vw) (.int _) (h0 hn), fun x hx hy => q _ _ G H (.refl e.vw) (.int _) (h1 x hx hy)⟩
end
end Dl
set_option Elab.async false
set_option linter.all false
set_option maxRecDepth 100000
namespace Dl
open PySem PySem.Spec PyProof.Rows L2
section
variable {K : PySem.W.Frag} {pen : Pc} {H0 : Hp} {L : Lv} {te : TE} {Pl : List PyData → Prop} {P : Program} {w : World}
theorem dpa_two {G : Hp} {xs : List V} {a b : Int} (h : DpAll K G xs [.int a, .int b]) : xs = [.int a, .int b] := by
  cases h with
  | cons h1 t =>
    cases t with
    | cons h2 t2 =>
      cases t2
      rw [dp_intV h1, dp_intV h2]
theorem dpa_pairs {G : Hp} : ∀ {cs : List (Int × Int)} {vs : List V}, DpAll K G vs (pairsL cs) → ∃ ks : List (Addr × List Int), vs = ks.map (fun p => V.ref p.1) ∧ (∀ p ∈ ks, SqT K G p.1 (p.2.map V.int) ∧ p.2.length = 2) ∧ ks.length = cs.length
  | [], _, h => by cases h; exact ⟨[], rfl, fun p hp => (nomatch hp), rfl⟩
  | c :: cs, vs, h => by
    have h : DpAll K G vs (.tuple [.int c.1, .int c.2] :: pairsL cs) := h
    cases h with
    | cons h1 t =>
      obtain ⟨ks, e1, e2, e3⟩ := dpa_pairs t
      cases h1 with
      | tup hs ha =>
        rename_i a xs
        have := dpa_two ha
        subst this
        subst e1
        refine ⟨(a, [c.1, c.2]) :: ks, rfl, fun p hp => ?_, by rw [List.length_cons, List.length_cons, e3]⟩
        rcases List.mem_cons.mp hp with rfl | hp
        · exact ⟨hs, rfl⟩
        · exact e2 p hp
theorem dpa_back {G : Hp} : ∀ {ks : List (Addr × List Int)}, (∀ p ∈ ks, SqT K G p.1 (p.2.map V.int) ∧ p.2.length = 2) → ∃ cs : List (Int × Int), DpAll K G (ks.map fun p => V.ref p.1) (pairsL cs) ∧ cs.length = ks.length
  | [], _ => ⟨[], .nil, rfl⟩
  | k :: ks, h => by
    obtain ⟨cs, e1, e2⟩ := dpa_back fun p hp => h p (List.mem_cons_of_mem _ hp)
    obtain ⟨h1, h2⟩ := h k (List.mem_cons_self ..)
    obtain ⟨a, l⟩ := k
    dsimp only at h1 h2
    match l, h2, h1 with
    | [x, y], _, h1 => exact ⟨(x, y) :: cs, .cons (.tup h1 (.cons (.int _) (.cons (.int _) .nil))) e1, by rw [List.length_cons, List.length_cons, e2]⟩
end
def rSortSetP (K : PySem.W.Frag) (P : Program) (w : World) : List V → Hp → VK → Prop := fun us H Q => ∃ (b : Addr) (M : List (Addr × List Int)), us = [V.ref b] ∧ H b = some (SetTO P w b M) ∧ (∀ p ∈ M, SqT K H p.1 (p.2.map V.int) ∧ p.2.length = 2) ∧
  ∀ (N : List (Addr × List Int)) (r : Addr), (∀ p ∈ N, p ∈ M) → N.length < 64 → H r = none → Q (.ref r) (upd H r (.lst (N.map fun p => V.ref p.1)))
theorem refs_in {M : List (Addr × List Int)} : ∀ (us : List Value), (∀ u ∈ us, ∃ p ∈ M, u = Value.ref p.1) → ∃ N : List (Addr × List Int), us = N.map (fun p => Value.ref p.1) ∧ ∀ p ∈ N, p ∈ M
  | [], _ => ⟨[], rfl, fun _ z => nomatch z⟩
  | u :: us, h => by
    obtain ⟨p, hp, e⟩ := h u (List.mem_cons_self ..)
    obtain ⟨N, e1, e2⟩ := refs_in us fun v hv => h v (List.mem_cons_of_mem _ hv)
    exact ⟨p :: N, by rw [e, e1]; rfl, fun r hr => (List.mem_cons.mp hr).elim (fun z => z ▸ hp) (e2 r)⟩
section
variable {X : Cx}
theorem cr_sortSetP (calm : X.calm = true) : CallR X (.builtin "sorted") (rSortSetP X.K X.prog X.w) := by
  intro pins s σ H us cs Q I rr h
  obtain ⟨b, M, rfl, hb, hM, q⟩ := h
  have zero : SetT0 X.prog X.w s.heap b M := (I.hok b _ hb).1
  obtain ⟨es, ep, t, S⟩ := zero.full fun p hp => I.isT (hM p hp).1
  rw [Vals.ref1 rr]
  obtain ⟨ob, gob, exo, dob⟩ := S.ob
  have size64 := S.size
  have few64 := S.few
  refine Calls.call_function_entry kind_sorted plain_sorted entry_sorted (args_sorted1 _) ?_
  unfold Builtin.«sorted»
  refine wpAny_bind (m := checkCount "sorted" 1 1 _) (wpAny_pure ?_)
  refine wpAny_bind (collect_set (A := X.A.in1) (I.ok.hd calm) ⟨ob, gob, exo.1, dob⟩ S.fits (by unfold scanBound; omega) S.tab.ris S.led fun s1 vs keep1 grown gens1 os1 perm1 => ?_)
  have esM : es.toList.map (·.2) = M.map fun p => Value.ref p.1 := by
    rw [S.rows]
    unfold rowsOf
    rw [List.map_map] <;> rfl
  rw [esM] at perm1
  have short : vs.length < 64 := by rw [perm1.length_eq, List.length_map]; exact few64
  have vline : vs.length ≤ sizeLine := by rw [sizeLine_eq]; omega
  refine wpAny_bind (wpAny_newList ?_ vline)
  have laid : (s1.heap.push (seqObj "list" vs.toArray 0)).get? s1.heap.objs.size = some (seqObj "list" vs.toArray 0) := Heap.get?_push_size _ rfl
  have pairs : ∀ v ∈ vs, ∃ x y, Srt.IsPair (s1.heap.push (seqObj "list" vs.toArray 0)) v x y := fun v hv => by
    obtain ⟨p, hp, rfl⟩ := List.mem_map.mp (perm1.mem_iff.mp hv)
    obtain ⟨a, l⟩ := p
    obtain ⟨k1, k2⟩ := hM _ hp
    dsimp only at k1 k2
    match l, k2, k1 with
    | [x, y], _, k1 =>
      obtain ⟨two, r2, ⟨o2, h1, h2, n2, h3⟩, _⟩ := I.tuple k1
      obtain ⟨c1, c2, rfl, ⟨j1, rfl⟩, ⟨j2, rfl⟩⟩ := vals2 r2
      exact ⟨x, y, a, o2, j1, j2, n2, rfl, Heap.get?_push_of_some _ (keep1 _ _ h1), h2, h3⟩
  have noTup : ∀ o, (s1.heap.push (seqObj "list" vs.toArray 0)).get? s1.heap.objs.size = some o → o.cls ≠ .type "tuple" := fun o e c => by
    have e2 := e.symm.trans laid
    cases e2
    exact absurd (Value.type.inj c) (by decide)
  refine wpAny_bind (wpAny_holding (wpAny_call_entry slot_list_sort ⟨_, laid, rfl⟩ entry_list_sort (Srt.list_sort_any (s := { s1 with heap := s1.heap.push (seqObj "list" vs.toArray 0) }) laid vline (fun h2 => Srt.pairs_sortable (by omega) pairs noTup) fun out perm2 => ⟨_, rfl, ?_⟩) (args_list_sort _)))
  obtain ⟨c, gc⟩ := sortedHeap_at (vs := vs) (out := out.toArray) laid
  obtain ⟨N, eN, inN⟩ := refs_in (M := M) out fun u hu => by
    obtain ⟨p, hp, e⟩ := List.mem_map.mp (perm1.mem_iff.mp (perm2.mem_iff.mp hu))
    exact ⟨p, hp, e.symm⟩
  have lenN : N.length < 64 := by
    have z := perm2.length_eq
    rw [eN, List.length_map] at z
    omega
  have fresh : H s1.heap.objs.size = none := I.hok.fresh grown
  have whole : ∀ a o, s.heap.get? a = some o → (sortedHeap (s1.heap.push (seqObj "list" vs.toArray 0)) s1.heap.objs.size vs out.toArray).get? a = some o := fun a o e => by
    have e1 := keep1 a o e
    have lt1 := Heap.lt_size e1
    rw [sortedHeap_old (Nat.ne_of_lt lt1) (by rw [size_push']; exact Nat.lt_succ_of_lt lt1)]
    exact Heap.get?_push_of_some _ e1
  refine wpAny_pure ⟨_, rfl, ?_⟩
  have J : Inv X pins σ (upd H s1.heap.objs.size (.lst (N.map fun p => V.ref p.1))) { s with heap := sortedHeap (s1.heap.push (seqObj "list" vs.toArray 0)) s1.heap.objs.size vs out.toArray, gens := s1.gens, drawn := s1.drawn, toks := s1.toks } :=
    I.call (ch := []) (Un.laid whole grown fresh) (I.hok.laid whole grown ⟨by rw [List.length_map, sizeLine_eq]; omega, out, c, by rw [eN]; exact vals_of_refs N, gc⟩) (by rw [gens1]; exact I.bare) (fun _ z => nomatch z)
  refine ⟨.ref s1.heap.objs.size, _, ?_, rfl, q N _ inN lenN fresh⟩
  cases s1
  cases s
  cases os1
  exact J
theorem kx_sortSetP {K : PySem.W.Frag} {P : Program} {w : World} (h : X.K = K) (hP : X.prog = P) (hw : X.w = w) (hc : X.calm = true) : CallR X (.builtin "sorted") (rSortSetP K P w) := by subst h hP hw; exact cr_sortSetP hc
end
section
variable {K : PySem.W.Frag} {pen : Pc} {H0 : Hp} {L : Lv} {te : TE} {Pl : List PyData → Prop} {P : Program} {w : World}
theorem el_sortSetP (h : E K pen H0 te L fun d => ∃ cs : List (Int × Int), d = .list (pairsL cs) ∧ cs.length < 64 ∧ ∀ cs' : List (Int × Int), cs'.length < 64 → Pl (pairsL cs')) :
    EL K pen H0 (tCB (rSortSetP K P w) (tCons (tCB (rSetOfT K P w) (tCons te tNil)) tNil)) L Pl := fun σ G H e Q q =>
  h σ G H e _ fun v d G1 H1 go hd ⟨cs, hcs, hl, p⟩ => by
    subst hcs
    cases hd with
    | lst hs ha =>
      rename_i a vs
      obtain ⟨ks, rfl, k2, k3⟩ := dpa_pairs ha
      have e1 := e.go go
      refine ⟨a, ks, rfl, sqL_mono go.vw.vw hs, fun p hp => sqT_mono go.vw.vw (k2 p hp).1, by omega, fun b M hb m1 m2 => ?_⟩
      have g2 := Go.hid e1.vw (o := SetTO P w b M) hb
      have e2 := e1.go g2
      refine ⟨b, M, rfl, upd_same, fun p hp => ⟨sqT_mono g2.vw.vw (k2 p (m1 p hp)).1, (k2 p (m1 p hp)).2⟩, fun N r inN lenN hr => ?_⟩
      have g3 := Go.hid e2.vw (o := .lst (N.map fun q => V.ref q.1)) hr
      obtain ⟨cs', c1, c2⟩ := dpa_back (K := K) (G := G1) (ks := N) fun p hp => k2 p (m1 p (inN p hp))
      exact q r _ _ G1 _ ((go.trans g2).trans g3) upd_same (e2.gnone hr) (EL.out e (go.trans g2) hr) c1 (p cs' (by omega))
end
section
variable {K : PySem.W.Frag} {pen : Pc} {P : PyData → Prop}
theorem r_isBl {i j : Bool} (p : P (.bool (decide (i = j)))) : R2d K pen rIsB (.bool i) (.bool j) P := fun x y G H v hx hy Q q => by
  cases hx
  cases hy
  exact ⟨i, j, rfl, rfl, q _ _ G H (.refl v) (.bl _) p⟩
end
end Dl
set_option Elab.async false
set_option linter.all false
set_option maxRecDepth 100000
/-! sorted pairs in their order, extend, any of a list of truths -/
namespace Dl
open PySem PySem.Spec PyProof.Rows L2
abbrev LexLe (a b : Int × Int) : Prop := SrtO.lexB b a = false
def rSortPO (K : PySem.W.Frag) : List V → Hp → VK → Prop := fun us H Q => ∃ (b : Addr) (zs : List V) (ps : List (Int × Int)), us = [V.ref b] ∧ SqL K H b zs ∧ ps.length = zs.length ∧
  (∀ (i : Nat) z c, zs[i]? = some z → ps[i]? = some c → ∃ t, z = V.ref t ∧ SqT K H t [.int c.1, .int c.2]) ∧
  ∀ (ws : List V) (qs : List (Int × Int)) r, ws.length = qs.length → (ws.zip qs).Perm (zs.zip ps) → qs.Pairwise LexLe → H r = none → Q (.ref r) (upd H r (.lst ws))
theorem zip_maps {α β γ : Type} (f : α → β) (g : α → γ) : ∀ l : List α, (l.map f).zip (l.map g) = l.map fun x => (f x, g x)
  | [] => rfl
  | x :: l => congrArg (List.cons (f x, g x)) (zip_maps f g l)
theorem map_of_at {α β : Type} {l : List α} {m : List β} {f : α → β} (hl : m.length = l.length) (h : ∀ (i : Nat) x y, l[i]? = some x → m[i]? = some y → f x = y) : l.map f = m := by
  apply List.ext_getElem?
  intro i
  rw [List.getElem?_map]
  by_cases hi : i < l.length
  · rw [List.getElem?_eq_getElem hi, List.getElem?_eq_getElem (show i < m.length by omega)]
    exact congrArg some (h i _ _ (List.getElem?_eq_getElem hi) (List.getElem?_eq_getElem (by omega)))
  · rw [List.getElem?_eq_none (by omega), List.getElem?_eq_none (by omega)]
    rfl
section
variable {X : Cx}
open Classical in
noncomputable def pairAt (h : Heap) (v : Value) : Int × Int := if q : ∃ c : Int × Int, Srt.IsPair h v c.1 c.2 then q.choose else (0, 0)
theorem pairAt_eq {h : Heap} {v : Value} {c : Int × Int} (p : Srt.IsPair h v c.1 c.2) : pairAt h v = c := by
  unfold pairAt
  have q : ∃ c : Int × Int, Srt.IsPair h v c.1 c.2 := ⟨c, p⟩
  rw [dif_pos q]
  obtain ⟨a, o, t, u, n, e1, e2, e3, e4⟩ := p
  obtain ⟨a', o', t', u', n', f1, f2, f3, f4⟩ := q.choose_spec
  rw [e1] at f1
  cases f1
  rw [e2] at f2
  cases f2
  rw [e4] at f4
  have f5 := (Data.seq.inj f4).1
  have f6 := congrArg Array.toList f5
  have f7 := (List.cons.inj f6).1
  have f8 := (List.cons.inj (List.cons.inj f6).2).1
  have g1 := (Value.int.inj f7).1
  have g2 := (Value.int.inj f8).1
  exact Prod.ext g1.symm g2.symm
theorem cr_sortPO : CallR X (.builtin "sorted") (rSortPO X.K) := by
  intro pins s σ H us cs Q I r h
  obtain ⟨b, zs, ps, rfl, hb, hlen, hz, q⟩ := h
  obtain ⟨items, rv, hl, hsz⟩ := I.list hb
  rw [Vals.ref1 r]
  have hil : items.length = zs.length := rv.length.symm
  have refs : ∀ z ∈ zs, ∃ t, z = V.ref t := fun z hm => by
    obtain ⟨i, hi⟩ := List.mem_iff_getElem?.mp hm
    have hlt := (List.getElem?_eq_some_iff.mp hi).1
    obtain ⟨t, e, _⟩ := hz i z _ hi (List.getElem?_eq_getElem (show i < ps.length by omega))
    exact ⟨t, e⟩
  obtain ⟨m1, m2⟩ := refs_back rv refs
  have pairI : ∀ (i : Nat) v c, items[i]? = some v → ps[i]? = some c → Srt.IsPair s.heap v c.1 c.2 := fun i v c hv hc => by
    obtain ⟨t, rfl⟩ := m2 v (List.mem_of_getElem? hv)
    have hzv : zs[i]? = some (V.ref t) := by rw [m1, List.getElem?_map, hv]; rfl
    obtain ⟨t2, e, ht⟩ := hz i _ c hzv hc
    cases e
    obtain ⟨two, r2, ⟨ob, hob, hcl, n, hdat⟩, _⟩ := I.tuple ht
    obtain ⟨c1, c2, rfl, ⟨k1, rfl⟩, ⟨k2, rfl⟩⟩ := vals2 r2
    exact ⟨t, ob, k1, k2, n, rfl, hob, hcl, hdat⟩
  have keyI : items.map (pairAt s.heap) = ps := map_of_at (by omega) fun i v c hv hc => pairAt_eq (pairI i v c hv hc)
  refine SrtO.sorted_pairsO (k := pairAt s.heap) hl.isList (rv.length ▸ hsz) (fun v hv => ?_) fun h2 p out srt stb kept hp new => ?_
  · obtain ⟨i, hi⟩ := List.mem_iff_getElem?.mp hv
    have hlt := (List.getElem?_eq_some_iff.mp hi).1
    have hc : ps[i]? = some ps[i] := List.getElem?_eq_getElem (show i < ps.length by omega)
    have := pairI i v _ hi hc
    rw [pairAt_eq this]
    exact this
  · have perm := stb.perm
    have all : ∀ c ∈ out, ∃ a, c = Value.ref a := fun c hc => m2 c (perm.mem_iff.mp hc)
    obtain ⟨n, hn⟩ := new
    have hlen2 : (out.map backV).length ≤ sizeLine := by
      rw [List.length_map, perm.length_eq, ← rv.length]
      exact hsz
    refine ⟨.ref p, upd H p (.lst (out.map backV)), I.laid (t' := s.toks) kept hp ⟨hlen2, out, n, vals_back all, hn⟩, rfl, q _ (out.map (pairAt s.heap)) p (by rw [List.length_map, List.length_map]) ?_ ?_ (I.hok.fresh hp)⟩
    · rw [zip_maps, m1, ← keyI, zip_maps]
      exact perm.map _
    · rw [List.pairwise_map]
      exact srt
theorem kx_sortPO {K : PySem.W.Frag} (h : X.K = K) : CallR X (.builtin "sorted") (rSortPO K) := by subst h; exact cr_sortPO
theorem kx_any {K : PySem.W.Frag} (h : X.K = K) (hc : X.calm = true) : CallR X (.builtin "any") (rAny K) := by subst h; exact cr_any hc
end
section
variable {K : PySem.W.Frag} {pen : Pc} {H0 : Hp} {L : Lv} {P : PyData → Prop} {te : TE} {D : Dn} {Pl : List PyData → Prop}
theorem dpa_at {G : Hp} : ∀ {vs : List V} {ds : List PyData}, vs.length = ds.length → (∀ p ∈ vs.zip ds, Dp K G p.1 p.2) → DpAll K G vs ds
  | [], [], _, _ => .nil
  | v :: vs, d :: ds, hl, h => .cons (h (v, d) (List.mem_cons_self ..)) (dpa_at (by simpa using hl) fun p hp => h p (List.mem_cons_of_mem _ hp))
  | [], _ :: _, hl, _ => (by cases hl)
  | _ :: _, [], hl, _ => (by cases hl)
theorem dpa_zip {G : Hp} : ∀ {vs : List V} {ds : List PyData}, DpAll K G vs ds → ∀ p ∈ vs.zip ds, Dp K G p.1 p.2
  | _, _, .nil, p, hp => (nomatch hp)
  | _, _, .cons h t, p, hp => by
    rcases List.mem_cons.mp hp with rfl | hp
    · exact h
    · exact dpa_zip t p hp
theorem zip_mapR {α β γ : Type} (f : β → γ) : ∀ (l : List α) (m : List β), l.zip (m.map f) = (l.zip m).map fun p => (p.1, f p.2)
  | [], _ => rfl
  | _ :: _, [] => rfl
  | x :: l, y :: m => congrArg (List.cons (x, f y)) (zip_mapR f l m)
theorem zip_snd {α β : Type} : ∀ {l : List α} {m : List β}, l.length = m.length → (l.zip m).map (·.2) = m
  | [], [], _ => rfl
  | x :: l, y :: m, h => congrArg (List.cons y) (zip_snd (by simpa using h))
  | [], _ :: _, h => (by cases h)
  | _ :: _, [], h => (by cases h)
theorem el_sortPO (h : E K pen H0 te L fun d => ∃ ps : List (Int × Int), d = .list (pairsL ps) ∧ ∀ qs : List (Int × Int), qs.Perm ps → qs.Pairwise LexLe → Pl (pairsL qs)) : EL K pen H0 (tCB (rSortPO K) (tCons te tNil)) L Pl := fun σ G H e Q q => h σ G H e _ fun v d G1 H1 go hd ⟨ps, hds, p⟩ => by
  subst hds
  cases hd with
  | lst hs ha =>
    rename_i a xs
    have hlen : ps.length = xs.length := by
      have := dpa_len ha
      unfold pairsL at this
      rw [List.length_map] at this
      exact this.symm
    refine ⟨a, xs, ps, rfl, sqL_mono go.vw.vw hs, hlen, fun i z c hz hc => ?_, fun ws qs r hl hp ho hr => ?_⟩
    · obtain ⟨d, hd, dd⟩ := dpa_getV ha hz
      unfold pairsL at hd
      rw [List.getElem?_map, hc] at hd
      cases hd
      cases dd with
      | tup k1 k2 =>
        have := dpa_two k2
        subst this
        exact ⟨_, rfl, sqT_mono go.vw.vw k1⟩
    · have hq : qs.Perm ps := by
        have := hp.map (·.2)
        rw [zip_snd hl, zip_snd hlen.symm] at this
        exact this
      have h2 : DpAll K G1 ws (pairsL qs) := by
        refine dpa_at (by unfold pairsL; rw [List.length_map]; exact hl) fun x hx => ?_
        unfold pairsL at hx
        rw [zip_mapR] at hx
        obtain ⟨y, hy, rfl⟩ := List.mem_map.mp hx
        have hm : y ∈ xs.zip ps := hp.mem_iff.mp hy
        have := dpa_zip ha (y.1, pairD y.2) (by unfold pairsL; rw [zip_mapR]; exact List.mem_map.mpr ⟨y, hm, rfl⟩)
        exact this
      have e1 := e.go go
      have g2 := Go.hid e1.vw (o := .lst ws) hr
      exact q r ws _ G1 _ (go.trans g2) upd_same (e1.gnone hr) (EL.out e go hr) h2 (p qs hq ho)
theorem s_extOwn {j : Nat} {ds : List PyData} (hj : L[j]? = some (some (.own (.lst ds)))) (h : EL K pen H0 te L fun es => ds.length + es.length ≤ 100000 ∧ D.nx (L.set j (some (.own (.lst (ds ++ es)))))) (nf : noFr L = true := by rfl) :
    S K pen H0 (tDrop (tBM K "list" rExtend (tVar j) (tCons te tNil))) L D := fun σ G H N e n1 _ _ _ _ _ => by
  obtain ⟨l, ho, k1, k3, k6⟩ := e.own hj
  obtain ⟨vs, rfl, k6⟩ := k6.lst
  refine ⟨_, k1, .inl ⟨rfl, vs, .inl (.inl k3)⟩, h σ G H e _ fun b zs es G1 H1 g1 b1 b2 b3 b4 ⟨hz, p⟩ => ?_⟩
  have e1 := e.go g1
  obtain ⟨ho2, q3, q6⟩ := e1.ownAt hj k1
  obtain ⟨vs2, rfl, q6⟩ := q6.lst
  obtain ⟨r1, r2⟩ := e1.putOwn nf hj k1 (o' := .lst (ds ++ es)) (ho := .lst (vs2 ++ zs)) (dpa_app q6 b4)
  exact ⟨l, b, vs2, zs, rfl, rfl, q3, b1, Nat.le_trans (by rw [dpa_len q6, dpa_len b4]; exact hz) (by decide : 100000 ≤ sizeLine), n1 σ G1 _ _ ((e.gx g1).trans r2) r1 p⟩
theorem c_anyL {bs : List Bool} (p : P (.bool (bs.any id))) : RCd K pen (rAny K) [.list (bs.map PyData.bool)] P := fun vs G H v hv Q q => by
  cases hv with
  | cons h1 h2 =>
    cases h2
    cases h1 with
    | lst hs ha =>
      have ex := dpa_bls ha
      subst ex
      exact ⟨_, bs, rfl, sqL_mono v.vw hs, q _ _ G H (.refl v) (.bl _) p⟩
end
end Dl
set_option Elab.async false
set_option linter.all false
set_option maxRecDepth 100000
set_option maxHeartbeats 4000000
/-! ### enumerate(zip(list, list)): the pair that zip gave out last may still be there, or not -/
namespace Dl
open PySem PySem.Spec PyProof.Rows L2
abbrev zoO (v : Value) (f : Bool) (TI TO : Addr) : Obj := { cls := .type "zip", data := .fields #[v, .bool f, .bool false, .ref TI, .ref TO] }
/-- a zip: nothing given out, or some pair -/
def ZSt (h : Heap) (z TI TO : Addr) : Prop := h.get? z = some (zoO .none false TI TO) ∨ ∃ (T : Addr) (f : Bool), h.get? z = some (zoO (rawInt T) f TI TO)
section
variable {prog : Program} {w : World} {A : Around} {E : Value → Shared → Prop} {s : Shared} {z TI TO i1 i2 l1 l2 : Addr} {k1 k2 : Nat} {xs ys : Array Value} {x y : Value}
theorem zAlive {a : Addr} {Q : Option Obj → Shared → Prop} (h : Q (s.heap.get? a) s) : wpAny (model prog w) A (loadIfAlive a) Q E s := fun _ _ _ => h
theorem zFreed {T : Addr} {f : Bool} {Q : Bool → Shared → Prop} (hz : s.heap.get? z = some (zoO (rawInt T) f TI TO)) (hT : s.heap.get? T = none) (q : Q true s) : wpAny (model prog w) A (Builtin.SmallTypes.ownedTupleIsFree (.ref z)) Q E s := by
  unfold Builtin.SmallTypes.ownedTupleIsFree
  refine wpAny_bind (wpAny_field hz rfl (x := rawInt T) rfl ?_)
  show wpAny _ _ (loadIfAlive (Int.toNat (T : Int)) >>= _) _ _ _
  rw [Int.toNat_natCast]
  refine wpAny_bind (zAlive ?_)
  rw [hT]
  exact wpAny_pure q
theorem zGo {T : Addr} {f : Bool} {a b : Value} {Q : Value → Shared → Prop} (D : ZipApart z TI TO i1 i2 l1 l2) (hz : s.heap.get? z = some (zoO (rawInt T) f TI TO)) (hT : s.heap.get? T = none)
    (tI : IsPair s.heap TI (.ref i1) (.ref i2)) (tO : IsPair s.heap TO a b) (j1 : s.heap.IsListIter i1 l1 k1) (j2 : s.heap.IsListIter i2 l2 k2) (m1 : s.heap.IsList l1 xs) (m2 : s.heap.IsList l2 ys) (hx : xs[k1]? = some x) (hy : ys[k2]? = some y)
    (hQ : ∀ h', ZSt h' z TI TO → IsPair h' TO x y → h'.IsListIter i1 l1 (k1 + 1) → h'.IsListIter i2 l2 (k2 + 1) → IsPair h' s.heap.objs.size x y → h'.objs.size = s.heap.objs.size + 1 →
      (∀ c o, c ≠ z → c ≠ TO → c ≠ i1 → c ≠ i2 → s.heap.get? c = some o → h'.get? c = some o) → Q (.ref s.heap.objs.size) { s with heap := h' }) :
    wpAny (model prog w) A (Builtin.«zip.__next__» ⟨[.ref z], []⟩) (fun r s' => ∃ v, r = .done (.ret v) ∧ Q v s') E s := by
  refine (show wpAny _ _ (field (.ref z) 2 >>= _) _ _ _ from wpAny_bind (wpAny_field hz rfl (x := .bool false) rfl ?_))
  refine (show wpAny _ _ (field (.ref z) 3 >>= _) _ _ _ from wpAny_bind (wpAny_field hz rfl (x := .ref TI) rfl (wpAny_bind (wpAny_seqItems tI rfl ?_))))
  refine (show wpAny _ _ (Builtin.SmallTypes.ownedTupleIsFree (.ref z) >>= _) _ _ _ from wpAny_bind (zFreed hz hT ?_))
  simp only [if_true]
  refine wpAny_bind (wpAny_rule (wpAny_bind (wpAny_field hz rfl (x := .ref TO) rfl (wpAny_bind (wpAny_setField_rec hz (by simp) fun g1 z1 e1 => ?_)))))
  replace z1 : g1.get? z = some (zoO .ellipsis f TI TO) := z1
  refine wpAny_bind ?_
  simp only [List.zipIdx_cons, List.zipIdx_nil, List.forIn_cons, List.forIn_nil]
  refine wpAny_bind (wpAny_bind (wpAny_onRaise (show wpAny _ _ (Builtin.SmallTypes.nextOf (.ref i1) >>= _) _ _ _ from wpAny_bind (wpAny_nextOf_list_item (j1.extBut e1.extBut D.i1z) (m1.extBut e1.extBut D.l1z) hx fun g2 n2 e2 => wpAny_pure ?_))))
  have o2 : IsPair g2 TO a b := e2.extBut _ _ D.TOi1 (e1.extBut _ _ D.TOz tO)
  refine wpAny_bind (wpAny_seqItems o2 rfl (wpAny_bind (wpAny_updateSeq_pair o2 fun g3 o3 e3 => ?_)))
  replace o3 : IsPair g3 TO x b := o3
  refine wpAny_bind (wpAny_letGo (wpAny_pure ?_))
  refine wpAny_bind (wpAny_bind (wpAny_onRaise (show wpAny _ _ (Builtin.SmallTypes.nextOf (.ref i2) >>= _) _ _ _ from wpAny_bind (wpAny_nextOf_list_item (((j2.extBut e1.extBut D.i2z).extBut e2.extBut D.i12.symm).extBut e3.extBut D.TOi2.symm) (((m2.extBut e1.extBut D.l2z).extBut e2.extBut D.l2i1).extBut e3.extBut D.l2TO) hy fun g4 n4 e4 => wpAny_pure ?_))))
  have o4 : IsPair g4 TO x b := e4.extBut _ _ D.TOi2 o3
  refine wpAny_bind (wpAny_seqItems o4 rfl (wpAny_bind (wpAny_updateSeq_pair o4 fun g5 o5 e5 => ?_)))
  replace o5 : IsPair g5 TO x y := o5
  refine wpAny_bind (wpAny_letGo (wpAny_pure (wpAny_pure ?_)))
  refine wpAny_bind (wpAny_seqItems o5 rfl (wpAny_bind (wpAny_newTuple ?_)))
  have sz : g5.objs.size = s.heap.objs.size := by rw [e5.1, e4.1, e3.1, e2.1, e1.1]
  have z5 : g5.get? z = some (zoO .ellipsis f TI TO) := e5.extBut _ _ D.TOz.symm (e4.extBut _ _ D.i2z.symm (e3.extBut _ _ D.TOz.symm (e2.extBut _ _ D.i1z.symm z1)))
  have kp : ∀ c o, c ≠ z → c ≠ TO → c ≠ i1 → c ≠ i2 → s.heap.get? c = some o → g5.get? c = some o := fun c o c1 c2 c3 c4 q => e5.extBut _ _ c2 (e4.extBut _ _ c4 (e3.extBut _ _ c2 (e2.extBut _ _ c3 (e1.extBut _ _ c1 q))))
  have n15 : g5.IsListIter i1 l1 (k1 + 1) := ((n2.extBut e3.extBut D.TOi1.symm).extBut e4.extBut D.i12).extBut e5.extBut D.TOi1.symm
  have n25 : g5.IsListIter i2 l2 (k2 + 1) := n4.extBut e5.extBut D.TOi2.symm
  have lz : z < g5.objs.size := Heap.lt_size z5
  refine (show wpAny _ _ (Builtin.SmallTypes.ownedTupleHandOut (.ref z) (.ref g5.objs.size) >>= _) _ _ _ from wpAny_bind ?_)
  unfold Builtin.SmallTypes.ownedTupleHandOut
  have z6 : (g5.push { cls := .type "tuple", data := .seq #[x, y] }).get? z = some (zoO .ellipsis f TI TO) := Heap.get?_push_of_some _ z5
  refine wpAny_bind (wpAny_setField_rec z6 (by simp) fun g7 z7 e7 => ?_)
  replace z7 : g7.get? z = some (zoO (rawInt g5.objs.size) f TI TO) := z7
  refine wpAny_setField_rec z7 (by simp) fun g8 z8 e8 => ?_
  replace z8 : g8.get? z = some (zoO (rawInt g5.objs.size) false TI TO) := z8
  have up : ∀ c o, c ≠ z → g5.get? c = some o → g8.get? c = some o := fun c o c1 q => e8.extBut _ _ c1 (e7.extBut _ _ c1 (Heap.get?_push_of_some _ q))
  have t8 : IsPair g8 g5.objs.size x y := e8.extBut _ _ (Nat.ne_of_gt lz) (e7.extBut _ _ (Nat.ne_of_gt lz) (Heap.get?_push_size _ rfl))
  have s8 : g8.objs.size = g5.objs.size + 1 := by rw [e8.1, e7.1, Heap.size_push]
  rw [sz] at t8 s8
  refine wpAny_pure ⟨_, rfl, ?_⟩
  show Q (.ref g5.objs.size) _
  rw [sz]
  exact hQ g8 (.inr ⟨_, _, z8⟩) (up _ _ D.TOz o5) (n15.at fun o q => up _ o D.i1z q) (n25.at fun o q => up _ o D.i2z q) t8 s8 fun c o c1 c2 c3 c4 q => up c o c1 (kp c o c1 c2 c3 c4 q)
theorem zEnd {T : Addr} {f : Bool} {a b : Value} {Q : Fin → Shared → Prop} (hh : A.handled = none) (D : ZipApart z TI TO i1 i2 l1 l2) (hz : s.heap.get? z = some (zoO (rawInt T) f TI TO)) (hT : s.heap.get? T = none)
    (tI : IsPair s.heap TI (.ref i1) (.ref i2)) (tO : IsPair s.heap TO a b) (j1 : s.heap.IsListIter i1 l1 k1) (j2 : s.heap.IsListIter i2 l2 k2) (m1 : s.heap.IsList l1 xs) (m2 : s.heap.IsList l2 ys) (hend : xs[k1]? = none ∨ ys[k2]? = none)
    (hE : ∀ h' e, (∀ c o, c ≠ z → c ≠ TO → c ≠ i1 → c ≠ i2 → s.heap.get? c = some o → h'.get? c = some o) → (∃ o, h'.get? e = some o ∧ o.cls = .type "StopIteration") → E (.ref e) { s with heap := h' }) :
    wpAny (model prog w) A (Builtin.«zip.__next__» ⟨[.ref z], []⟩) Q E s := by
  refine (show wpAny _ _ (field (.ref z) 2 >>= _) _ _ _ from wpAny_bind (wpAny_field hz rfl (x := .bool false) rfl ?_))
  refine (show wpAny _ _ (field (.ref z) 3 >>= _) _ _ _ from wpAny_bind (wpAny_field hz rfl (x := .ref TI) rfl (wpAny_bind (wpAny_seqItems tI rfl ?_))))
  refine (show wpAny _ _ (Builtin.SmallTypes.ownedTupleIsFree (.ref z) >>= _) _ _ _ from wpAny_bind (zFreed hz hT ?_))
  simp only [if_true]
  refine wpAny_bind (wpAny_rule (wpAny_bind (wpAny_field hz rfl (x := .ref TO) rfl (wpAny_bind (wpAny_setField_rec hz (by simp) fun g1 z1 e1 => ?_)))))
  replace z1 : g1.get? z = some (zoO .ellipsis f TI TO) := z1
  refine wpAny_bind ?_
  simp only [List.zipIdx_cons, List.zipIdx_nil, List.forIn_cons, List.forIn_nil]
  have out : ∀ {g : Heap} {e : Addr} {P : Prop}, g.get? z = some (zoO .ellipsis f TI TO) → (∃ o, g.get? e = some o ∧ o.cls = .type "StopIteration") → e ≠ z := fun {g e P} q1 ⟨oe, h1, h2⟩ q => by
    subst q; rw [q1] at h1; cases h1; simp at h2
  refine wpAny_bind (wpAny_bind (wpAny_onRaise ?_))
  refine (show wpAny _ _ (Builtin.SmallTypes.nextOf (.ref i1) >>= _) _ _ _ from ?_)
  cases hx : xs[k1]? with
  | none =>
    refine wpAny_bind (wpAny_nextOf_list_end hh (j1.extBut e1.extBut D.i1z) (m1.extBut e1.extBut D.l1z) hx fun g2 e q2 he => ?_)
    have z2 : g2.get? z = some (zoO .ellipsis f TI TO) := q2 _ _ D.i1z.symm z1
    have ne := out (P := True) z2 he
    obtain ⟨oe, h1, h2⟩ := he
    refine wpAny_setField_rec z2 (by simp) fun g3 _ q3 => hE g3 e (fun c o c1 _ c3 _ q => q3.extBut _ _ c1 (q2 _ _ c3 (e1.extBut _ _ c1 q))) ⟨oe, q3.extBut _ _ ne h1, h2⟩
  | some u =>
    have hy : ys[k2]? = none := hend.resolve_left (by rw [hx]; exact fun q => by cases q)
    refine wpAny_bind (wpAny_nextOf_list_item (j1.extBut e1.extBut D.i1z) (m1.extBut e1.extBut D.l1z) hx fun g2 n2 e2 => wpAny_pure ?_)
    have o2 : IsPair g2 TO a b := e2.extBut _ _ D.TOi1 (e1.extBut _ _ D.TOz tO)
    refine wpAny_bind (wpAny_seqItems o2 rfl (wpAny_bind (wpAny_updateSeq_pair o2 fun g3 o3 e3 => ?_)))
    refine wpAny_bind (wpAny_letGo (wpAny_pure (wpAny_bind (wpAny_bind (wpAny_onRaise ?_)))))
    refine (show wpAny _ _ (Builtin.SmallTypes.nextOf (.ref i2) >>= _) _ _ _ from ?_)
    refine wpAny_bind (wpAny_nextOf_list_end hh (((j2.extBut e1.extBut D.i2z).extBut e2.extBut D.i12.symm).extBut e3.extBut D.TOi2.symm) (((m2.extBut e1.extBut D.l2z).extBut e2.extBut D.l2i1).extBut e3.extBut D.l2TO) hy fun g4 e e4 he => ?_)
    have z4 : g4.get? z = some (zoO .ellipsis f TI TO) := e4 _ _ D.i2z.symm (e3.extBut _ _ D.TOz.symm (e2.extBut _ _ D.i1z.symm z1))
    have ne := out (P := True) z4 he
    obtain ⟨oe, h1, h2⟩ := he
    refine wpAny_setField_rec z4 (by simp) fun g5 _ e5 => hE g5 e (fun c o c1 c2 c3 c4 q => e5.extBut _ _ c1 (e4 _ _ c4 (e3.extBut _ _ c2 (e2.extBut _ _ c3 (e1.extBut _ _ c1 q))))) ⟨oe, e5.extBut _ _ ne h1, h2⟩
/-- the zip's next pair, as an inner iterator -/
theorem zNext {Q : Value → Shared → Prop} (D : ZipApart z TI TO i1 i2 l1 l2) (hz : ZSt s.heap z TI TO)
    (tI : IsPair s.heap TI (.ref i1) (.ref i2)) (tO : ∃ a b, IsPair s.heap TO a b) (j1 : s.heap.IsListIter i1 l1 k1) (j2 : s.heap.IsListIter i2 l2 k2) (m1 : s.heap.IsList l1 xs) (m2 : s.heap.IsList l2 ys) (hx : xs[k1]? = some x) (hy : ys[k2]? = some y)
    (hQ : ∀ h', ZSt h' z TI TO → (∃ a b, IsPair h' TO a b) → h'.IsListIter i1 l1 (k1 + 1) → h'.IsListIter i2 l2 (k2 + 1) → IsPair h' s.heap.objs.size x y → h'.objs.size = s.heap.objs.size + 1 →
      (∀ c o, c ≠ z → c ≠ TO → c ≠ i1 → c ≠ i2 → s.heap.get? c = some o → h'.get? c = some o) → Q (.ref s.heap.objs.size) { s with heap := h' }) :
    wpAny (model prog w) A (Builtin.SmallTypes.nextOf (.ref z)) Q E s := by
  obtain ⟨a, b, tO⟩ := tO
  have hTy : s.TypeIs (.ref z) "zip" := by
    rcases hz with q | ⟨T, f, q⟩
    · exact ⟨_, q, rfl⟩
    · exact ⟨_, q, rfl⟩
  unfold Builtin.SmallTypes.nextOf
  refine wpAny_bind (wpAny_callSpecial?_slot (name := Str.ofString "__next__") hTy F.slot_zip_next (wpAny_call_entry F.slot_zip_next hTy F.entry_zip_next ?_ (F.args_zip_next_1 _)))
  rcases hz with q | ⟨T, f, q⟩
  · exact zip_next_item D q tI tO j1 j2 m1 m2 hx hy fun h' a1 a2 a3 a4 a5 a6 a7 => wpAny_pure (hQ h' (.inr ⟨_, _, a1⟩) ⟨_, _, a2⟩ a3 a4 a5 a6 a7)
  · cases r : s.heap.get? T with
    | none => exact zGo D q r tI tO j1 j2 m1 m2 hx hy fun h' a1 a2 a3 a4 a5 a6 a7 => wpAny_pure (hQ h' a1 ⟨_, _, a2⟩ a3 a4 a5 a6 a7)
    | some oT => exact zip_next_item_held D q r tI j1 j2 m1 m2 hx hy fun h' a1 a3 a4 a5 a6 a7 => wpAny_pure (hQ h' (.inr ⟨_, _, a1⟩) ⟨_, _, a7 TO _ D.TOz D.TOi1 D.TOi2 tO⟩ a3 a4 a5 a6 fun c o c1 _ c3 c4 e => a7 c o c1 c3 c4 e)
theorem zDone {Q : Value → Shared → Prop} (hh : A.handled = none) (D : ZipApart z TI TO i1 i2 l1 l2) (hz : ZSt s.heap z TI TO)
    (tI : IsPair s.heap TI (.ref i1) (.ref i2)) (tO : ∃ a b, IsPair s.heap TO a b) (j1 : s.heap.IsListIter i1 l1 k1) (j2 : s.heap.IsListIter i2 l2 k2) (m1 : s.heap.IsList l1 xs) (m2 : s.heap.IsList l2 ys) (hend : xs[k1]? = none ∨ ys[k2]? = none)
    (hE : ∀ h' e, (∀ c o, c ≠ z → c ≠ TO → c ≠ i1 → c ≠ i2 → s.heap.get? c = some o → h'.get? c = some o) → (∃ o, h'.get? e = some o ∧ o.cls = .type "StopIteration") → E (.ref e) { s with heap := h' }) :
    wpAny (model prog w) A (Builtin.SmallTypes.nextOf (.ref z)) Q E s := by
  obtain ⟨a, b, tO⟩ := tO
  have hTy : s.TypeIs (.ref z) "zip" := by
    rcases hz with q | ⟨T, f, q⟩
    · exact ⟨_, q, rfl⟩
    · exact ⟨_, q, rfl⟩
  unfold Builtin.SmallTypes.nextOf
  refine wpAny_bind (wpAny_callSpecial?_slot (name := Str.ofString "__next__") hTy F.slot_zip_next (wpAny_call_entry F.slot_zip_next hTy F.entry_zip_next ?_ (F.args_zip_next_1 _)))
  rcases hz with q | ⟨T, f, q⟩
  · exact zip_next_end hh D q tI tO j1 j2 m1 m2 hend hE
  · cases r : s.heap.get? T with
    | none => exact zEnd hh D q r tI tO j1 j2 m1 m2 hend hE
    | some oT => exact zip_next_end_held hh D q r tI j1 j2 m1 m2 hend fun h' e k he => hE h' e (fun c o c1 _ c3 c4 e => k c o c1 c3 c4 e) he
end
section
variable {prog : Program} {w : World} {A : Around} {E : Value → Shared → Prop} {s : Shared}
/-- enumerate's next, whatever goes on within the inner iterator -/
theorem enGo {e it : Addr} {i : Nat} {old x : Value} {R : Heap → Prop} {Q : Option Value → Shared → Prop} (he : IsEnum s.heap e it i old)
    (hin : ∀ (E' : Value → Shared → Prop) (Q' : Value → Shared → Prop), (∀ g, R g → Q' x { s with heap := g }) → wpAny (model prog w) A.in1 (Builtin.SmallTypes.nextOf (.ref it)) Q' E' s)
    (hR : ∀ g, R g → IsEnum g e it i old)
    (hQ : ∀ g h', R g → IsEnumOut h' e it ((i : Int) + 1) x g.objs.size → h'.get? g.objs.size = some { cls := .type "tuple", data := .seq #[.int i s.toks, x] } → h'.objs.size = g.objs.size + 1 → (∀ b o, b ≠ e → g.get? b = some o → h'.get? b = some o) →
      Q (some (.ref g.objs.size)) { s with heap := h', toks := s.toks + 1 }) : wpAny (model prog w) A (pyNext (.ref e)) Q E s := by
  have hT : s.TypeIs (.ref e) "enumerate" := ⟨_, he, rfl⟩
  unfold pyNext
  refine wpAny_bind (wpAny_attempt (wpAny_callSpecial?_slot (name := Str.ofString "__next__") hT F.slot_enumerate_next (wpAny_call_entry F.slot_enumerate_next hT F.entry_enumerate_next ?_ (F.args_enumerate_next_1 _))))
  obtain ⟨hp, gg, d, tk, os⟩ := s
  refine (show wpAny _ _ (field (.ref e) 2 >>= _) _ _ _ from wpAny_bind (wpAny_field he rfl (x := .ref it) rfl (wpAny_bind (hin _ _ fun g r => ?_))))
  have e1 := hR g r
  refine (show wpAny _ _ (field (.ref e) 3 >>= _) _ _ ⟨g, gg, d, tk, os⟩ from wpAny_bind (wpAny_field e1 rfl (x := rawInt i) rfl ?_))
  refine (show wpAny _ _ (field (.ref e) 4 >>= _) _ _ ⟨g, gg, d, tk, os⟩ from wpAny_bind (wpAny_field e1 rfl (x := .none) rfl ?_))
  refine (show wpAny _ _ (mkInt i >>= _) _ _ ⟨g, gg, d, tk, os⟩ from wpAny_bind (wpAny_mkInt ?_))
  refine (show wpAny _ _ (setField (.ref e) 3 (rawInt ((i : Int) + 1)) >>= _) _ _ ⟨g, gg, d, tk + 1, os⟩ from wpAny_bind (wpAny_setField_rec e1 (by simp) fun g2 e2 s2 => ?_))
  replace s2 : Heap.SameBut e g g2 := s2
  replace e2 : IsEnum g2 e it ((i : Int) + 1) old := e2
  refine (show wpAny _ _ (setField (.ref e) 4 .none >>= _) _ _ ⟨g2, gg, d, tk + 1, os⟩ from wpAny_bind (wpAny_setField_rec e2 (by simp) fun g3 e3 s3 => ?_))
  replace s3 : Heap.SameBut e g2 g3 := s3
  replace e3 : IsEnum g3 e it ((i : Int) + 1) old := e3
  refine (show wpAny _ _ (newTuple [.int i tk, x] >>= _) _ _ ⟨g3, gg, d, tk + 1, os⟩ from wpAny_bind (wpAny_newTuple ?_))
  have sz : g3.objs.size = g.objs.size := by rw [s3.1, s2.1]
  have le : e < g.objs.size := Heap.lt_size e1
  obtain ⟨g4, q4⟩ : ∃ g4, g3.push { cls := .type "tuple", data := .seq #[.int i tk, x] } = g4 := ⟨_, rfl⟩
  have e4 : IsEnum g4 e it ((i : Int) + 1) old := by rw [← q4]; exact Heap.get?_push_of_some _ e3
  have t4 : g4.get? g.objs.size = some { cls := .type "tuple", data := .seq #[.int i tk, x] } := by rw [← q4, ← sz]; exact Heap.get?_push_size _ rfl
  have n4 : g4.objs.size = g.objs.size + 1 := by rw [← q4, Heap.size_push, sz]
  have k4 : ∀ b o, b ≠ e → g.get? b = some o → g4.get? b = some o := fun b o hb q => by rw [← q4]; exact Heap.get?_push_of_some _ (s3.extBut b o hb (s2.extBut b o hb q))
  refine (show wpAny _ _ (Builtin.SmallTypes.ownedTupleIsFree (.ref e) >>= _) _ _ ⟨_, gg, d, tk + 1, os⟩ from ?_)
  rw [sz, q4]
  refine wpAny_bind ?_
  unfold Builtin.SmallTypes.ownedTupleIsFree
  refine wpAny_bind (wpAny_field e4 rfl (x := .none) rfl (wpAny_pure ?_))
  simp only [if_true]
  refine wpAny_bind (wpAny_rule (wpAny_bind (wpAny_field e4 rfl (x := old) rfl (wpAny_bind (wpAny_setField_rec e4 (by simp) fun g5 e5 s5 => ?_)))))
  replace s5 : Heap.SameBut e g4 g5 := s5
  replace e5 : IsEnum g5 e it ((i : Int) + 1) x := e5
  refine (show wpAny _ _ (Builtin.SmallTypes.ownedTupleHandOut (.ref e) (.ref g.objs.size) >>= _) _ _ ⟨g5, gg, d, tk + 1, os⟩ from wpAny_bind ?_)
  unfold Builtin.SmallTypes.ownedTupleHandOut
  refine wpAny_bind (wpAny_setField_rec e5 (by simp) fun g6 e6 s6 => ?_)
  replace s6 : Heap.SameBut e g5 g6 := s6
  replace e6 : IsEnumOut g6 e it ((i : Int) + 1) x g.objs.size := e6
  refine wpAny_setField_rec e6 (by simp) fun g7 e7 s7 => ?_
  replace s7 : Heap.SameBut e g6 g7 := s7
  replace e7 : IsEnumOut g7 e it ((i : Int) + 1) x g.objs.size := e7
  have up : ∀ b o, b ≠ e → g4.get? b = some o → g7.get? b = some o := fun b o hb q => s7.extBut b o hb (s6.extBut b o hb (s5.extBut b o hb q))
  exact wpAny_bind (wpAny_letGo (wpAny_pure ⟨_, rfl, wpAny_pure (hQ g g7 r e7 (up _ _ (Nat.ne_of_gt le) t4) (by rw [s7.1, s6.1, s5.1, n4]) fun b o hb q => up b o hb (k4 b o hb q))⟩))
theorem enDone {e it : Addr} {i : Int} {old : Value} {R : Heap → Prop} {Q : Option Value → Shared → Prop} (he : IsEnum s.heap e it i old)
    (hin : ∀ (E' : Value → Shared → Prop) (Q' : Value → Shared → Prop), (∀ g a, R g → (∃ o, g.get? a = some o ∧ o.cls = .type "StopIteration") → E' (.ref a) { s with heap := g }) → wpAny (model prog w) A.in1 (Builtin.SmallTypes.nextOf (.ref it)) Q' E' s)
    (hQ : ∀ g, R g → Q none { s with heap := g }) : wpAny (model prog w) A (pyNext (.ref e)) Q E s := by
  have hT : s.TypeIs (.ref e) "enumerate" := ⟨_, he, rfl⟩
  unfold pyNext
  refine wpAny_bind (wpAny_attempt (wpAny_callSpecial?_slot (name := Str.ofString "__next__") hT F.slot_enumerate_next (wpAny_call_entry F.slot_enumerate_next hT F.entry_enumerate_next ?_ (F.args_enumerate_next_1 _))))
  refine (show wpAny _ _ (field (.ref e) 2 >>= _) _ _ _ from wpAny_bind (wpAny_field he rfl (x := .ref it) rfl (wpAny_bind (hin _ _ fun g a r ⟨o, ho, hc⟩ => ?_))))
  exact wpAny_bind (wpAny_isInstance (T := "StopIteration") (b := true) ⟨o, ho, hc⟩ isSubtype_stop (wpAny_pure (hQ _ r)))
theorem enumNewZ (z TI TO : Addr) : Meets (Builtin.«enumerate.__new__» ⟨[.type "enumerate", .ref z], []⟩) (fun _ R s => IsZip s.heap z TI TO .none ∧ R (.ok (.ret (.ref s.heap.objs.size))) { s with heap := s.heap.push (enO z) }) :=
  .of_wp fun prog w A R s hyp => by
    obtain ⟨hp, gl, dd, tok, out⟩ := s
    obtain ⟨hB, hR⟩ := hyp
    have sb := sub_enumerate
    have first : ∀ {A' : Around} {E : Value → Shared → Prop} {Q : Value → Shared → Prop}, Q (.ref z) ⟨hp, gl, dd, tok, out⟩ → wpAny (model prog w) A' (pyIter (.ref z)) Q E ⟨hp, gl, dd, tok, out⟩ := fun q => wpAny_pyIter_zip hB q
    wp_walk using first
    refine wpAny_stack_any fun frames => wpAny_pure ?_
    split
    · rename_i cl _ _ _ _ _
      cases (cl == Value.type "enumerate") <;> (wp_walk using first; exact ⟨_, rfl, hR⟩)
    · wp_walk using first
      exact ⟨_, rfl, hR⟩
theorem callEnumZ {z TI TO : Addr} {Q : Value → Shared → Prop} (hZ : IsZip s.heap z TI TO .none)
    (hq : ∀ h', IsEnum h' s.heap.objs.size z 0 .none → (∀ b u, s.heap.get? b = some u → h'.get? b = some u) → Q (.ref s.heap.objs.size) { s with heap := h' }) :
    wpAny (model prog w) A (call (.type "enumerate") [.ref z]) Q E s := by
  refine callType_new F.called_enumerate (by decide) (F.typeCall_enumerate_1 _) (F.newCall_enumerate_1 _) (fun obj => F.args_object_init_2 obj _) F.entry_enumerate_new (enumNewZ z TI TO) ⟨hZ, ?_⟩
  have isE : IsEnum (s.heap.push (enO z)) s.heap.objs.size z 0 .none := Heap.get?_push_size s.heap (o := enO z) rfl
  exact ⟨⟨_, isE, rfl⟩, hq _ isE fun b u e => Heap.get?_push_of_some _ e⟩
end
/-- the lists at a and b, each two items in a new pair, with their number in another -/
def ItEz (K : PySem.W.Frag) (a b : Addr) : It :=
  ⟨fun i H => ∃ (xs ys : List V) (x y : V), SqL K H a xs ∧ SqL K H b ys ∧ xs[i]? = some x ∧ ys[i]? = some y,
    fun i H v H' => ∃ T U x y, v = .ref U ∧ H T = none ∧ upd H T (.tup [x, y]) U = none ∧ H' = upd (upd H T (.tup [x, y])) U (.tup [.int (i : Nat), .ref T]) ∧ (∀ xs, SqL K H a xs → xs[i]? = some x) ∧ ∀ ys, SqL K H b ys → ys[i]? = some y,
    fun i H => ∃ xs ys : List V, SqL K H a xs ∧ SqL K H b ys ∧ (xs.length ≤ i ∨ ys.length ≤ i)⟩
theorem turn_enumZ {P : Program} {w : World} {K : PySem.W.Frag} {elts : List Expr} {kk : Nat} {tpos : Pos} {a b e z TI TO i1 i2 : Addr} (D : ZipApart z TI TO i1 i2 a b) (ne : e ∉ [z, TI, TO, i1, i2]) (nab : e ≠ a ∧ e ≠ b) :
    Turn P w K (.Tuple elts kk tpos) (ItEz K a b) [e, z, TI, TO, i1, i2] e (fun i h => (∃ old, IsEnum h e z ((i : Nat) : Int) old) ∧ ZSt h z TI TO ∧ IsPair h TI (.ref i1) (.ref i2) ∧ (∃ x y, IsPair h TO x y) ∧ h.IsListIter i1 a i ∧ h.IsListIter i2 b i) where
  mem := by simp
  obj := fun i h st c hc => by
    obtain ⟨⟨old, hE⟩, hz, hTI, ⟨x, y, hTO⟩, ⟨o1, e1, _, d1⟩, ⟨o2, e2, _, d2⟩⟩ := st
    have e' : c = e ∨ c = z ∨ c = TI ∨ c = TO ∨ c = i1 ∨ c = i2 := by simpa using hc
    rcases e' with q | q | q | q | q | q
    · rw [q]; exact ⟨_, hE, fun v q => nomatch q⟩
    · rw [q]
      rcases hz with r | ⟨T, f, r⟩
      · exact ⟨_, r, fun v q => nomatch q⟩
      · exact ⟨_, r, fun v q => nomatch q⟩
    · rw [q]; exact ⟨_, hTI, fun v q => nomatch q⟩
    · rw [q]; exact ⟨_, hTO, fun v q => nomatch q⟩
    · rw [q]; exact ⟨o1, e1, fun v q => by rw [d1] at q; cases q⟩
    · rw [q]; exact ⟨o2, e2, fun v q => by rw [d2] at q; cases q⟩
  keep := fun i h h' st k => by
    obtain ⟨⟨old, hE⟩, hz, hTI, ⟨x, y, hTO⟩, h1, h2⟩ := st
    refine ⟨⟨old, k e (by simp) _ hE⟩, ?_, k TI (by simp) _ hTI, ⟨x, y, k TO (by simp) _ hTO⟩, h1.at fun o q => k i1 (by simp) o q, h2.at fun o q => k i2 (by simp) o q⟩
    rcases hz with r | ⟨T, f, r⟩
    · exact .inl (k z (by simp) _ r)
    · exact .inr ⟨T, f, k z (by simp) _ r⟩
  item := by
    intro X hP hw hK hc i pins s σ H E I hf st hg
    subst hP hw hK
    obtain ⟨⟨old, hE⟩, hz, hTI, hTO, h1, h2⟩ := st
    obtain ⟨xs, ys, x, y, hqx, hqy, hx, hy⟩ := hg
    obtain ⟨its, rv, p, _⟩ := I.list hqx
    obtain ⟨its2, rv2, p2, _⟩ := I.list hqy
    obtain ⟨u, hu, ru⟩ := rv.get hx
    obtain ⟨u2, hu2, ru2⟩ := rv2.get hy
    have nz : e ≠ z := fun q => ne (by simp [q])
    have nTI : e ≠ TI := fun q => ne (by simp [q])
    have nTO : e ≠ TO := fun q => ne (by simp [q])
    have n1 : e ≠ i1 := fun q => ne (by simp [q])
    have n2 : e ≠ i2 := fun q => ne (by simp [q])
    have le : e < s.heap.objs.size := Heap.lt_size hE
    refine enGo (x := .ref s.heap.objs.size) (R := fun g => ZSt g z TI TO ∧ (∃ a b, IsPair g TO a b) ∧ g.IsListIter i1 a (i + 1) ∧ g.IsListIter i2 b (i + 1) ∧ IsPair g s.heap.objs.size u u2 ∧ g.objs.size = s.heap.objs.size + 1 ∧ (∀ c o, c ≠ z → c ≠ TO → c ≠ i1 → c ≠ i2 → s.heap.get? c = some o → g.get? c = some o)) hE
      (fun E' Q' q => zNext D hz hTI hTO h1 h2 p.isList p2.isList (x := u) (y := u2) (by simpa using hu) (by simpa using hu2) fun g a1 a2 a3 a4 a5 a6 a7 => q g ⟨a1, a2, a3, a4, a5, a6, a7⟩)
      (fun g r => r.2.2.2.2.2.2 e _ nz nTO n1 n2 hE) fun g h' ⟨a1, a2, a3, a4, a5, a6, a7⟩ hO hT hsz hk => ?_
    refine ⟨_, rfl, wpAny_letOwnedTupleGo_enum (s := { s with heap := h', toks := s.toks + 1 }) hO fun h2' hE2 sb => ?_⟩
    have nT : s.heap.objs.size ≠ e := Nat.ne_of_gt le
    have up : ∀ c o, c ≠ e → g.get? c = some o → h2'.get? c = some o := fun c o hc q => (sb.2 c hc).trans (hk c o hc q)
    have hU : h2'.get? g.objs.size = some { cls := .type "tuple", data := .seq #[.int i s.toks, .ref s.heap.objs.size] } := (sb.2 _ (by rw [a6]; exact Nat.ne_of_gt (Nat.lt_succ_of_lt le))).trans hT
    have kp : ∀ c o, c ∉ [e, z, TI, TO, i1, i2] → s.heap.get? c = some o → h2'.get? c = some o := fun c o hc q => up c o (fun q' => hc (by simp [q'])) (a7 c o (fun q' => hc (by simp [q'])) (fun q' => hc (by simp [q'])) (fun q' => hc (by simp [q'])) (fun q' => hc (by simp [q'])) q)
    have okT : ObjOk X.prog X.w (upd H s.heap.objs.size (.tup [x, y])) g s.heap.objs.size (.tup [x, y]) :=
      ⟨by show 2 ≤ sizeLine; decide, [u, u2], .cons ru (.cons ru2 .nil), ⟨_, a5, rfl, _, rfl⟩⟩
    have I1 : Inv X pins σ (upd H s.heap.objs.size (.tup [x, y])) { s with heap := g } :=
      I.turnedNew (t' := s.toks) (ch := [e, z, TI, TO, i1, i2]) (fun c o hc q => a7 c o (fun q' => hc (by simp [q'])) (fun q' => hc (by simp [q'])) (fun q' => hc (by simp [q'])) (fun q' => hc (by simp [q'])) q) hf (Nat.le_refl _) okT
    have lt : ∀ c ∈ [e, z, TI, TO, i1, i2], c < s.heap.objs.size := fun c hcm => by
      have e' : c = e ∨ c = z ∨ c = TI ∨ c = TO ∨ c = i1 ∨ c = i2 := by simpa using hcm
      rcases e' with q | q | q | q | q | q
      · rw [q]; exact le
      · rw [q]
        rcases hz with r | ⟨T, f, r⟩
        · exact Heap.lt_size r
        · exact Heap.lt_size r
      · rw [q]; exact Heap.lt_size hTI
      · rw [q]; obtain ⟨_, _, r⟩ := hTO; exact Heap.lt_size r
      · rw [q]; obtain ⟨_, r, _⟩ := h1; exact Heap.lt_size r
      · rw [q]; obtain ⟨_, r, _⟩ := h2; exact Heap.lt_size r
    have hf1 : ∀ c ∈ [e], FpOk X pins (upd H s.heap.objs.size (.tup [x, y])) c := fun c hcm => by
      have := hf c (by rw [List.mem_singleton.mp hcm]; simp)
      refine ⟨by rw [upd_ne (by rw [List.mem_singleton.mp hcm]; exact Nat.ne_of_lt le)]; exact this.1, this.2⟩
    have okU : ObjOk X.prog X.w (upd (upd H s.heap.objs.size (.tup [x, y])) g.objs.size (.tup [.int (i : Nat), .ref s.heap.objs.size])) h2' g.objs.size (.tup [.int (i : Nat), .ref s.heap.objs.size]) :=
      ⟨by show 2 ≤ sizeLine; decide, [.int i s.toks, .ref s.heap.objs.size], .cons ⟨_, rfl⟩ (.cons rfl .nil), ⟨_, hU, rfl, _, rfl⟩⟩
    have I2 : Inv X pins σ (upd (upd H s.heap.objs.size (.tup [x, y])) g.objs.size (.tup [.int (i : Nat), .ref s.heap.objs.size])) { s with heap := h2', toks := s.toks + 1 } :=
      I1.turnedNew (t' := s.toks + 1) (ch := [e]) (fun c o hc q => up c o (fun q' => hc (by simp [q'])) q) hf1 (Nat.le_refl _) okU
    refine ⟨.ref g.objs.size, _, I2, rfl, ⟨s.heap.objs.size, g.objs.size, x, y, rfl, I.hok.fresh (Nat.le_refl _), I1.hok.fresh (Nat.le_refl _), rfl, fun l hl => by rw [I.list_inj hl hqx]; exact hx, fun l hl => by rw [I.list_inj hl hqy]; exact hy⟩, ⟨⟨.ref s.heap.objs.size, ?_⟩, ?_, ?_, ?_, ?_, ?_⟩, fun c hcm => ?_⟩
    · rw [show ((i + 1 : Nat) : Int) = (i : Int) + 1 by omega]
      exact hE2
    · rcases a1 with r | ⟨T, f, r⟩
      · exact .inl (up z _ nz.symm r)
      · exact .inr ⟨T, f, up z _ nz.symm r⟩
    · exact up TI _ nTI.symm (a7 TI _ D.TIz D.TITO D.TIi1 D.TIi2 hTI)
    · obtain ⟨x', y', r⟩ := a2
      exact ⟨x', y', up TO _ nTO.symm r⟩
    · exact a3.at fun o q => up i1 o n1.symm q
    · exact a4.at fun o q => up i2 o n2.symm q
    · have := lt c hcm
      rw [upd_ne (by rw [a6]; exact Nat.ne_of_lt (Nat.lt_succ_of_lt this)), upd_ne (Nat.ne_of_lt this)]
      exact (hf c hcm).1
  done := by
    intro X hP hw hK hc i pins s σ H E I hf st hg
    subst hP hw hK
    obtain ⟨⟨old, hE⟩, hz, hTI, hTO, h1, h2⟩ := st
    obtain ⟨xs, ys, hqx, hqy, hend⟩ := hg
    obtain ⟨its, rv, p, _⟩ := I.list hqx
    obtain ⟨its2, rv2, p2, _⟩ := I.list hqy
    have l1 := rv.length
    have l2 := rv2.length
    have he : its.toArray[i]? = none ∨ its2.toArray[i]? = none := by
      rcases hend with q | q
      · exact .inl (by simp; omega)
      · exact .inr (by simp; omega)
    refine enDone (R := fun g => ∀ c o, c ≠ z → c ≠ TO → c ≠ i1 → c ≠ i2 → s.heap.get? c = some o → g.get? c = some o) hE (fun E' Q' q => zDone (I.ok.hd hc) D hz hTI hTO h1 h2 p.isList p2.isList he fun g a k so => q g a k so) fun g k => ?_
    exact ⟨rfl, I.turnedL (t' := s.toks) (ch := [e, z, TI, TO, i1, i2]) (fun c o hb q => k c o (fun q' => hb (by simp [q'])) (fun q' => hb (by simp [q'])) (fun q' => hb (by simp [q'])) (fun q' => hb (by simp [q'])) q) hf⟩
  self := fun A i s Q E st hQ => let ⟨⟨_, hE⟩, _⟩ := st; wpAny_pyIter_enum hE hQ
def iEnumZ (K : PySem.W.Frag) (ta : TA) : TI := fun σ H R => ta σ H fun vs H1 => ∃ a b xs ys, vs = [.ref a, .ref b] ∧ SqL K H1 a xs ∧ SqL K H1 b ys ∧ R (ItEz K a b) H1
theorem pi_enumZ {X : Cx} {e e2 : Expr} {ta : TA} {p p2 pos pos2 tpos : Pos} {elts : List Expr} {kk : Nat} (hg : Gl X "enumerate") (hm : X.mg "enumerate" = none) (hg2 : Gl X "zip") (hm2 : X.mg "zip" = none) (ha : PA X [e, e2] ta)
    (hs : starEach [e, e2] X.env = (false, eval e X.env) :: starEach [e2] X.env := by rfl) (hpl : (backTo pos2 (starEach [e2] X.env)).any (·.1) = false := by rfl) :
    PI X (.Tuple elts kk tpos) (.Call (.Name "enumerate" p) [.Call (.Name "zip" p2) [e, e2] [] pos2] [] pos) (iEnumZ X.K ta) := by
  refine ⟨fun pins s σ H R I hyp => ?_⟩
  refine Call_ (ld_blt I hg hm boot_enumerate (PyProof.Rows.callWith_type1 (PyProof.Rows.spliced_more ?_ rfl) rfl rfl))
  refine Call_ (ld_blt I hg2 hm2 PyProof.Rows.boot_zip (PyProof.Rows.callWith_type1 (thn (ha.run pos2 pins s σ H _ I hyp) fun us s1 ⟨vs, H1, I1, r1, q1⟩ => ?_) hs hpl))
  obtain ⟨a, b, xs, ys, ex, hqx, hqy, q⟩ := q1
  subst ex
  cases r1 with
  | cons r rr =>
    cases rr with
    | cons r' rr =>
      cases rr
      cases r
      cases r'
      obtain ⟨its, rv, p1, _⟩ := I1.list hqx
      obtain ⟨its2, rv2, p2, _⟩ := I1.list hqy
      have la : a < s1.heap.objs.size := p1.lt
      have lb : b < s1.heap.objs.size := p2.lt
      refine call_zip_2 p1.isList p2.isList fun h' hz hTI hTO h1 h2 hsz hk => PyProof.Rows.spliced_none ?_
      refine callEnumZ (s := { s1 with heap := h' }) hz fun h2' hE hk2 => wpAny_pyIter_enum hE ?_
      have I2 : Inv X pins σ H1 { s1 with heap := h2' } := I1.kept (t' := s1.toks) fun c o q => hk2 c o (hk c o q)
      have hsz' : h'.objs.size = s1.heap.objs.size + 5 := hsz
      have hE' : IsEnum h2' h'.objs.size (s1.heap.objs.size + 4) 0 .none := hE
      refine ⟨h'.objs.size, [h'.objs.size, s1.heap.objs.size + 4, s1.heap.objs.size + 2, s1.heap.objs.size + 3, s1.heap.objs.size, s1.heap.objs.size + 1], _, _, H1, rfl, I2, turn_enumZ (PySem.W.ktu_apart s1.heap.objs.size a b la lb) (by rw [hsz']; simp) ⟨by rw [hsz']; exact Nat.ne_of_gt (Nat.lt_of_lt_of_le la (Nat.le_add_right _ _)), by rw [hsz']; exact Nat.ne_of_gt (Nat.lt_of_lt_of_le lb (Nat.le_add_right _ _))⟩, ⟨⟨.none, hE'⟩, .inl (hk2 _ _ hz), hk2 _ _ hTI, ⟨_, _, hk2 _ _ hTO⟩, h1.at fun o q => hk2 _ o q, h2.at fun o q => hk2 _ o q⟩, fun c hcm => ?_, q⟩
      have e' : c = h'.objs.size ∨ c = s1.heap.objs.size + 4 ∨ c = s1.heap.objs.size + 2 ∨ c = s1.heap.objs.size + 3 ∨ c = s1.heap.objs.size ∨ c = s1.heap.objs.size + 1 := by simpa using hcm
      have hle : s1.heap.objs.size ≤ c := by
        rcases e' with q | q | q | q | q | q
        · rw [q, hsz']; exact Nat.le_add_right _ _
        · rw [q]; exact Nat.le_add_right _ _
        · rw [q]; exact Nat.le_add_right _ _
        · rw [q]; exact Nat.le_add_right _ _
        · rw [q]; exact Nat.le_refl _
        · rw [q]; exact Nat.le_add_right _ _
      exact I1.fpOk hle (I1.hok.fresh hle)
theorem kx_enumZ {K : PySem.W.Frag} {tl : TA} {X : Cx} {e e2 : Expr} {p p2 pos pos2 tpos : Pos} {elts : List Expr} {kk : Nat} (h : X.K = K) (hg : Gl X "enumerate") (hm : X.mg "enumerate" = none) (hg2 : Gl X "zip") (hm2 : X.mg "zip" = none) (ha : PA X [e, e2] tl)
    (hs : starEach [e, e2] X.env = (false, eval e X.env) :: starEach [e2] X.env := by rfl) (hpl : (backTo pos2 (starEach [e2] X.env)).any (·.1) = false := by rfl) :
    PI X (.Tuple elts kk tpos) (.Call (.Name "enumerate" p) [.Call (.Name "zip" p2) [e, e2] [] pos2] [] pos) (iEnumZ K tl) := by subst h; exact pi_enumZ hg hm hg2 hm2 ha hs hpl
theorem it_enumZ {K : PySem.W.Frag} {pen : Pc} {H0 : Hp} {L : Lv} {P : List PyData → Prop} {tl : TA} (h : EA K pen H0 tl L fun es => ∃ as bs, es = [.list as, .list bs] ∧ P (enumL (zipL as bs))) : IT K pen H0 (iEnumZ K tl) L P := fun σ G H e R r => h σ G H e _ fun vs es G1 H1 go hd ⟨as, bs, hds, p⟩ => by
  subst hds
  cases hd with
  | cons hd hd2 =>
    cases hd2 with
    | cons hd3 hd4 =>
      cases hd4
      cases hd with
      | lst hs ha =>
        cases hd3 with
        | lst hs' ha' =>
          rename_i a xs a' ys
          refine ⟨a, a', xs, ys, rfl, sqL_mono go.vw.vw hs, sqL_mono go.vw.vw hs', r _ G1 H1 _ go (fun G' H' s v => ⟨fun i x hx => ?_, ?_⟩) p⟩
          · have z1 := sqL_mono (s.trans v.vw) hs
            have z2 := sqL_mono (s.trans v.vw) hs'
            obtain ⟨y', hy', rfl⟩ := enumL_get hx
            obtain ⟨u1, u2, k1, k2, rfl⟩ := zipL_get hy'
            obtain ⟨y1, hy1, dy1⟩ := dpa_get ha k1
            obtain ⟨y2, hy2, dy2⟩ := dpa_get ha' k2
            refine ⟨⟨xs, ys, y1, y2, z1, z2, hy1, hy2⟩, fun w H2 hw => ?_⟩
            obtain ⟨T, U, t1, t2, rfl, hT, hU, rfl, f1, f2⟩ := hw
            have e1 : t1 = y1 := Option.some.inj ((f1 _ z1).symm.trans hy1)
            have e2 : t2 = y2 := Option.some.inj ((f2 _ z2).symm.trans hy2)
            subst e1 e2
            have g2 := Go.new v (o := .tup [t1, t2]) hT
            have g3 := Go.new g2.vw (o := .tup [.int (i : Nat), .ref T]) hU
            refine ⟨_, g2.trans g3, .tup (.inl (.inl upd_same)) (.cons (.int _) (.cons (dp_mono g3.gg _ _ (.tup (.inl (.inl upd_same)) (.cons (dp_mono (s.trans g2.gg) _ _ dy1) (.cons (dp_mono (s.trans g2.gg) _ _ dy2) .nil)))) .nil))⟩
          · refine ⟨xs, ys, sqL_mono (s.trans v.vw) hs, sqL_mono (s.trans v.vw) hs', ?_⟩
            rw [enumL_len, zipL_len, dpa_len ha, dpa_len ha']
            omega
end Dl
set_option Elab.async false
set_option linter.all false
set_option maxRecDepth 100000
set_option maxHeartbeats 4000000
/-! ### a list that is read taken so often; a list lengthened by one that is read -/
namespace Dl
open PySem PySem.Spec PyProof.Rows L2
theorem intRmulL (a : Int) (t : Tok) (l : Addr) (items : Array Value) (n : Nat) (dd : Option Addr) (sl : Array (Option Value)) :
    Meets (Builtin.«int.__rmul__» ⟨[.int a t, .ref l], []⟩) (fun _ R s => s.heap.get? l = some { cls := .type "list", dict := dd, data := .seq items n, slots := sl } ∧ R (.ok (.ret Value.notImplemented)) s) :=
  .of_wp fun prog w A R s hyp => by
    obtain ⟨hp, gl, dr, tok, out⟩ := s
    obtain ⟨h1, h2⟩ := hyp
    wp_walk using wpAny_loadPart' h1
    exact ⟨_, rfl, h2⟩
theorem listMulL (l : Addr) (items : Array Value) (n : Nat) (dd : Option Addr) (sl : Array (Option Value)) (x : Int) (u : Tok) (c0 : ¬ (!Builtin.List.listFitsIndex x) = true) (c1 : ¬ items.size * x.toNat > (2 ^ 63 - 1) / 8) (c2 : ¬ Builtin.List.listTooLong (items.size * x.toNat) = true) :
    Meets (Builtin.«list.__mul__» ⟨[.ref l, .int x u], []⟩) (fun _ R s => s.heap.get? l = some { cls := .type "list", dict := dd, data := .seq items n, slots := sl } ∧
      R (.ok (.ret (Value.ref s.heap.objs.size))) { s with heap := s.heap.push { cls := Value.type "list", data := Data.seq (List.foldl (fun x1 x2 => x1 ++ x2) #[] (List.replicate (if items.isEmpty = true then 0 else x.toNat) items)) }, toks := s.toks }) :=
  .of_wp fun prog w A R s hyp => by
    obtain ⟨hp, gl, dr, tok, out⟩ := s
    obtain ⟨h1, h2⟩ := hyp
    have fit := AutoListH.joined_fits c2
    have f1 := AutoSeq1.idx_int
    wp_walk using wpAny_loadPart' h1
    refine wpAny_ite_false (decide_eq_false (Nat.not_lt.mpr fit)) ?_
    wp_walk using wpAny_loadPart' h1
    exact ⟨_, rfl, h2⟩
theorem listExtL (l : Addr) (items : Array Value) (n : Nat) (b : Addr) (items2 : Array Value) (n2 : Nat) (dd : Option Addr) (sl : Array (Option Value)) (c0 : ¬ (!items.isEmpty && Builtin.List.listTooLong (items.size + items2.size)) = true) (c1 : items.size ≤ sizeLine) (c2 : items.size + items2.size ≤ sizeLine + 1) :
    Meets (Builtin.«list.extend» ⟨[.ref l, .ref b], []⟩) (fun _ R s => s.heap.get? l = some { cls := .type "list", dict := none, data := .seq items n, slots := #[] } ∧ s.heap.get? b = some { cls := .type "list", dict := dd, data := .seq items2 n2, slots := sl } ∧
      R (.ok (.ret Value.none)) { s with heap := s.heap.update l (Obj.mapSeq fun x => x ++ items2), toks := s.toks }) :=
  .of_wp fun prog w A R s hyp => by
    obtain ⟨hp, gl, dr, tok, out⟩ := s
    obtain ⟨h1, hb, h2⟩ := hyp
    have f1 := AutoSeq1.idx_int
    have f2 := AutoSeq1.sub_tuple_tuple
    have f3 := AutoSeq1.sub_list_list
    have f4 := AutoSeq1.sub_tuple_list
    have f5 := AutoSeq1.sub_list_tuple
    have fit : (items ++ items2).size ≤ sizeLine + 1 := by rw [Array.size_append]; exact c2
    wp_walk using (wpAny_updateSeq h1 rfl (hz := c1) (_hz' := fit)), wpAny_loadPart' h1, wpAny_loadPart' hb
    exact ⟨_, rfl, h2⟩
def rRepL (K : PySem.W.Frag) : R2 := fun x y H Q => ∃ l k xs, x = .ref l ∧ y = .int k ∧ SqL K H l xs ∧ -(2 ^ 63) ≤ k ∧ k < 2 ^ 63 ∧ xs.length * k.toNat ≤ sizeLine ∧ ∀ p, H p = none → Q (.ref p) (upd H p (.lst (List.replicate k.toNat xs).flatten))
def rExtL (K : PySem.W.Frag) : V → List V → Hp → VK → Prop := fun x vs H Q => ∃ l b xs zs, x = .ref l ∧ vs = [.ref b] ∧ H l = some (.lst xs) ∧ SqL K H b zs ∧ xs.length + zs.length ≤ sizeLine ∧ Q .non (upd H l (.lst (xs ++ zs)))
section
variable {X : Cx}
theorem op_repL : OpR X (binaryOp .Mult) (rRepL X.K) := by
  intro pins s σ H x y v u Q I rx ry h
  obtain ⟨l, k, xs, rfl, rfl, hH, h1, h2, hz, q⟩ := h
  cases rx
  obtain ⟨t, rfl⟩ := ry
  obtain ⟨its, r, ⟨⟨cls, dd, data, sl⟩, n, ho, hc, hdd, hd⟩, z⟩ := I.list hH
  simp only at hc hd
  subst hc hd
  have hl := r.length
  have len : its.toArray.size * k.toNat ≤ sizeLine := by rw [List.size_toArray, ← hl]; exact hz
  have cap : ¬ its.toArray.size * k.toNat > (2 ^ 63 - 1) / 8 := by
    have : (sizeLine : Nat) ≤ (2 ^ 63 - 1) / 8 := by decide
    omega
  have fit : ¬ (!Builtin.List.listFitsIndex k) = true := by rw [fitsIndex_both h1 h2]; exact Bool.false_ne_true
  have long : ¬ Builtin.List.listTooLong (its.toArray.size * k.toNat) = true := by rw [notLongL len]; exact Bool.false_ne_true
  have made : List.foldl (fun x1 x2 => x1 ++ x2) #[] (List.replicate (if its.toArray.isEmpty = true then 0 else k.toNat) its.toArray) = (List.replicate k.toNat its).flatten.toArray := by
    rw [size_rep]
    cases its with
    | nil => simp
    | cons a r' => rw [if_neg (by simp)]
  refine wpAny_binaryOp_repeat_ref (T := "list") (U := "int") (by decide) ⟨_, ho, rfl⟩ (fun s' => typeIs_int s' k t) noFill_list_mul F.fills_int_mul F.slot_int_rmul repeat_list F.slot_int_index.lookup
    (call_meets F.slot_int_rmul (typeIs_int s k t) F.entry_int_rmul (F.args_int_rmul_2 _ _) (intRmulL k t l its.toArray n dd sl) ⟨ho, rfl, ⟨_, ho, rfl⟩, call_meets F.slot_list_mul ⟨_, ho, rfl⟩ F.entry_list_mul (F.args_list_mul_2 _ _) (listMulL l its.toArray n dd sl k t fit cap long) ⟨ho, ?_⟩⟩)
  rw [made]
  exact ⟨.ref _, _, I.lnew (t' := s.toks) (r.rep k.toNat) (by rw [PyProof.Rows.lm_len_rep_flat, Nat.mul_comm]; exact hz), rfl, q _ I.fresh⟩
theorem mt_extL : MtM X "list.extend" (rExtL X.K) := by
  intro pins s σ H x vs v us Q I rx rv h
  obtain ⟨l, b, xs, zs, rfl, rfl, hH, hB, hz, q⟩ := h
  cases rx
  obtain ⟨u, rfl, ru⟩ := rv.one
  cases ru
  obtain ⟨z, its, n, r, hl, e⟩ := I.lstM hH
  obtain ⟨its2, r2, ⟨⟨cls, dd, data, sl⟩, n2, ho, hc, hdd, hd⟩, z2⟩ := I.list hB
  simp only at hc hd
  subst hc hd
  have hl2 := r2.length
  have sum : its.toArray.size + its2.toArray.size ≤ sizeLine := by rw [List.size_toArray, List.size_toArray]; omega
  have long : ¬ (!its.toArray.isEmpty && Builtin.List.listTooLong (its.toArray.size + its2.toArray.size)) = true := by rw [notLongL sum, Bool.and_false]; exact Bool.false_ne_true
  refine call_meets F.slot_list_extend ⟨_, e, rfl⟩ F.entry_list_extend (F.args_list_extend_2 _ _) (listExtL l its.toArray n b its2.toArray n2 dd sl long (by rw [List.size_toArray]; omega) (by omega)) ⟨e, ho, ?_⟩
  exact ⟨.non, _, I.lset (its' := its ++ its2) hH e (by simp) (r.append r2) (by rw [List.length_append]; omega), rfl, q⟩
theorem kx_repL {K : PySem.W.Frag} (h : X.K = K) : OpR X (binaryOp .Mult) (rRepL K) := by subst h; exact op_repL
theorem kx_extL {K : PySem.W.Frag} (h : X.K = K) : MtM X "list.extend" (rExtL K) := by subst h; exact mt_extL
end
section
variable {K : PySem.W.Frag} {pen : Pc} {H0 : Hp} {L : Lv} {P : PyData → Prop} {ta tb te : TE} {Pl : List PyData → Prop} {D : Dn}
theorem el_repL (h : E K pen H0 ta L fun a => ∃ ds, a = .list ds ∧ E K pen H0 tb L fun b => ∃ k : Nat, b = .int k ∧ k ≤ 100000 ∧ ds.length * k ≤ 100000 ∧ Pl (List.replicate k ds).flatten) : EL K pen H0 (tOp (rRepL K) ta tb) L Pl := fun σ G H e Q q => h σ G H e _ fun v a G1 H1 go d1 ⟨ds, hds, h1⟩ => by
  subst hds
  refine h1 σ G1 H1 (e.go go) _ fun w b G2 H2 g2 d2 ⟨k, hk, hkk, hz, p⟩ => ?_
  subst hk
  cases d2
  cases d1 with
  | lst hs ha =>
    rename_i l vs
    have hlv := dpa_len ha
    refine ⟨l, k, vs, rfl, rfl, sqL_mono (g2.gg.trans g2.vw.vw) hs, by omega, by omega, Nat.le_trans (by rw [hlv]; exact hz) (by decide : 100000 ≤ sizeLine), fun r hr => ?_⟩
    have e2 := (e.go go).go g2
    have g3 := Go.hid e2.vw (o := .lst (List.replicate ((k : Int)).toNat vs).flatten) hr
    exact q r _ _ G2 _ ((go.trans g2).trans g3) upd_same (e2.gnone hr) (EL.out e (go.trans g2) hr) (dpa_rep (dpa_mono g2.gg _ _ ha) k) p
theorem s_extD {j : Nat} {ds : List PyData} (hj : L[j]? = some (some (.own (.lst ds)))) (h : E K pen H0 te L fun d => ∃ es, d = .list es ∧ ds.length + es.length ≤ 100000 ∧ D.nx (L.set j (some (.own (.lst (ds ++ es)))))) (nf : noFr L = true := by rfl) :
    S K pen H0 (tDrop (tBM K "list" (rExtL K) (tVar j) (tCons te tNil))) L D := fun σ G H N e n1 _ _ _ _ _ => by
  obtain ⟨l, ho, k1, k3, k6⟩ := e.own hj
  obtain ⟨vs, rfl, k6⟩ := k6.lst
  refine ⟨_, k1, .inl ⟨rfl, vs, .inl (.inl k3)⟩, h σ G H e _ fun w d G1 H1 g1 d1 ⟨es, hes, hz, p⟩ => ?_⟩
  subst hes
  cases d1 with
  | lst hs b4 =>
    rename_i b zs
    have e1 := e.go g1
    obtain ⟨ho2, q3, q6⟩ := e1.ownAt hj k1
    obtain ⟨vs2, rfl, q6⟩ := q6.lst
    obtain ⟨r1, r2⟩ := e1.putOwn nf hj k1 (o' := .lst (ds ++ es)) (ho := .lst (vs2 ++ zs)) (dpa_app q6 b4)
    exact ⟨l, b, vs2, zs, rfl, rfl, q3, sqL_mono g1.vw.vw hs, Nat.le_trans (by rw [dpa_len q6, dpa_len b4]; exact hz) (by decide : 100000 ≤ sizeLine), n1 σ G1 _ _ ((e.gx g1).trans r2) r1 p⟩
end
end Dl
set_option Elab.async false
set_option linter.all false
set_option maxRecDepth 100000
set_option maxHeartbeats 4000000
/-! ### sorted(set(l)), len(set(l)), l a list of ints -/
namespace Dl
open PySem PySem.Spec PyProof.Rows L2
abbrev nS (w : World) : Obj := { cls := .type "set", dict := none, data := .set #[] 0 (.fresh 0 0 (!w.params.followText "set-order")) }
section
variable {P : Program} {w : World} {A : Around} {E : Value → Shared → Prop} {s : Shared}
theorem setLI {l : Addr} {items : Array Value} (ns : List Int) {Q : Value → Shared → Prop} (hh : A.handled = none) (hl : s.heap.IsList l items) (hit : IntsAre items.toList ns) (hb : ns.length + 1 < scanBound)
    (h : ∀ (h' : Heap) (tk c : Nat), SetR w h' s.heap.objs.size (fun j => decide (j ∈ ns)) c → c ≤ ns.length → (∀ b o, s.heap.get? b = some o → h'.get? b = some o) → Q (.ref s.heap.objs.size) { s with heap := h', toks := tk }) :
    wpAny (model P w) A (call (.type "set") [.ref l]) Q E s := by
  have sz : items.size = ns.length := by simpa using IntsAre.length hit
  obtain ⟨c, tl, hmro⟩ := F.called_set.mro
  have m1 := F.called_set.made
  have m2 := F.called_set.sub
  refine wpAny_call (codeAny_of_tree (show wpAny _ _ (callAny (.type "set") _) _ _ _ from wpAny_pure ⟨Code.quiet_builtin _ (by decide +kernel), codeAny_builtin F.entry_type_call ?_⟩))
  rw [Around.under_plain (weight_type_call_type "set" [.ref l] []) rfl]
  have m3 := F.called_set.notType
  have m4 := F.called_set.canCreate
  have m5 := F.typeCall_set_1 (.ref l)
  repeat (any_goals (first | assumption | wp_step))
  refine codeAny_mono (code_set_led1 (.ref l) (E := E) (Q₁ := fun obj s₁ => obj = .ref s.heap.objs.size ∧ s₁ = { s with heap := s.heap.push (nS w) }) ⟨rfl, rfl⟩) fun r s₁ hr => ?_
  cases r with
  | error e => exact hr
  | ok fl =>
    cases fl with
    | ret obj =>
      obtain ⟨rfl, rfl⟩ := hr
      have gS : (s.heap.push (nS w)).get? s.heap.objs.size = some (nS w) := Heap.get?_push_size _ rfl
      have tS : Shared.TypeIs { s with heap := s.heap.push (nS w) } (.ref s.heap.objs.size) "set" := ⟨_, gS, rfl⟩
      have i1 := F.called_set.init.lookup
      have i2 := F.called_set.init.bind (.ref s.heap.objs.size)
      repeat (any_goals (first | assumption | wp_step))
      refine codeAny_mono (codeAny_call_builtin (R := wants (fun r s₂ => r = .none ∧ ∃ h' tk c, s₂ = { s with heap := h', toks := tk } ∧ SetR w h' s.heap.objs.size (fun j => decide (j ∈ ns)) c ∧ c ≤ ns.length ∧ (∀ b o, s.heap.get? b = some o → h'.get? b = some o)) E) F.called_set.init.plain F.entry_set_init (check_set_init_1 tS ?_)) fun r₂ s₂ hr₂ => ?_
      · obtain ⟨⟨ocls, odict, odata, oslots⟩, g0, hc0, nl, hd0⟩ := hl
        simp only at hc0 hd0
        subst hc0 hd0
        have g1 : (s.heap.push (nS w)).get? l = some { cls := .type "list", dict := odict, data := .seq items nl, slots := oslots } := Heap.get?_push_of_some _ g0
        have u1 := F.sub_list_set
        have u2 := F.sub_list_frozenset
        have u3 : (Value.type "list" == Value.type "dict") = false := by decide
        have l1 : (s.heap.push (nS w)).IsList l items := ⟨_, g1, rfl, nl, rfl⟩
        unfold Builtin.«set.__init__» noKeywords Builtin.Frozenset.updateFrom
        generalize ePI : pyIter = PI
        wp_walk
        subst ePI
        refine wpAny_pyIter_list l1 (wpAny_bind (wpAny_runValue ?_))
        have lt : l < s.heap.objs.size := Heap.lt_size g0
        have hh3 : A.in1.in1.in1.handled = none := by simp [hh]
        have ne1 : l ≠ (s.heap.push (nS w)).objs.size := by rw [Heap.size_push]; exact Nat.ne_of_lt (Nat.lt_succ_of_lt lt)
        have ne2 : s.heap.objs.size ∉ [(s.heap.push (nS w)).objs.size, l] := by
          rw [Heap.size_push]
          intro z
          rcases List.mem_cons.mp z with z | z
          · exact Nat.ne_of_lt (Nat.lt_succ_self _) z
          · exact Nat.ne_of_gt lt (List.mem_singleton.mp z)
        have val : ∀ (i : Nat) (v : Value), items[i]? = some v → ∃ k t, ns[i]? = some k ∧ v = .int k t := fun i v hv => by
          have hi : i < ns.length := by rw [← sz]; exact (Array.getElem?_eq_some_iff.mp hv).1
          obtain ⟨t, e⟩ := PyProof.Rows.IntsAre.int_at hit i v (by rw [Array.getElem?_toList]; exact hv)
          exact ⟨ns[i], t, List.getElem?_eq_getElem hi, by rw [e, List.getD_eq_getElem?_getD, List.getElem?_eq_getElem hi] <;> rfl⟩
        refine set_update_ints ((Walks.list hh3 _ l ne1 items).toS) s.heap.objs.size ne2 ns sz hb val (items.size - 0) 0 _ (by omega) (Nat.zero_le _) ⟨⟨_, Heap.get?_push_size _ rfl, rfl, rfl⟩, (l1.push _)⟩ ⟨0, Nat.le_refl 0, setR_new_at (Heap.get?_push_of_some _ gS)⟩ ?_
        intro s' c' hm hc' hS'
        obtain ⟨h', g2, d', tk', os'⟩ := s'
        have eg : g2 = s.gens := hm.gens
        have ed : d' = s.drawn := hm.drawn
        have eo : os' = s.os := hm.os
        subst eg ed eo
        refine (show wpAny _ _ _ _ _ _ from wpAny_pure (show wpAny _ _ (ret Value.none) _ _ _ from ?_))
        rw [sz] at hc'
        refine wpAny_pure ⟨rfl, h', tk', c', rfl, hS', hc', fun b o e => ?_⟩
        have b0 : b < s.heap.objs.size := Heap.lt_size e
        refine hm.heap b o (fun z => ?_) (Heap.get?_push_of_some _ (Heap.get?_push_of_some _ e))
        rcases List.mem_cons.mp z with z | z
        · exact Nat.ne_of_lt b0 z
        · have z := List.mem_singleton.mp z
          rw [Heap.size_push] at z
          exact Nat.ne_of_lt (Nat.lt_succ_of_lt b0) z
      · cases r₂ with
        | error e => exact hr₂
        | ok fl₂ =>
          cases fl₂ with
          | ret r =>
            obtain ⟨rfl, h', tk, c', rfl, hS', hc', hk'⟩ := hr₂
            repeat (any_goals (first | assumption | wp_step))
            exact h _ _ _ hS' hc' hk'
          | _ => exact hr₂.elim
    | _ => exact hr.elim
end
def rSetLI (K : PySem.W.Frag) (w : World) : List V → Hp → VK → Prop := fun xs H Q => ∃ (l : Addr) (ns : List Int), xs = [V.ref l] ∧ SqL K H l (ns.map V.int) ∧ ns.length ≤ 1000 ∧ ∀ p c, H p = none → c ≤ ns.length → Q (.ref p) (upd H p (SetO w p (fun j => decide (j ∈ ns)) c))
section
variable {X : Cx}
theorem cr_setLI (hc : X.calm = true) : CallR X (.type "set") (rSetLI X.K X.w) := by
  intro pins s σ H xs us Q I r h
  obtain ⟨l, ns, rfl, hl, hz, q⟩ := h
  rw [Vals.ref1 r]
  obtain ⟨its, rv, pt, _⟩ := I.list hl
  have hb : (2000 : Nat) < scanBound := by decide +kernel
  refine setLI (P := X.prog) (w := X.w) ns (I.ok.hd hc) (show s.heap.IsList l its.toArray from pt.isList) (by simpa using rv.ints) (by omega) fun h' tk c R hcl kp => ?_
  exact ⟨.ref s.heap.objs.size, _, I.laid (t' := tk) kp (Nat.le_refl _) (setO_new R), rfl, q _ c I.fresh hcl⟩
theorem kx_setLI {K : PySem.W.Frag} {w : World} (h : X.K = K) (hw : X.w = w) (hc : X.calm = true) : CallR X (.type "set") (rSetLI K w) := by subst h; subst hw; exact cr_setLI hc
end
section
variable {K : PySem.W.Frag} {pen : Pc} {H0 : Hp} {L : Lv} {P : PyData → Prop} {ta te : TE} {tl : TA} {w : World}
theorem e_sortSetL (h : E K pen H0 ta L fun d => ∃ ns : List Int, d = .list (intsL ns) ∧ ns.length < 64 ∧ ∀ ms : List Int, ms.Pairwise (· < ·) → (∀ k, k ∈ ms ↔ k ∈ ns) → P (.list (intsL ms))) :
    E K pen H0 (tCB (rSortedSet w) (tCons (tCB (rSetLI K w) (tCons ta tNil)) tNil)) L P := fun σ G H e Q q => h σ G H e _ fun v d G1 H1 go hd ⟨ns, hds, hz, hp⟩ => by
  subst hds
  cases hd with
  | lst hs ha =>
    rename_i a xs
    have ex := dpa_ints ha
    subst ex
    refine ⟨a, ns, rfl, sqL_mono go.vw.vw hs, by omega, fun p c hpn hc => ?_⟩
    refine ⟨p, _, c, rfl, upd_same, by omega, fun ms r hm1 hm2 hm3 hr => ?_⟩
    have g2 := Go.hid go.vw (o := SetO w p (fun j => decide (j ∈ ns)) c) hpn
    have g3 := Go.new g2.vw (o := .lst (ms.map V.int)) hr
    exact q _ _ _ _ ((go.trans g2).trans g3) (.lst (.inl (.inl upd_same)) (ints_dpa ms)) (hp ms hm1 fun k => by rw [hm2 k, decide_eq_true_eq])
end
end Dl
set_option Elab.async false
set_option linter.all false
set_option maxRecDepth 100000
set_option maxHeartbeats 4000000
/-! ### list(dict), enumerate(dict), max of a list of pairs with a default -/
namespace Dl
open PySem PySem.Spec PyProof.Rows L2
section
variable {prog : Program} {w : World} {A : Around} {E : Value → Shared → Prop} {s : Shared} {it d : Addr} {i n ep : Nat} {od : Obj} {es : Array DictEntry}
theorem kNext {en : DictEntry} {Q : Value → Shared → Prop} (hit : s.heap.IsKeyIter it d i n ep) (hod : s.heap.get? d = some od) (hdd : od.data = .dict es ep) (hsz : es.size = n) (hx : es[i]? = some en)
    (hQ : ∀ h', h'.IsKeyIter it d (i + 1) n ep → Heap.SameBut it s.heap h' → Q en.key { s with heap := h' }) : wpAny (model prog w) A (Builtin.SmallTypes.nextOf (.ref it)) Q E s := by
  obtain ⟨o, ho, hc, hd⟩ := id hit
  unfold Builtin.SmallTypes.nextOf
  refine wpAny_bind (wpAny_callSpecial?_slot (name := Str.ofString "__next__") hit.typeIs F.slot_dict_keyiterator_next (wpAny_call_entry F.slot_dict_keyiterator_next hit.typeIs F.entry_dict_keyiterator_next ?_ (F.args_dict_keyiterator_next_1 _)))
  refine wpAny_bind (wpAny_pure (wpAny_bind (wpAny_bind ?_)))
  first | refine wpAny_bind (wpAny_typeNameOfWhole_keyiter hit.typeIs (wpAny_pure (wpAny_bind (wpAny_fieldsOf ho hd ?_)))) | refine wpAny_bind (wpAny_typeNameOf_keyiter hit.typeIs (wpAny_pure (wpAny_bind (wpAny_fieldsOf ho hd ?_))))
  have own0 : Builtin.Dict_items.ownsTuple "dict_keyiterator" = false := by decide
  simp only [own0, Bool.false_eq_true, if_false]
  refine (show wpAny _ _ (if (Value.ref d == Value.none) = true then _ else _) _ _ s from ?_)
  rw [if_neg (show ¬ ((Value.ref d == Value.none) = true) from Bool.false_ne_true)]
  refine wpAny_bind (wpAny_pure (wpAny_bind (wpAny_dictEntries hod hdd ?_)))
  rw [if_neg (by rw [hsz]; simp)]
  refine wpAny_bind (wpAny_pure (wpAny_bind (wpAny_dictEpoch hod hdd ?_)))
  rw [if_neg (by simp)]
  refine wpAny_pure ?_
  obtain ⟨lt, hen⟩ := Array.getElem?_eq_some_iff.mp hx
  simp only [show ¬ ((i : Int) < 0) from by omega, if_false, Int.toNat_natCast, Array.getElem?_eq_getElem lt]
  refine wpAny_bind ?_
  first | refine wpAny_bind (wpAny_typeNameOfWhole_keyiter hit.typeIs (wpAny_pure (wpAny_bind (wpAny_isOneOf_keyiter hit.typeIs ?_)))) | refine wpAny_bind (wpAny_typeNameOf_keyiter hit.typeIs (wpAny_pure (wpAny_bind (wpAny_isOneOf_keyiter hit.typeIs ?_))))
  refine (show wpAny _ _ (setField (.ref it) 1 (rawInt ((i : Int) + 1)) >>= _) _ _ s from wpAny_bind (wpAny_setField ho hd (by simp) ?_))
  have hit' : (s.heap.update it (Obj.mapFields (·.setIfInBounds 1 (rawInt ((i : Int) + 1))))).IsKeyIter it d (i + 1) n ep :=
    ⟨_, Heap.get?_update_self _ ho (Obj.isFreed_of_fields (Obj.data_mapFields hd _)), (Obj.cls_mapFields ..).trans hc, by rw [Obj.data_mapFields hd]; simp [rawInt]⟩
  refine wpAny_bind (wpAny_holding (wpAny_bind (wpAny_isOneOf_keyiter (s := { s with heap := s.heap.update it (Obj.mapFields (·.setIfInBounds 1 (rawInt ((i : Int) + 1)))) }) hit'.typeIs ?_)))
  refine (show wpAny _ _ (pure es[i].key) _ _ _ from ?_)
  rw [hen]
  exact wpAny_pure (wpAny_pure ⟨_, rfl, wpAny_pure (hQ _ hit' (Heap.SameBut.update ..))⟩)
theorem kDone {Q : Value → Shared → Prop} (hh : A.handled = none) (hit : s.heap.IsKeyIter it d i n ep) (hod : s.heap.get? d = some od) (hdd : od.data = .dict es ep) (hsz : es.size = n) (hge : n ≤ i)
    (hE : ∀ h' e, Heap.ExtBut it s.heap h' → (∃ o, h'.get? e = some o ∧ o.cls = .type "StopIteration") → E (.ref e) { s with heap := h' }) : wpAny (model prog w) A (Builtin.SmallTypes.nextOf (.ref it)) Q E s := by
  obtain ⟨o, ho, hc, hd⟩ := id hit
  unfold Builtin.SmallTypes.nextOf
  refine wpAny_bind (wpAny_callSpecial?_slot (name := Str.ofString "__next__") hit.typeIs F.slot_dict_keyiterator_next (wpAny_call_entry F.slot_dict_keyiterator_next hit.typeIs F.entry_dict_keyiterator_next ?_ (F.args_dict_keyiterator_next_1 _)))
  refine wpAny_bind (wpAny_pure (wpAny_bind (wpAny_bind ?_)))
  first | refine wpAny_bind (wpAny_typeNameOfWhole_keyiter hit.typeIs (wpAny_pure (wpAny_bind (wpAny_fieldsOf ho hd ?_)))) | refine wpAny_bind (wpAny_typeNameOf_keyiter hit.typeIs (wpAny_pure (wpAny_bind (wpAny_fieldsOf ho hd ?_))))
  have own0 : Builtin.Dict_items.ownsTuple "dict_keyiterator" = false := by decide
  simp only [own0, Bool.false_eq_true, if_false]
  refine (show wpAny _ _ (if (Value.ref d == Value.none) = true then _ else _) _ _ s from ?_)
  rw [if_neg (show ¬ ((Value.ref d == Value.none) = true) from Bool.false_ne_true)]
  refine wpAny_bind (wpAny_pure (wpAny_bind (wpAny_dictEntries hod hdd ?_)))
  rw [if_neg (by rw [hsz]; simp)]
  refine wpAny_bind (wpAny_pure (wpAny_bind (wpAny_dictEpoch hod hdd ?_)))
  rw [if_neg (by simp)]
  refine wpAny_pure ?_
  have ge' : es.size ≤ i := by rw [hsz]; exact hge
  simp only [show ¬ ((i : Int) < 0) from by omega, if_false, Int.toNat_natCast, Array.getElem?_eq_none ge']
  refine wpAny_bind ?_
  first | refine wpAny_bind (wpAny_typeNameOfWhole_keyiter hit.typeIs (wpAny_pure ?_)) | refine wpAny_bind (wpAny_typeNameOf_keyiter hit.typeIs (wpAny_pure ?_))
  refine (show wpAny _ _ (setField (.ref it) 0 .none >>= _) _ _ s from wpAny_bind (wpAny_setField ho hd (by simp) ?_))
  refine (show wpAny _ _ (newExc (.type "StopIteration") [] >>= _) _ _ _ from wpAny_bind ?_)
  simp only [newExc, newTuple]
  refine wpAny_bind (wpAny_newObj_type (wpAny_bind (m := firstArgMember _ _) (wpAny_of_eq (a := Value.none) (by first | rfl | (simp only [firstArgMember]; rfl)) (wpAny_newObj_type ?_ (by size_fits)))) (by size_fits))
  simp only [raiseNew]
  refine wpAny_bind (wpAny_handled ?_)
  first | rw [show A.in1.handled = none from hh] | rw [hh]
  exact wpAny_bind (wpAny_pure (wpAny_throw (hE _ _ (((Heap.SameBut.update ..).extBut.push _).push _) ⟨_, Heap.get?_push_size _ rfl, rfl⟩)))
end
/-- the keys of the locked dict at d, each in a new pair with its number -/
def ItEk (d : Addr) (o : Obj) (kvs : List (Key × V)) : It :=
  ⟨fun i H => H d = some (.frz o (.dK kvs)) ∧ i < kvs.length, fun i H x H' => ∃ T k v, kvs[i]? = some (k, v) ∧ x = .ref T ∧ H T = none ∧ H' = upd H T (.tup [.int (i : Nat), kV k]), fun i H => H d = some (.frz o (.dK kvs)) ∧ kvs.length ≤ i⟩
abbrev kiO (d : Addr) (n ep : Nat) : Obj := { cls := .type "dict_keyiterator", data := .fields #[.ref d, .int 0 0, .int n 0, .int ep 0] }
theorem enumNewK {d : Addr} {o : Obj} {es : Array DictEntry} {ep : Nat} (lo : (d == sysModules) = false) (hx : o.ExactDict) (hd : o.data = .dict es ep) :
    Meets (Builtin.«enumerate.__new__» ⟨[.type "enumerate", .ref d], []⟩) (fun _ R s => s.heap.get? d = some o ∧ R (.ok (.ret (.ref (s.heap.push (kiO d es.size ep)).objs.size))) { s with heap := (s.heap.push (kiO d es.size ep)).push (enO s.heap.objs.size) }) :=
  .of_wp fun prog w A R s hyp => by
    obtain ⟨hp, gl, dd, tok, out⟩ := s
    obtain ⟨hB, hR⟩ := hyp
    have sb := sub_enumerate
    have first : ∀ {A' : Around} {E : Value → Shared → Prop} {Q : Value → Shared → Prop}, Q (.ref hp.objs.size) ⟨hp.push (kiO d es.size ep), gl, dd, tok, out⟩ → wpAny (model prog w) A' (pyIter (.ref d)) Q E ⟨hp, gl, dd, tok, out⟩ := fun q => iter_keys (s := ⟨hp, gl, dd, tok, out⟩) lo hB hx hd q
    wp_walk using first
    refine wpAny_stack_any fun frames => wpAny_pure ?_
    split
    · rename_i cl _ _ _ _ _
      cases (cl == Value.type "enumerate") <;> (wp_walk using first; exact ⟨_, rfl, hR⟩)
    · wp_walk using first
      exact ⟨_, rfl, hR⟩
theorem callEnumK {prog : Program} {w : World} {A : Around} {E : Value → Shared → Prop} {s : Shared} {d : Addr} {o : Obj} {es : Array DictEntry} {ep : Nat} {Q : Value → Shared → Prop} (lo : (d == sysModules) = false) (ho : s.heap.get? d = some o) (hx : o.ExactDict) (hd : o.data = .dict es ep)
    (hq : ∀ h', IsEnum h' (s.heap.objs.size + 1) s.heap.objs.size 0 .none → h'.IsKeyIter s.heap.objs.size d 0 es.size ep → (∀ b u, s.heap.get? b = some u → h'.get? b = some u) → Q (.ref (s.heap.objs.size + 1)) { s with heap := h' }) :
    wpAny (model prog w) A (call (.type "enumerate") [.ref d]) Q E s := by
  refine callType_new F.called_enumerate (by decide) (F.typeCall_enumerate_1 _) (F.newCall_enumerate_1 _) (fun obj => F.args_object_init_2 obj _) F.entry_enumerate_new (enumNewK lo hx hd) ⟨ho, ?_⟩
  have size1 : (s.heap.push (kiO d es.size ep)).objs.size = s.heap.objs.size + 1 := Heap.size_push ..
  have isE : IsEnum ((s.heap.push (kiO d es.size ep)).push (enO s.heap.objs.size)) (s.heap.objs.size + 1) s.heap.objs.size 0 .none := by
    have := Heap.get?_push_size (s.heap.push (kiO d es.size ep)) (o := enO s.heap.objs.size) rfl
    rw [size1] at this
    exact this
  show _ ∧ _
  rw [size1]
  exact ⟨⟨_, isE, rfl⟩, hq _ isE ⟨_, Heap.get?_push_of_some _ (Heap.get?_push_size _ rfl), rfl, rfl⟩ fun b u e => Heap.get?_push_of_some _ (Heap.get?_push_of_some _ e)⟩
theorem turn_enumK {P : Program} {w : World} {K : PySem.W.Frag} {elts : List Expr} {kk : Nat} {tpos : Pos} {d e it : Addr} {o : Obj} {es : Array DictEntry} {ep : Nat} {kvs : List (Key × V)} (hod : o.data = .dict es ep) (hne : e ≠ it) :
    Turn P w K (.Tuple elts kk tpos) (ItEk d o kvs) [e, it] e (fun i h => (∃ old, IsEnum h e it ((i : Nat) : Int) old) ∧ h.IsKeyIter it d i kvs.length ep) where
  mem := List.mem_cons_self ..
  obj := fun i h st b hb => by
    obtain ⟨⟨old, hE⟩, ⟨o, ho, hc, hd⟩⟩ := st
    rcases List.mem_cons.mp hb with rfl | hb
    · exact ⟨_, hE, fun v q => nomatch q⟩
    · rw [List.mem_singleton.mp hb]
      exact ⟨o, ho, fun v q => by rw [hd] at q; cases q⟩
  keep := fun i h h' st k => ⟨st.1.imp fun old hE => k e (List.mem_cons_self ..) _ hE, st.2.at fun o q => k it (List.mem_cons_of_mem _ (List.mem_cons_self ..)) o q⟩
  item := by
    intro X hP hw hK hc i pins s σ H E I hf st hg
    subst hP hw hK
    obtain ⟨⟨old, hE⟩, hI⟩ := st
    obtain ⟨hd, hi⟩ := hg
    obtain ⟨hs, hgd, hx, es', ep', vs, hdt, hsz, kv, hm⟩ := I.frzK hd
    obtain ⟨rfl, rfl⟩ := dict_ep hod hdt
    obtain ⟨⟨k, v⟩, hkv⟩ : ∃ p, kvs[i]? = some p := ⟨kvs[i], List.getElem?_eq_getElem hi⟩
    obtain ⟨u, hu, ru⟩ := kv_get kv hkv
    obtain ⟨en, hes⟩ : ∃ en, es'[i]? = some en := ⟨es'[i], Array.getElem?_eq_getElem (by omega)⟩
    have hkey : keyIs k en.key = true := by
      obtain ⟨o2, es2, hgd2, hx2, hdt2, _, hpr, _⟩ := id hm
      rw [hgd] at hgd2
      cases hgd2
      obtain ⟨rfl, _⟩ := dict_ep hdt hdt2
      exact (hpr.get? (e := en) (by rw [Array.getElem?_toList]; exact hes) hu).1
    have le : e < s.heap.objs.size := Heap.lt_size hE
    have li : it < s.heap.objs.size := by obtain ⟨_, q, _⟩ := hI; exact Heap.lt_size q
    refine enGo (x := en.key) (R := fun g => g.IsKeyIter it d (i + 1) kvs.length ep' ∧ Heap.SameBut it s.heap g) hE (fun E' Q' q => kNext hI hgd hdt hsz hes fun h' a b => q h' ⟨a, b⟩) (fun g r => (r.2.2 e hne).trans hE) fun g h' ⟨a1, a2⟩ hO hT hsz' hk => ?_
    refine ⟨_, rfl, wpAny_letOwnedTupleGo_enum (s := { s with heap := h', toks := s.toks + 1 }) hO fun h2 hE2 sb => ?_⟩
    have gs : g.objs.size = s.heap.objs.size := a2.1
    rw [gs] at hT hsz'
    have up : ∀ c o, c ≠ e → c ≠ it → s.heap.get? c = some o → h2.get? c = some o := fun c o h1 h3 q => (sb.2 c h1).trans (hk c o h1 ((a2.2 c h3).trans q))
    have hT2 : h2.get? s.heap.objs.size = some { cls := .type "tuple", data := .seq #[.int i s.toks, en.key] } := (sb.2 _ (Nat.ne_of_gt le)).trans hT
    have okT : ObjOk X.prog X.w (upd H s.heap.objs.size (.tup [.int (i : Nat), kV k])) h2 s.heap.objs.size (.tup [.int (i : Nat), kV k]) :=
      ⟨by show 2 ≤ sizeLine; decide, [.int i s.toks, en.key], .cons ⟨_, rfl⟩ (.cons (relV_key hkey) .nil), ⟨_, hT2, rfl, _, rfl⟩⟩
    have I1 : Inv X pins σ (upd H s.heap.objs.size (.tup [.int (i : Nat), kV k])) { s with heap := h2, toks := s.toks + 1 } :=
      I.turnedNew (ch := [e, it]) (fun b ob hb q => up b ob (fun z => hb (z ▸ List.mem_cons_self ..)) (fun z => hb (z ▸ List.mem_cons_of_mem _ (List.mem_cons_self ..))) q) hf (Nat.le_refl _) okT
    rw [gs]
    refine ⟨.ref s.heap.objs.size, _, I1, rfl, ⟨_, k, v, hkv, rfl, I.hok.fresh (Nat.le_refl _), rfl⟩, ⟨⟨en.key, ?_⟩, ?_⟩, fun b hb => ?_⟩
    · rw [show ((i + 1 : Nat) : Int) = (i : Int) + 1 by omega]
      exact hE2
    · exact a1.at fun o q => (sb.2 it (Ne.symm hne)).trans (hk it o (Ne.symm hne) q)
    · have lb : b < s.heap.objs.size := by
        rcases List.mem_cons.mp hb with rfl | hb
        · exact le
        · rw [List.mem_singleton.mp hb]; exact li
      rw [upd_ne (Nat.ne_of_lt lb)]
      exact (hf b hb).1
  done := by
    intro X hP hw hK hc i pins s σ H E I hf st hg
    subst hP hw hK
    obtain ⟨⟨old, hE⟩, hI⟩ := st
    obtain ⟨hd, hi⟩ := hg
    obtain ⟨hs, hgd, hx, es', ep', vs, hdt, hsz, kv, hm⟩ := I.frzK hd
    obtain ⟨rfl, rfl⟩ := dict_ep hod hdt
    obtain ⟨f0, f1, f2, f3, f4, f5⟩ := hf it (List.mem_cons_of_mem _ (List.mem_cons_self ..))
    refine enDone (R := fun g => Heap.ExtBut it s.heap g) hE (fun E' Q' q => kDone (I.ok.hd hc) hI hgd hdt hsz hi fun g a k so => q g a k so) fun g k => ?_
    exact ⟨rfl, I.turned (t' := s.toks) (fun b o hb q => k b o hb q) f0 f1 f3 f4 f5⟩
  self := fun A i s Q E st hQ => let ⟨⟨_, hE⟩, _⟩ := st; wpAny_pyIter_enum hE hQ
def iEnumK (ta : TA) : TI := fun σ H R => ta σ H fun vs H1 => ∃ d o kvs, vs = [.ref d] ∧ H1 d = some (.frz o (.dK kvs)) ∧ R (ItEk d o kvs) H1
theorem pi_enumK {X : Cx} {e : Expr} {ta : TA} {p pos tpos : Pos} {elts : List Expr} {kk : Nat} (hg : Gl X "enumerate") (hm : X.mg "enumerate" = none) (ha : PA X [e] ta) (hs : starEach [e] X.env = [(false, eval e X.env)] := by rfl) :
    PI X (.Tuple elts kk tpos) (.Call (.Name "enumerate" p) [e] [] pos) (iEnumK ta) := by
  refine ⟨fun pins s σ H R I hyp => ?_⟩
  refine Call_ (ld_blt I hg hm boot_enumerate (PyProof.Rows.callWith_type1 (thn (ha.run pos pins s σ H _ I hyp) fun us s1 ⟨vs, H1, I1, r1, q1⟩ => ?_) hs rfl))
  obtain ⟨d, o, kvs, rfl, hd, q⟩ := q1
  rw [Vals.ref1 r1]
  obtain ⟨lo, hgd, hx, es, ep, vs, hdt, hsz, kv, hm⟩ := I1.frzK hd
  refine callEnumK lo hgd hx hdt fun h' hE hI hk => wpAny_pyIter_enum hE ?_
  rw [hsz] at hI
  have I2 : Inv X pins σ H1 { s1 with heap := h' } := I1.kept (t' := s1.toks) hk
  refine ⟨s1.heap.objs.size + 1, [s1.heap.objs.size + 1, s1.heap.objs.size], _, _, H1, rfl, I2, turn_enumK hdt (Nat.succ_ne_self _), ⟨⟨.none, hE⟩, hI⟩, fun b hb => ?_, q⟩
  have ge : s1.heap.objs.size ≤ b := by
    rcases List.mem_cons.mp hb with rfl | hb
    · exact Nat.le_succ _
    · rw [List.mem_singleton.mp hb]; exact Nat.le_refl _
  exact I1.fpOk ge (I1.hok.fresh ge)
/-! max(l, default=d) -/
def tMaxPD (K : PySem.W.Frag) (tl td : TE) : TE := fun σ H Q => tl σ H fun x H1 => td σ H1 fun y H2 => ∃ (a : Addr) (xs : List V) (ds : List PyData), x = V.ref a ∧ SqL K H2 a xs ∧ DpAll K H2 xs ds ∧ PySem.W.AlikeAll ds ∧ PyData.depthAll ds ≤ 60 ∧ (ds = [] → Q y H2) ∧
  ∀ d0 ds', ds = d0 :: ds' → ∀ (i : Nat) v, xs[i]? = some v → ds[i]? = some (PySem.W.maxD d0 ds') → Q v H2
section
variable {X : Cx} {e ed : Expr} {tl td : TE} {p pos kpos : Pos}
theorem pe_maxPD (hc : X.calm = true) (hu : X.A.units + 64 < cLine) (hgl : Gl X "max") (hm : X.mg "max" = none) (hb : bootBuiltins "max" = some (.builtin "max")) (he : PE X e tl) (hd : PE X ed td)
    (hst : backTo pos (starEach [e] X.env) = (false, eval e X.env) :: backTo pos (starEach [] X.env) := by rfl) :
    PE X (.Call (.Name "max" p) [e] [⟨some "default", ed, kpos⟩] pos) (tMaxPD X.K tl td) := by
  refine ⟨fun pins s σ H Q I h => ?_⟩
  refine wpAny_Call_Name_kw (ld_blt I hgl hm hb ?_)
  refine callWith_kw ?_ hst (by rw [hst]; rfl)
  rw [hst]
  refine Calls.spliced_cons (thn (he.run pins s σ H _ I h) fun u s1 ⟨x, H1, I1, rx, q1⟩ => Calls.spliced_nil (kws_cons (thn (hd.run pins s1 σ H1 _ I1 q1) fun u2 s2 ⟨y, H2, I2, ry, a, xs, ds, ex, hs, hdd, hal, hdp, q0, q⟩ => kws_nil ?_)))
  subst ex
  obtain rfl : u = Value.ref a := rx
  obtain ⟨its, rv, hl, _⟩ := I2.list hs
  obtain ⟨as, hr⟩ := Dp.readsAll I2 ds xs its hdd rv
  refine PySem.W.max_list_default (I.ok.hd hc) hl.isList (as := as) (by simpa using hr) hal (by omega) (fun hn h' tk hk => ⟨y, H2, I2.kept (t' := tk) hk, ry, q0 hn⟩) fun d0 ds' i v h' tk bs hds hv hrd hk => ?_
  have hv' : its[i]? = some v := by simpa using hv
  obtain ⟨z, hz, hzv⟩ : ∃ z, xs[i]? = some z ∧ RelV z v := by
    have hlen := rv.length
    have hi : i < its.length := (List.getElem?_eq_some_iff.mp hv').1
    obtain ⟨z, hz⟩ : ∃ z, xs[i]? = some z := ⟨_, List.getElem?_eq_getElem (by omega)⟩
    obtain ⟨w, hw, rw⟩ := rv.get hz
    rw [hv'] at hw
    cases hw
    exact ⟨z, hz, rw⟩
  obtain ⟨d, hdi, hdy⟩ := dpa_getV hdd hz
  have I' := I2.kept (t' := tk) hk
  obtain ⟨cs, hr2⟩ := Dp.reads I' d z v hdy hzv
  subst hds
  have e : d = PySem.W.maxD d0 ds' := PySem.W.alike_unique d _ v cs bs (hal.1 d (List.mem_of_getElem? hdi) _ (maxD_mem d0 ds')) hr2 hrd
  exact ⟨z, H2, I', hzv, q d0 ds' rfl i z hz (e ▸ hdi)⟩
theorem kx_maxPD {K : PySem.W.Frag} (h : X.K = K) (hc : X.calm = true) (hu : X.A.units + 64 < cLine) (hgl : Gl X "max") (hm : X.mg "max" = none) (hb : bootBuiltins "max" = some (.builtin "max")) (he : PE X e tl) (hd : PE X ed td)
    (hst : backTo pos (starEach [e] X.env) = (false, eval e X.env) :: backTo pos (starEach [] X.env) := by rfl) :
    PE X (.Call (.Name "max" p) [e] [⟨some "default", ed, kpos⟩] pos) (tMaxPD K tl td) := by subst h; exact pe_maxPD hc hu hgl hm hb he hd hst
end
section
variable {K : PySem.W.Frag} {pen : Pc} {H0 : Hp} {L : Lv} {P : PyData → Prop} {tl td te : TE} {Pl : List PyData → Prop}
/-- list(d), d one's own dict with ints as keys -/
theorem el_listD {j : Nat} {m : List (Key × PyData)} {ks : List Int} (hj : RdO L j (.dK m)) (hk : m.map (·.1) = ks.map Sum.inl) (h : Pl (intsL ks)) : EL K pen H0 (tCB rListD (tCons (tVar j) tNil)) L Pl := fun σ G H e Q q => by
  obtain ⟨l, ho, k1, k3, k6⟩ := e.rd hj
  obtain ⟨kvs, rfl, k6⟩ := k6.dK
  refine ⟨_, k1, l, kvs, rfl, k3, fun r hn => ?_⟩
  have ek : (kvs.map fun kv => kV kv.1) = ks.map V.int := by
    have := kv_keys k6
    rw [hk] at this
    rw [show (kvs.map fun kv => kV kv.1) = (kvs.map (·.1)).map kV from by rw [List.map_map]; rfl, this, List.map_map]
    rfl
  rw [ek]
  have g := Go.hid e.vw (o := .lst (ks.map V.int)) hn
  exact q r _ _ G _ g upd_same (e.gnone hn) hn (ints_dpa ks) h
theorem e_maxPD (h : E K pen H0 tl L fun a => ∃ cs : List (Int × Int), a = .list (pairsL cs) ∧ E K pen H0 td L fun y => (cs = [] → P y) ∧ ∀ m ∈ cs, (∀ y ∈ cs, y.1 ≤ m.1) → P (pairD m)) : E K pen H0 (tMaxPD K tl td) L P := fun σ G H e Q q =>
  h σ G H e _ fun v a G1 H1 g1 d1 ⟨cs, hcs, h1⟩ => by
    subst hcs
    refine h1 σ G1 H1 (e.go g1) _ fun w y G2 H2 g2 d2 ⟨p0, p⟩ => ?_
    cases d1 with
    | lst hs ha =>
      rename_i l vs
      refine ⟨l, vs, pairsL cs, rfl, sqL_mono (g2.gg.trans g2.vw.vw) hs, dpa_mono (g2.gg.trans g2.vw.vw) _ _ ha, alike_pairs cs, Nat.le_trans (depth_pairs cs) (by decide), fun hn => ?_, fun d0 ds' hds i z hz hd => ?_⟩
      · have : cs = [] := by
          cases cs with
          | nil => rfl
          | cons _ _ => cases hn
        exact q _ _ G2 H2 (g1.trans g2) d2 (p0 this)
      · cases cs with
        | nil => cases hds
        | cons c0 cs =>
          have e1 : d0 = pairD c0 := (List.cons.inj hds).1.symm
          have e2 : ds' = pairsL cs := (List.cons.inj hds).2.symm
          subst e1 e2
          obtain ⟨m, m1, m2, m3⟩ := maxD_pairs c0 cs
          obtain ⟨d, k1, k2⟩ := dpa_getV ha hz
          have e3 : d = pairD m := by
            rw [← m2]
            exact Option.some.inj (k1.symm.trans hd)
          subst e3
          exact q z _ G2 H2 (g1.trans g2) (dp_mono g2.gg _ _ k2) (p m m1 m3)
/-- a dict of ints -/
def dctI (ms : List (Int × Int)) : List (Key × PyData) := ms.map fun q => (Sum.inl q.1, PyData.int q.2)
def kvsI (ms : List (Int × Int)) : List (Key × V) := ms.map fun q => (Sum.inl q.1, V.int q.2)
theorem kv_dctI {G : Hp} : ∀ {ms : List (Int × Int)} {kvs : List (Key × V)}, KvOk K G kvs (dctI ms) → kvs = kvsI ms
  | [], _, h => by cases h; rfl
  | q :: ms, _, h => by
    cases h with
    | cons h1 h2 =>
      rename_i kv kvs
      obtain ⟨k, v⟩ := kv
      obtain ⟨e1, e2⟩ := h1
      cases e2
      dsimp only at e1
      subst e1
      rw [kv_dctI h2]
      rfl
theorem upd_comm {H : Hp} {a b : Addr} {x y : HO} (h : a ≠ b) : upd (upd H a x) b y = upd (upd H b y) a x := by
  funext c
  by_cases h1 : c = a
  · subst h1
    rw [upd_ne h, upd_same, upd_same]
  · by_cases h2 : c = b
    · subst h2
      rw [upd_same, upd_ne h1, upd_same]
    · rw [upd_ne h2, upd_ne h1, upd_ne h1, upd_ne h2]
/-- [a pair for i, k in enumerate(d)], d one's own dict, only read -/
theorem el_enumD {j a b : Nat} {ms : List (Int × Int)} {f : Nat → Int × Int → Int × Int} (hj : L[j]? = some (some (.own (.dK (dctI ms))))) (hz : ms.length ≤ 100000) (hja : j ≠ a) (hjb : j ≠ b) (hab : a ≠ b) (hla : a < L.length) (hlb : b < L.length)
    (ht : ∀ (i : Nat) q (σ2 : L2.St) (H4 : Hp) (l : Addr) (Q : VK), ms[i]? = some q → σ2[a]? = some (some (.int (i : Nat))) → σ2[b]? = some (some (.int q.1)) → σ2[j]? = some (some (.ref l)) → Rd H4 l (.dK (kvsI ms)) → (∀ p, H4 p = none → Q (.ref p) (upd H4 p (.tup [.int (f i q).1, .int (f i q).2]))) → te σ2 H4 Q)
    (h : Pl (pairsL (ms.mapIdx f))) :
    EL K pen H0 (tLockE (tLc (iEnumK (tCons (tVar j) tNil)) (gTup K 2 (gCons (gName a) (gCons (gName b) gNil))) tYes te [a, b])) L Pl := fun σ G H e Q q => by
  obtain ⟨l, ho, k1, k3, k6⟩ := e.own hj
  obtain ⟨kvs, rfl, k6⟩ := k6.dK
  have ek := kv_dctI k6
  subst ek
  refine ⟨l, _, k3, trivial, fun od => ⟨_, k1, l, od, kvsI ms, rfl, upd_same, fun D hD => ?_⟩⟩
  have nDl : D ≠ l := fun z => by rw [z, upd_same] at hD; cases hD
  have hD0 : H D = none := by rw [upd_ne nDl] at hD; exact hD
  have gl : G l = none := by
    obtain ⟨v, j1, l2, ho2, j2, j3, j4, j5, j6⟩ := e.sl j _ hj
    rw [k1] at j1
    cases j1
    cases j2
    exact j5
  have back : ∀ {H' : Hp}, H' l = some (.frz od (.dK (kvsI ms))) → upd (upd H' l (.dK (kvsI ms))) l (.frz od (.dK (kvsI ms))) = H' := fun {H'} h' => by
    funext c
    by_cases z : c = l
    · subst z; rw [upd_same, h']
    · rw [upd_ne z, upd_ne z]
  have len : (kvsI ms).length = ms.length := List.length_map _
  refine ⟨fun i n H' => n = ms.length - i ∧ i ≤ ms.length ∧ H' l = some (.frz od (.dK (kvsI ms))) ∧ ∃ G' vs, Go pen G H G' (upd H' l (.dK (kvsI ms))) ∧ G' D = none ∧ H' D = some (.lst vs) ∧ DpAll K G' vs (pairsL ((ms.mapIdx f).take i)), ⟨ms.length, rfl, Nat.zero_le _, ?_, G, [], ?_, e.gnone hD0, upd_same, .nil⟩, ?_⟩
  · rw [upd_ne (Ne.symm nDl), upd_same]
  · have : upd (upd (upd H l (.frz od (.dK (kvsI ms)))) D (.lst [])) l (.dK (kvsI ms)) = upd H D (.lst []) := by
      funext c
      by_cases z : c = l
      · subst z; rw [upd_same, upd_ne (Ne.symm nDl), k3]
      · rw [upd_ne z]
        by_cases z2 : c = D
        · subst z2; rw [upd_same, upd_same]
        · rw [upd_ne z2, upd_ne z2, upd_ne z]
    rw [this]
    exact Go.hid e.vw hD0
  · rintro i n H' ⟨rfl, hi, hl, G', vs, g, gD, hDv, hda⟩
    by_cases hlt : i < ms.length
    · refine .inr ⟨⟨hl, by rw [len]; exact hlt⟩, fun H2 => H2 l = some (.frz od (.dK (kvsI ms))) ∧ ∃ G' vs, Go pen G H G' (upd H2 l (.dK (kvsI ms))) ∧ G' D = none ∧ H2 D = some (.lst vs) ∧ DpAll K G' vs (pairsL ((ms.mapIdx f).take (i + 1))), fun H2 ⟨a1, a2⟩ => ⟨ms.length - (i + 1), by omega, rfl, hlt, a1, a2⟩, fun x H2 hx => ?_⟩
      obtain ⟨T, k, v, hkv, rfl, hT, rfl⟩ := hx
      have hq : ms[i]? = some ms[i] := List.getElem?_eq_getElem hlt
      unfold kvsI at hkv
      rw [List.getElem?_map, hq] at hkv
      cases hkv
      have nTl : T ≠ l := fun z => by rw [z, hl] at hT; cases hT
      have nTD : T ≠ D := fun z => by rw [z, hDv] at hT; cases hT
      have g2 := Go.new g.vw (p := T) (o := .tup [.int (i : Nat), .int ms[i].1]) (by rw [upd_ne nTl]; exact hT)
      rw [upd_comm (Ne.symm nTl)] at g2
      have aw : (wipe σ [a, b]).length = L.length := by rw [wipe_length]; exact e.len
      refine ⟨T, [.int (i : Nat), .int ms[i].1], rfl, .inl (.inl upd_same), rfl, _, _, rfl, _, _, rfl, rfl, wipe2 _ _ _ _ _, ?_⟩
      unfold tYes
      dsimp only
      rw [if_pos rfl]
      have jw : (wipe σ [a, b])[j]? = some (some (.ref l)) := by
        rw [wipe_out (by intro z; rcases List.mem_cons.mp z with z | z; exact hja z; exact hjb (List.mem_singleton.mp z))]
        exact k1
      refine ht i ms[i] _ _ l _ hq ?_ ?_ ?_ (.inr ⟨od, by rw [upd_ne (Ne.symm nTl)]; exact hl⟩) fun p hp => ?_
      · rw [List.getElem?_set_ne (Ne.symm hab), List.getElem?_set_self (by omega)]
      · rw [List.getElem?_set_self (by rw [List.length_set]; omega)]
      · rw [List.getElem?_set_ne (Ne.symm hjb), List.getElem?_set_ne (Ne.symm hja)]
        exact jw
      · have npl : p ≠ l := fun z => by rw [z, upd_ne (Ne.symm nTl), hl] at hp; cases hp
        have npD : p ≠ D := fun z => by rw [z, upd_ne (Ne.symm nTD), hDv] at hp; cases hp
        have g3 := Go.new g2.vw (p := p) (o := .tup [.int (f i ms[i]).1, .int (f i ms[i]).2]) (by rw [upd_ne npl]; exact hp)
        rw [upd_comm (Ne.symm npl)] at g3
        have hlen := dpa_len hda
        refine ⟨vs, by rw [upd_ne (Ne.symm npD), upd_ne (Ne.symm nTD)]; exact hDv, ?_, ?_, upd (upd G' T (.tup [.int (i : Nat), .int ms[i].1])) p (.tup [.int (f i ms[i]).1, .int (f i ms[i]).2]), vs ++ [.ref p], ?_, ?_, upd_same, ?_⟩
        · rw [hlen]
          unfold pairsL
          rw [List.length_map, List.length_take]
          exact Nat.lt_of_le_of_lt (Nat.min_le_left _ _) (Nat.lt_of_lt_of_le hlt (Nat.le_trans hz (by decide : 100000 ≤ sizeLine)))
        · rw [upd_ne (Ne.symm nDl), upd_ne (Ne.symm npl), upd_ne (Ne.symm nTl)]
          exact hl
        · rw [upd_comm nDl]
          exact Go.mut e.vw hD0 (by rw [upd_ne (Ne.symm npD), upd_ne (Ne.symm nTD)]; exact gD) (code_ne (o := .lst vs) (by rw [upd_ne nDl]; rw [upd_ne (Ne.symm npD), upd_ne (Ne.symm nTD)]; exact hDv) rfl) ((g.trans g2).trans g3)
        · rw [upd_ne (Ne.symm npD), upd_ne (Ne.symm nTD)]
          exact gD
        · have hm : (ms.mapIdx f).length = ms.length := List.length_mapIdx
          rw [List.take_succ_eq_append_getElem (by rw [hm]; exact hlt)]
          unfold pairsL
          rw [List.map_append]
          refine dpa_app (dpa_mono (g2.gg.trans g3.gg) _ _ hda) (.cons ?_ .nil)
          rw [List.getElem_mapIdx]
          exact .tup (.inl (.inl upd_same)) (.cons (.int _) (.cons (.int _) .nil))
    · have ei : i = ms.length := by omega
      subst ei
      refine .inl ⟨⟨hl, by rw [len]; exact Nat.le_refl _⟩, hl, ?_⟩
      have hm : (ms.mapIdx f).length = ms.length := List.length_mapIdx
      rw [List.take_of_length_le (by rw [hm]; exact Nat.le_refl _)] at hda
      exact q D vs _ G' _ g (by rw [upd_ne nDl]; exact hDv) gD hD0 hda h
end
end Dl
set_option Elab.async false
set_option linter.all false
set_option maxRecDepth 100000
set_option maxHeartbeats 4000000
/-! ### what a call tells as new is looked at, then spoilt, while lists of one's own stand by -/
namespace Dl
open PySem PySem.Spec PyProof.Rows L2
section
variable {K : PySem.W.Frag} {H0 : Hp} {L : Lv} {tl : TA} {tt : TT} {t1 tr : TS} {D : Dn}
theorem s_spoil {α : Type} {pn : Option Pn} {ts : List Addr} {Wf : α → Prop} {enc : α → List PyData} {res : α → PyData → Prop} {X : XK} {i k : Nat}
    (h : EA K ⟨pn, ts⟩ H0 tl (lookL L) fun ds => ∃ x, ds = enc x ∧ Wf x ∧ ∀ d, res x d → (∃ cs es, d = .tuple cs ∧ cs[k]? = some (.list es)) ∧ ET K ⟨pn, ts⟩ H0 tt ((lookL L).set i (some (.d d))) fun b => b = false)
    (hr : S K ⟨pn, ts⟩ H0 tr (L.set i none) D) (hi : i < L.length) (nf : noFr L = true := by rfl) :
    S K ⟨pn, ts⟩ H0 (tSeq (tAsg (tCall (SpXF K ts Wf enc res) [] X tl) (gName i)) (tSeq (tIfS tt t1 tNext) (tSeq (tDrop (tBM0 K "list" rClear (tOp (rIxT K) (tVar i) (tC (.int k))))) tr))) L D := fun σ G H N e n1 n2 n3 n4 n5 n6 => by
  have eL := e.look
  refine h σ _ H eL _ fun vs ds G1 H1 go hd ⟨x, hx, hw, hres⟩ => ⟨x, G1, go.vw.plain, by rw [List.append_nil, ← hx]; exact hd, hw, fun v d G2 H2 go2 hnd p => ?_⟩
  have g3 : Go ⟨pn, ts⟩ G1 H1 (vmax H1 G2 H2) H2 := (Go.see go.vw.plain go2).lift go.vw
  obtain ⟨⟨cs, es, rfl, hk⟩, ht⟩ := hres _ p
  have hdp : Dp K (vmax H1 G2 H2) v (.tuple cs) := dp_mono vnew_max _ _ (nd_dp _ _ hnd)
  have e3 := (eL.go (go.trans g3)).set (i := i) hdp
  cases hnd with
  | tup hs ha =>
    rename_i t xs
    obtain ⟨w, q1, q2⟩ := nda_get ha hk
    cases q2 with
    | lst hW hWa =>
      rename_i l2 vs2
      refine ht _ _ H2 e3 _ fun b G4 H4 g4 hb => ?_
      subst hb
      have ge : Same (vnew H1 G2 H2) G4 := vnew_max.trans g4.gg
      have hl4 : H4 l2 = some (.lst vs2) := g4.vw.vw _ _ (ge _ _ hW)
      have gt : Go ⟨pn, ts⟩ (vmax H0 G H) H G4 H4 := (go.trans g3).trans g4
      have hH1 : H1 l2 = none := by
        rcases vnew_cases hW with ⟨z1, z2⟩ | ⟨z1, z2, z3, _⟩
        · cases z2
        · exact z2
      have hH : H l2 = none := by
        cases z : H l2 with
        | none => rfl
        | some o => exact absurd hH1 (go.dom (by rw [z]; exact fun z => by cases z))
      have ne : ∀ a o, H a = some o → a ≠ l2 := fun a o q z => by rw [z, hH] at q; cases q
      have kp : ∀ a o, ¬ IsPn ⟨pn, ts⟩ a → H a = some o → upd H4 l2 (.lst []) a = some o := fun a o np q => by rw [upd_ne (ne a o q)]; exact gt.od a o np q
      have ev : Ev K ⟨pn, ts⟩ H0 G (upd H4 l2 (.lst [])) (σ.set i (some (.ref t))) (L.set i none) := by
        have nj : ∀ (j : Nat) (av : AV), (L.set i none)[j]? = some (some av) → i ≠ j := fun j av hj q => by
          subst q
          rw [List.getElem?_set_self hi] at hj
          cases hj
        refine ⟨⟨fun a o q => kp a o (fun z => by have := e.vw.no a z; rw [q] at this; cases this) (e.vw.vw a o q), e.vw.no, gt.vw.ok.upd e.vw.ok hH (code_ne hl4 rfl)⟩, e.h0, fun a ha' => ?_, by rw [List.length_set, List.length_set]; exact e.len, fun j av hj => ?_, fun j k' ds' es' l h1 h2 h3 h4 => ?_⟩
        · have z := e.dom a ha'
          cases q : H a with
          | none => exact absurd q z
          | some o =>
            rw [upd_ne (ne a o q)]
            exact gt.dom z
        · have q := nj j av hj
          rw [List.getElem?_set_ne q] at hj
          obtain ⟨u, k1, k2⟩ := e.sl j av hj
          refine ⟨u, by rw [List.getElem?_set_ne q]; exact k1, ?_⟩
          cases av with
          | d y => exact k2
          | pen => exact k2
          | own o =>
            obtain ⟨l, ho, rfl, m1, m2, m3, m4⟩ := k2
            exact ⟨l, ho, rfl, kp l ho (fun z => e.h0.there z m2) m1, m2, m3, m4⟩
          | bor o =>
            obtain ⟨l, ho, rfl, m1, m2, m3, m4⟩ := k2
            exact ⟨l, ho, rfl, kp l ho m3 m1, m2, m3, m4⟩
          | fr y => exact (noFr_get nf hj).elim
        · have z1 := nj j _ h1
          have z2 := nj k' _ h2
          rw [List.getElem?_set_ne z1] at h1 h3
          rw [List.getElem?_set_ne z2] at h2 h4
          exact e.ow j k' ds' es' l h1 h2 h3 h4
      have gx : Gx ⟨pn, ts⟩ H0 G H G (upd H4 l2 (.lst [])) := ⟨Same.refl _, fun _ _ => rfl, fun a o np _ q => kp a o np q⟩
      have k1 : (σ.set i (some (.ref t)))[i]? = some (some (.ref t)) := List.getElem?_set_self (by rw [e.len]; exact hi)
      refine (show tSeq (tDrop (tBM0 K "list" rClear (tOp (rIxT K) (tVar i) (tC (.int k))))) tr N (σ.set i (some (.ref t))) H4 from ?_)
      refine ⟨_, k1, t, xs, k, .ref l2, rfl, rfl, sqT_mono (ge.trans g4.vw.vw) hs, atI_nat q1, .inl ⟨rfl, vs2, .inl (.inl hl4)⟩, l2, vs2, rfl, rfl, hl4, ?_⟩
      exact hr _ G _ N ev (fun σ' G' H' L' x e' q => n1 σ' G' H' L' (gx.trans x) e' q) (fun v d G' H' x vw hd q => n2 v d G' H' (gx.trans x) vw hd q) (fun σ' G' H' L' x e' q => n3 σ' G' H' L' (gx.trans x) e' q) (fun σ' G' H' L' x e' q => n4 σ' G' H' L' (gx.trans x) e' q)
        (fun v d G' H' x vw hd q => n5 v d G' H' (gx.trans x) vw hd q) (fun l ho o G' H' x vw h1 h2 h3 h4 q => n6 l ho o G' H' (gx.trans x) vw h1 h2 h3 h4 q)
end
end Dl
set_option Elab.async false
set_option linter.all false
set_option maxRecDepth 100000
set_option maxHeartbeats 4000000
/-! ### defs that may raise one class of their own; try .. except -/
namespace Dl
open PySem PySem.Spec PyProof.Rows L2
/-- told as data, or the class at C raised -/
def SpXR {α : Type} (K : PySem.W.Frag) (ts : List Addr) (C : Addr) (Wf : α → Prop) (enc : α → List PyData) (res : α → PyData → Prop) (bad : α → Prop) : Sp := fun vs H Q E => ∃ (x : α) (G : Hp), Vw ⟨none, ts⟩ G H ∧ DpAll K G vs (enc x) ∧ Wf x ∧
  (∀ v d G' H', Go ⟨none, ts⟩ G H G' H' → Dp K G' v d → res x d → Q v H') ∧ (bad x → ∀ G' H', Go ⟨none, ts⟩ G H G' H' → E (.ref C) none H')
section
variable {K : PySem.W.Frag} {pen : Pc} {H0 : Hp} {L : Lv} {P P' : PyData → Prop} {ta tb te : TE} {tl : TA} {tt : TT} {ti : TI} {t u : TS} {D : Dn} {g : TG} {Eo : XK} {C : Addr} {bad : Prop}
/-- statements that may raise: the way out is good, where bad -/
def SX (K : PySem.W.Frag) (pen : Pc) (H0 : Hp) (Eo : XK) (C : Addr) (bad : Prop) (t : TS) (L : Lv) (D : Dn) : Prop := ∀ (σ : L2.St) (G H : Hp) (N : Ends), Ev K pen H0 G H σ L →
  (∀ σ' G' H' L', Gx pen H0 G H G' H' → Ev K pen H0 G' H' σ' L' → D.nx L' → N.nx σ' H') →
  (∀ v d G' H', Gx pen H0 G H G' H' → Vw pen G' H' → Dp K G' v d → D.rt d → N.rt v H') →
  (∀ σ' G' H' L', Gx pen H0 G H G' H' → Ev K pen H0 G' H' σ' L' → D.bk L' → N.bk σ' H') →
  (∀ σ' G' H' L', Gx pen H0 G H G' H' → Ev K pen H0 G' H' σ' L' → D.ct L' → N.ct σ' H') →
  (∀ v d G' H', Gx pen H0 G H G' H' → Vw pen G' H' → Nd K (vnew H0 G' H') v d → D.rn d → N.rt v H') →
  (∀ l ho o G' H', Gx pen H0 G H G' H' → Vw pen G' H' → H' l = some ho → H0 l = none → G' l = none → OwnOk K G' l ho o → D.ro o → N.rt (.ref l) H') →
  (bad → ∀ G' H', Gx pen H0 G H G' H' → Vw pen G' H' → Eo (.ref C) none H') → t N σ H
def EX (K : PySem.W.Frag) (pen : Pc) (H0 : Hp) (Eo : XK) (C : Addr) (bad : Prop) (te : TE) (L : Lv) (P : PyData → Prop) : Prop := ∀ (σ : L2.St) (G H : Hp), Ev K pen H0 G H σ L → ∀ Q : VK, (∀ v d G' H', Go pen G H G' H' → Dp K G' v d → P d → Q v H') →
  (bad → ∀ G' H', Go pen G H G' H' → Eo (.ref C) none H') → te σ H Q
theorem sx_of (h : S K pen H0 t L D) : SX K pen H0 Eo C bad t L D := fun σ G H N e n1 n2 n3 n4 n5 n6 _ => h σ G H N e n1 n2 n3 n4 n5 n6
theorem SX.at {σ : L2.St} {G H G1 H1 : Hp} {N : Ends} (h : SX K pen H0 Eo C bad t L D) (e : Ev K pen H0 G1 H1 σ L) (x : Gx pen H0 G H G1 H1) (n1 : ∀ σ' G' H' L', Gx pen H0 G H G' H' → Ev K pen H0 G' H' σ' L' → D.nx L' → N.nx σ' H')
    (n2 : ∀ v d G' H', Gx pen H0 G H G' H' → Vw pen G' H' → Dp K G' v d → D.rt d → N.rt v H') (n3 : ∀ σ' G' H' L', Gx pen H0 G H G' H' → Ev K pen H0 G' H' σ' L' → D.bk L' → N.bk σ' H') (n4 : ∀ σ' G' H' L', Gx pen H0 G H G' H' → Ev K pen H0 G' H' σ' L' → D.ct L' → N.ct σ' H')
    (n5 : ∀ v d G' H', Gx pen H0 G H G' H' → Vw pen G' H' → Nd K (vnew H0 G' H') v d → D.rn d → N.rt v H') (n6 : ∀ l ho o G' H', Gx pen H0 G H G' H' → Vw pen G' H' → H' l = some ho → H0 l = none → G' l = none → OwnOk K G' l ho o → D.ro o → N.rt (.ref l) H')
    (n7 : bad → ∀ G' H', Gx pen H0 G H G' H' → Vw pen G' H' → Eo (.ref C) none H') : t N σ H1 :=
  h σ G1 H1 N e (fun σ2 G2 H2 L2 x2 e2 q => n1 σ2 G2 H2 L2 (x.trans x2) e2 q) (fun v d G2 H2 x2 vw hd q => n2 v d G2 H2 (x.trans x2) vw hd q) (fun σ2 G2 H2 L2 x2 e2 q => n3 σ2 G2 H2 L2 (x.trans x2) e2 q) (fun σ2 G2 H2 L2 x2 e2 q => n4 σ2 G2 H2 L2 (x.trans x2) e2 q)
    (fun v d G2 H2 x2 vw hd q => n5 v d G2 H2 (x.trans x2) vw hd q) (fun l ho o G2 H2 x2 vw h1 h2 h3 h4 q => n6 l ho o G2 H2 (x.trans x2) vw h1 h2 h3 h4 q) fun hb G2 H2 x2 vw => n7 hb G2 H2 (x.trans x2) vw
theorem sx_seq (h : SX K pen H0 Eo C bad t L { D with nx := fun L' => SX K pen H0 Eo C bad u L' D }) : SX K pen H0 Eo C bad (tSeq t u) L D := fun σ G H N e n1 n2 n3 n4 n5 n6 n7 =>
  h σ G H _ e (fun σ' G' H' L' x e' h' => h'.at e' x n1 n2 n3 n4 n5 n6 n7) n2 n3 n4 n5 n6 n7
theorem sx_if (h : ET K pen H0 tt L fun b => (b = true → SX K pen H0 Eo C bad t L D) ∧ (b = false → SX K pen H0 Eo C bad u L D)) : SX K pen H0 Eo C bad (tIfS tt t u) L D := fun σ G H N e n1 n2 n3 n4 n5 n6 n7 =>
  h σ G H e _ fun b G' H' go p => by
    cases b with
    | true => exact (p.1 rfl).at (e.go go) (e.gx go) n1 n2 n3 n4 n5 n6 n7
    | false => exact (p.2 rfl).at (e.go go) (e.gx go) n1 n2 n3 n4 n5 n6 n7
theorem sx_ret (h : EX K pen H0 Eo C bad te L D.rt) : SX K pen H0 Eo C bad (tRet te) L D := fun σ G H N e _ n2 _ _ _ _ n7 => h σ G H e _ (fun v d G' H' g hd p => n2 v d G' H' (e.gx g) g.vw hd p) fun hb G' H' g => n7 hb G' H' (e.gx g) g.vw
theorem sx_asg {i : Nat} (h : EX K pen H0 Eo C bad te L fun d => D.nx (L.set i (some (.d d)))) : SX K pen H0 Eo C bad (tAsg te (gName i)) L D := fun σ G H N e n1 _ _ _ _ _ n7 =>
  h σ G H e _ (fun v d G' H' g hd p => n1 _ G' H' _ (e.gx g) ((e.go g).set hd) p) fun hb G' H' g => n7 hb G' H' (e.gx g) g.vw
/-- raise C(e) -/
theorem sx_raise (hb : bad) (h : E K pen H0 te L fun _ => True) : SX K pen H0 Eo C bad (fun _ σ H => te σ H fun _ H1 => Eo (.ref C) none H1) L D := fun σ G H N e _ _ _ _ _ _ n7 =>
  h σ G H e _ fun v d G' H' g _ _ => n7 hb G' H' (e.gx g) g.vw
theorem sx_raise0 (hb : bad) : SX K pen H0 Eo C bad (fun _ σ H => Eo (.ref C) none H) L D := fun σ G H N e _ _ _ _ _ _ n7 => n7 hb G H .refl e.vw
theorem sx_forI (h : IT K pen H0 ti L fun xs => ∃ I : Nat → Lv → Prop, Wk I 0 L ∧ (∀ (i : Nat) x L', xs[i]? = some x → I i L' → GT K pen H0 g x L' fun L2 => SX K pen H0 Eo C bad t L2 { D with nx := Wk I (i + 1), ct := Wk I (i + 1), bk := D.nx }) ∧ (∀ L', I xs.length L' → ∀ L4, Sub L' L4 → D.nx L4)) :
    SX K pen H0 Eo C bad (tFor ti g t) L D := fun σ G H N e n1 n2 n3 n4 n5 n6 n7 => h σ G H e _ fun J G1 H1 xs go w ⟨I, i0, is, id⟩ => by
  have x1 := e.gx go
  refine ⟨fun i m σ' H' => m = xs.length - i ∧ i ≤ xs.length ∧ ∃ G' L', Gx pen H0 G1 H1 G' H' ∧ Ev K pen H0 G' H' σ' L' ∧ I i L', ⟨xs.length, rfl, Nat.zero_le _, ?_⟩, ?_⟩
  · obtain ⟨L3, s, hI⟩ := i0
    exact ⟨G1, L3, .refl, (e.go go).sub s, hI⟩
  rintro i m σ1 H2 ⟨rfl, hi, G2, L2, x2, e2, q2⟩
  obtain ⟨w1, w2⟩ := w G2 H2 x2.gg e2.vw
  by_cases hlt : i < xs.length
  · obtain ⟨k1, k2⟩ := w1 i _ (List.getElem?_eq_getElem hlt)
    refine .inr ⟨k1, fun σ' H' => ∃ G' L', Gx pen H0 G1 H1 G' H' ∧ Ev K pen H0 G' H' σ' L' ∧ Wk I (i + 1) L', fun σ' H' ⟨G', L', a, b, L3, s, c⟩ => ⟨xs.length - (i + 1), by omega, rfl, hlt, G', L3, a, b.sub s, c⟩, fun v H3 hy => ?_⟩
    obtain ⟨G3, g3, d3⟩ := k2 v H3 hy
    have x3 := x2.trans (e2.gx g3)
    refine is i _ L2 (List.getElem?_eq_getElem hlt) q2 σ1 G3 H3 v (e2.go g3) d3 _ fun σ4 L4 e4 h4 => ?_
    exact h4 σ4 G3 H3 _ e4 (fun σ5 G5 H5 L5 x5 e5 q5 => ⟨G5, L5, x3.trans x5, e5, q5⟩) (fun v d G5 H5 x5 vw hd q5 => n2 v d G5 H5 (x1.trans (x3.trans x5)) vw hd q5)
      (fun σ5 G5 H5 L5 x5 e5 q5 => n1 σ5 G5 H5 L5 (x1.trans (x3.trans x5)) e5 q5) (fun σ5 G5 H5 L5 x5 e5 q5 => ⟨G5, L5, x3.trans x5, e5, q5⟩) (fun v d G5 H5 x5 vw hd q5 => n5 v d G5 H5 (x1.trans (x3.trans x5)) vw hd q5) (fun l ho o G5 H5 x5 vw h1 h2 h3 h4 q5 => n6 l ho o G5 H5 (x1.trans (x3.trans x5)) vw h1 h2 h3 h4 q5)
      fun hb G5 H5 x5 vw => n7 hb G5 H5 (x1.trans (x3.trans x5)) vw
  · have e1 : i = xs.length := by omega
    subst e1
    exact .inl ⟨w2, n1 σ1 G2 H2 L2 (x1.trans x2) e2 (id L2 q2 L2 (Sub.refl _))⟩
theorem ex_of (h : E K pen H0 te L P) : EX K pen H0 Eo C bad te L P := fun σ G H e Q q _ => h σ G H e Q q
theorem ex_op {r : R2} (h : EX K pen H0 Eo C bad ta L fun a => E K pen H0 tb L fun b => R2d K pen r a b P) : EX K pen H0 Eo C bad (tOp r ta tb) L P := fun σ G H e Q q qb =>
  h σ G H e _ (fun v a G1 H1 g1 d1 h1 => h1 σ G1 H1 (e.go g1) _ fun w b G2 H2 g2 d2 h2 => h2 v w G2 H2 g2.vw (dp_mono g2.gg _ _ d1) d2 _ fun z c G3 H3 g3 d3 p => q z c G3 H3 ((g1.trans g2).trans g3) d3 p) qb
/-- a call of a def that may raise, within one that may -/
theorem ex_call {α : Type} {pn : Option Pn} {ts : List Addr} {Wf : α → Prop} {enc : α → List PyData} {res : α → PyData → Prop} {bd : α → Prop} (h : EA K ⟨pn, ts⟩ H0 tl L fun ds => ∃ x, ds = enc x ∧ Wf x ∧ (bd x → bad) ∧ ∀ d, res x d → P d) :
    EX K ⟨pn, ts⟩ H0 Eo C bad (tCallS (SpXR K ts C Wf enc res bd) (fun _ => Eo) tl) L P := fun σ G H e Q q qb =>
  h σ G H e _ fun vs ds G1 H1 go hd ⟨x, hx, hw, hb, hr⟩ => ⟨x, G1, go.vw.plain, by rw [← hx]; exact hd, hw, fun v d G' H' g2 hd2 p => q v d G' H' (go.trans (g2.lift go.vw)) hd2 (hr d p), fun hbd G' H' g2 => qb (hb hbd) G' H' (go.trans (g2.lift go.vw))⟩
end
section
variable {P : Program} {w : World} {K : PySem.W.Frag} {mg : Str → Option Value} {base : Heap}
theorem fnXR {α : Type} {x qual : Str} {st : Stmt} {f : Addr} {fd : FuncData} {N ps : List Str} {k : Nat} {ts : List Addr} {C : Addr} {Wf : α → Prop} {enc : α → List PyData} {res : α → PyData → Prop} {bad : α → Prop} (F : Fun K x qual st f fd) (S0 : FnScope N ps (defScope st)) (hl : ∀ x, Wf x → (enc x).length = ps.length)
    (hbody : ∀ (cdv : Value) (A : Around) (outer : List Env) (s : Shared) (H : Hp) (E : XK), Room k (A.deeper (envOfC qual (defScope st) s.heap.objs.size f cdv)) →
      ∃ t, PSs (cxOf (L2.CX P w) P w K mg base N qual (defScope st) f cdv A outer s H E) (defBody st) t ∧ ∀ x, Wf x → SX K ⟨none, ts⟩ H E C (bad x) t (st0 N (enc x)) { nx := fun _ => res x .none, rt := res x }) : FnOk P w K mg base (L2.CX P w) (k + 1) f fd ps (SpXR K ts C Wf enc res bad) := by
  refine F.okX S0 (fun vs H Q E h => ?_) (fun cdv A outer s H vs Q E hr h => ?_)
  · obtain ⟨x, G, _, h1, h2, _⟩ := h
    rw [dpa_len h1]
    exact hl x h2
  · obtain ⟨x, G, v, h1, h2, q, qb⟩ := h
    obtain ⟨t, ht, hS⟩ := hbody cdv A outer s H E hr
    have go : ∀ {G' H' : Hp}, Gx ⟨none, ts⟩ H G H G' H' → Vw ⟨none, ts⟩ G' H' → Go ⟨none, ts⟩ G H G' H' := fun x vw => ⟨x.gg, x.nw, fun a o hp e => x.od a o hp (by rw [e]; exact fun z => by cases z) e, vw⟩
    refine ⟨t, ht, hS x h2 (L2.start N vs) G H _ (ev_start h1 v) (fun σ' G' H' L' x e' p => ?_) (fun v d G' H' x vw hd p => ?_) (fun _ _ _ _ _ _ z => z.elim) (fun _ _ _ _ _ _ z => z.elim) (fun _ _ _ _ _ _ _ z => z.elim) (fun _ _ _ _ _ _ _ _ _ _ _ z => z.elim) fun hb G' H' x vw => qb hb G' H' (go x vw)⟩
    · exact q .non .none G' H' (go x e'.vw) .non p
    · exact q v d G' H' (go x vw) hd p
end
section
variable {K : PySem.W.Frag} {H0 : Hp} {L : Lv} {tl : TA} {D : Dn} {C : Addr} {c : Value} {ts' : Addr → Value → Option Addr → TS} {Wout : WX} {α : Type} {pn : Option Pn} {ts : List Addr} {Wf : α → Prop} {enc : α → List PyData} {res : α → PyData → Prop} {bad : α → Prop}
theorem S.at {pen : Pc} {t : TS} {σ : L2.St} {G H G1 H1 : Hp} {N : Ends} (h : S K pen H0 t L D) (e : Ev K pen H0 G1 H1 σ L) (x : Gx pen H0 G H G1 H1) (n1 : ∀ σ' G' H' L', Gx pen H0 G H G' H' → Ev K pen H0 G' H' σ' L' → D.nx L' → N.nx σ' H')
    (n2 : ∀ v d G' H', Gx pen H0 G H G' H' → Vw pen G' H' → Dp K G' v d → D.rt d → N.rt v H') (n3 : ∀ σ' G' H' L', Gx pen H0 G H G' H' → Ev K pen H0 G' H' σ' L' → D.bk L' → N.bk σ' H') (n4 : ∀ σ' G' H' L', Gx pen H0 G H G' H' → Ev K pen H0 G' H' σ' L' → D.ct L' → N.ct σ' H')
    (n5 : ∀ v d G' H', Gx pen H0 G H G' H' → Vw pen G' H' → Nd K (vnew H0 G' H') v d → D.rn d → N.rt v H') (n6 : ∀ l ho o G' H', Gx pen H0 G H G' H' → Vw pen G' H' → H' l = some ho → H0 l = none → G' l = none → OwnOk K G' l ho o → D.ro o → N.rt (.ref l) H') : t N σ H1 :=
  h σ G1 H1 N e (fun σ2 G2 H2 L2 x2 e2 q => n1 σ2 G2 H2 L2 (x.trans x2) e2 q) (fun v d G2 H2 x2 vw hd q => n2 v d G2 H2 (x.trans x2) vw hd q) (fun σ2 G2 H2 L2 x2 e2 q => n3 σ2 G2 H2 L2 (x.trans x2) e2 q) (fun σ2 G2 H2 L2 x2 e2 q => n4 σ2 G2 H2 L2 (x.trans x2) e2 q)
    (fun v d G2 H2 x2 vw hd q => n5 v d G2 H2 (x.trans x2) vw hd q) (fun l ho o G2 H2 x2 vw h1 h2 h3 h4 q => n6 l ho o G2 H2 (x.trans x2) vw h1 h2 h3 h4 q)
/-- try: f(..) / except X: suite -/
theorem s_tryOnly (he : PySem.W.exmOne K (.ref C) c = some true)
    (h : EA K ⟨pn, ts⟩ H0 tl L fun ds => ∃ x, ds = enc x ∧ Wf x ∧ (∀ d, res x d → D.nx L) ∧ (bad x → ∀ a, S K ⟨pn, ts⟩ H0 (ts' a (.ref C) none) L D)) :
    S K ⟨pn, ts⟩ H0 (fun N σ H => tDrop (tCallS (SpXR K ts C Wf enc res bad) (fun σ => L2.WE (wOnly K c ts' Wout N) σ) tl) N σ H) L D := fun σ G H N e n1 n2 n3 n4 n5 n6 =>
  h σ G H e _ fun vs ds G1 H1 go hd ⟨x, hx, hw, hn, hb⟩ => ⟨x, G1, go.vw.plain, by rw [← hx]; exact hd, hw, fun v d G' H' g2 hd2 p => n1 σ G' H' L (e.gx (go.trans (g2.lift go.vw))) (e.go (go.trans (g2.lift go.vw))) (hn d p),
    fun hbad G' H' g2 => ⟨true, he, fun _ a ha => (hb hbad a).at (e.go (go.trans (g2.lift go.vw))) (e.gx (go.trans (g2.lift go.vw))) n1 n2 n3 n4 n5 n6, fun z => (by cases z)⟩⟩
theorem set_as {σ : L2.St} {i j : Nat} {x y : Option V} (h : i ≠ j) : ((σ.set i x).set j y).set i none = (σ.set j y).set i none := by
  apply List.ext_getElem?
  intro m
  by_cases h1 : i = m
  · subst h1
    rw [List.getElem?_set, if_pos rfl, List.getElem?_set, if_pos rfl, List.length_set, List.length_set, List.length_set]
  · rw [List.getElem?_set_ne h1, List.getElem?_set_ne h1]
    by_cases h2 : j = m
    · subst h2
      rw [List.getElem?_set, if_pos rfl, List.getElem?_set, if_pos rfl, List.length_set]
    · rw [List.getElem?_set_ne h2, List.getElem?_set_ne h2, List.getElem?_set_ne h1]
/-- try: f(..) / except X as e: y = True, said by what is asked of e -/
theorem s_tryAs {i j : Nat} (hij : i ≠ j) (he : PySem.W.exmOne K (.ref C) c = some true) (hs : ∀ (a : Addr) (σ' : L2.St) (H' : Hp) (N' : Ends), σ'[i]? = some (some (.ref a)) → N'.nx (σ'.set j (some (.bl true))) H' → ts' a (.ref C) none N' σ' H') (hi : i < L.length)
    (h : EA K ⟨pn, ts⟩ H0 tl L fun ds => ∃ x, ds = enc x ∧ Wf x ∧ (∀ d, res x d → D.nx L) ∧ (bad x → D.nx ((L.set j (some (.d (.bool true)))).set i none))) :
    S K ⟨pn, ts⟩ H0 (fun N σ H => tDrop (tCallS (SpXR K ts C Wf enc res bad) (fun σ => L2.WE (wAs K c i ts' Wout N) σ) tl) N σ H) L D := fun σ G H N e n1 n2 n3 n4 n5 n6 =>
  h σ G H e _ fun vs ds G1 H1 go hd ⟨x, hx, hw, hn, hb⟩ => ⟨x, G1, go.vw.plain, by rw [← hx]; exact hd, hw, fun v d G' H' g2 hd2 p => n1 σ G' H' L (e.gx (go.trans (g2.lift go.vw))) (e.go (go.trans (g2.lift go.vw))) (hn d p),
    fun hbad G' H' g2 => ⟨true, he, fun _ a ha => hs a _ H' _ (List.getElem?_set_self (by rw [e.len]; exact hi)) (by
      show N.nx (((σ.set i (some (.ref a))).set j (some (.bl true))).set i none) H'
      rw [set_as hij]
      exact n1 _ G' H' _ (e.gx (go.trans (g2.lift go.vw))) (((e.go (go.trans (g2.lift go.vw))).set (i := j) (.bl true)).unset i) (hb hbad)), fun z => (by cases z)⟩⟩
end
/-- isinstance(e, (X, Y, ..)), e the exception that the suite holds -/
def rIsET (K : PySem.W.Frag) (D a : Addr) : List V → Hp → VK → Prop := fun xs H Q => ∃ (tp : Addr) (cs : List V) (us : List Value) (b : Bool), xs = [.ref a, .ref tp] ∧ H tp = some (.tup cs) ∧ Paired ClsV cs us ∧ PySem.W.kitAny K (.ref D) us = some b ∧ Q (.bl b) H
theorem call_isET {X : Cx} {a D : Addr} {oe : Obj} {pn : List (Addr × Obj)} (C : ExcC X.K D) (hz : Zc (.ref D) none oe) (hf : ∃ vs, oe.data = .fields vs) : CallR (X.suite a ((a, oe) :: pn)) (.builtin "isinstance") (rIsET X.K D a) := by
  intro pins s σ H xs us Q I r h
  obtain ⟨tp, cs, ws, b, rfl, hT, k, e, q⟩ := h
  obtain ⟨u1, u2, rfl, r1, r2⟩ := vals2 r
  cases (show u2 = Value.ref tp from r2)
  cases (show u1 = Value.ref a from r1)
  obtain ⟨hget, _⟩ := I.pin (a, oe) (List.mem_append.mpr (.inl List.mem_cons_self))
  obtain ⟨vs, hv⟩ := hf
  have J : PySem.W.InstAt s.heap a oe D none := by
    obtain ⟨oc, od, oda, osl⟩ := oe
    obtain ⟨h1, h2⟩ := hz
    dsimp only at h1 h2 hv
    subst h1 h2 hv
    exact ⟨hget, rfl, rfl, trivial⟩
  obtain ⟨_, its, rv, o, h1, h2, n, h3⟩ := (show ObjOk X.prog X.w H s.heap tp (.tup cs) from I.hok tp _ hT)
  have e3 := ClsV.all k rv
  subst e3
  obtain ⟨oc, od, dt, sl⟩ := o
  simp only at h2 h3
  subst h2 h3
  exact PySem.W.kia_tup (PySem.W.handS_kitx_exc C.hg C.hk C.hs C.hd C.ha C.hn C.ht C.hm) I.kIn J h1 e (fun z => nomatch z) fun tk => ⟨.bl b, H, I.kept (t' := tk) fun _ _ z => z, rfl, q⟩
/-- the same, whatever the suite holds; its class is asked for in the reading -/
def rIsE1 (K : PySem.W.Frag) (D a : Addr) (cls : Value) (d : Option Addr) : List V → Hp → VK → Prop := fun xs H Q => cls = .ref D ∧ d = none ∧ rIsE K D a xs H Q
def rIsE2 (K : PySem.W.Frag) (D a : Addr) (cls : Value) (d : Option Addr) : List V → Hp → VK → Prop := fun xs H Q => cls = .ref D ∧ d = none ∧ rIsET K D a xs H Q
theorem kx_isE {X : Cx} {a D : Addr} {oe : Obj} {pn : List (Addr × Obj)} {cls : Value} {d : Option Addr} (C : ExcC X.K D) (hz : Zc cls d oe) (hf : ∃ vs, oe.data = .fields vs) : CallR (X.suite a ((a, oe) :: pn)) (.builtin "isinstance") (rIsE1 X.K D a cls d) := by
  intro pins s σ H xs us Q I r h
  obtain ⟨rfl, rfl, h⟩ := h
  exact call_isE C hz hf pins s σ H xs us Q I r h
theorem kx_isET {X : Cx} {a D : Addr} {oe : Obj} {pn : List (Addr × Obj)} {cls : Value} {d : Option Addr} (C : ExcC X.K D) (hz : Zc cls d oe) (hf : ∃ vs, oe.data = .fields vs) : CallR (X.suite a ((a, oe) :: pn)) (.builtin "isinstance") (rIsE2 X.K D a cls d) := by
  intro pins s σ H xs us Q I r h
  obtain ⟨rfl, rfl, h⟩ := h
  exact call_isET C hz hf pins s σ H xs us Q I r h
section
variable {K : PySem.W.Frag} {pen : Pc} {H0 : Hp} {L : Lv} {P : PyData → Prop} {te : TE} {tl : TA}
/-- a module's constant that is data -/
theorem e_cD {v : V} {d : PyData} (h : ∀ G : Hp, Dp K G v d) (p : P d) : E K pen H0 (tC v) L P := fun σ G H e Q q => q v d G H (.refl e.vw) (h G) p
/-- a call of a def that may raise and here does not -/
theorem e_callR {α : Type} {pn : Option Pn} {ts : List Addr} {C : Addr} {Wf : α → Prop} {enc : α → List PyData} {res : α → PyData → Prop} {bd : α → Prop} {X : XK} (h : EA K ⟨pn, ts⟩ H0 tl L fun ds => ∃ x, ds = enc x ∧ Wf x ∧ ¬ bd x ∧ ∀ d, res x d → P d) :
    E K ⟨pn, ts⟩ H0 (tCall (SpXR K ts C Wf enc res bd) [] X tl) L P := fun σ G H e Q q =>
  h σ G H e _ fun vs ds G1 H1 go hd ⟨x, hx, hw, hb, hr⟩ => ⟨x, G1, go.vw.plain, by rw [List.append_nil, ← hx]; exact hd, hw, fun v d G' H' g2 hd2 p => q v d G' H' (go.trans (g2.lift go.vw)) hd2 (hr d p), fun hbd => absurd hbd hb⟩
/-- f'..{i}..' -/
theorem e_js3 {a b : Str} (ha : (Str.empty ++ a).length ≤ sizeLine) (h : E K pen H0 te L fun d => ∃ i : Int, d = .int i ∧ i.natAbs.log2 < 1920 ∧ (Str.empty ++ a ++ toString i).length ≤ sizeLine ∧ (Str.empty ++ a ++ toString i ++ b).length ≤ sizeLine) :
    E K pen H0 (fun σ H Q => tJs [tC (.str a), tFmt te, tC (.str b)] Str.empty σ H fun out H1 => Q (.str out) H1) L fun _ => True := fun σ G H e Q q =>
  ⟨a, rfl, ha, h σ G H e _ fun v d G1 H1 g1 d1 ⟨i, hi, h1, h2, h3⟩ => by
    subst hi
    cases d1
    exact .inr ⟨i, rfl, h1, _, rfl, h2, b, rfl, h3, q _ _ G1 H1 g1 (.str _) trivial⟩⟩
end
end Dl
set_option Elab.async false
set_option linter.all false
set_option maxRecDepth 100000
set_option maxHeartbeats 4000000
/-! ### sorted(t), t a tuple of ints -/
namespace SrtO
open PySem PyProof.Rows Srt
section
variable {prog : Program} {w : World} {A : Around} {E : Value → Shared → Prop} {s : Shared}
/-- the heap with a new empty list, and that list filled -/
abbrev bare (s : Shared) : Heap := s.heap.push (seqObj "list" #[] 0)
abbrev full (s : Shared) (vs : List Value) : Heap := (bare s).update s.heap.objs.size (Obj.mapSeq (· ++ vs.toArray))
theorem bare_new : (bare s).get? s.heap.objs.size = some (seqObj "list" #[] 0) := Heap.get?_push_size _ rfl
theorem full_size {vs : List Value} : (full s vs).objs.size = s.heap.objs.size + 1 := (Heap.size_update ..).trans (size_push' ..)
theorem full_old {vs : List Value} {b : Addr} {o : Obj} (e : s.heap.get? b = some o) : (full s vs).get? b = some o :=
  (Heap.get?_update_ne _ _ _ _ (Nat.ne_of_lt (Heap.lt_size e))).trans (Heap.get?_push_of_some _ e)
/-- a tuple's items put behind the new list's none -/
theorem extT {l : Addr} {vs : List Value} {Q : Fin → Shared → Prop} (hl : s.heap.IsTuple l vs.toArray) (hz : vs.length ≤ sizeLine) (h : Q (.done (.ret (.ref s.heap.objs.size))) { s with heap := full s vs }) :
    wpAny (model prog w) A (Builtin.List.listExtendWith (.ref s.heap.objs.size) (.ref l) (.ref s.heap.objs.size)) Q E { s with heap := bare s } := by
  obtain ⟨tup, at0, isT, m, dat⟩ := hl
  have at1 := Heap.get?_push_of_some (seqObj "list" #[] 0) at0
  have two : (Value.type "tuple" == Value.type "tuple") = true := rfl
  have fits : ((#[] : Array Value) ++ vs.toArray).size ≤ sizeLine + 1 := by
    rw [Array.size_append]
    show 0 + vs.length ≤ sizeLine + 1
    omega
  unfold Builtin.List.listExtendWith
  apply wpAny_bind
  refine wpAny_typeOf (T := "tuple") ⟨tup, at1, isT⟩ ?_
  rw [two, Bool.or_true, if_pos rfl]
  exact wpAny_bind (listItems_at at1 dat (wpAny_bind (listItems_at bare_new rfl (by
    rw [show (!(#[] : Array Value).isEmpty) = false from rfl, Bool.false_and]
    exact wpAny_bind (listUpdate_at bare_new rfl (wpAny_pure h) (Nat.zero_le _) fits)))))
theorem collectT {l : Addr} {vs : List Value} {Q : List Value → Shared → Prop} (hl : s.heap.IsTuple l vs.toArray) (hz : vs.length ≤ sizeLine) (h : Q vs { s with heap := full s vs }) : wpAny (model prog w) A (collect (.ref l)) Q E s := by
  have got : (full s vs).get? s.heap.objs.size = some _ := get?_update_seq bare_new (· ++ vs.toArray)
  have same : ((#[] : Array Value) ++ vs.toArray).toList = vs := by simp
  unfold collect
  apply wpAny_bind
  apply wpAny_runValue
  apply codeAny_builtin entry_proto_collect'
  show wpAny _ _ (newList [] >>= fun n => again (.builtin "list.__iadd__" ⟨[n, .ref l], []⟩)) _ _ s
  apply wpAny_bind
  refine wpAny_newList (wpAny_pure ?_) (Nat.zero_le _)
  refine ⟨Code.quiet_builtin _ (by decide +kernel), codeAny_builtin entry_list_iadd' ?_⟩
  apply extT hl hz
  apply wpAny_bind
  apply wpAny_load got
  apply wpAny_pure
  rw [same]
  exact h
theorem sortedT {l : Addr} {vs : List Value} {ltv : Value → Value → Bool} {Q : Value → Shared → Prop} (O : Swo ltv) (hl : s.heap.IsTuple l vs.toArray) (hz : vs.length ≤ sizeLine)
    (can : ∀ (h₁ : Heap) (a : Addr), 2 ≤ vs.length → SortableO prog w A.in1.in1 { s with heap := h₁ } a vs ltv)
    (h : ∀ out : List Value, Srtd ltv out → Stb ltv out vs → Q (.ref (s.heap.objs.size + 1)) { s with heap := sortedAll s.heap vs out.toArray }) :
    wpAny (model prog w) A (call (.builtin "sorted") [.ref l]) Q E s := by
  have at2 : ((full s vs).push (seqObj "list" vs.toArray 0)).get? (s.heap.objs.size + 1) = some (seqObj "list" vs.toArray 0) := full_size (s := s) (vs := vs) ▸ Heap.get?_push_size (full s vs) rfl
  apply Calls.call_function_entry kind_sorted plain_sorted entry_sorted (args_sorted1 _)
  unfold Builtin.«sorted»
  apply wpAny_bind (m := checkCount "sorted" 1 1 _)
  apply wpAny_pure
  apply wpAny_bind
  apply collectT hl hz
  apply wpAny_bind
  refine wpAny_newList ?_ hz
  show wpAny _ _ _ _ _ { s with heap := (full s vs).push (seqObj "list" vs.toArray 0) }
  rw [show (full s vs).objs.size = s.heap.objs.size + 1 from full_size]
  apply wpAny_bind
  apply wpAny_holding
  refine wpAny_call_entry slot_list_sort ⟨_, at2, rfl⟩ entry_list_sort (list_sort_ord O at2 hz (can _ _) fun out o1 o2 => ⟨_, rfl, ?_⟩) (args_list_sort _)
  exact wpAny_pure ⟨_, rfl, h out o1 o2⟩
end
end SrtO
namespace Dl
open PySem PySem.Spec PyProof.Rows L2
def rSortT (K : PySem.W.Frag) : List V → Hp → VK → Prop := fun vs H Q => ∃ (a : Addr) (ns : List Int), vs = [V.ref a] ∧ SqT K H a (ns.map V.int) ∧ ns.length ≤ 100000 ∧
  ∀ (ns' : List Int) (p : Addr), ns'.Perm ns → ns'.Pairwise (· ≤ ·) → H p = none → Q (.ref p) (upd H p (.lst (ns'.map V.int)))
theorem cr_sortT {X : Cx} : CallR X (.builtin "sorted") (rSortT X.K) := by
  intro pins st σ H xs us Q I rel ask
  obtain ⟨a, ns, rfl, tup, few, q⟩ := ask
  obtain ⟨its, rv, at0, _⟩ := I.tuple tup
  have wh := rv.ints
  have fits : ns.length ≤ sizeLine := Nat.le_trans few (by rw [sizeLine_eq]; decide)
  rw [Vals.ref1 rel]
  apply SrtO.sortedT SrtO.swo_int at0 (by rw [← rv.length, List.length_map]; exact fits) fun _ _ two => SrtO.ints_sortable wh two
  intro out o1 o2
  have ⟨is, pm, le⟩ := SrtO.ints_out wh o1 o2
  have ⟨n, made⟩ := PyProof.Rows.sortedAll_at st.heap its out.toArray
  have sz : ((out.map SrtO.iv).map V.int).length ≤ sizeLine := by rw [List.length_map, pm.length_eq]; exact fits
  refine ⟨.ref _, upd H _ (.lst ((out.map SrtO.iv).map V.int)), I.laid (t' := st.toks) (a := st.heap.objs.size + 1) (fun _ _ => PyProof.Rows.sortedAll_old) (Nat.le_succ _) ⟨sz, out, n, vals_of_ints is, made⟩, rfl, ?_⟩
  exact q _ _ pm le (I.hok.fresh (Nat.le_succ _))
theorem kx_sortT {K : PySem.W.Frag} {X : Cx} (h : X.K = K) : CallR X (.builtin "sorted") (rSortT K) := by subst h; exact cr_sortT
theorem e_sortT {K : PySem.W.Frag} {pen : Pc} {H0 : Hp} {L : Lv} {P : PyData → Prop} {te : TE} (h : E K pen H0 te L fun d => ∃ ns : List Int, d = .tuple (intsL ns) ∧ ns.length ≤ 100000 ∧ ∀ ms : List Int, ms.Perm ns → ms.Pairwise (· ≤ ·) → P (.list (intsL ms))) :
    E K pen H0 (tCB (rSortT K) (tCons te tNil)) L P := fun σ G H e Q q => h σ G H e _ fun v d G1 H1 go hd ⟨ns, hds, hz, p⟩ => by
  subst hds
  cases hd with
  | tup hs ha =>
    rename_i a xs
    have ex := dpa_ints ha
    subst ex
    refine ⟨a, ns, rfl, sqT_mono go.vw.vw hs, hz, fun ms r hp hw hr => ?_⟩
    have g3 := Go.new go.vw (o := .lst (ms.map V.int)) hr
    exact q _ _ _ _ (go.trans g3) (.lst (.inl (.inl upd_same)) (ints_dpa ms)) (p ms hp hw)
end Dl
namespace Dl
open PySem PySem.Spec PyProof.Rows L2
theorem r_notNone {K : PySem.W.Frag} {pen : Pc} {P : PyData → Prop} {a : PyData} (p : P (.bool (!isNone a))) : R2d K pen (fun x y H Q => y = .non ∧ Q (.bl (!decide (x = .non))) H) a .none P := fun x y G H v hx hy Q q => by
  cases hy
  refine ⟨rfl, q _ _ G H (.refl v) ?_ p⟩
  cases hx <;> exact .bl _
end Dl
namespace Dl
open PySem PySem.Spec PyProof.Rows L2
section
variable {K : PySem.W.Frag} {H0 : Hp} {L : Lv} {tl : TA} {D : Dn} {C : Addr} {c : Value} {ts' : Addr → Value → Option Addr → TS} {Wout : WX} {α : Type} {pn : Option Pn} {ts : List Addr} {Wf : α → Prop} {enc : α → List PyData} {res : α → PyData → Prop} {bad : α → Prop}
/-- as s_tryAs, where what is asked of e lays a tuple -/
theorem s_tryAsT {i j : Nat} (hij : i ≠ j) (he : PySem.W.exmOne K (.ref C) c = some true) (hs : ∀ (a : Addr) (σ' : L2.St) (H' : Hp) (N' : Ends), σ'[i]? = some (some (.ref a)) → (∀ p cs, H' p = none → N'.nx (σ'.set j (some (.bl true))) (upd H' p (.tup cs))) → ts' a (.ref C) none N' σ' H') (hi : i < L.length)
    (h : EA K ⟨pn, ts⟩ H0 tl L fun ds => ∃ x, ds = enc x ∧ Wf x ∧ (∀ d, res x d → D.nx L) ∧ (bad x → D.nx ((L.set j (some (.d (.bool true)))).set i none))) :
    S K ⟨pn, ts⟩ H0 (fun N σ H => tDrop (tCallS (SpXR K ts C Wf enc res bad) (fun σ => L2.WE (wAs K c i ts' Wout N) σ) tl) N σ H) L D := fun σ G H N e n1 n2 n3 n4 n5 n6 =>
  h σ G H e _ fun vs ds G1 H1 go hd ⟨x, hx, hw, hn, hb⟩ => ⟨x, G1, go.vw.plain, by rw [← hx]; exact hd, hw, fun v d G' H' g2 hd2 p => n1 σ G' H' L (e.gx (go.trans (g2.lift go.vw))) (e.go (go.trans (g2.lift go.vw))) (hn d p),
    fun hbad G' H' g2 => ⟨true, he, fun _ a ha => hs a _ H' _ (List.getElem?_set_self (by rw [e.len]; exact hi)) (fun p cs hp => by
      show N.nx (((σ.set i (some (.ref a))).set j (some (.bl true))).set i none) _
      rw [set_as hij]
      have g3 := (go.trans (g2.lift go.vw))
      have g4 := g3.trans (Go.hid g3.vw (o := .tup cs) hp)
      exact n1 _ G' _ _ (e.gx g4) (((e.go g4).set (i := j) (.bl true)).unset i) (hb hbad)), fun z => (by cases z)⟩⟩
end
end Dl
set_option Elab.async false
set_option linter.all false
set_option maxRecDepth 100000
set_option maxHeartbeats 4000000
/-! ### defs that may raise, and tell what is new -/
namespace Dl
open PySem PySem.Spec PyProof.Rows L2
def SpXRF {α : Type} (K : PySem.W.Frag) (ts : List Addr) (C : Addr) (Wf : α → Prop) (enc : α → List PyData) (res : α → PyData → Prop) (bad : α → Prop) : Sp := fun vs H Q E => ∃ (x : α) (G : Hp), Vw ⟨none, ts⟩ G H ∧ DpAll K G vs (enc x) ∧ Wf x ∧
  (∀ v d G' H', Go ⟨none, ts⟩ G H G' H' → Nd K (vnew H G' H') v d → res x d → Q v H') ∧ (bad x → ∀ G' H', Go ⟨none, ts⟩ G H G' H' → E (.ref C) none H')
section
variable {P : Program} {w : World} {K : PySem.W.Frag} {mg : Str → Option Value} {base : Heap}
theorem fnXRF {α : Type} {x qual : Str} {st : Stmt} {f : Addr} {fd : FuncData} {N ps : List Str} {k : Nat} {ts : List Addr} {C : Addr} {Wf : α → Prop} {enc : α → List PyData} {res : α → PyData → Prop} {bad : α → Prop} (F : Fun K x qual st f fd) (S0 : FnScope N ps (defScope st)) (hl : ∀ x, Wf x → (enc x).length = ps.length)
    (hbody : ∀ (cdv : Value) (A : Around) (outer : List Env) (s : Shared) (H : Hp) (E : XK), Room k (A.deeper (envOfC qual (defScope st) s.heap.objs.size f cdv)) →
      ∃ t, PSs (cxOf (L2.CX P w) P w K mg base N qual (defScope st) f cdv A outer s H E) (defBody st) t ∧ ∀ x, Wf x → SX K ⟨none, ts⟩ H E C (bad x) t (st0 N (enc x)) { nx := fun _ => False, rt := fun _ => False, rn := res x }) : FnOk P w K mg base (L2.CX P w) (k + 1) f fd ps (SpXRF K ts C Wf enc res bad) := by
  refine F.okX S0 (fun vs H Q E h => ?_) (fun cdv A outer s H vs Q E hr h => ?_)
  · obtain ⟨x, G, _, h1, h2, _⟩ := h
    rw [dpa_len h1]
    exact hl x h2
  · obtain ⟨x, G, v, h1, h2, q, qb⟩ := h
    obtain ⟨t, ht, hS⟩ := hbody cdv A outer s H E hr
    have go : ∀ {G' H' : Hp}, Gx ⟨none, ts⟩ H G H G' H' → Vw ⟨none, ts⟩ G' H' → Go ⟨none, ts⟩ G H G' H' := fun x vw => ⟨x.gg, x.nw, fun a o hp e => x.od a o hp (by rw [e]; exact fun z => by cases z) e, vw⟩
    exact ⟨t, ht, hS x h2 (L2.start N vs) G H _ (ev_start h1 v) (fun _ _ _ _ _ _ z => z.elim) (fun _ _ _ _ _ _ _ z => z.elim) (fun _ _ _ _ _ _ z => z.elim) (fun _ _ _ _ _ _ z => z.elim) (fun v d G' H' x vw hd p => q v d G' H' (go x vw) hd p) (fun _ _ _ _ _ _ _ _ _ _ _ z => z.elim) fun hb G' H' x vw => qb hb G' H' (go x vw)⟩
end
section
variable {K : PySem.W.Frag} {H0 : Hp} {L : Lv} {tl : TA} {D : Dn} {C : Addr} {c : Value} {ts' : Addr → Value → Option Addr → TS} {Wout : WX} {α : Type} {pn : Option Pn} {ts : List Addr} {Wf : α → Prop} {enc : α → List PyData} {res : α → PyData → Prop} {bad : α → Prop} {P : PyData → Prop}
/-- a call of such a def that does not raise here -/
theorem en_callR {X : XK} (h : EA K ⟨pn, ts⟩ H0 tl L fun ds => ∃ x, ds = enc x ∧ Wf x ∧ ¬ bad x ∧ ∀ d, res x d → P d) : EN K ⟨pn, ts⟩ H0 (tCall (SpXRF K ts C Wf enc res bad) [] X tl) L P := fun σ G H e Q q =>
  h σ G H e _ fun vs ds G1 H1 go hd ⟨x, hx, h1, hb, h2⟩ => ⟨x, G1, go.vw.plain, by rw [List.append_nil, ← hx]; exact hd, h1, fun v d G' H' go2 hd2 p =>
    q v d G' H' (go.trans (go2.lift go.vw)) (nd_mono (vnew_call (G1 := G1) (e.go go).dom) _ _ hd2) (h2 d p), fun z => absurd z hb⟩
/-- try: f(..) / except X: suite, f of such a kind -/
theorem s_tryOnlyF (he : PySem.W.exmOne K (.ref C) c = some true)
    (h : EA K ⟨pn, ts⟩ H0 tl L fun ds => ∃ x, ds = enc x ∧ Wf x ∧ (∀ d, res x d → D.nx L) ∧ (bad x → ∀ a, S K ⟨pn, ts⟩ H0 (ts' a (.ref C) none) L D)) :
    S K ⟨pn, ts⟩ H0 (fun N σ H => tDrop (tCallS (SpXRF K ts C Wf enc res bad) (fun σ => L2.WE (wOnly K c ts' Wout N) σ) tl) N σ H) L D := fun σ G H N e n1 n2 n3 n4 n5 n6 =>
  h σ G H e _ fun vs ds G1 H1 go hd ⟨x, hx, hw, hn, hb⟩ => ⟨x, G1, go.vw.plain, by rw [← hx]; exact hd, hw, fun v d G' H' g2 hd2 p => n1 σ G' H' L (e.gx (go.trans (g2.lift go.vw))) (e.go (go.trans (g2.lift go.vw))) (hn d p),
    fun hbad G' H' g2 => ⟨true, he, fun _ a ha => (hb hbad a).at (e.go (go.trans (g2.lift go.vw))) (e.gx (go.trans (g2.lift go.vw))) n1 n2 n3 n4 n5 n6, fun z => (by cases z)⟩⟩
end
section
variable {K : PySem.W.Frag} {pen : Pc} {H0 : Hp} {L : Lv} {D : Dn} {te : TE} {Pl : List PyData → Prop}
/-- a slice of a list is new -/
theorem el_sl {to th : TO} (h : E K pen H0 te L fun a => EO K pen H0 to L fun lo => EO K pen H0 th L fun hi => ∃ ds, a = .list ds ∧ Pl (cutD ds lo hi)) : EL K pen H0 (tSl (rSlL K) te to th) L Pl := fun σ G H e Q q =>
  h σ G H e _ fun v a G1 H1 g1 d1 h1 => h1 σ G1 H1 (e.go g1) _ fun lo G2 H2 g2 h2 => h2 σ G2 H2 (e.go (g1.trans g2)) _ fun hi G3 H3 g3 ⟨ds, hds, p⟩ => by
    subst hds
    have d3 := dp_mono (g2.gg.trans g3.gg) _ _ d1
    cases d3 with
    | lst hs ha =>
      rename_i b xs
      refine ⟨b, xs, rfl, sqL_mono g3.vw.vw hs, fun r hr => ?_⟩
      have g := (g1.trans g2).trans g3
      have e1 := e.go g
      refine q r _ _ G3 _ (g.trans (Go.hid e1.vw (o := .lst (cutV xs lo hi)) hr)) upd_same (e1.gnone hr) ?_ (dpa_cut ha lo hi) p
      cases z : H r with
      | none => rfl
      | some o => exact absurd hr (g.dom (by rw [z]; exact fun z => by cases z))
/-- continue -/
theorem s_cont (h : D.ct L) : S K pen H0 tCont L D := fun σ G H N e _ _ _ n4 _ _ => n4 σ G H L .refl e h
end
end Dl
set_option Elab.async false
set_option linter.all false
set_option maxRecDepth 100000
set_option maxHeartbeats 4000000
/-! ### x[1].append(e); if t: ..; x = (x[0], y): the told list is spoilt, the told text is kept -/
namespace Dl
open PySem PySem.Spec PyProof.Rows L2
section
variable {K : PySem.W.Frag} {pen : Pc} {H0 : Hp} {L : Lv} {D : Dn} {tt : TT} {t1 tr : TS}
theorem s_spoilT {i m : Nat} {w : Str} {es : List PyData} {y : PyData} {c : Int} (hi : L[i]? = some (some (.fr (.tuple [.str w, .list es])))) (hm : (L.set i none)[m]? = some (some (.d y))) (hz : es.length < 100000)
    (ht : ET K pen H0 tt (L.set i none) fun b => b = false) (hr : S K pen H0 tr (L.set i (some (.d (.tuple [.str w, y])))) D) (od : onlyD (L.set i none) = true := by rfl) :
    S K pen H0 (tSeq (tDrop (tBM K "list" rAppend (tOp (rIxT K) (tVar i) (tC (.int (1 : Nat)))) (tCons (tC (.int c)) tNil))) (tSeq (tIfS tt t1 tNext) (tSeq (tAsg (tTup (tCons (tOp (rIxT K) (tVar i) (tC (.int (0 : Nat)))) (tCons (tVar m) tNil))) (gName i)) tr))) L D := fun σ G H N e n1 n2 n3 n4 n5 n6 => by
  obtain ⟨v, k1, k2⟩ := e.sl i _ hi
  cases k2 with
  | tup hs ha =>
    rename_i t xs
    obtain ⟨w0, q0, r0⟩ := nda_get (i := 0) (d := .str w) ha rfl
    obtain ⟨w1, q1, r1⟩ := nda_get (i := 1) (d := .list es) ha rfl
    obtain ⟨l, vs, rfl, m1, m2, m3, m4⟩ := nd_list r1
    have e0 : w0 = .str w := by cases r0; rfl
    subst e0
    have sq : SqT K H t xs := sqT_mono (same_new e) hs
    have e' := e.forget i od
    obtain ⟨ev1, gx1⟩ := e'.spoil od (ho := .lst (vs ++ [.int c])) m2 m3 (code_ne m1 rfl)
    refine ⟨_, k1, t, xs, (1 : Nat), .ref l, rfl, rfl, sq, atI_nat q1, .inl ⟨rfl, vs, .inl (.inl m1)⟩, ⟨l, vs, .int c, rfl, rfl, m1, Nat.lt_of_lt_of_le (by rw [m4]; exact hz) (by decide : 100000 ≤ sizeLine), ?_⟩⟩
    refine ht σ G _ ev1 _ fun b G2 H2 g2 hb => ?_
    subst hb
    have ev2 := ev1.go g2
    have sqG : SqT K G t xs := by
      rcases hs with (h | ⟨o, h⟩) | h
      · rcases vnew_cases h with ⟨z, _⟩ | ⟨_, _, _, _, z⟩
        · exact .inl (.inl z)
        · cases z
      · rcases vnew_cases h with ⟨z, _⟩ | ⟨_, _, _, _, z⟩
        · exact .inl (.inr ⟨o, z⟩)
        · cases z
      · exact .inr h
    have sq2 : SqT K H2 t xs := sqT_mono ev2.vw.vw (sqT_mono g2.gg sqG)
    obtain ⟨vm, km, dm⟩ := ev2.sl m _ hm
    refine ⟨_, k1, t, xs, (0 : Nat), .str w, rfl, rfl, sq2, atI_nat q0, vm, km, by rw [sizeLine_eq]; show 2 ≤ 16777216; decide, fun p hp => ?_⟩
    have g3 := Go.new ev2.vw (o := .tup [.str w, vm]) hp
    have ev3 := (ev2.go g3).set (i := i) (x := .tuple [.str w, y]) (v := .ref p) (.tup (.inl (.inl upd_same)) (.cons (.str w) (.cons (dp_mono g3.gg _ _ dm) .nil)))
    rw [List.set_set] at ev3
    exact hr.at ev3 (gx1.trans ((ev1.gx g2).trans (ev2.gx g3))) n1 n2 n3 n4 n5 n6
end
end Dl

/-! ### x in l, items of any depth; k in a list of ints -/
namespace Dl
open PySem PySem.Spec PyProof.Rows L2
theorem room65 {k : Nat} {A : Around} (r : Room k A) : A.units + 65 < cLine := by have := r.un; omega
theorem kx_inD {K : PySem.W.Frag} {X : Cx} (h : X.K = K) (hu : X.A.units + 65 < cLine) : OpR X (compareOp .In) (rInD K) := by subst h; exact op_inD hu
theorem kx_notInD {K : PySem.W.Frag} {X : Cx} (h : X.K = K) (hu : X.A.units + 65 < cLine) : OpR X (compareOp .NotIn) (rNotInD K) := by subst h; exact op_notInD hu
section
variable {K : PySem.W.Frag} {pen : Pc} {P : PyData → Prop}
theorem r_inD {d : PyData} {ds : List PyData} (ha : SeqAt.shaped d = true) (hb : SeqAt.shaped (.list ds) = true) (p : P (.bool (ds.any fun z => PyData.eqv z d))) : R2d K pen (rInD K) d (.list ds) P := fun x y G H v hx hy Q q =>
  ⟨d, ds, dp_mono v.vw _ _ hx, dp_mono v.vw _ _ hy, ha, hb, q _ _ G H (.refl v) (.bl _) p⟩
theorem r_notInD {d : PyData} {ds : List PyData} (ha : SeqAt.shaped d = true) (hb : SeqAt.shaped (.list ds) = true) (p : P (.bool (!ds.any fun z => PyData.eqv z d))) : R2d K pen (rNotInD K) d (.list ds) P := fun x y G H v hx hy Q q =>
  ⟨d, ds, dp_mono v.vw _ _ hx, dp_mono v.vw _ _ hy, ha, hb, q _ _ G H (.refl v) (.bl _) p⟩
end
end Dl
/-! ### list(x[k]), x told as new -/
namespace Dl
open PySem PySem.Spec PyProof.Rows L2
theorem e_listFrT {K : PySem.W.Frag} {pen : Pc} {H0 : Hp} {L : Lv} {P : PyData → Prop} {i k : Nat} {ds es : List PyData} (hi : L[i]? = some (some (.fr (.tuple ds)))) (hk : ds[k]? = some (.list es)) (hn : noLs es = true) (p : P (.list es)) :
    E K pen H0 (tCB (fun xs H Q => ∃ p ys, xs = [.ref p] ∧ (SqL K H p ys ∨ SqT K H p ys) ∧ ∀ l, H l = none → Q (.ref l) (upd H l (.lst ys))) (tCons (tOp (rIxT K) (tVar i) (tC (.int k))) tNil)) L P := fun σ G H e Q q => by
  obtain ⟨v, k1, k2⟩ := e.sl i _ hi
  cases k2 with
  | tup hs ha =>
    rename_i t xs
    obtain ⟨w1, q1, r1⟩ := nda_get ha hk
    cases r1 with
    | lst hW hWa =>
      rename_i l vs
      have sq : SqT K H t xs := sqT_mono (same_new e) hs
      have dv : DpAll K G vs es := dpa_nol (fun a ys h => by
        rcases h with h | ⟨o, h⟩
        · rcases vnew_cases h with ⟨z, _⟩ | ⟨_, _, _, _, z⟩
          · exact .inl z
          · cases z
        · rcases vnew_cases h with ⟨z, _⟩ | ⟨_, _, _, _, z⟩
          · exact .inr ⟨o, z⟩
          · cases z) _ _ hn (nda_dpa _ _ hWa)
      refine ⟨_, k1, t, xs, (k : Nat), .ref l, rfl, rfl, sq, atI_nat q1, l, vs, rfl, .inl (.inl (.inl (same_new e _ _ hW))), fun r hr => ?_⟩
      have g := Go.new e.vw (o := .lst vs) hr
      exact q _ _ _ _ g (.lst (.inl (.inl upd_same)) (dpa_mono g.gg _ _ dv)) p
end Dl
set_option Elab.async false
set_option linter.all false
set_option maxRecDepth 100000
set_option maxHeartbeats 4000000
namespace Gx
open PySem PySem.Spec PyProof.Rows L2 GenW GxR
/-- the items of a generator that has not begun are collected -/
theorem collect_gen {P : Program} {w : World} {outer : List Env} {H : Hp} {sc s : Shared} {ex : List Addr} {Q : List V → Hp → Prop} {EX : XK} {A : Around} {k : Nat} {u : Value} {Q' : List Value → Shared → Prop} {E : Value → Shared → Prop}
    (hr : Room (k + 3) A) (hfr : A.frames = some outer) (h : GMade P w k outer H sc ex Q EX u s)
    (hQ : ∀ Sa s' acc c H' ys, s.heap.objs.size ≤ Sa → s'.heap.get? Sa = some (lstObj acc c) → Vals ys acc.toList → ys.length ≤ sizeLine → s'.os = sc.os → AllBare s'.gens → Un (frs outer) ex H H' sc.heap s'.heap → HOk P w H' s'.heap → H' Sa = none → Q ys H' → Q' acc.toList s')
    (hexc : ∀ e s', ¬ CX P w outer H sc EX e s') : wpAny (model P w) A (collect u) Q' E s := by
  obtain ⟨a, g, c, rfl, ha1, ha2, hg, hgs, hos, hb, hl, hkp, wake⟩ := h
  have hSa : s.heap.objs.size ≠ a := Nat.ne_of_gt ha2
  have hcl : cStatics < s.heap.objs.size := let ⟨_, hn, _⟩ := hl; hn.lt
  have hSc : s.heap.objs.size ≠ cStatics := Nat.ne_of_gt hcl
  unfold collect
  refine wpAny_bind (wpAny_runValue (codeAny_builtin F.entry_proto_collect ?_))
  rw [Around.under_plainId F.plain_proto_collect _]
  show wpAny _ A.in1 (newList [] >>= fun l => again (.builtin "list.__iadd__" ⟨[l, .ref a], []⟩)) _ _ s
  refine wpAny_bind (wpAny_newObj_type ?_)
  refine wpAny_pure ⟨plainId_quiet F.plain_list_iadd _, codeAny_builtin F.entry_list_iadd ?_⟩
  rw [Around.under_plainId F.plain_list_iadd _]
  show wpAny _ A.in1 (Builtin.List.listExtendWith (.ref s.heap.objs.size) (.ref a) (.ref s.heap.objs.size)) _ _ _
  have hS : (s.heap.push { cls := .type "list", data := .seq ([] : List Value).toArray }).get? s.heap.objs.size = some { cls := .type "list", data := .seq #[] 0 } := Heap.get?_push_size _ rfl
  unfold Builtin.List.listExtendWith
  have up : ∀ (h : Heap) (f : Obj → Obj), (∀ b o, s.heap.get? b = some o → h.get? b = some o) → ∀ b o, s.heap.get? b = some o → (h.update s.heap.objs.size f).get? b = some o := fun h f q b o e =>
    (Heap.get?_update_other _ _ (Ne.symm (Nat.ne_of_lt (Heap.lt_size e)))).trans (q b o e)
  have k2 : ∀ b o, s.heap.get? b = some o → (s.heap.push { cls := .type "list", data := .seq ([] : List Value).toArray }).get? b = some o := fun b o e => Heap.get?_push_of_some _ e
  have gty : ∀ {h : Heap}, (∀ b o, s.heap.get? b = some o → h.get? b = some o) → h.IsGen a g := fun {h} q => hg.keeps q
  refine wpAny_bind (wpAny_typeOf (Heap.IsGen.typeIs (s := { s with heap := _ }) (gty k2)) ?_)
  have h1 : Builtin.List.listSameRef (.ref s.heap.objs.size) (.ref a) = false := by simp [Builtin.List.listSameRef, hSa]
  have h2 : (Value.type "generator" == Value.type "list") = false := by decide
  have h3 : (Value.type "generator" == Value.type "tuple") = false := by decide
  simp only [h1, h2, h3, Bool.or_false, Bool.false_eq_true, if_false]
  refine wpAny_bind (wpAny_pyIter_gen (s := { s with heap := _ }) (gty k2) ?_)
  refine wpAny_bind (wpAny_holding ?_)
  unfold Builtin.List.listLengthHint
  refine wpAny_bind (wpAny_specialOf (Heap.IsGen.typeIs (s := { s with heap := _ }) (gty k2)) F.gen_no_len ?_)
  show wpAny _ A.in1 (specialOf (Value.ref a) (Str.ofString "__length_hint__") >>= _) _ _ _
  refine wpAny_bind (wpAny_specialOf (Heap.IsGen.typeIs (s := { s with heap := _ }) (gty k2)) F.gen_no_hint ?_)
  refine wpAny_pure ?_
  show wpAny _ A.in1 (rule "list.extend.makes-room" >>= fun _ => Builtin.List.listTouch (.ref s.heap.objs.size) >>= fun _ =>
    again (.builtin "list.extend.loop" ⟨[.ref s.heap.objs.size, .ref a, .ref s.heap.objs.size], []⟩)) _ _ _
  refine wpAny_bind (wpAny_rule ?_)
  refine wpAny_bind ?_
  show wpAny _ A.in1 (updateSeq s.heap.objs.size (·.push .none) >>= fun _ => updateSeq s.heap.objs.size (·.pop)) _ _ _
  refine wpAny_bind (wpAny_updateSeq hS rfl ?_)
  have hS3 := Heap.get?_update_self (Obj.mapSeq (·.push Value.none)) hS rfl
  refine wpAny_updateSeq (hz := by seq_fits) hS3 rfl ?_
  have hS4 := Heap.get?_update_self (Obj.mapSeq (·.pop)) hS3 rfl
  have k4 := up _ (Obj.mapSeq (·.pop)) (up _ (Obj.mapSeq (·.push Value.none)) k2)
  refine wpAny_pure ⟨plainId_quiet F.plain_extend_loop _, ?_⟩
  refine drain (P := P) (w := w) (outer := outer) (H := H) (sc := sc) (ex := ex) (Q := Q) (EX := EX) (A := A) (g := g) hr.hd (by have := hr.dp; omega) hSa hSc
    (fun s' acc c H' ys q1 q2 q3 q4 q5 q6 q7 q8 q9 => ?_) (fun e s' hc => absurd hc (hexc e s'))
    sizeLine _ (gty k4) (hl.keeps k4) ⟨_, hgs, rfl, ?_⟩
  · show wpAny _ A (load s.heap.objs.size >>= _) _ _ _
    exact wpAny_bind (wpAny_load q1 (wpAny_pure (hQ _ s' acc c H' ys (Nat.le_refl _) q1 q2 q3 q4 q5 q6 q7 q8 q9)))
  · refine wake _ _ _ ⟨hr.hd, ?_, ?_⟩ hfr (Nat.le_refl _) k4 ⟨_, hS4⟩ hos (allBare_setGen (s := { s with heap := _ }) hb rfl)
    · have := hr.dp
      show A.depth + 3 * k + 5 < _
      omega
    · have := hr.un
      show A.units + 1 + 1 + 16 * k + 200 < _
      omega
/-- sorted(.. for ..), the items pairs of ints -/
def tSortG (K : PySem.W.Frag) (tg : TGen) : TE := fun σ H Q => tg σ H fun ys H' => ∃ ps : List (Int × Int), ps.length = ys.length ∧
  (∀ (i : Nat) z c, ys[i]? = some z → ps[i]? = some c → ∃ t, z = V.ref t ∧ SqT K H' t [.int c.1, .int c.2]) ∧
  ∀ (ws : List V) (qs : List (Int × Int)) r, ws.length = qs.length → (ws.zip qs).Perm (ys.zip ps) → qs.Pairwise Dl.LexLe → H' r = none → Q (.ref r) (upd H' r (.lst ws))
section
variable {X : Cx}
theorem pe_sortedG {e : Expr} {tg : TGen} {k : Nat} {p pos : Pos} (h : PGen X k e tg (fun _ _ _ => False)) (hr : Room (k + 4) X.A) (hg : Gl X "sorted") (hm : X.mg "sorted" = none) (hv : bootBuiltins "sorted" = some (.builtin "sorted"))
    (hst : starEach [e] X.env = (false, eval e X.env) :: starEach [] X.env := by rfl) : PE X (.Call (.Name "sorted" p) [e] [] pos) (tSortG X.K tg) := by
  refine ⟨fun pins s σ H Q I q => ?_⟩
  refine wpAny_Call_Name_kw (ld_blt I hg hm hv ?_)
  refine PyProof.Rows.callWith_builtin1 ?_ hst (by rfl)
  rw [hst]
  show wpAny _ _ (spliced ((false, eval e X.env) :: backTo pos (starEach [] X.env))) _ _ s
  refine Calls.spliced_cons (thn (h.run pins s σ H _ I q) fun u s1 ⟨H1, sc, ex, I1, hex, gm⟩ => ?_)
  refine Calls.spliced_nil ?_
  refine Calls.call_function_entry kind_sorted plain_sorted entry_sorted (args_sorted1 _) ?_
  unfold Builtin.«sorted»
  refine wpAny_bind (m := checkCount "sorted" 1 1 _) (wpAny_pure ?_)
  refine wpAny_bind (collect_gen (A := X.A.in1) hr.in1 I1.ok.frames gm (fun Sa s2 acc c H' ys hSa q1 q2 q3 q4 q5 q6 q7 q8 q9 => ?_) fun e s' z => ?_)
  · obtain ⟨ps, hlen, hz, q⟩ := q9
    obtain ⟨hh, g2, d2, t2, os2⟩ := s2
    have I2 : Inv X pins σ H' ⟨hh, g2, d2, t2, os2⟩ := by
      have q4 : os2 = sc.os := q4
      subst q4
      exact I1.call (h' := hh) (g' := g2) (d' := d2) (t' := t2) (ch := ex) q6 q7 q5 hex
    have hil : acc.toList.length = ys.length := q2.length.symm
    have refs : ∀ z ∈ ys, ∃ t, z = V.ref t := fun z hm => by
      obtain ⟨i, hi⟩ := List.mem_iff_getElem?.mp hm
      have hlt := (List.getElem?_eq_some_iff.mp hi).1
      obtain ⟨t, e, _⟩ := hz i z _ hi (List.getElem?_eq_getElem (show i < ps.length by omega))
      exact ⟨t, e⟩
    obtain ⟨m1, m2⟩ := refs_back q2 refs
    have pairI : ∀ (i : Nat) v c, acc.toList[i]? = some v → ps[i]? = some c → Srt.IsPair hh v c.1 c.2 := fun i v c hv hc => by
      obtain ⟨t, rfl⟩ := m2 v (List.mem_of_getElem? hv)
      have hzv : ys[i]? = some (V.ref t) := by rw [m1, List.getElem?_map, hv]; rfl
      obtain ⟨t2, e, ht⟩ := hz i _ c hzv hc
      cases e
      obtain ⟨two, r2, ⟨ob, hob, hcl, n, hdat⟩, _⟩ := I2.tuple ht
      obtain ⟨c1, c2, rfl, ⟨k1, rfl⟩, ⟨k2, rfl⟩⟩ := vals2 r2
      exact ⟨t, ob, k1, k2, n, rfl, hob, hcl, hdat⟩
    have keyI : acc.toList.map (Dl.pairAt hh) = ps := Dl.map_of_at (by omega) fun i v c hv hc => Dl.pairAt_eq (pairI i v c hv hc)
    have allP : ∀ v ∈ acc.toList, Srt.IsPair hh v (Dl.pairAt hh v).1 (Dl.pairAt hh v).2 := fun v hv => by
      obtain ⟨i, hi⟩ := List.mem_iff_getElem?.mp hv
      have hlt := (List.getElem?_eq_some_iff.mp hi).1
      have hc : ps[i]? = some ps[i] := List.getElem?_eq_getElem (show i < ps.length by omega)
      have := pairI i v _ hi hc
      rw [Dl.pairAt_eq this]
      exact this
    have hzl : acc.toList.length ≤ sizeLine := by rw [hil]; exact q3
    refine wpAny_bind (wpAny_newList ?_ hzl)
    refine wpAny_bind (wpAny_holding (wpAny_call_entry slot_list_sort ⟨_, Heap.get?_push_size _ rfl, rfl⟩ entry_list_sort (SrtO.list_sort_ord (n := 0) (vs := acc.toList) (SrtO.swo_lex (Dl.pairAt hh)) (Heap.get?_push_size _ rfl) hzl (fun two => ?_) fun out srt stb => ⟨_, rfl, ?_⟩) (args_list_sort _)))
    · refine SrtO.pairs_sortableO (by omega) (fun v hm => (allP v hm).keeps fun b o e _ => Heap.get?_push_of_some _ e) fun o e => ?_
      have e' : some o = some (seqObj "list" acc.toList.toArray 0) := e.symm.trans (Heap.get?_push_size _ rfl)
      cases e'
      intro z
      exact absurd (Value.type.inj z) (by decide)
    · have perm := stb.perm
      have all : ∀ c ∈ out, ∃ a, c = Value.ref a := fun c hc => m2 c (perm.mem_iff.mp hc)
      obtain ⟨n, hn⟩ := sortedHeap_at (h := hh.push { cls := .type "list", data := .seq acc.toList.toArray }) (a := hh.objs.size) (vs := acc.toList) (n := 0) (out := out.toArray) (Heap.get?_push_size _ rfl)
      have kept : ∀ b o, hh.get? b = some o → (sortedHeap (hh.push { cls := .type "list", data := .seq acc.toList.toArray }) hh.objs.size acc.toList out.toArray).get? b = some o := fun b o e => by
        rw [sortedHeap_old (Nat.ne_of_lt (Heap.lt_size e)) (by rw [Heap.size_push]; exact Nat.lt_succ_of_lt (Heap.lt_size e))]
        exact Heap.get?_push_of_some _ e
      have hlen2 : (out.map backV).length ≤ sizeLine := by
        rw [List.length_map, perm.length_eq]
        exact hzl
      refine wpAny_pure ⟨_, rfl, .ref hh.objs.size, upd H' hh.objs.size (.lst (out.map backV)), I2.laid (t' := t2) kept (Nat.le_refl _) ⟨hlen2, out, n, vals_back all, hn⟩, rfl, q _ (out.map (Dl.pairAt hh)) _ (by rw [List.length_map, List.length_map]) ?_ ?_ (I2.hok.fresh (Nat.le_refl _))⟩
      · rw [Dl.zip_maps, m1, ← keyI, Dl.zip_maps]
        exact perm.map _
      · rw [List.pairwise_map]
        exact srt
  · obtain ⟨_, _, _, _, _, _, _, _, _, _, _, _, z⟩ := z
    exact z
end
end Gx
set_option Elab.async false
set_option linter.all false
set_option maxRecDepth 100000
/-! sorted(range(..), key=lambda ..), sorted(pairs for ..) by data -/
namespace Dl
open PySem PySem.Spec PyProof.Rows L2
variable {K : PySem.W.Frag} {pen : Pc} {H0 : Hp} {L : Lv} {D : Dn} {Pd : PyData → Prop} {Pl : List PyData → Prop} {ti : TI} {g : TG} {tt : TT} {te ta : TE}
/-- sorted((e1, e2) for x in ..) -/
theorem el_sortG {pn : Option Pn} {ts : List Addr} {Tb : Addr} {vs : List Nat} (f : Nat → Int × Int) (hT : Tb ∈ ts) (h : IT K ⟨pn, ts⟩ H0 ti L fun xs => xs.length ≤ 50000 ∧ (∀ (i : Nat) x, xs[i]? = some x → GTw K ⟨pn, ts⟩ H0 vs g x (wipeL L vs) fun L2 => E K ⟨pn, ts⟩ H0 te L2 fun d => d = pairD (f i)) ∧
    ∀ qs : List (Int × Int), qs.Perm ((List.range xs.length).map f) → qs.Pairwise LexLe → Pl (pairsL qs)) : EL K ⟨pn, ts⟩ H0 (_root_.Gx.tSortG K (_root_.Gx.tgGx Tb ti g tYes te vs)) L Pl := fun σ G H e Q q => h σ G H e _ fun It G1 H1 xs gg w ⟨hn, js, je⟩ => by
  refine ⟨gg.vw.ok.2 Tb hT, fun H2 htab => ?_⟩
  have g2 := Go.tab gg.vw hT htab
  refine ⟨fun i m acc H' => m = xs.length - i ∧ i ≤ xs.length ∧ ∃ G', Go ⟨pn, ts⟩ G1 H2 G' H' ∧ DpAll K G' acc (pairsL ((List.range i).map f)), ⟨xs.length, rfl, Nat.zero_le _, G1, .refl g2.vw, .nil⟩, ?_⟩
  rintro i m acc H' ⟨rfl, hi, G', g', dacc⟩
  obtain ⟨w1, w2⟩ := w G' H' g'.gg g'.vw
  have hal : acc.length = i := by
    have := dpa_len dacc
    unfold pairsL at this
    rw [List.length_map, List.length_map, List.length_range] at this
    exact this
  by_cases hlt : i < xs.length
  · obtain ⟨k1, k2⟩ := w1 i _ (List.getElem?_eq_getElem hlt)
    refine .inr ⟨k1, fun acc' H3 => ∃ G', Go ⟨pn, ts⟩ G1 H2 G' H3 ∧ DpAll K G' acc' (pairsL ((List.range (i + 1)).map f)), fun acc' H3 k => ⟨xs.length - (i + 1), by omega, rfl, hlt, k⟩, fun y H3 hy => ?_⟩
    obtain ⟨G3, g3, d3⟩ := k2 y H3 hy
    refine js i _ (List.getElem?_eq_getElem hlt) (wipe σ vs) G3 H3 y (ev_wipe ((((e.go gg).go g2).go g').go g3) vs) d3 _ fun σ4 L4 ag e4 h4 => ⟨wipe_agree ag, ?_⟩
    show te σ4 H3 _
    refine h4 σ4 G3 H3 e4 _ fun v d G5 H5 g5 d5 p5 => ?_
    subst p5
    refine ⟨by omega, G5, (g'.trans g3).trans g5, ?_⟩
    rw [List.range_succ, List.map_append, show pairsL ((List.range i).map f ++ [i].map f) = pairsL ((List.range i).map f) ++ [pairD (f i)] from by unfold pairsL; rw [List.map_append]; rfl]
    exact dpa_app (dpa_mono (g3.gg.trans g5.gg) _ _ dacc) (.cons d5 .nil)
  · have e1 : i = xs.length := by omega
    subst e1
    refine .inl ⟨w2, (List.range xs.length).map f, by rw [List.length_map, List.length_range, hal], fun j z c hz hc => ?_, fun ws qs r hl hp ho hr => ?_⟩
    · obtain ⟨d, hd, dd⟩ := dpa_getV dacc hz
      unfold pairsL at hd
      rw [List.getElem?_map, hc] at hd
      cases hd
      cases dd with
      | tup k1 k2 =>
        have := dpa_two k2
        subst this
        exact ⟨_, rfl, sqT_mono g'.vw.vw k1⟩
    · have hlen : acc.length = ((List.range xs.length).map f).length := by rw [List.length_map, List.length_range, hal]
      have hq : qs.Perm ((List.range xs.length).map f) := by
        have := hp.map (·.2)
        rw [zip_snd hl, zip_snd hlen] at this
        exact this
      have h2 : DpAll K G' ws (pairsL qs) := by
        refine dpa_at (by unfold pairsL; rw [List.length_map]; exact hl) fun x hx => ?_
        unfold pairsL at hx
        rw [zip_mapR] at hx
        obtain ⟨y, hy, rfl⟩ := List.mem_map.mp hx
        have hm : y ∈ acc.zip ((List.range xs.length).map f) := hp.mem_iff.mp hy
        have := dpa_zip dacc (y.1, pairD y.2) (by unfold pairsL; rw [zip_mapR]; exact List.mem_map.mpr ⟨y, hm, rfl⟩)
        exact this
      have gt := (gg.trans g2).trans g'
      have e1 := e.go gt
      have g3 := Go.hid e1.vw (o := .lst ws) hr
      exact q r ws _ G' _ (gt.trans g3) upd_same (e1.gnone hr) (EL.out e gt hr) h2 (je qs hq ho)
/-- sorted(range(n), key=lambda p: -l[p]) -/
theorem el_sortK {pn : Option Pn} {ts : List Addr} {Tb : Addr} {j ip : Nat} {ls : List Int} (hT : Tb ∈ ts) (hj : L[j]? = some (some (.d (.list (intsL ls))))) (hij : ip ≠ j) (hip : ip < L.length)
    (h : E K ⟨pn, ts⟩ H0 ta L fun d => ∃ n : Nat, d = .int n ∧ n < 64 ∧ n ≤ ls.length ∧ ∀ out : List Nat, out.Perm (List.range n) → (out.map fun i => -(ls.getD i 0)).Pairwise (· ≤ ·) → Pl (intsL (out.map fun i => ((i : Nat) : Int)))) :
    EL K ⟨pn, ts⟩ H0 (_root_.Gx.tSortK Tb (tRg1 ta) (tUn (rU fun i => .int (-i)) (tOp (rIxL K) (tVar j) (tVar ip))) ip) L Pl := fun σ G H e Q q => h σ G H e _ fun v d G1 H1 gg d1 ⟨n, hd, hn, hnl, p⟩ => by
  subst hd
  cases d1
  refine ⟨(n : Int), rfl, gg.vw.ok.2 Tb hT, fun H2 htab => ?_⟩
  have g2 := Go.tab gg.vw hT htab
  have e2 := (e.go gg).go g2
  obtain ⟨lv, k1, k2⟩ := e2.sl j _ hj
  refine ⟨n, fun i => -(ls.getD i 0), rfl, rfl, hn, fun i hi => ?_, fun out r hp ho hr => ?_⟩
  · have k2 : Dp K G1 lv (.list (intsL ls)) := k2
    cases k2 with
    | lst hs ha =>
      have ex := dpa_ints ha
      subst ex
      have hil : i < ls.length := by omega
      refine ⟨_, by rw [List.getElem?_set_ne hij]; exact k1, _, List.getElem?_set_self (by rw [e2.len]; exact hip), _, _, (i : Nat), .int (ls.getD i 0), rfl, rfl, sqL_mono e2.vw.vw hs, atI_nat ?_, _, rfl, rfl, rfl⟩
      rw [List.getElem?_map, List.getElem?_eq_getElem hil, List.getD_eq_getElem?_getD, List.getElem?_eq_getElem hil]
      rfl
  · have g3 := Go.hid e2.vw (o := .lst (out.map fun i => V.int ((i : Nat) : Int))) hr
    have dd : DpAll K G1 (out.map fun i => V.int ((i : Nat) : Int)) (intsL (out.map fun i => ((i : Nat) : Int))) := by
      have := ints_dpa (K := K) (G := G1) (out.map fun i => ((i : Nat) : Int))
      rw [List.map_map] at this
      exact this
    exact q r _ _ G1 _ ((gg.trans g2).trans g3) upd_same (e2.gnone hr) (EL.out e (gg.trans g2) hr) dd (p out hp ho)
end Dl
set_option Elab.async false
set_option linter.all false
set_option maxRecDepth 100000
/-! sorted(set(pairs)) of pairs that stand in their order, len(set(ints)) of unlike ints -/
namespace Dl
open PySem PySem.Spec PyProof.Rows L2
section
variable {X : Cx}
theorem kx_lenSetI {K : PySem.W.Frag} {a : Expr} {ta : TE} {p p2 q pos : Pos} (h : X.K = K) (hg : Gl X "len") (hm : X.mg "len" = none) (hg2 : Gl X "set") (hm2 : X.mg "set" = none) (ha : PE X a ta) (hc : X.calm = true)
    (na : starEach [a] X.env = (false, eval a X.env) :: starEach [] X.env := by rfl) : PE X (.Call (.Name "len" p) [.Call (.Name "set" p2) [a] [] q] [] pos) (RZ.tLenSetI K ta) := by subst h; exact RZ.pe_lenSetI hg hm hg2 hm2 ha hc na
end
section
variable {K : PySem.W.Frag} {pen : Pc} {H0 : Hp} {L : Lv} {te : TE} {Pl : List PyData → Prop} {Pd : PyData → Prop} {P : Program} {w : World}
theorem e_lenSetI (h : E K pen H0 te L fun d => ∃ ns : List Int, d = .list (intsL ns) ∧ ns.Nodup ∧ ns.length ≤ 4000 ∧ Pd (.int (ns.length : Nat))) : E K pen H0 (RZ.tLenSetI K te) L Pd := fun σ G H e Q q => h σ G H e _ fun v d G1 H1 go hd ⟨ns, hds, hn, hl, p⟩ => by
  subst hds
  cases hd with
  | lst hs ha =>
    have ex := dpa_ints ha
    subst ex
    exact ⟨_, ns, rfl, sqL_mono go.vw.vw hs, hn, hl, q _ _ G1 H1 go (.int _) p⟩
/-- strictly in the pairs' order -/
abbrev LexLt (a b : Int × Int) : Prop := a.1 < b.1 ∨ (a.1 = b.1 ∧ a.2 < b.2)
theorem dpa_pairsX {G : Hp} : ∀ {cs : List (Int × Int)} {vs : List V}, DpAll K G vs (pairsL cs) → ∃ ks : List (Addr × List Int), vs = ks.map (fun p => V.ref p.1) ∧ (∀ p ∈ ks, SqT K G p.1 (p.2.map V.int)) ∧ ks.map (·.2) = cs.map fun c => [c.1, c.2]
  | [], _, h => by cases h; exact ⟨[], rfl, fun p hp => (nomatch hp), rfl⟩
  | c :: cs, vs, h => by
    have h : DpAll K G vs (.tuple [.int c.1, .int c.2] :: pairsL cs) := h
    cases h with
    | cons h1 t =>
      obtain ⟨ks, e1, e2, e3⟩ := dpa_pairsX t
      cases h1 with
      | tup hs ha =>
        rename_i a xs
        have := dpa_two ha
        subst this
        subst e1
        refine ⟨(a, [c.1, c.2]) :: ks, rfl, fun p hp => ?_, by rw [List.map_cons, List.map_cons, e3]⟩
        rcases List.mem_cons.mp hp with rfl | hp
        · exact hs
        · exact e2 p hp
theorem code_two (B x y : Int) : TS.code B [x, y] = x * B + y := by
  show x * B ^ 1 + (y * B ^ 0 + 0) = x * B + y
  rw [Int.pow_succ, Int.pow_zero, Int.one_mul, Int.mul_one, Int.add_zero]
theorem code_le {a b : Int × Int} (ha : 0 ≤ a.1 ∧ a.1 < 10000 ∧ 0 ≤ a.2 ∧ a.2 < 10000) (hb : 0 ≤ b.1 ∧ b.1 < 10000 ∧ 0 ≤ b.2 ∧ b.2 < 10000) (h : TS.code 10000 [a.1, a.2] ≤ TS.code 10000 [b.1, b.2]) : LexLt a b ∨ a = b := by
  rw [code_two, code_two] at h
  rcases Int.lt_trichotomy a.1 b.1 with c | c | c
  · exact .inl (.inl c)
  · rcases Int.lt_trichotomy a.2 b.2 with k | k | k
    · exact .inl (.inr ⟨c, k⟩)
    · exact .inr (Prod.ext c k)
    · omega
  · omega
theorem el_sortSetS (h : E K pen H0 te L fun d => ∃ cs : List (Int × Int), d = .list (pairsL cs) ∧ cs.length < 64 ∧ cs.Pairwise LexLt ∧ (∀ c ∈ cs, 0 ≤ c.1 ∧ c.1 < 10000 ∧ 0 ≤ c.2 ∧ c.2 < 10000) ∧ Pl (pairsL cs)) :
    EL K pen H0 (tCB (rSortedT K P w) (tCons (tCB (rSetOfT K P w) (tCons te tNil)) tNil)) L Pl := fun σ G H e Q q =>
  h σ G H e _ fun v d G1 H1 go hd ⟨cs, hcs, hl, hlt, hb, p⟩ => by
    subst hcs
    cases hd with
    | lst hs ha =>
      rename_i a vs
      obtain ⟨ks, rfl, k2, k3⟩ := dpa_pairsX ha
      have e1 := e.go go
      have klen : ks.length = cs.length := by have := congrArg List.length k3; rw [List.length_map, List.length_map] at this; exact this
      have inK : ∀ p ∈ ks, ∃ c ∈ cs, p.2 = [c.1, c.2] := fun p hp => by
        have : p.2 ∈ ks.map (·.2) := List.mem_map.mpr ⟨p, hp, rfl⟩
        rw [k3] at this
        obtain ⟨c, hc, e⟩ := List.mem_map.mp this
        exact ⟨c, hc, e.symm⟩
      refine ⟨a, ks, rfl, sqL_mono go.vw.vw hs, fun p hp => sqT_mono go.vw.vw (k2 p hp), by omega, fun b M hb1 m1 m2 => ?_⟩
      have g2 := Go.hid e1.vw (o := SetTO P w b M) hb1
      have e2 := e1.go g2
      refine ⟨b, M, 2, 10000, rfl, upd_same, fun p hp => sqT_mono g2.vw.vw (k2 p (m1 p hp)), by decide, fun p hp => ?_, fun N r pm nd lenN srt hr => ?_⟩
      · obtain ⟨c, hc, e⟩ := inK p (m1 p hp)
        rw [e]
        refine ⟨rfl, fun m hm => ?_⟩
        have := hb c hc
        rcases List.mem_cons.mp hm with rfl | hm
        · omega
        · rw [List.mem_singleton.mp hm]; omega
      · have g3 := Go.hid e2.vw (o := .lst (N.map fun q => V.ref q.1)) hr
        -- the pairs of N
        have inN : ∀ p ∈ N, ∃ c ∈ cs, p.2 = [c.1, c.2] := fun p hp => inK p (m1 p (pm.mem_iff.mp hp))
        have hd : ∃ ds : List (Int × Int), N.map (·.2) = ds.map (fun c => [c.1, c.2]) ∧ ∀ c ∈ ds, c ∈ cs := by
          have all : ∀ l : List (Addr × List Int), (∀ p ∈ l, ∃ c ∈ cs, p.2 = [c.1, c.2]) → ∃ ds : List (Int × Int), l.map (·.2) = ds.map (fun c => [c.1, c.2]) ∧ ∀ c ∈ ds, c ∈ cs := by
            intro l
            induction l with
            | nil => intro _; exact ⟨[], rfl, fun _ z => nomatch z⟩
            | cons x l ih =>
              intro hl
              obtain ⟨c, hc, e⟩ := hl x (List.mem_cons_self ..)
              obtain ⟨ds, e1, e2⟩ := ih fun y hy => hl y (List.mem_cons_of_mem _ hy)
              exact ⟨c :: ds, by rw [List.map_cons, List.map_cons, e, e1], fun z hz => (List.mem_cons.mp hz).elim (fun k => k ▸ hc) (e2 z)⟩
          exact all N inN
        obtain ⟨ds, d1, d2⟩ := hd
        have inj : ∀ {c c' : Int × Int}, ([c.1, c.2] : List Int) = [c'.1, c'.2] → c = c' := fun {c c'} h => by
          have h1 := (List.cons.inj h).1
          have h2 := (List.cons.inj (List.cons.inj h).2).1
          exact Prod.ext h1 h2
        have dsnd : ds.Nodup := by
          rw [d1] at nd
          exact (List.pairwise_map.mp nd).imp fun hab z => hab (by rw [z])
        have csnd : cs.Nodup := hlt.imp fun hab z => by rw [z] at hab; omega
        have allin : ∀ c ∈ cs, c ∈ ds := fun c hc => by
          have : ([c.1, c.2] : List Int) ∈ ks.map (·.2) := by rw [k3]; exact List.mem_map.mpr ⟨c, hc, rfl⟩
          obtain ⟨k, hk, e⟩ := List.mem_map.mp this
          have := m2 k hk
          rw [e] at this
          obtain ⟨y, hy, e⟩ := List.mem_map.mp this
          have : y.2 ∈ N.map (·.2) := List.mem_map.mpr ⟨y, pm.mem_iff.mpr hy, rfl⟩
          rw [d1, e] at this
          obtain ⟨z, hz, e⟩ := List.mem_map.mp this
          rw [← inj e]
          exact hz
        have dp : ds.Perm cs := (List.perm_ext_iff_of_nodup dsnd csnd).mpr fun c => ⟨d2 c, allin c⟩
        have dsS : ds.Pairwise fun a b => TS.code 10000 [a.1, a.2] ≤ TS.code 10000 [b.1, b.2] := by
          have : (N.map (·.2)).Pairwise fun x y => TS.code 10000 x ≤ TS.code 10000 y := List.pairwise_map.mpr srt
          rw [d1] at this
          exact (List.pairwise_map (R := fun x y => TS.code 10000 x ≤ TS.code 10000 y) (f := fun c : Int × Int => [c.1, c.2])).mp this
        have csS : cs.Pairwise fun a b => TS.code 10000 [a.1, a.2] ≤ TS.code 10000 [b.1, b.2] := by
          refine List.Pairwise.imp_of_mem (fun {a b} ha hb' hab => ?_) hlt
          rw [code_two, code_two]
          have h1 := hb a ha
          have h2 := hb b hb'
          omega
        have edc : ds = cs := List.Perm.eq_of_pairwise (le := fun a b : Int × Int => TS.code 10000 [a.1, a.2] ≤ TS.code 10000 [b.1, b.2]) (fun a b ha hb' x y => by
          have h1 := hb a (d2 a ha)
          have h2 := hb b hb'
          rcases code_le h1 h2 x with z | z
          · rw [code_two, code_two] at y
            omega
          · exact z) dsS csS dp
        subst edc
        have back : ∀ (l : List (Addr × List Int)) (es : List (Int × Int)), (∀ p ∈ l, SqT K G1 p.1 (p.2.map V.int)) → l.map (·.2) = es.map (fun c => [c.1, c.2]) → DpAll K G1 (l.map fun p => V.ref p.1) (pairsL es) := by
          intro l
          induction l with
          | nil =>
            intro es _ he
            cases es with
            | nil => exact .nil
            | cons c es => cases he
          | cons x l ih =>
            intro es hl he
            cases es with
            | nil => cases he
            | cons c es =>
              rw [List.map_cons, List.map_cons] at he
              have h1 := (List.cons.inj he).1
              have hx := hl x (List.mem_cons_self ..)
              rw [h1] at hx
              exact .cons (.tup hx (.cons (.int _) (.cons (.int _) .nil))) (ih es (fun p hp => hl p (List.mem_cons_of_mem _ hp)) (List.cons.inj he).2)
        exact q r _ _ G1 _ ((go.trans g2).trans g3) upd_same (e2.gnone hr) (EL.out e (go.trans g2) hr) (back N ds (fun p hp => k2 p (m1 p (pm.mem_iff.mp hp))) d1) p
end
section
variable {P : Program} {w : World} {K : PySem.W.Frag} {mg : Str → Option Value} {base : Heap}
/-- a def that tells what is new, its code object known -/
theorem fnXFc {α : Type} {x qual : Str} {st : Stmt} {f c : Addr} {fd : FuncData} {N ps : List Str} {k : Nat} {ts : List Addr} {Wf : α → Prop} {enc : α → List PyData} {res : α → PyData → Prop} (F : FunC K x qual st f fd c) (S0 : FnScope N ps (defScope st)) (hl : ∀ x, Wf x → (enc x).length = ps.length)
    (hbody : ∀ (A : Around) (outer : List Env) (s : Shared) (H : Hp) (E : XK), Room k (A.deeper (envOfC qual (defScope st) s.heap.objs.size f (.ref c))) →
      ∃ t, PSs (cxOf CX0 P w K mg base N qual (defScope st) f (.ref c) A outer s H E).nox (defBody st) t ∧ ∀ x, Wf x → S K ⟨none, ts⟩ H t (st0 N (enc x)) { nx := fun _ => False, rt := fun _ => False, rn := res x }) : FnOk P w K mg base CX0 (k + 1) f fd ps (SpXF K ts Wf enc res) := by
  refine F.ok S0 (fun vs H Q E h => ?_) (fun A outer s H vs Q E hr h => ?_)
  · obtain ⟨x, G, _, h1, h2, _⟩ := h
    rw [dpa_len h1]
    exact hl x h2
  · obtain ⟨x, G, v, h1, h2, q⟩ := h
    obtain ⟨t, ht, hS⟩ := hbody A outer s H E hr
    refine ⟨t, ht, hS x h2 (L2.start N vs) G H _ (ev_start h1 v) (fun _ _ _ _ _ _ z => z.elim) (fun _ _ _ _ _ _ _ z => z.elim) (fun _ _ _ _ _ _ z => z.elim) (fun _ _ _ _ _ _ z => z.elim) (fun v d G' H' x vw hd p => ?_) (fun _ _ _ _ _ _ _ _ _ _ _ z => z.elim)⟩
    exact q v d G' H' ⟨x.gg, x.nw, fun a o hp e => x.od a o hp (by rw [e]; exact fun z => by cases z) e, vw⟩ hd p
end
end Dl
set_option Elab.async false
set_option linter.all false
set_option maxRecDepth 100000
/-! what was told as new: returned, unpacked, walked -/
namespace Dl
open PySem PySem.Spec PyProof.Rows L2
section
variable {K : PySem.W.Frag} {pen : Pc} {H0 : Hp} {L : Lv} {P : PyData → Prop} {te : TE} {ti : TI} {tt : TT} {t1 : TS} {g : TG} {D : Dn}
theorem en_fr {i : Nat} {d : PyData} (hi : L[i]? = some (some (.fr d))) (p : P d) : EN K pen H0 (tVar i) L P := fun σ G H e Q q => by
  obtain ⟨v, k1, k2⟩ := e.sl i _ hi
  exact ⟨_, k1, q v d G H (.refl e.vw) k2 p⟩
theorem wipeL_len : ∀ (vs : List Nat), (wipeL L vs).length = L.length
  | [] => rfl
  | v :: vs => by unfold wipeL; rw [List.length_set, wipeL_len vs]
theorem wipeL_get : ∀ (vs : List Nat) {j : Nat} {av : AV}, (wipeL L vs)[j]? = some (some av) → j ∉ vs ∧ L[j]? = some (some av)
  | [], j, av, h => ⟨List.not_mem_nil, h⟩
  | v :: vs, j, av, h => by
    unfold wipeL at h
    by_cases q : v = j
    · subst q
      rw [List.getElem?_set] at h
      rw [if_pos rfl] at h
      split at h <;> cases h
    · rw [List.getElem?_set_ne q] at h
      obtain ⟨h1, h2⟩ := wipeL_get vs h
      exact ⟨fun z => (List.mem_cons.mp z).elim (fun z => q z.symm) h1, h2⟩
theorem ev_agree {G H : Hp} {σ σ' : L2.St} {vs : List Nat} (e : Ev K pen H0 G H σ L) (a : Agree vs σ σ') : Ev K pen H0 G H σ' (wipeL L vs) := by
  refine ⟨e.vw, e.h0, e.dom, by rw [wipeL_len, a.1]; exact e.len, fun j av hj => ?_, fun i j ds es l h1 h2 h3 h4 => ?_⟩
  · obtain ⟨n, hj⟩ := wipeL_get vs hj
    obtain ⟨v, k1, k2⟩ := e.sl j av hj
    exact ⟨v, (a.2 j n).trans k1, k2⟩
  · obtain ⟨n1, h1⟩ := wipeL_get vs h1
    obtain ⟨n2, h2⟩ := wipeL_get vs h2
    rw [a.2 i n1] at h3
    rw [a.2 j n2] at h4
    exact e.ow i j ds es l h1 h2 h3 h4
/-- a walk over what was told as new, nothing done but a test that fails -/
theorem s_forLook {vs : List Nat} (h : IT K pen H0 ti (lookL L) fun xs => ∀ (i : Nat) x, xs[i]? = some x → GTw K pen H0 vs g x (wipeL (lookL L) vs) fun L2 => ET K pen H0 tt L2 fun b => b = false) (k : D.nx (wipeL L vs)) :
    S K pen H0 (tFor ti g (tIfS tt t1 tNext)) L D := fun σ G H N e n1 n2 n3 n4 n5 n6 => h σ _ H e.look _ fun J G1 H1 xs go w hs => by
  refine ⟨fun i m σ' H' => m = xs.length - i ∧ i ≤ xs.length ∧ Agree vs σ σ' ∧ ∃ G', Go pen (vmax H0 G H) H G' H' ∧ Go pen G1 H1 G' H', ⟨xs.length, rfl, Nat.zero_le _, ⟨rfl, fun _ _ => rfl⟩, G1, go, .refl go.vw⟩, ?_⟩
  rintro i m σ1 H2 ⟨rfl, hi, ag, G2, go2, go12⟩
  obtain ⟨w1, w2⟩ := w G2 H2 go12.gg go12.vw
  by_cases hlt : i < xs.length
  · obtain ⟨k1, k2⟩ := w1 i _ (List.getElem?_eq_getElem hlt)
    refine .inr ⟨k1, fun σ' H' => Agree vs σ σ' ∧ ∃ G', Go pen (vmax H0 G H) H G' H' ∧ Go pen G1 H1 G' H', fun σ' H' ⟨a, b⟩ => ⟨xs.length - (i + 1), by omega, rfl, hlt, a, b⟩, fun v H3 hy => ?_⟩
    obtain ⟨G3, g3, d3⟩ := k2 v H3 hy
    refine hs i _ (List.getElem?_eq_getElem hlt) σ1 G3 H3 v (ev_agree (e.look.go (go2.trans g3)) ag) d3 _ fun σ4 L4 ag4 e4 h4 => ?_
    refine h4 σ4 G3 H3 e4 _ fun b G5 H5 g5 hb => ?_
    subst hb
    exact ⟨⟨ag4.1.trans ag.1, fun j hj => (ag4.2 j hj).trans (ag.2 j hj)⟩, G5, go2.trans (g3.trans g5), go12.trans (g3.trans g5)⟩
  · have e1 : i = xs.length := by omega
    subst e1
    obtain ⟨G', g', _, _⟩ := look_back e.vw e.h0 go2
    exact .inl ⟨w2, n1 σ1 G' H2 _ (e.gx g') (ev_agree (e.go g') ag) k⟩
/-- word, x = what is told as new: the word is data, x is new, or a number -/
theorem s_asgN2 {i j : Nat} (h : EN K pen H0 te L fun d => ∃ w b, d = .tuple [.str w, b] ∧ ((∃ x, b = .int x ∧ D.nx ((L.set i (some (.d (.str w)))).set j (some (.d (.int x))))) ∨ D.nx ((L.set i (some (.d (.str w)))).set j (some (.fr b))))) : S K pen H0 (tAsg te (gTup K 2 (gCons (gName i) (gCons (gName j) gNil)))) L D := fun σ G H N e n1 _ _ _ _ _ =>
  h σ G H e _ fun v d G' H' go hd ⟨w, b, hw, p⟩ => by
    subst hw
    cases hd with
    | tup hs ha =>
      cases ha with
      | cons h1 h2 =>
        cases h1
        cases h2 with
        | cons h2 h3 =>
          cases h3
          have e' := e.go go
          refine ⟨_, _, rfl, sqT_mono (same_new e') hs, rfl, _, _, rfl, _, _, rfl, rfl, ?_⟩
          rcases p with ⟨x, rfl, p⟩ | p
          · cases h2
            exact n1 _ G' H' _ (e.gx go) ((e'.set (.str w)).set (.int x)) p
          · exact n1 _ G' H' _ (e.gx go) ((e'.set (.str w)).setFr h2) p
/-- x[-1].append(e), x a told tuple -/
theorem s_appFrN {i k : Nat} {tj : TE} {ds es : List PyData} (hi : L[i]? = some (some (.fr (.tuple ds)))) (hk : ds[k]? = some (.list es)) (hl : ds.length = k + 1) (hz : es.length < 100000) (hj : E K pen H0 tj L fun d => d = .int (-1)) (h : E K pen H0 te (L.set i none) fun _ => D.nx (L.set i none)) (od : onlyD (L.set i none) = true := by rfl) :
    S K pen H0 (tDrop (tBM K "list" rAppend (tOp (rIxT K) (tVar i) tj) (tCons te tNil))) L D := fun σ G H N e n1 _ _ _ _ _ => by
  obtain ⟨v0, k0, _⟩ := e.sl i _ hi
  refine ⟨_, k0, hj σ G H e _ fun y d G0 H1 g0 hd hm => ?_⟩
  subst hm
  cases hd
  have e0 := e.go g0
  obtain ⟨t, xs, l, vs, k1, k2, k3, m1, m2, m3, m4, hxl⟩ : ∃ t xs l vs, σ[i]? = some (some (.ref t)) ∧ SqT K H1 t xs ∧ xs[k]? = some (.ref l) ∧ H1 l = some (.lst vs) ∧ H0 l = none ∧ G0 l = none ∧ vs.length = es.length ∧ xs.length = k + 1 := by
    obtain ⟨v, k1, k2⟩ := e0.sl i _ hi
    cases k2 with
    | tup hs ha =>
      obtain ⟨w, q1, q2⟩ := nda_get ha hk
      obtain ⟨l, vs, rfl, m1, m2, m3, m4⟩ := nd_list q2
      exact ⟨_, _, l, vs, k1, sqT_mono (same_new e0) hs, q1, m1, m2, m3, m4, (nda_len ha).trans hl⟩
  rw [k0] at k1
  cases k1
  have e' := e0.forget i od
  have hat : atI xs (-1) = some (.ref l) := by
    unfold atI
    have e1 : ixN (k + 1) (-1) = some k := by
      unfold ixN
      rw [if_neg (by decide), if_pos (by omega)]
      congr 1
      omega
    rw [hxl, e1, Option.bind_some]
    exact k3
  refine ⟨t, xs, -1, .ref l, rfl, rfl, k2, hat, .inl ⟨rfl, vs, .inl (.inl m1)⟩, h σ G0 H1 e' _ fun w d G1 H2 g1 d1 p => ?_⟩
  have np : ¬ IsPn pen l := fun q => e.h0.there q m2
  have q1 := g1.od _ _ np m1
  have q2 : G1 l = none := (g1.nw l (by rw [m1]; exact fun z => by cases z)).trans m3
  obtain ⟨r1, r2⟩ := (e'.go g1).spoil od (ho := .lst (vs ++ [w])) m2 q2 (code_ne q1 rfl)
  exact ⟨l, vs, w, rfl, rfl, q1, Nat.lt_of_lt_of_le (by rw [m4]; exact hz) (by decide : 100000 ≤ sizeLine), n1 σ G1 _ _ ((e.gx g0).trans ((e'.gx g1).trans r2)) r1 p⟩
end
end Dl
set_option Elab.async false
set_option linter.all false
set_option maxRecDepth 100000
/-! a part of what was told as new, told on -/
namespace Dl
open PySem PySem.Spec PyProof.Rows L2
section
variable {K : PySem.W.Frag} {pen : Pc} {H0 : Hp} {L : Lv} {P : PyData → Prop} {tj : TE}
theorem en_frPart {i k : Nat} {ds : List PyData} {d : PyData} (hi : L[i]? = some (some (.fr (.tuple ds)))) (hk : ds[k]? = some d) (hj : E K pen H0 tj L fun x => x = .int (k : Nat)) (p : P d) : EN K pen H0 (tOp (rIxT K) (tVar i) tj) L P := fun σ G H e Q q => by
  obtain ⟨v0, k0, _⟩ := e.sl i _ hi
  refine ⟨_, k0, hj σ G H e _ fun y d0 G0 H1 g0 hd hm => ?_⟩
  subst hm
  cases hd
  have e0 := e.go g0
  obtain ⟨v, k1, k2⟩ := e0.sl i _ hi
  rw [k0] at k1
  cases k1
  cases k2 with
  | tup hs ha =>
    obtain ⟨w, q1, q2⟩ := nda_get ha hk
    exact ⟨_, _, (k : Nat), w, rfl, rfl, sqT_mono (same_new e0) hs, atI_nat q1, q w d G0 H1 g0 q2 p⟩
theorem et_truB {ta : TE} {Pb : Bool → Prop} (h : E K pen H0 ta L fun d => ∃ b, d = .bool b ∧ Pb b) : ET K pen H0 (tTru K ta) L Pb := fun σ G H e Q q => h σ G H e _ fun v d G1 H1 go hd ⟨i, hi, p⟩ => by
  subst hi
  cases hd
  exact ⟨_, rfl, q _ G1 H1 go p⟩
/-- an if that is not taken while a told object stands by -/
theorem s_ifNo {D : Dn} {tt : TT} {t1 : TS} (h : ET K pen H0 tt (lookL L) fun b => b = false) (k : D.nx L) : S K pen H0 (tIfS tt t1 tNext) L D :=
  s_if (et_look (ET.mono h fun b e => ⟨fun z => absurd (e.symm.trans z) Bool.false_ne_true, fun _ => s_next k⟩))
end
end Dl
set_option Elab.async false
set_option linter.all false
set_option maxRecDepth 100000
/-! dicts whose keys are tuples within tuples, as data -/
namespace Dl
open PySem PySem.Spec PyProof.Rows L2
mutual
theorem nk_of {K : PySem.W.Frag} {G H : Hp} (s : Same G H) : ∀ (k : NestedKey) (v : V), Dp K G v k.data → Gn.NK K H k v
  | .none, v, h => by
    rw [NestedKey.data] at h
    cases h
    exact .none
  | .num i, v, h => by
    rw [NestedKey.data] at h
    cases h
    exact .int i
  | .text x, v, h => by
    rw [NestedKey.data] at h
    cases h
    exact .str x
  | .tup ks, v, h => by
    rw [NestedKey.data] at h
    cases h with
    | tup hs ha =>
      obtain ⟨h1, h2⟩ := nks_of s ks _ ha
      exact .tup (sqT_mono s hs) h1 h2
theorem nks_of {K : PySem.W.Frag} {G H : Hp} (s : Same G H) : ∀ (ks : List NestedKey) (xs : List V), DpAll K G xs (NestedKey.datas ks) → xs.length = ks.length ∧ ∀ (i : Nat) x k, xs[i]? = some x → ks[i]? = some k → Gn.NK K H k x
  | [], xs, h => by
    rw [NestedKey.datas] at h
    cases h
    exact ⟨rfl, fun i x k h => by cases h⟩
  | k :: ks, xs, h => by
    rw [NestedKey.datas] at h
    cases h with
    | cons h1 h2 =>
      obtain ⟨g1, g2⟩ := nks_of s ks _ h2
      refine ⟨by rw [List.length_cons, List.length_cons, g1], fun i x k' e1 e2 => ?_⟩
      rcases i with _ | i
      · cases e1; cases e2
        exact nk_of s k _ h1
      · exact g2 i x k' e1 e2
end
theorem tup_ref {K : PySem.W.Frag} {G : Hp} {v : V} {ks : List NestedKey} (h : Dp K G v (NestedKey.tup ks).data) : ∃ b, v = .ref b := by
  rw [NestedKey.data] at h
  cases h
  exact ⟨_, rfl⟩
section
variable {K : PySem.W.Frag} {G H : Hp} {kvs : List Gn.NE} {m : List (NestedKey × PyData)}
theorem nv_len (h : NvOk K G kvs m) : kvs.length = m.length := Paired.length h
theorem nv_keys (s : Same G H) (h : NvOk K G kvs m) : Gn.Keys K H kvs := by
  induction h with
  | nil => exact fun p hp => nomatch hp
  | @cons p q ps qs h t ih =>
    intro x hx
    rcases List.mem_cons.mp hx with e | hx
    · subst e
      exact ⟨nk_of s _ _ h.2.2.1, h.2.1⟩
    · exact ih x hx
theorem nv_val (k : NestedKey) (h : NvOk K G kvs m) : (∃ v d, Gn.getN kvs k = some v ∧ valD m k = some d ∧ Dp K G v d) ∨ (Gn.getN kvs k = none ∧ valD m k = none) := by
  induction h with
  | nil => exact .inr ⟨rfl, rfl⟩
  | @cons p q ps qs h t ih =>
    by_cases e : p.1 = k
    · refine .inl ⟨p.2.2, q.2, by simp [Gn.getN, List.find?_cons, e], by simp [valD, List.find?_cons, ← h.1, e], h.2.2.2⟩
    · have e2 : ¬ q.1 = k := fun z => e (h.1.trans z)
      rw [show Gn.getN (p :: ps) k = Gn.getN ps k from by simp [Gn.getN, List.find?_cons, e], show valD (q :: qs) k = valD qs k from by simp [valD, List.find?_cons, e2]]
      exact ih
theorem nv_any (k : NestedKey) (h : NvOk K G kvs m) : (kvs.any fun p => decide (p.1 = k)) = (m.any fun p => decide (p.1 = k)) := by
  induction h with
  | nil => rfl
  | @cons p q ps qs h t ih => rw [List.any_cons, List.any_cons, ih, h.1]
theorem nv_put {b : Addr} {v : V} {d : PyData} (k : NestedKey) (hd8 : k.depth ≤ 8) (hb : Dp K G (.ref b) k.data) (hd : Dp K G v d) (h : NvOk K G kvs m) : NvOk K G (Gn.putN kvs k b v) (putD m k d) := by
  unfold Gn.putN putD
  rw [nv_any k h]
  split
  · rename_i hs
    clear hb hs
    induction h with
    | nil => exact .nil
    | @cons p q ps qs h t ih =>
      rw [List.map_cons, List.map_cons]
      refine .cons ?_ ih
      obtain ⟨h1, h2, h3, h4⟩ := h
      by_cases e : p.1 = k
      · rw [if_pos e, if_pos (h1.symm.trans e)]; exact ⟨h1, h2, h3, hd⟩
      · rw [if_neg e, if_neg (fun z => e (h1.trans z))]; exact ⟨h1, h2, h3, h4⟩
  · exact Paired.snoc h ⟨rfl, hd8, hb, hd⟩
end
section
variable {w : World} {K : PySem.W.Frag} {pen : Pc} {H0 : Hp} {L : Lv} {P : PyData → Prop} {ty tv : TE} {D : Dn}
/-- a key: a tuple of ints, texts, None and tuples -/
def NkD (d : PyData) (k : NestedKey) : Prop := d = k.data ∧ k.depth ≤ 8 ∧ ∃ ks, k = .tup ks
theorem s_nnew {i : Nat} (h : D.nx (L.set i (some (.own (.dN w []))))) : S K pen H0 (tAsg (Gn.tNew w) (gName i)) L D := fun σ G H N e n1 _ _ _ _ _ => fun p hp =>
  n1 _ G _ _ (e.gx (Go.hid e.vw hp)) (e.newOwn (o := .dN w []) (ho := Gn.NO w p []) hp (OwnOk.ofN .nil)) h
theorem s_nput {j : Nat} {m : List (NestedKey × PyData)} (hj : L[j]? = some (some (.own (.dN w m)))) (hz : m.length < 100000) (h : E K pen H0 tv L fun d => E K pen H0 ty L fun x => ∃ k, NkD x k ∧ D.nx (L.set j (some (.own (.dN w (putD m k d)))))) (nf : noFr L = true := by rfl) :
    S K pen H0 (Gn.sPut w K (tVar j) ty tv) L D := fun σ G H N e n1 _ _ _ _ _ => h σ G H e _ fun v d G1 H1 g1 d1 h1 => by
  have e1 := e.go g1
  obtain ⟨l, ho, k1, k3, k6⟩ := e1.own hj
  refine ⟨_, k1, h1 σ G1 H1 e1 _ fun y x G2 H2 g2 d2 ⟨k, ⟨hk, hk8, ks, hkt⟩, p⟩ => ?_⟩
  have e2 := e1.go g2
  obtain ⟨ho2, q3, q6⟩ := e2.ownAt hj k1
  obtain ⟨kvs, rfl, q7⟩ := q6.dN
  subst hk
  obtain ⟨b, rfl⟩ := tup_ref (ks := ks) (by rw [← hkt]; exact d2)
  obtain ⟨r1, r2⟩ := e2.putOwn nf hj k1 (o' := .dN w (putD m k d)) (ho := Gn.NO w l (Gn.putN kvs k b v)) (OwnOk.ofN (nv_put k hk8 d2 (dp_mono g2.gg _ _ d1) q7))
  exact ⟨l, b, kvs, k, rfl, rfl, q3, nv_keys e2.vw.vw q7, nk_of e2.vw.vw _ _ d2, hk8, Nat.lt_of_lt_of_le (by rw [nv_len q7]; exact hz) (by decide : 100000 ≤ sizeLine), n1 σ G2 _ _ (((e.gx g1).trans (e1.gx g2)).trans r2) r1 p⟩
theorem e_nget {j : Nat} {m : List (NestedKey × PyData)} (hj : RdO L j (.dN w m)) (h : E K pen H0 ty L fun x => ∃ k, NkD x k ∧ ∃ d, valD m k = some d ∧ P d) : E K pen H0 (Gn.tGet w K (tVar j) ty) L P := fun σ G H e Q q => by
  obtain ⟨l, ho, k1, k3, k6⟩ := e.rd hj
  refine ⟨_, k1, h σ G H e _ fun y x G1 H1 g1 d1 ⟨k, ⟨hk, hk8, ks, hkt⟩, d, hd, p⟩ => ?_⟩
  obtain ⟨ho2, q3, q6⟩ := (e.go g1).rdAt hj k1
  obtain ⟨kvs2, rfl, q7⟩ := q6.dN
  subst hk
  obtain ⟨b, rfl⟩ := tup_ref (ks := ks) (by rw [← hkt]; exact d1)
  rcases nv_val k q7 with ⟨v, d', z1, z2, z3⟩ | ⟨z1, z2⟩
  · rw [z2] at hd
    cases hd
    exact ⟨l, b, kvs2, k, v, rfl, rfl, q3, nv_keys (e.go g1).vw.vw q7, nk_of (e.go g1).vw.vw _ _ d1, hk8, z1, q v _ G1 H1 g1 z3 p⟩
  · rw [z2] at hd; cases hd
theorem e_nin {neg : Bool} {j : Nat} {m : List (NestedKey × PyData)} (hj : RdO L j (.dN w m)) (h : E K pen H0 ty L fun x => ∃ k, NkD x k ∧ P (.bool (neg != (valD m k).isSome))) : E K pen H0 (Gn.tIn w K neg ty (tVar j)) L P := fun σ G H e Q q =>
  h σ G H e _ fun y x G1 H1 g1 d1 ⟨k, ⟨hk, hk8, ks, hkt⟩, p⟩ => by
    obtain ⟨l, ho2, k1, q3, q6⟩ := (e.go g1).rd hj
    obtain ⟨kvs2, rfl, q7⟩ := q6.dN
    subst hk
    obtain ⟨b, rfl⟩ := tup_ref (ks := ks) (by rw [← hkt]; exact d1)
    refine ⟨_, k1, l, b, kvs2, k, rfl, rfl, q3, nv_keys (e.go g1).vw.vw q7, nk_of (e.go g1).vw.vw _ _ d1, hk8, ?_⟩
    have e3 : (Gn.getN kvs2 k).isSome = (valD m k).isSome := by
      rcases nv_val k q7 with ⟨v, d', z1, z2, z3⟩ | ⟨z1, z2⟩ <;> rw [z1, z2] <;> rfl
    rw [e3]
    exact q _ _ G1 H1 g1 (.bl _) p
end
theorem hu9_of {k : Nat} {A : Around} (hr : L2.Room k A) : A.units + 9 < cLine := by have := hr.un; omega
section
variable {K : PySem.W.Frag} {H0 : Hp} {L : Lv} {tl : TA} {D : Dn} {C : Addr} {c : Value} {ts' : Addr → Value → Option Addr → TS} {Wout : WX} {α : Type} {pn : Option Pn} {ts : List Addr} {Wf : α → Prop} {enc : α → List PyData} {res : α → PyData → Prop} {bad : α → Prop}
/-- try: x = f(..) / except X: suite -/
theorem s_tryAsg {i : Nat} (he : PySem.W.exmOne K (.ref C) c = some true)
    (h : EA K ⟨pn, ts⟩ H0 tl L fun ds => ∃ x, ds = enc x ∧ Wf x ∧ (∀ d, res x d → D.nx (L.set i (some (.d d)))) ∧ (bad x → ∀ a, S K ⟨pn, ts⟩ H0 (ts' a (.ref C) none) L D)) :
    S K ⟨pn, ts⟩ H0 (fun N σ H => tAsg (tCallS (SpXR K ts C Wf enc res bad) (fun σ => L2.WE (wOnly K c ts' Wout N) σ) tl) (gName i) N σ H) L D := fun σ G H N e n1 n2 n3 n4 n5 n6 =>
  h σ G H e _ fun vs ds G1 H1 go hd ⟨x, hx, hw, hn, hb⟩ => ⟨x, G1, go.vw.plain, by rw [← hx]; exact hd, hw, fun v d G' H' g2 hd2 p => n1 _ G' H' _ (e.gx (go.trans (g2.lift go.vw))) ((e.go (go.trans (g2.lift go.vw))).set hd2) (hn d p),
    fun hbad G' H' g2 => ⟨true, he, fun _ a ha => (hb hbad a).at (e.go (go.trans (g2.lift go.vw))) (e.gx (go.trans (g2.lift go.vw))) n1 n2 n3 n4 n5 n6, fun z => (by cases z)⟩⟩
end
end Dl
set_option Elab.async false
set_option linter.all false
set_option maxRecDepth 100000
set_option maxHeartbeats 4000000
namespace Gn
open PySem PySem.Spec PyProof.Rows L2
def pairK (c : Int × Int) : NestedKey := .tup [.num c.1, .num c.2]
theorem pair_at {K : PySem.W.Frag} {H : Hp} {c : Int × Int} {a : Addr} (h : NK K H (pairK c) (.ref a)) : SqT K H a [.int c.1, .int c.2] := by
  unfold pairK at h
  cases h with
  | tup hs hl hx =>
    rename_i xs
    match xs, hl, hx, hs with
    | [x, y], _, hx, hs =>
      have h1 := hx 0 x _ rfl rfl
      have h2 := hx 1 y _ rfl rfl
      cases h1
      cases h2
      exact hs
/-- sorted(d), the keys pairs of ints -/
def rSortN (w : World) (K : PySem.W.Frag) : List V → Hp → VK → Prop := fun xs H Q => ∃ (a : Addr) (kvs : List NE) (ps : List (Int × Int)), xs = [.ref a] ∧ H a = some (NO w a kvs) ∧ Keys K H kvs ∧ kvs.map (·.1) = ps.map pairK ∧
  ∀ (ws : List V) (qs : List (Int × Int)) r, ws.length = qs.length → (ws.zip qs).Perm ((refsV kvs).zip ps) → qs.Pairwise Dl.LexLe → H r = none → Q (.ref r) (upd H r (.lst ws))
section
variable {X : Cx}
theorem call_sorted {K : PySem.W.Frag} {w : World} (hK : X.K = K) (hw : X.w = w) (hc : X.calm = true) : CallR X (.builtin "sorted") (rSortN w K) := by
  subst hK hw
  intro pins s σ H xs us Q I r h
  obtain ⟨p, kvs, ps, e, hk, hks, hps, q⟩ := h
  subst e
  obtain ⟨u, eu, rx⟩ := vals1 r
  subst eu
  obtain rfl : u = Value.ref p := rx
  obtain ⟨z, lo, xs, rel, dd⟩ := lies I hk hks
  obtain ⟨es, ep, raw, hsz, hx⟩ := dd.raw
  have hl : kvs.length = xs.length := Paired.length rel
  refine Calls.call_function_entry PyProof.Rows.kind_sorted PyProof.Rows.plain_sorted PyProof.Rows.entry_sorted (PyProof.Rows.args_sorted1 _) ?_
  unfold Builtin.«sorted»
  refine wpAny_bind (m := checkCount "sorted" 1 1 _) (wpAny_pure ?_)
  refine wpAny_bind (PySem.W.kdu_collect (A := X.A.in1) (src lo fun i hi => let ⟨y, h1, h2, h3, _⟩ := hx i hi; ⟨y, h1, h2, h3⟩) (I.ok.hd hc) raw (by rw [hsz, ← hl]; exact z) fun h' tk acc hkeep hacc => ?_)
  rw [hsz] at hacc
  have e1 := items_of rel hacc
  have I1 : Inv X pins σ H { s with heap := h', toks := tk } := I.kept hkeep
  have hpl : ps.length = kvs.length := by
    have := congrArg List.length hps
    rw [List.length_map, List.length_map] at this
    exact this.symm
  have hil : acc.toList.length = kvs.length := by rw [e1, List.length_map, List.length_map]
  have pairI : ∀ (i : Nat) v c, acc.toList[i]? = some v → ps[i]? = some c → Srt.IsPair h' v c.1 c.2 := fun i v c hv hc => by
    have hi : i < kvs.length := by
      have := (List.getElem?_eq_some_iff.mp hv).1
      omega
    rw [e1, List.getElem?_map, List.getElem?_map, List.getElem?_eq_getElem hi] at hv
    cases hv
    have hkey : kvs[i].1 = pairK c := by
      have e2 := congrArg (fun l => l[i]?) hps
      rw [List.getElem?_map, List.getElem?_map, hc, List.getElem?_eq_getElem hi] at e2
      exact Option.some.inj e2
    have hn := (hks _ (List.getElem_mem hi)).1
    rw [hkey] at hn
    obtain ⟨two, r2, ⟨ob, hob, hcl, n, hdat⟩, _⟩ := I1.tuple (pair_at hn)
    obtain ⟨c1, c2, rfl, ⟨k1, rfl⟩, ⟨k2, rfl⟩⟩ := vals2 r2
    exact ⟨_, ob, k1, k2, n, rfl, hob, hcl, hdat⟩
  have keyI : acc.toList.map (Dl.pairAt h') = ps := Dl.map_of_at (by omega) fun i v c hv hc => Dl.pairAt_eq (pairI i v c hv hc)
  have allP : ∀ v ∈ acc.toList, Srt.IsPair h' v (Dl.pairAt h' v).1 (Dl.pairAt h' v).2 := fun v hv => by
    obtain ⟨i, hi⟩ := List.mem_iff_getElem?.mp hv
    have hlt := (List.getElem?_eq_some_iff.mp hi).1
    have hc : ps[i]? = some ps[i] := List.getElem?_eq_getElem (show i < ps.length by omega)
    have := pairI i v _ hi hc
    rw [Dl.pairAt_eq this]
    exact this
  have hzl : acc.toList.length ≤ sizeLine := by rw [hil]; exact z
  have m2 : ∀ c ∈ acc.toList, ∃ a, c = Value.ref a := fun c hc => by
    rw [e1] at hc
    obtain ⟨a, _, rfl⟩ := List.mem_map.mp hc
    exact ⟨a, rfl⟩
  have m1 : refsV kvs = acc.toList.map backV := by
    rw [e1]
    unfold refsV
    rw [List.map_map, List.map_map]
    rfl
  refine wpAny_bind (wpAny_newList ?_ hzl)
  refine wpAny_bind (wpAny_holding (wpAny_call_entry slot_list_sort ⟨_, Heap.get?_push_size _ rfl, rfl⟩ entry_list_sort (SrtO.list_sort_ord (n := 0) (vs := acc.toList) (SrtO.swo_lex (Dl.pairAt h')) (Heap.get?_push_size _ rfl) hzl (fun two => ?_) fun out srt stb => ⟨_, rfl, ?_⟩) (args_list_sort _)))
  · refine SrtO.pairs_sortableO (by omega) (fun v hm => (allP v hm).keeps fun b o e _ => Heap.get?_push_of_some _ e) fun o e => ?_
    have e' : some o = some (seqObj "list" acc.toList.toArray 0) := e.symm.trans (Heap.get?_push_size _ rfl)
    cases e'
    intro z
    exact absurd (Value.type.inj z) (by decide)
  · have perm := stb.perm
    have all : ∀ c ∈ out, ∃ a, c = Value.ref a := fun c hc => m2 c (perm.mem_iff.mp hc)
    obtain ⟨n, hn⟩ := sortedHeap_at (h := h'.push { cls := .type "list", data := .seq acc.toList.toArray }) (a := h'.objs.size) (vs := acc.toList) (n := 0) (out := out.toArray) (Heap.get?_push_size _ rfl)
    have kept : ∀ b o, h'.get? b = some o → (sortedHeap (h'.push { cls := .type "list", data := .seq acc.toList.toArray }) h'.objs.size acc.toList out.toArray).get? b = some o := fun b o e => by
      rw [sortedHeap_old (Nat.ne_of_lt (Heap.lt_size e)) (by rw [Heap.size_push]; exact Nat.lt_succ_of_lt (Heap.lt_size e))]
      exact Heap.get?_push_of_some _ e
    have hlen2 : (out.map backV).length ≤ sizeLine := by
      rw [List.length_map, perm.length_eq]
      exact hzl
    refine wpAny_pure ⟨_, rfl, .ref h'.objs.size, upd H h'.objs.size (.lst (out.map backV)), I1.laid (t' := tk) kept (Nat.le_refl _) ⟨hlen2, out, n, vals_back all, hn⟩, rfl, q _ (out.map (Dl.pairAt h')) _ (by rw [List.length_map, List.length_map]) ?_ ?_ (I1.hok.fresh (Nat.le_refl _))⟩
    · rw [Dl.zip_maps, m1, ← keyI, Dl.zip_maps]
      exact perm.map _
    · rw [List.pairwise_map]
      exact srt
end
end Gn
namespace Dl
open PySem PySem.Spec PyProof.Rows L2
section
variable {w : World} {K : PySem.W.Frag} {pen : Pc} {H0 : Hp} {L : Lv} {Pl : List PyData → Prop}
theorem dpa_zipP {G : Hp} : ∀ {ws : List V} {qs : List (Int × Int)}, ws.length = qs.length → (∀ x ∈ ws.zip qs, Dp K G x.1 (pairD x.2)) → DpAll K G ws (pairsL qs)
  | [], [], _, _ => .nil
  | w :: ws, q :: qs, h, f => .cons (f (w, q) (List.mem_cons_self ..)) (dpa_zipP (by simpa using h) fun x hx => f x (List.mem_cons_of_mem _ hx))
  | [], _ :: _, h, _ => by simp at h
  | _ :: _, [], h, _ => by simp at h
theorem pairK_data (c : Int × Int) : (Gn.pairK c).data = pairD c := by
  unfold Gn.pairK
  rw [NestedKey.data, NestedKey.datas, NestedKey.datas, NestedKey.datas, NestedKey.data, NestedKey.data]
theorem nv_zip {G : Hp} : ∀ {kvs : List Gn.NE} {m : List (NestedKey × PyData)} {ps : List (Int × Int)}, NvOk K G kvs m → m.map (·.1) = ps.map Gn.pairK → ∀ x ∈ (Gn.refsV kvs).zip ps, Dp K G x.1 (pairD x.2)
  | [], _, _, _, _, x, hx => by cases hx
  | p :: kvs, [], ps, h, _, x, hx => by cases h
  | p :: kvs, q :: m, [], h, e, x, hx => by cases e
  | p :: kvs, q :: m, c :: ps, h, e, x, hx => by
    cases h with
    | cons h1 h2 =>
      rw [List.map_cons, List.map_cons] at e
      injection e with e1 e2
      rcases List.mem_cons.mp hx with hx | hx
      · subst hx
        have h3 := h1.2.2.1
        rw [h1.1, e1, pairK_data] at h3
        exact h3
      · exact nv_zip h2 e2 x hx
theorem nv_map1 {G : Hp} {kvs : List Gn.NE} {m : List (NestedKey × PyData)} (h : NvOk K G kvs m) : kvs.map (·.1) = m.map (·.1) := by
  induction h with
  | nil => rfl
  | cons h _ ih => rw [List.map_cons, List.map_cons, ih, h.1]
/-- sorted(d) of an own dict, the keys pairs of ints -/
theorem el_sortN {j : Nat} {m : List (NestedKey × PyData)} (hj : RdO L j (.dN w m)) (h : ∃ ps : List (Int × Int), m.map (·.1) = ps.map Gn.pairK ∧ ∀ qs : List (Int × Int), qs.Perm ps → qs.Pairwise LexLe → Pl (pairsL qs)) :
    EL K pen H0 (tCB (Gn.rSortN w K) (tCons (tVar j) tNil)) L Pl := fun σ G H e Q q => by
  obtain ⟨l, ho, k1, k3, k6⟩ := e.rd hj
  obtain ⟨kvs, rfl, k7⟩ := k6.dN
  obtain ⟨ps, hps, p⟩ := h
  refine ⟨_, k1, l, kvs, ps, rfl, k3, nv_keys e.vw.vw k7, (nv_map1 k7).trans hps, fun ws qs r hl hp hs hr => ?_⟩
  have g2 := Go.hid e.vw (o := .lst ws) hr
  have hz := nv_zip k7 hps
  have hd : DpAll K G ws (pairsL qs) := dpa_zipP hl fun x hx => hz x (hp.mem_iff.mp hx)
  have hkl : kvs.length = ps.length := by
    have := congrArg List.length ((nv_map1 k7).trans hps)
    rw [List.length_map, List.length_map] at this
    exact this
  have hq : qs.Perm ps := by
    have := hp.map Prod.snd
    rw [List.map_snd_zip (by omega), List.map_snd_zip (by unfold Gn.refsV; rw [List.length_map]; omega)] at this
    exact this
  exact q r ws _ G _ g2 upd_same (e.gnone hr) hr hd (p qs hq hs)
end
end Dl
set_option Elab.async false
set_option linter.all false
set_option maxRecDepth 100000
/-! traces, copies, what is left, as plain data -/
namespace Wm
open PySem Dl
abbrev Trc := List (List Nat)
def natI (r : List Nat) : List Int := r.map fun k : Nat => (k : Int)
def rowN (r : List Nat) : PyData := .tuple (intsL (natI r))
def trcD (t : Trc) : List PyData := t.map rowN
/-- the last of the first so many ticks at which p is written -/
def lastT (t : Trc) (p : Int) : Nat → Int
  | 0 => -1
  | n + 1 => if ((t.getD n []).any fun k => decide ((k : Int) = p)) = true then n else lastT t p n
def cutN (t : Trc) (stop : Int) : Nat := (min stop t.length).toNat
def lastW (t : Trc) (stop p : Int) : Int := lastT t p (cutN t stop)
theorem cutN_le (t : Trc) (stop : Int) : cutN t stop ≤ t.length := by unfold cutN; omega
theorem lastT_lt (t : Trc) (p : Int) : ∀ n, -1 ≤ lastT t p n ∧ lastT t p n < n
  | 0 => ⟨Int.le_refl _, by show (-1 : Int) < ((0 : Nat) : Int); decide⟩
  | n + 1 => by
    have := lastT_lt t p n
    unfold lastT
    split <;> omega
/-- the greatest tick of the copyings of p ahead of the stop -/
def lastC (stop p : Int) : List (Int × Int) → Option Int
  | cs => cs.foldl (fun o c => if 0 ≤ c.1 ∧ c.1 < stop ∧ c.2 = p then some (max c.1 (o.getD 0)) else o) none
def stale (t : Trc) (cs : List (Int × Int)) (stop : Int) (p : Nat) : Bool := match lastC stop p cs with
  | none => true
  | some c => decide (c ≤ lastW t stop p)
/-- by any tale of last copyings -/
def staleG (t : Trc) (c : Int → Option Int) (stop : Int) (p : Nat) : Bool := match c p with
  | none => true
  | some c => decide (c ≤ lastW t stop p)
def leftG (n : Nat) (t : Trc) (c : Int → Option Int) (stop : Int) : List Nat := (List.range n).filter (staleG t c stop)
def leftF (n : Nat) (t : Trc) (cs : List (Int × Int)) (stop : Int) : List Nat := (List.range n).filter (stale t cs stop)
structure Trc.Ok (n : Nat) (t : Trc) : Prop where
  ln : t.length ≤ 5000
  rs : ∀ r ∈ t, r.length ≤ 12
theorem lastC_snoc (stop p : Int) (cs : List (Int × Int)) (c : Int × Int) : lastC stop p (cs ++ [c]) = if 0 ≤ c.1 ∧ c.1 < stop ∧ c.2 = p then some (max c.1 ((lastC stop p cs).getD 0)) else lastC stop p cs := by
  unfold lastC
  rw [List.foldl_append]
  rfl
/-- what it is: none, or the greatest -/
theorem lastC_spec (stop p : Int) (cs : List (Int × Int)) : (lastC stop p cs = none ↔ ∀ c ∈ cs, ¬ (0 ≤ c.1 ∧ c.1 < stop ∧ c.2 = p)) ∧ ∀ m, lastC stop p cs = some m → (0 ≤ m ∧ (∃ c ∈ cs, c.1 = m ∧ 0 ≤ c.1 ∧ c.1 < stop ∧ c.2 = p) ∧ ∀ c ∈ cs, 0 ≤ c.1 ∧ c.1 < stop ∧ c.2 = p → c.1 ≤ m) := by
  have gen : ∀ n, ((lastC stop p (cs.take n) = none ↔ ∀ c ∈ cs.take n, ¬ (0 ≤ c.1 ∧ c.1 < stop ∧ c.2 = p)) ∧ ∀ m, lastC stop p (cs.take n) = some m → (0 ≤ m ∧ (∃ c ∈ cs.take n, c.1 = m ∧ 0 ≤ c.1 ∧ c.1 < stop ∧ c.2 = p) ∧ ∀ c ∈ cs.take n, 0 ≤ c.1 ∧ c.1 < stop ∧ c.2 = p → c.1 ≤ m)) := fun n => by
    induction n with
    | zero => exact ⟨⟨fun _ c hc => (nomatch hc), fun _ => rfl⟩, fun m h => (nomatch h)⟩
    | succ n ih =>
      by_cases hlt : n < cs.length
      · rw [List.take_succ_eq_append_getElem hlt, lastC_snoc]
        generalize cs[n] = c
        obtain ⟨i1, i2⟩ := ih
        by_cases hc : 0 ≤ c.1 ∧ c.1 < stop ∧ c.2 = p
        · rw [if_pos hc]
          refine ⟨⟨fun z => (by cases z), fun z => absurd hc (z c (List.mem_append.mpr (.inr (List.mem_singleton.mpr rfl))))⟩, fun m hm => ?_⟩
          have hm := Option.some.inj hm
          cases hl : lastC stop p (cs.take n) with
          | none =>
            rw [hl] at hm
            have hm : max c.1 0 = m := hm
            have : m = c.1 := by omega
            subst this
            refine ⟨hc.1, ⟨c, List.mem_append.mpr (.inr (List.mem_singleton.mpr rfl)), rfl, hc⟩, fun d hd hq => ?_⟩
            rcases List.mem_append.mp hd with hd | hd
            · exact absurd hq (i1.mp hl d hd)
            · rw [List.mem_singleton.mp hd]; exact Int.le_refl _
          | some m0 =>
            rw [hl] at hm
            have hm : max c.1 m0 = m := hm
            obtain ⟨k1, ⟨c0, k2, k3, k4⟩, k5⟩ := i2 m0 hl
            refine ⟨by omega, ?_, fun d hd hq => ?_⟩
            · by_cases q : m0 ≤ c.1
              · exact ⟨c, List.mem_append.mpr (.inr (List.mem_singleton.mpr rfl)), by omega, hc⟩
              · exact ⟨c0, List.mem_append.mpr (.inl k2), by omega, k4⟩
            · rcases List.mem_append.mp hd with hd | hd
              · have := k5 d hd hq; omega
              · rw [List.mem_singleton.mp hd]; omega
        · rw [if_neg hc]
          refine ⟨⟨fun z d hd => ?_, fun z => i1.mpr fun d hd => z d (List.mem_append.mpr (.inl hd))⟩, fun m hm => ?_⟩
          · rcases List.mem_append.mp hd with hd | hd
            · exact i1.mp z d hd
            · rw [List.mem_singleton.mp hd]; exact hc
          · obtain ⟨k1, ⟨c0, k2, k3⟩, k5⟩ := i2 m hm
            refine ⟨k1, ⟨c0, List.mem_append.mpr (.inl k2), k3⟩, fun d hd hq => ?_⟩
            rcases List.mem_append.mp hd with hd | hd
            · exact k5 d hd hq
            · rw [List.mem_singleton.mp hd] at hq; exact absurd hq hc
      · rw [show cs.take (n + 1) = cs.take n by rw [List.take_of_length_le (by omega), List.take_of_length_le (by omega)]]
        exact ih
  have := gen cs.length
  rw [List.take_length] at this
  exact this
theorem trc_at {t : Trc} {i : Nat} (h : i < t.length) : L2.atI (trcD t) (i : Int) = some (rowN (t.getD i [])) := by
  refine L2.atI_nat ?_
  unfold trcD
  rw [List.getElem?_map, List.getElem?_eq_getElem h, List.getD_eq_getElem?_getD, List.getElem?_eq_getElem h]
  rfl
theorem trcD_len (t : Trc) : (trcD t).length = t.length := List.length_map _
theorem noL_ints (l : List Int) : noLs (intsL l) = true := by
  rw [noLs_iff]
  intro d hd
  obtain ⟨v, _, rfl⟩ := List.mem_map.mp hd
  rfl
theorem noL_pairs (l : List (Int × Int)) : noLs (pairsL l) = true := by
  rw [noLs_iff]
  intro d hd
  obtain ⟨v, _, rfl⟩ := List.mem_map.mp hd
  rfl
theorem noL_trc (t : Trc) : noLs (trcD t) = true := by
  rw [noLs_iff]
  intro d hd
  obtain ⟨v, _, rfl⟩ := List.mem_map.mp hd
  exact noL_ints _
end Wm
set_option Elab.async false
set_option linter.all false
set_option maxRecDepth 100000
/-! rounds, as plain data -/
namespace Wm
open PySem Dl
/-- p is written at tick j -/
def wr (t : Trc) (p j : Nat) : Bool := (t.getD j []).any fun k => decide ((k : Int) = (p : Int))
/-- p is written at some tick from q on, ahead of e -/
def wrIn (t : Trc) (p q e : Nat) : Bool := (List.range e).any fun j => decide (q ≤ j) && wr t p j
theorem wr_far {t : Trc} {p j : Nat} (h : t.length ≤ j) : wr t p j = false := by
  unfold wr
  rw [List.getD_eq_getElem?_getD, List.getElem?_eq_none h]
  rfl
theorem wrIn_succ (t : Trc) (p q e : Nat) : wrIn t p q (e + 1) = (wrIn t p q e || (decide (q ≤ e) && wr t p e)) := by
  unfold wrIn
  rw [List.range_succ, List.any_append, List.any_cons, List.any_nil, Bool.or_false]
theorem wrIn_none (t : Trc) (p q : Nat) : wrIn t p q q = false := by
  unfold wrIn
  rw [List.any_eq_false]
  intro j hj h
  rw [Bool.and_eq_true, decide_eq_true_eq] at h
  have := List.mem_range.mp hj
  omega
theorem lastT_ge (t : Trc) (p q : Nat) : ∀ e, decide ((q : Int) ≤ lastT t p e) = wrIn t p q e
  | 0 => by
    unfold lastT
    rw [decide_eq_false (by omega)]
    rfl
  | e + 1 => by
    have ih := lastT_ge t p q e
    rw [wrIn_succ, ← ih, lastT]
    show decide ((q : Int) ≤ if wr t p e = true then (e : Int) else lastT t p e) = _
    cases h : wr t p e with
    | true =>
      rw [if_pos rfl, Bool.and_true]
      have hl := (lastT_lt t p e).2
      by_cases z : q ≤ e
      · rw [decide_eq_true z, Bool.or_true, decide_eq_true (by omega)]
      · rw [decide_eq_false z, Bool.or_false, decide_eq_false (by omega), decide_eq_false (by omega)]
    | false =>
      rw [if_neg Bool.false_ne_true, Bool.and_false, Bool.or_false]
theorem lastT_far (t : Trc) (p : Int) : ∀ d, lastT t p (t.length + d) = lastT t p t.length
  | 0 => rfl
  | d + 1 => by
    rw [← Nat.add_assoc, lastT, List.getD_eq_getElem?_getD, List.getElem?_eq_none (by omega)]
    show (if (([] : List Nat).any _) = true then _ else _) = _
    rw [List.any_nil, if_neg Bool.false_ne_true]
    exact lastT_far t p d
theorem lastW_nat (t : Trc) (e : Nat) (p : Int) : lastW t (e : Int) p = lastT t p e := by
  unfold lastW cutN
  by_cases h : e ≤ t.length
  · rw [show (min (e : Int) (t.length : Int)).toNat = e by omega]
  · rw [show (min (e : Int) (t.length : Int)).toNat = t.length by omega]
    have := lastT_far t p (e - t.length)
    rw [show t.length + (e - t.length) = e by omega] at this
    exact this.symm
/-- one round: copied from e on, b at a tick -/
def copC (b e : Nat) (due : List Nat) (c : Nat → Option Nat) (p : Nat) : Option Nat := if p ∈ due then some (e + due.idxOf p / b) else c p
def needs (b k : Nat) : Nat := (k + b - 1) / b
def staleN (t : Trc) (c : Nat → Option Nat) (e p : Nat) : Bool := match c p with
  | none => true
  | some q => wrIn t p q e
def dueN (n : Nat) (t : Trc) (c : Nat → Option Nat) (e : Nat) : List Nat := (List.range n).filter (staleN t c e)
structure RdS where
  told : List (Nat × List Nat)
  c : Nat → Option Nat
  e : Nat
  due : List Nat
def RdS.next (n : Nat) (t : Trc) (b : Nat) (r : RdS) : RdS :=
  let c := copC b r.e r.due r.c
  let e := r.e + needs b r.due.length
  ⟨r.told ++ [(r.e, r.due)], c, e, dueN n t c e⟩
def RdS.go (r : RdS) (s most : Nat) : Bool := decide (r.told.length = 0) || (decide (s < r.due.length) && decide (r.told.length < most))
def rd0 (n : Nat) : RdS := ⟨[], fun _ => none, 0, List.range n⟩
/-- so many steps at most -/
def roundsF (n : Nat) (t : Trc) (b s most : Nat) : Nat → RdS → RdS
  | 0, r => r
  | k + 1, r => if r.go s most = true then roundsF n t b s most k (r.next n t b) else r
def rowT (r : Nat × List Nat) : PyData := .tuple [.int (r.1 : Int), .tuple (intsL (natI r.2))]
def rdD (r : RdS) : PyData := .tuple [.list (r.told.map rowT), .int (r.e : Int), .tuple (intsL (natI r.due))]
theorem staleN_G (t : Trc) (c : Nat → Option Nat) (e p : Nat) (cI : Int → Option Int) (h : cI p = (c p).map fun q : Nat => (q : Int)) : staleG t cI (e : Int) p = staleN t c e p := by
  unfold staleG staleN
  rw [h]
  cases c p with
  | none => rfl
  | some q =>
    show decide ((q : Int) ≤ lastW t (e : Int) p) = wrIn t p q e
    rw [lastW_nat, lastT_ge]
/-- within a round, so many ticks of it done -/
def copM (b e m : Nat) (due : List Nat) (c : Nat → Option Nat) (p : Nat) : Option Nat := if p ∈ due then (if due.idxOf p < m * b then some (e + due.idxOf p / b) else none) else c p
def frM (t : Trc) (b e m : Nat) (due : List Nat) (c : Nat → Option Nat) (p : Nat) : Bool := !staleN t (copM b e m due c) (e + m) p
theorem needs_le {b k : Nat} (hb : 1 ≤ b) : needs b k ≤ k := by
  unfold needs
  rcases Nat.eq_zero_or_pos k with rfl | h
  · rw [Nat.div_eq_of_lt (by omega)]; exact Nat.le_refl _
  · have : k + b - 1 ≤ k * b := by
      have : k * b = (k - 1) * b + b := by
        rw [← Nat.succ_mul]; congr 1; omega
      have : k - 1 ≤ (k - 1) * b := Nat.le_mul_of_pos_right _ (by omega)
      omega
    calc (k + b - 1) / b ≤ (k * b) / b := Nat.div_le_div_right this
      _ = k := Nat.mul_div_cancel _ (by omega)
theorem needs_ge {b k : Nat} (hb : 1 ≤ b) : k ≤ needs b k * b := by
  unfold needs
  have h1 := Nat.div_add_mod (k + b - 1) b
  have h2 := Nat.mod_lt (k + b - 1) (show 0 < b by omega)
  have h3 : b * ((k + b - 1) / b) = (k + b - 1) / b * b := Nat.mul_comm _ _
  omega
theorem needs_lt {b k m : Nat} (hb : 1 ≤ b) (h : m * b < k) : m < needs b k := by
  unfold needs
  rw [Nat.lt_iff_add_one_le, Nat.le_div_iff_mul_le (by omega), Nat.succ_mul]
  omega
theorem copM_end {b e : Nat} {due : List Nat} {c : Nat → Option Nat} (hb : 1 ≤ b) : copM b e (needs b due.length) due c = copC b e due c := by
  funext p
  unfold copM copC
  by_cases h : p ∈ due
  · have := List.idxOf_lt_length_iff.mpr h
    have := needs_ge (k := due.length) hb
    rw [if_pos h, if_pos h, if_pos (by omega)]
  · rw [if_neg h, if_neg h]
/-- a tick of a round: copied first, then written -/
theorem frM_step {t : Trc} {b e m : Nat} {due : List Nat} {c : Nat → Option Nat} (hb : 1 ≤ b) (nd : due.Nodup) (hc : ∀ p q, c p = some q → q ≤ e) (p : Nat) : frM t b e (m + 1) due c p = ((frM t b e m due c p || decide (p ∈ (due.drop (m * b)).take b)) && !wr t p (e + m)) := by
  unfold frM staleN copM
  by_cases hp : p ∈ due
  · rw [if_pos hp, if_pos hp]
    have hil := List.idxOf_lt_length_iff.mpr hp
    have hmem : (p ∈ (due.drop (m * b)).take b) ↔ (m * b ≤ due.idxOf p ∧ due.idxOf p < (m + 1) * b) := by
      rw [Nat.succ_mul]
      constructor
      · intro h
        obtain ⟨j, hj, ej⟩ := List.mem_take_iff_getElem.mp h
        rw [List.length_drop] at hj
        rw [List.getElem_drop] at ej
        have := nd.idxOf_getElem (m * b + j) (by omega)
        rw [ej] at this
        omega
      · intro h
        refine List.mem_take_iff_getElem.mpr ⟨due.idxOf p - m * b, by rw [List.length_drop]; omega, ?_⟩
        rw [List.getElem_drop]
        have : m * b + (due.idxOf p - m * b) = due.idxOf p := by omega
        simp only [this]
        exact List.getElem_idxOf hil
    by_cases h1 : due.idxOf p < m * b
    · have h2 : due.idxOf p < (m + 1) * b := by rw [Nat.succ_mul]; omega
      have h3 : due.idxOf p / b ≤ m := by
        have := Nat.div_le_of_le_mul (m := due.idxOf p) (k := b) (n := m) (by rw [Nat.mul_comm]; omega)
        exact this
      rw [if_pos h1, if_pos h2, decide_eq_false (fun q => by have := hmem.mp q; omega), Bool.or_false]
      show (!wrIn t p (e + due.idxOf p / b) (e + m + 1)) = _
      rw [wrIn_succ, decide_eq_true (show e + due.idxOf p / b ≤ e + m by omega), Bool.true_and, Bool.not_or]
    · rw [if_neg h1]
      by_cases h2 : due.idxOf p < (m + 1) * b
      · have h3 : due.idxOf p / b = m := by
          rw [Nat.div_eq_iff (by omega)]
          rw [Nat.succ_mul] at h2
          constructor <;> omega
        rw [if_pos h2, decide_eq_true (hmem.mpr ⟨by omega, h2⟩), h3]
        show (!wrIn t p (e + m) (e + m + 1)) = _
        rw [wrIn_succ, wrIn_none, decide_eq_true (Nat.le_refl _)]
        simp
      · rw [if_neg h2, decide_eq_false (fun q => h2 (hmem.mp q).2)]
        rfl
  · rw [if_neg hp, if_neg hp, decide_eq_false (fun q => hp (List.mem_of_mem_drop (List.mem_of_mem_take q))), Bool.or_false]
    cases h : c p with
    | none => rfl
    | some q =>
      have hq := hc p q h
      show (!wrIn t p q (e + m + 1)) = _
      rw [wrIn_succ, decide_eq_true (show q ≤ e + m by omega), Bool.true_and, Bool.not_or]
end Wm
set_option Elab.async false
set_option linter.all false
set_option maxRecDepth 100000
/-! rounds at their bounds -/
namespace Wm
open PySem Dl
theorem wrIn_true {t : Trc} {p q e j : Nat} (h1 : q ≤ j) (h2 : j < e) (h : wr t p j = true) : wrIn t p q e = true := by
  unfold wrIn
  rw [List.any_eq_true]
  exact ⟨j, List.mem_range.mpr h2, by rw [h, decide_eq_true h1]; rfl⟩
theorem wrIn_false {t : Trc} {p q e : Nat} (h : ∀ j, q ≤ j → j < e → wr t p j = false) : wrIn t p q e = false := by
  unfold wrIn
  rw [List.any_eq_false]
  intro j hj hb
  rw [Bool.and_eq_true, decide_eq_true_eq] at hb
  rw [h j hb.1 (List.mem_range.mp hj)] at hb
  cases hb.2
theorem idx_range {n p : Nat} (h : p < n) : (List.range n).idxOf p = p := by
  have := List.nodup_range.idxOf_getElem (xs := List.range n) p (by rw [List.length_range]; exact h)
  rw [List.getElem_range] at this
  exact this
theorem copC_range {b e n p : Nat} {c : Nat → Option Nat} (h : p < n) : copC b e (List.range n) c p = some (e + p / b) := by
  unfold copC
  rw [if_pos (List.mem_range.mpr h), idx_range h]
theorem div_needs {b n p : Nat} (hb : 1 ≤ b) (h : p < n) : p / b < needs b n := needs_lt hb (by have := Nat.div_mul_le_self p b; omega)
theorem wr_all {n k p j : Nat} (hp : p < n) (hj : j < k) : wr (List.replicate k (List.range n)) p j = true := by
  unfold wr
  rw [List.getD_eq_getElem?_getD, List.getElem?_replicate, if_pos hj]
  exact List.any_eq_true.mpr ⟨p, List.mem_range.mpr hp, decide_eq_true rfl⟩
theorem wr_one {beat sheet p j : Nat} : wr (List.replicate beat [] ++ [[sheet]]) p j = (decide (j = beat) && decide (sheet = p)) := by
  unfold wr
  rw [List.getD_eq_getElem?_getD]
  rcases Nat.lt_trichotomy j beat with h | h | h
  · rw [List.getElem?_append_left (by rw [List.length_replicate]; exact h), List.getElem?_replicate, if_pos h, decide_eq_false (by omega)]
    rfl
  · subst h
    rw [List.getElem?_append_right (by rw [List.length_replicate]; exact Nat.le_refl _), List.length_replicate, Nat.sub_self, decide_eq_true rfl]
    show ([sheet].any fun k => decide ((k : Int) = (p : Int))) = _
    rw [List.any_cons, List.any_nil, Bool.or_false, Bool.true_and]
    exact decide_eq_decide.mpr (by omega)
  · rw [List.getElem?_eq_none (by rw [List.length_append, List.length_replicate]; show beat + 1 ≤ j; omega), decide_eq_false (by omega)]
    rfl
/-- all written at each tick -/
theorem all_rounds {n b most : Nat} (hn : 1 ≤ n) (hb : 1 ≤ b) : ∀ (k j : Nat) (r : RdS), r.e = needs b n * j → r.due = List.range n → r.told = (List.range j).map (fun i => (needs b n * i, List.range n)) → j + k = most →
    (roundsF n (List.replicate (needs b n * most) (List.range n)) b (n - 1) most k r).told = (List.range most).map (fun i => (needs b n * i, List.range n)) ∧ (roundsF n (List.replicate (needs b n * most) (List.range n)) b (n - 1) most k r).e = needs b n * most ∧ (roundsF n (List.replicate (needs b n * most) (List.range n)) b (n - 1) most k r).due = List.range n
  | 0, j, r, h1, h2, h3, h4 => by
    have : j = most := by omega
    subst this
    exact ⟨h3, h1, h2⟩
  | k + 1, j, r, h1, h2, h3, h4 => by
    have lt : r.told.length = j := by rw [h3, List.length_map, List.length_range]
    have go : r.go (n - 1) most = true := by
      unfold RdS.go
      rw [lt, h2, List.length_range, decide_eq_true (show n - 1 < n by omega), decide_eq_true (show j < most by omega)]
      simp
    rw [roundsF, if_pos go]
    refine all_rounds hn hb k (j + 1) _ ?_ ?_ ?_ (by omega)
    · show r.e + needs b r.due.length = needs b n * (j + 1)
      rw [h1, h2, List.length_range, Nat.mul_succ]
    · show (List.range n).filter _ = List.range n
      refine List.filter_eq_self.mpr fun p hp => ?_
      have hp := List.mem_range.mp hp
      show staleN _ (copC b r.e r.due r.c) (r.e + needs b r.due.length) p = true
      unfold staleN
      rw [h2, copC_range hp, List.length_range]
      have hd := div_needs (n := n) hb hp
      have hle : needs b n * (j + 1) ≤ needs b n * most := Nat.mul_le_mul_left _ (by omega)
      rw [Nat.mul_succ] at hle
      exact wrIn_true (Nat.le_refl _) (by omega) (wr_all hp (by omega))
    · show r.told ++ [(r.e, r.due)] = _
      rw [h3, h1, h2, List.range_succ, List.map_append]
      rfl
/-- behind the first round -/
theorem first_round {n b s most : Nat} {t : Trc} (hm : 1 ≤ most) : roundsF n t b s most most (rd0 n) = roundsF n t b s most (most - 1) ((rd0 n).next n t b) := by
  obtain ⟨m, rfl⟩ : ∃ m, most = m + 1 := ⟨most - 1, by omega⟩
  have go : (rd0 n).go s (m + 1) = true := rfl
  rw [roundsF, if_pos go]
  rfl
theorem next0 (n b : Nat) (t : Trc) : ((rd0 n).next n t b).told = [(0, List.range n)] ∧ ((rd0 n).next n t b).e = needs b n ∧ ((rd0 n).next n t b).due = (List.range n).filter fun p => wrIn t p (p / b) (needs b n) := by
  refine ⟨rfl, ?_, ?_⟩
  · show 0 + needs b (List.range n).length = needs b n
    rw [List.length_range, Nat.zero_add]
  · show (List.range n).filter (staleN t (copC b 0 (List.range n) fun _ => none) (0 + needs b (List.range n).length)) = _
    rw [List.length_range, Nat.zero_add]
    apply List.filter_congr
    intro p hp
    unfold staleN
    rw [copC_range (List.mem_range.mp hp), Nat.zero_add]
theorem one_due {n b beat sheet : Nat} (hb : 1 ≤ b) (hs : sheet < n) : ((List.range n).filter fun p => wrIn (List.replicate beat [] ++ [[sheet]]) p (p / b) (needs b n)) = if (decide (sheet / b ≤ beat) && decide (beat < needs b n)) = true then [sheet] else [] := by
  have key : ∀ p, wrIn (List.replicate beat [] ++ [[sheet]]) p (p / b) (needs b n) = (decide (sheet = p) && (decide (sheet / b ≤ beat) && decide (beat < needs b n))) := fun p => by
    by_cases h : sheet = p
    · subst h
      rw [decide_eq_true rfl, Bool.true_and]
      by_cases h2 : sheet / b ≤ beat ∧ beat < needs b n
      · rw [decide_eq_true h2.1, decide_eq_true h2.2]
        exact wrIn_true h2.1 h2.2 (by rw [wr_one, decide_eq_true rfl, decide_eq_true rfl]; rfl)
      · rw [show (decide (sheet / b ≤ beat) && decide (beat < needs b n)) = false from by rw [Bool.and_eq_false_iff, decide_eq_false_iff_not, decide_eq_false_iff_not]; omega]
        refine wrIn_false fun j j1 j2 => ?_
        rw [wr_one, decide_eq_false (show ¬ j = beat by omega)]
        rfl
    · rw [decide_eq_false h, Bool.false_and]
      exact wrIn_false fun j _ _ => by rw [wr_one, decide_eq_false h, Bool.and_false]
  rw [show ((List.range n).filter fun p => wrIn (List.replicate beat [] ++ [[sheet]]) p (p / b) (needs b n)) = (List.range n).filter fun p => (decide (sheet = p) && (decide (sheet / b ≤ beat) && decide (beat < needs b n))) from by congr 1; funext p; exact key p]
  cases (decide (sheet / b ≤ beat) && decide (beat < needs b n)) with
  | false =>
    rw [if_neg Bool.false_ne_true, List.filter_eq_nil_iff]
    intro p _
    rw [Bool.and_false]
    exact Bool.false_ne_true
  | true =>
    rw [if_pos rfl]
    have : (List.range n).filter (fun p => (decide (sheet = p) && true)) = (List.range n).filter (fun p => p == sheet) := by
      congr 1
      funext p
      rw [Bool.and_true, Bool.eq_iff_iff, decide_eq_true_eq, beq_iff_eq]
      exact eq_comm
    rw [this, List.filter_beq]
    rw [List.Nodup.count (List.nodup_range) , if_pos (List.mem_range.mpr hs)]
    rfl
/-- what is told of a sheet that is written once -/
theorem one_rounds {n b beat sheet : Nat} (hb : 1 ≤ b) (hs : sheet < n) (ag : Bool) (hag : (decide (sheet / b ≤ beat) && decide (beat < needs b n)) = ag) :
    (roundsF n (List.replicate beat [] ++ [[sheet]]) b 0 2 2 (rd0 n)).told = (if ag = true then [(0, List.range n), (needs b n, [sheet])] else [(0, List.range n)]) ∧ (roundsF n (List.replicate beat [] ++ [[sheet]]) b 0 2 2 (rd0 n)).e = needs b n + (if ag = true then 1 else 0) ∧ (roundsF n (List.replicate beat [] ++ [[sheet]]) b 0 2 2 (rd0 n)).due = [] := by
  obtain ⟨a1, a2, a3⟩ := next0 n b (List.replicate beat [] ++ [[sheet]])
  rw [one_due hb hs, hag] at a3
  rw [first_round (by decide)]
  generalize hr : (rd0 n).next n (List.replicate beat [] ++ [[sheet]]) b = r at a1 a2 a3 ⊢
  show (roundsF n _ b 0 2 1 r).told = _ ∧ (roundsF n _ b 0 2 1 r).e = _ ∧ (roundsF n _ b 0 2 1 r).due = _
  cases ag with
  | false =>
    rw [if_neg Bool.false_ne_true] at a3
    have go : r.go 0 2 = false := by
      unfold RdS.go
      rw [a1, a3]
      rfl
    rw [roundsF, go, if_neg Bool.false_ne_true]
    exact ⟨a1, a2, a3⟩
  | true =>
    rw [if_pos rfl] at a3
    have go : r.go 0 2 = true := by
      unfold RdS.go
      rw [a1, a3]
      rfl
    rw [roundsF, go, if_pos rfl]
    have n1 : needs b 1 = 1 := by
      unfold needs
      rw [show 1 + b - 1 = b by omega, Nat.div_self (by omega)]
    rw [Bool.and_eq_true, decide_eq_true_eq, decide_eq_true_eq] at hag
    refine ⟨?_, ?_, ?_⟩
    · show r.told ++ [(r.e, r.due)] = _
      rw [a1, a2, a3]
      rfl
    · show r.e + needs b r.due.length = _
      rw [a2, a3]
      show needs b n + needs b 1 = _
      rw [n1]
      rfl
    · show (List.range n).filter (staleN _ (copC b r.e r.due r.c) (r.e + needs b r.due.length)) = []
      rw [List.filter_eq_nil_iff]
      intro p hp hst
      have hp := List.mem_range.mp hp
      rw [a2, a3, show needs b [sheet].length = 1 from n1] at hst
      unfold staleN copC at hst
      by_cases z : p ∈ [sheet]
      · rw [if_pos z] at hst
        have z := List.mem_singleton.mp z
        subst z
        have : wrIn (List.replicate beat [] ++ [[p]]) p (needs b n + [p].idxOf p / b) (needs b n + 1) = false := wrIn_false fun j j1 j2 => by
          have j3 : needs b n ≤ j := Nat.le_trans (Nat.le_add_right _ _) j1
          rw [wr_one, decide_eq_false (show ¬ j = beat by omega)]
          rfl
        dsimp only at hst
        rw [this] at hst
        cases hst
      · rw [if_neg z] at hst
        have hz : ¬ sheet = p := fun y => z (List.mem_singleton.mpr y.symm)
        have hc : r.c p = some (0 + p / b) := by
          rw [← hr]
          exact copC_range hp
        rw [hc] at hst
        have : wrIn (List.replicate beat [] ++ [[sheet]]) p (0 + p / b) (needs b n + 1) = false := wrIn_false fun j _ _ => by rw [wr_one, decide_eq_false hz, Bool.and_false]
        dsimp only at hst
        rw [this] at hst
        cases hst
theorem stop_rounds {n : Nat} {t : Trc} {b s most k : Nat} {r : RdS} (h : r.go s most = false) : roundsF n t b s most k r = r := by
  cases k with
  | zero => rfl
  | succ k => rw [roundsF, h, if_neg Bool.false_ne_true]
theorem go_few {r : RdS} {s most : Nat} (h0 : r.told.length = 1) (h : r.due.length ≤ s) : r.go s most = false := by
  unfold RdS.go
  rw [h0, decide_eq_false (show ¬ s < r.due.length by omega)]
  rfl
/-- the first round is enough -/
theorem full_rounds {n b most : Nat} (hb : 1 ≤ b) (hm : 1 ≤ most) :
    (roundsF n (List.replicate (needs b n * most) (List.range n)) b n most most (rd0 n)).told = [(0, List.range n)] ∧ (roundsF n (List.replicate (needs b n * most) (List.range n)) b n most most (rd0 n)).e = needs b n ∧ (roundsF n (List.replicate (needs b n * most) (List.range n)) b n most most (rd0 n)).due = List.range n := by
  obtain ⟨a1, a2, a3⟩ := next0 n b (List.replicate (needs b n * most) (List.range n))
  have a3 : ((rd0 n).next n (List.replicate (needs b n * most) (List.range n)) b).due = List.range n := a3.trans (List.filter_eq_self.mpr fun p hp => by
    have hp := List.mem_range.mp hp
    have hd := div_needs (n := n) hb hp
    have hle : needs b n * 1 ≤ needs b n * most := Nat.mul_le_mul_left _ hm
    rw [Nat.mul_one] at hle
    exact wrIn_true (Nat.le_refl _) hd (wr_all hp (by omega)))
  rw [first_round hm, stop_rounds (go_few (by rw [a1]; rfl) (by rw [a3, List.length_range]; exact Nat.le_refl _))]
  exact ⟨a1, a2, a3⟩
/-- nothing written -/
theorem none_rounds {n b most : Nat} (hm : 1 ≤ most) :
    (roundsF n [] b 0 most most (rd0 n)).told = [(0, List.range n)] ∧ (roundsF n [] b 0 most most (rd0 n)).e = needs b n ∧ (roundsF n [] b 0 most most (rd0 n)).due = [] := by
  obtain ⟨a1, a2, a3⟩ := next0 n b []
  have a3 : ((rd0 n).next n [] b).due = [] := a3.trans (List.filter_eq_nil_iff.mpr fun p hp hb => by
    rw [wrIn_false fun j _ _ => wr_far (Nat.zero_le _)] at hb
    cases hb)
  rw [first_round hm, stop_rounds (go_few (by rw [a1]; rfl) (by rw [a3]; exact Nat.le_refl _))]
  exact ⟨a1, a2, a3⟩
/-- written once, one round -/
theorem one_round {n b beat sheet : Nat} (hb : 1 ≤ b) (hs : sheet < n) (ag : Bool) (hag : (decide (sheet / b ≤ beat) && decide (beat < needs b n)) = ag) :
    (roundsF n (List.replicate beat [] ++ [[sheet]]) b 0 1 1 (rd0 n)).told = [(0, List.range n)] ∧ (roundsF n (List.replicate beat [] ++ [[sheet]]) b 0 1 1 (rd0 n)).e = needs b n ∧ (roundsF n (List.replicate beat [] ++ [[sheet]]) b 0 1 1 (rd0 n)).due = if ag = true then [sheet] else [] := by
  obtain ⟨a1, a2, a3⟩ := next0 n b (List.replicate beat [] ++ [[sheet]])
  rw [one_due hb hs, hag] at a3
  rw [first_round (Nat.le_refl _)]
  exact ⟨a1, a2, a3⟩
theorem rdD_of {r : RdS} {told : List (Nat × List Nat)} {e : Nat} {due : List Nat} (h : r.told = told ∧ r.e = e ∧ r.due = due) : rdD r = .tuple [.list (told.map rowT), .int (e : Int), .tuple (intsL (natI due))] := by
  obtain ⟨rfl, rfl, rfl⟩ := h
  rfl
theorem cut_one {x : PyData} {xs : List PyData} : cutD (x :: xs) none (some 1) = [x] := by
  unfold cutD
  have h0 : HT.sIx (x :: xs).length 0 none = 0 := rfl
  have h1 : HT.sIx (x :: xs).length (x :: xs).length (some 1) = 1 := by
    rw [List.length_cons]
    unfold HT.sIx
    simp
    try omega
  rw [h0, h1, List.drop_zero]
  rfl
theorem rng_nat (n : Nat) : rngL 0 n = intsL (natI (List.range n)) := by unfold rngL intsL natI; rw [List.map_map]; apply List.map_congr_left; intro i _; show PyData.int (0 + (i : Int)) = PyData.int (i : Int); rw [Int.zero_add]
theorem needs_int {n b : Nat} (hb : 1 ≤ b) : (((n : Int) + (b : Int) - 1) / (b : Int)) = ((needs b n : Nat) : Int) := by
  unfold needs
  rw [show ((n : Int) + (b : Int) - 1) = ((n + b - 1 : Nat) : Int) by omega]
  rfl
end Wm
set_option Elab.async false
set_option linter.all false
set_option maxRecDepth 100000
namespace K15
open PySem PySem.Spec PyProof.Rows L2 Dl Wm
def topS (i : Nat) : Stmt := PySem.Challenge.pw_warmove_k15_whole_none_carries_fewer.main.body.getD i (.Pass ⟨0, 0, 0, 0⟩)
abbrev s_last_writings : Stmt := topS 1
theorem sc_last_writings : FnScope ["n", "trace", "stop", "last", "tick", "p"] ["n", "trace", "stop"] (defScope s_last_writings) := ⟨rfl, rfl, rfl, by decide +kernel, rfl, by decide +kernel, by decide +kernel⟩
abbrev s_outdated : Stmt := topS 2
theorem sc_outdated : FnScope ["n", "trace", "copied", "stop", "written", "p"] ["n", "trace", "copied", "stop"] (defScope s_outdated) := ⟨rfl, rfl, rfl, by decide +kernel, rfl, by decide +kernel, by decide +kernel⟩
abbrev s_last_copyings : Stmt := topS 4
theorem sc_last_copyings : FnScope ["copies", "stop", "last", "tick", "p"] ["copies", "stop"] (defScope s_last_copyings) := ⟨rfl, rfl, rfl, by decide +kernel, rfl, by decide +kernel, by decide +kernel⟩
abbrev s_left_by : Stmt := topS 5
theorem sc_left_by : FnScope ["n", "trace", "plan", "copies", "stop"] ["n", "trace", "plan"] (defScope s_left_by) := ⟨rfl, rfl, rfl, by decide +kernel, rfl, by decide +kernel, by decide +kernel⟩
abbrev s_is_rising : Stmt := topS 6
theorem sc_is_rising : FnScope ["things", "one", "other"] ["things"] (defScope s_is_rising) := ⟨rfl, rfl, rfl, by decide +kernel, rfl, by decide +kernel, by decide +kernel⟩
abbrev s_most_at_a_tick : Stmt := topS 7
theorem sc_most_at_a_tick : FnScope ["copies", "many", "tick", "p"] ["copies"] (defScope s_most_at_a_tick) := ⟨rfl, rfl, rfl, by decide +kernel, rfl, by decide +kernel, by decide +kernel⟩
abbrev s_is_plan : Stmt := topS 8
theorem sc_is_plan : FnScope ["n", "trace", "b", "s", "plan", "copies", "stop", "tick", "p"] ["n", "trace", "b", "s", "plan"] (defScope s_is_plan) := ⟨rfl, rfl, rfl, by decide +kernel, rfl, by decide +kernel, by decide +kernel⟩
abbrev s_carried_by : Stmt := topS 9
theorem sc_carried_by : FnScope ["n", "trace", "plan"] ["n", "trace", "plan"] (defScope s_carried_by) := ⟨rfl, rfl, rfl, by decide +kernel, rfl, by decide +kernel, by decide +kernel⟩
abbrev s_too_many_behind : Stmt := topS 11
theorem sc_too_many_behind : FnScope ["last", "b", "stop", "t", "tick"] ["last", "b", "stop", "t"] (defScope s_too_many_behind) := ⟨rfl, rfl, rfl, by decide +kernel, rfl, by decide +kernel, by decide +kernel⟩
abbrev s_must_be_left : Stmt := topS 12
theorem sc_must_be_left : FnScope ["last", "b", "stop", "t"] ["last", "b", "stop"] (defScope s_must_be_left) := ⟨rfl, rfl, rfl, by decide +kernel, rfl, by decide +kernel, by decide +kernel⟩
abbrev s_late_copies : Stmt := topS 13
theorem sc_late_copies : FnScope ["last", "b", "left", "stop", "latest", "p", "place"] ["last", "b", "left", "stop"] (defScope s_late_copies) := ⟨rfl, rfl, rfl, by decide +kernel, rfl, by decide +kernel, by decide +kernel⟩
abbrev s_told_of_stop : Stmt := topS 14
theorem sc_told_of_stop : FnScope ["last", "b", "s", "stop", "many", "t"] ["last", "b", "s", "stop"] (defScope s_told_of_stop) := ⟨rfl, rfl, rfl, by decide +kernel, rfl, by decide +kernel, by decide +kernel⟩
abbrev s_plan_for : Stmt := topS 15
theorem sc_plan_for : FnScope ["n", "trace", "b", "s", "stop"] ["n", "trace", "b", "s", "stop"] (defScope s_plan_for) := ⟨rfl, rfl, rfl, by decide +kernel, rfl, by decide +kernel, by decide +kernel⟩
abbrev s_least_left : Stmt := topS 16
theorem sc_least_left : FnScope ["n", "trace", "b", "stop", "many", "t"] ["n", "trace", "b", "stop"] (defScope s_least_left) := ⟨rfl, rfl, rfl, by decide +kernel, rfl, by decide +kernel, by decide +kernel⟩
abbrev s_law_spring : Stmt := topS 18
theorem sc_law_spring : FnScope ["script", "k", "number", "stir", "found", "turn"] ["script", "k"] (defScope s_law_spring) := ⟨rfl, rfl, rfl, by decide +kernel, rfl, by decide +kernel, by decide +kernel⟩
abbrev s_law_cup : Stmt := topS 19
theorem sc_law_cup : FnScope ["spring", "many", "digit"] ["spring", "many"] (defScope s_law_cup) := ⟨rfl, rfl, rfl, by decide +kernel, rfl, by decide +kernel, by decide +kernel⟩
abbrev s_law_trace : Stmt := topS 20
theorem sc_law_trace : FnScope ["spring", "n", "most", "often", "found", "beat", "row", "turn", "sheet", "k"] ["spring", "n", "most"] (defScope s_law_trace) := ⟨rfl, rfl, rfl, by decide +kernel, rfl, by decide +kernel, by decide +kernel⟩
abbrev s_law_sizes : Stmt := topS 21
theorem sc_law_sizes : FnScope ["spring", "n", "b"] ["spring"] (defScope s_law_sizes) := ⟨rfl, rfl, rfl, by decide +kernel, rfl, by decide +kernel, by decide +kernel⟩
abbrev s_law : Stmt := topS 22
theorem sc_law : FnScope ["script", "k", "spring", "n", "b", "s", "trail", "stop", "drawn", "turn", "copies", "left", "many", "beat", "sheet", "once", "fewer", "word", "told", "one"] ["script"] (defScope s_law) := ⟨rfl, rfl, rfl, by decide +kernel, rfl, by decide +kernel, by decide +kernel⟩
structure Tx (K : PySem.W.Frag) (mg : Str → Option Value) (base : Heap) where
  ts : List Addr
  f_last_writings : Addr
  d_last_writings : FuncData
  F_last_writings : Fun K "last_writings" "last_writings" s_last_writings f_last_writings d_last_writings
  b_last_writings : Binds K d_last_writings ["n", "trace", "stop"] []
  g_last_writings : mg "last_writings" = some (.ref f_last_writings)
  f_outdated : Addr
  d_outdated : FuncData
  F_outdated : Fun K "outdated" "outdated" s_outdated f_outdated d_outdated
  b_outdated : Binds K d_outdated ["n", "trace", "copied", "stop"] []
  g_outdated : mg "outdated" = some (.ref f_outdated)
  f_last_copyings : Addr
  d_last_copyings : FuncData
  F_last_copyings : Fun K "last_copyings" "last_copyings" s_last_copyings f_last_copyings d_last_copyings
  b_last_copyings : Binds K d_last_copyings ["copies", "stop"] []
  g_last_copyings : mg "last_copyings" = some (.ref f_last_copyings)
  f_left_by : Addr
  d_left_by : FuncData
  F_left_by : Fun K "left_by" "left_by" s_left_by f_left_by d_left_by
  b_left_by : Binds K d_left_by ["n", "trace", "plan"] []
  g_left_by : mg "left_by" = some (.ref f_left_by)
  f_is_rising : Addr
  k_is_rising : Addr
  p_is_rising : Addr
  d_is_rising : FuncData
  F_is_rising : FunC K "is_rising" "is_rising" s_is_rising f_is_rising d_is_rising k_is_rising
  b_is_rising : Binds K d_is_rising ["things"] []
  g_is_rising : mg "is_rising" = some (.ref f_is_rising)
  tb_is_rising : GxR.TabB base mg k_is_rising p_is_rising
  ti_is_rising : p_is_rising ∈ ts
  f_most_at_a_tick : Addr
  d_most_at_a_tick : FuncData
  F_most_at_a_tick : Fun K "most_at_a_tick" "most_at_a_tick" s_most_at_a_tick f_most_at_a_tick d_most_at_a_tick
  b_most_at_a_tick : Binds K d_most_at_a_tick ["copies"] []
  g_most_at_a_tick : mg "most_at_a_tick" = some (.ref f_most_at_a_tick)
  f_is_plan : Addr
  k_is_plan : Addr
  p_is_plan : Addr
  d_is_plan : FuncData
  F_is_plan : FunC K "is_plan" "is_plan" s_is_plan f_is_plan d_is_plan k_is_plan
  b_is_plan : Binds K d_is_plan ["n", "trace", "b", "s", "plan"] []
  g_is_plan : mg "is_plan" = some (.ref f_is_plan)
  tb_is_plan : GxR.TabB base mg k_is_plan p_is_plan
  ti_is_plan : p_is_plan ∈ ts
  f_carried_by : Addr
  d_carried_by : FuncData
  F_carried_by : Fun K "carried_by" "carried_by" s_carried_by f_carried_by d_carried_by
  b_carried_by : Binds K d_carried_by ["n", "trace", "plan"] []
  g_carried_by : mg "carried_by" = some (.ref f_carried_by)
  f_too_many_behind : Addr
  k_too_many_behind : Addr
  p_too_many_behind : Addr
  d_too_many_behind : FuncData
  F_too_many_behind : FunC K "too_many_behind" "too_many_behind" s_too_many_behind f_too_many_behind d_too_many_behind k_too_many_behind
  b_too_many_behind : Binds K d_too_many_behind ["last", "b", "stop", "t"] []
  g_too_many_behind : mg "too_many_behind" = some (.ref f_too_many_behind)
  tb_too_many_behind : GxR.TabB base mg k_too_many_behind p_too_many_behind
  ti_too_many_behind : p_too_many_behind ∈ ts
  f_must_be_left : Addr
  d_must_be_left : FuncData
  F_must_be_left : Fun K "must_be_left" "must_be_left" s_must_be_left f_must_be_left d_must_be_left
  b_must_be_left : Binds K d_must_be_left ["last", "b", "stop"] []
  g_must_be_left : mg "must_be_left" = some (.ref f_must_be_left)
  f_late_copies : Addr
  k_late_copies : Addr
  p_late_copies : Addr
  d_late_copies : FuncData
  F_late_copies : FunC K "late_copies" "late_copies" s_late_copies f_late_copies d_late_copies k_late_copies
  b_late_copies : Binds K d_late_copies ["last", "b", "left", "stop"] []
  g_late_copies : mg "late_copies" = some (.ref f_late_copies)
  tb_late_copies : GxR.TabB base mg k_late_copies p_late_copies
  ti_late_copies : p_late_copies ∈ ts
  f_told_of_stop : Addr
  d_told_of_stop : FuncData
  F_told_of_stop : Fun K "told_of_stop" "told_of_stop" s_told_of_stop f_told_of_stop d_told_of_stop
  b_told_of_stop : Binds K d_told_of_stop ["last", "b", "s", "stop"] []
  g_told_of_stop : mg "told_of_stop" = some (.ref f_told_of_stop)
  f_plan_for : Addr
  d_plan_for : FuncData
  F_plan_for : Fun K "plan_for" "plan_for" s_plan_for f_plan_for d_plan_for
  b_plan_for : Binds K d_plan_for ["n", "trace", "b", "s", "stop"] []
  g_plan_for : mg "plan_for" = some (.ref f_plan_for)
  f_least_left : Addr
  d_least_left : FuncData
  F_least_left : Fun K "least_left" "least_left" s_least_left f_least_left d_least_left
  b_least_left : Binds K d_least_left ["n", "trace", "b", "stop"] []
  g_least_left : mg "least_left" = some (.ref f_least_left)
  f_law_spring : Addr
  d_law_spring : FuncData
  F_law_spring : Fun K "_law_spring" "_law_spring" s_law_spring f_law_spring d_law_spring
  b_law_spring : Binds K d_law_spring ["script", "k"] []
  g_law_spring : mg "_law_spring" = some (.ref f_law_spring)
  f_law_cup : Addr
  d_law_cup : FuncData
  F_law_cup : Fun K "_law_cup" "_law_cup" s_law_cup f_law_cup d_law_cup
  b_law_cup : Binds K d_law_cup ["spring", "many"] []
  g_law_cup : mg "_law_cup" = some (.ref f_law_cup)
  f_law_trace : Addr
  d_law_trace : FuncData
  F_law_trace : Fun K "_law_trace" "_law_trace" s_law_trace f_law_trace d_law_trace
  b_law_trace : Binds K d_law_trace ["spring", "n", "most"] []
  g_law_trace : mg "_law_trace" = some (.ref f_law_trace)
  f_law_sizes : Addr
  d_law_sizes : FuncData
  F_law_sizes : Fun K "_law_sizes" "_law_sizes" s_law_sizes f_law_sizes d_law_sizes
  b_law_sizes : Binds K d_law_sizes ["spring"] []
  g_law_sizes : mg "_law_sizes" = some (.ref f_law_sizes)
  m_all : mg "all" = none
  m_enumerate : mg "enumerate" = none
  m_int : mg "int" = none
  m_len : mg "len" = none
  m_list : mg "list" = none
  m_max : mg "max" = none
  m_min : mg "min" = none
  m_range : mg "range" = none
  m_sorted : mg "sorted" = none
  m_sum : mg "sum" = none
  m_tuple : mg "tuple" = none
  m_zip : mg "zip" = none

local macro_rules | `(tactic| walk_at "e") => `(tactic| first
  | ((with_reducible refine e_var (by with_unfolding_all exact rfl) ?_))
  | with_reducible refine e_int ?_
  | with_reducible refine e_str ?_
  | with_reducible refine e_bl ?_
  | with_reducible refine e_non ?_
  | ((with_reducible refine e_pen (by with_unfolding_all exact rfl) (Or.inr rfl) ?_); intro z hz)
  | ((with_reducible refine e_pen (by with_unfolding_all exact rfl) (Or.inl rfl) ?_); intro z hz)
  | ((with_reducible refine e_penIx (by with_unfolding_all exact rfl) ?_))
  | ((with_reducible refine e_spr (by with_unfolding_all exact rfl) ?_); intro z)
  | with_reducible refine e_op ?_
  | with_reducible refine e_tup ?_
  | with_reducible refine e_lst ?_
  | with_reducible refine ea_cons ?_
  | with_reducible refine ea_nil ?_
  | ((with_reducible refine e_penLen (by with_unfolding_all exact rfl) ?_))
  | ((with_reducible refine e_lenOwn (by with_unfolding_all exact rfl) ?_))
  | ((with_reducible refine e_tupOwn (by with_unfolding_all exact rfl) ?_))
  | ((with_reducible refine s_aug (by with_unfolding_all exact rfl) ?_); (try dsimp only [List.set]))
  | with_reducible refine e_callXF ?_
  | with_reducible refine r_ipI ?_
  | with_reducible refine e_un ?_
  | with_reducible refine r_neg ?_
  | with_reducible refine gws_cons ?_
  | with_reducible refine gws_nil ?_
  | with_reducible refine gw_tup rfl ?_
  | ((with_reducible refine gw_name (by decide) ?_); (try dsimp only [List.set]))
  | with_reducible refine e_isI ?_
  | with_reducible refine e_isB ?_
  | with_reducible refine e_isS ?_
  | with_reducible refine e_isTu ?_
  | with_reducible refine e_isL ?_
  | with_reducible refine e_cb ?_
  | with_reducible refine e_sl ?_
  | with_reducible refine eo_none ?_
  | with_reducible refine eo_some ?_
  | with_reducible refine et_test ?_
  | with_reducible refine et_B ?_
  | with_reducible refine et_and ?_
  | with_reducible refine et_or ?_
  | with_reducible refine et_not ?_
  | with_reducible refine et_yes ?_
  | with_reducible refine e_andV ?_
  | with_reducible refine e_orV ?_
  | with_reducible refine e_notV ?_
  | with_reducible refine e_if ?_
  | with_reducible refine e_chain ?_
  | with_reducible refine e_callX ?_
  | ((with_reducible refine e_callXP (by with_unfolding_all exact rfl) ?_ (by with_unfolding_all exact trivial)))
  | ((with_reducible refine s_seq ?_); (try dsimp only [List.set]))
  | with_reducible refine s_next ?_
  | with_reducible refine s_ret ?_
  | ((with_reducible refine s_pen (by with_unfolding_all exact rfl) (Or.inr rfl) ?_))
  | ((with_reducible refine s_pen (by with_unfolding_all exact rfl) (Or.inl rfl) ?_))
  | ((with_reducible refine s_spr (by with_unfolding_all exact rfl) ?_))
  | ((with_reducible refine s_putOwn (by with_unfolding_all exact rfl) ?_ (by with_unfolding_all exact rfl)))
  | with_reducible refine s_asg ?_
  | with_reducible refine s_asgG ?_
  | with_reducible refine s_if ?_
  | with_reducible refine g_name ?_
  | with_reducible refine g_tup rfl ?_
  | with_reducible refine gs_cons ?_
  | with_reducible refine gs_nil ?_
  | with_reducible refine r_lt ?_
  | with_reducible refine r_le ?_
  | with_reducible refine r_gt ?_
  | with_reducible refine r_ge ?_
  | with_reducible refine r_add ?_
  | with_reducible refine r_sub ?_
  | with_reducible refine r_eqI ?_
  | with_reducible refine r_eqS ?_
  | with_reducible refine r_eqB ?_
  | with_reducible refine r_neI ?_
  | with_reducible refine r_neB ?_
  | with_reducible refine c_min2 ?_
  | with_reducible refine c_max2 ?_
  | with_reducible refine c_intB ?_
  | with_reducible refine c_len (Or.inl rfl) ?_
  | with_reducible refine c_len (Or.inr rfl) ?_
  | with_reducible refine c_list (Or.inl rfl) ?_
  | with_reducible refine c_list (Or.inr rfl) ?_
  | with_reducible refine c_tuple (Or.inl rfl) ?_
  | with_reducible refine c_tuple (Or.inr rfl) ?_
  | with_reducible refine r_ixT (by with_unfolding_all exact rfl) ?_
  | with_reducible refine r_ixL (by with_unfolding_all exact rfl) ?_
  | with_reducible refine r_slT ?_
  | with_reducible refine r_slL ?_
  | with_reducible refine r_isNone ?_
  | with_reducible refine r_notBl ?_
  | with_reducible refine eps_cons ?_
  | with_reducible refine eps_nil ?_
  | with_reducible refine e_dget1 ?_
  | with_reducible refine ed_callX ?_
  | with_reducible refine ⟨_, rfl, ?_⟩
  | with_reducible refine And.intro (Nat.le_of_ble_eq_true rfl) ?_)
local macro_rules | `(tactic| walk_at "t") => `(tactic| first
  | walk_at "e"
  | refine r_modAny (by first | omega | decide) fun z z0 z1 => ?_
  | refine r_mul (by first | exact Or.inr ⟨by decide, by decide⟩ | exact Or.inl ⟨by decide, by decide⟩ | exact Or.inl ⟨by omega, by omega⟩) ?_
  | refine r_pow ⟨by decide, by decide, by decide⟩ ?_
  | refine r_fdivW (by first | assumption | (rename_i hw _; exact hw _) | exact wide_div (b := 200) (by decide) (by decide) (by decide) (by decide)) ?_
  | with_reducible refine And.intro (by omega) ?_)
local macro_rules | `(tactic| walk_at "k") => `(tactic| first
  | walk_at "e"
  | with_reducible refine ⟨fun hb => absurd hb (by decide +kernel), fun _ => ?_⟩
  | with_reducible refine ⟨fun _ => ?_, fun hb => absurd hb (by decide +kernel)⟩
  | refine ⟨fun hb => absurd hb Bool.false_ne_true, fun _ => ?_⟩
  | refine ⟨fun _ => ?_, fun hb => absurd hb.symm Bool.false_ne_true⟩)
local macro_rules | `(tactic| walk_at "d") => `(tactic| first
  | walk_at "k"
  | refine And.intro (show WfTake _ from ⟨by omega, by omega⟩) (take_all fun k hk => ?_))
local macro_rules | `(tactic| walk_at "o") => `(tactic| first
  | with_reducible refine s_ownList ?_
  | walk_at "d"
  | with_reducible refine ⟨_, Or.inl rfl, ?_⟩)
local macro_rules | `(tactic| walk_at "c") => `(tactic| first
  | with_reducible refine e_ofL (el_catL ?_)
  | with_reducible refine e_ofL (el_sortP ?_)
  | with_reducible refine e_ofL (el_sortSetP ?_)
  | with_reducible refine e_ofL (el_revL ?_)
  | walk_at "d")

section
variable {P : Program} {w : World} {K : PySem.W.Frag} {mg : Str → Option Value} {base : Heap}
theorem mapIdx_range' {α β : Type} (g : Nat → β) : ∀ (xs : List α), xs.mapIdx (fun i _ => g i) = (List.range xs.length).map g := fun xs => by
  apply List.ext_getElem?
  intro i
  rw [List.getElem?_mapIdx, List.getElem?_map]
  by_cases h : i < xs.length
  · rw [List.getElem?_eq_getElem h, List.getElem?_range h]; rfl
  · rw [List.getElem?_eq_none (by omega), List.getElem?_eq_none (by rw [List.length_range]; omega)]; rfl
theorem fm_some {α β : Type} (f : α → β) (l : List α) : (l.map fun a => some (f a)).filterMap id = l.map f := by
  induction l with
  | nil => rfl
  | cons a r ih => rw [List.map_cons, List.filterMap_cons, List.map_cons, ← ih]; rfl
theorem fm_filter {α β : Type} (p : α → Bool) (f : α → β) (l : List α) : (l.map fun a => if p a = true then some (f a) else none).filterMap id = (l.filter p).map f := by
  induction l with
  | nil => rfl
  | cons a r ih =>
    rw [List.map_cons, List.filterMap_cons, List.filter_cons, ih]
    by_cases h : p a = true
    · rw [if_pos h, if_pos h]; rfl
    · rw [if_neg h, if_neg h]; rfl
structure LwA where
  n : Nat
  t : Trc
  stop : Int
structure LwA.Ok (a : LwA) : Prop where
  n2 : a.n ≤ 1000
  tk : Trc.Ok a.n a.t
  st : -(2 ^ 62) ≤ a.stop
abbrev spLw (K : PySem.W.Frag) (ts : List Addr) : Sp := SpX (α := LwA) K ts LwA.Ok (fun a => [.int a.n, .list (trcD a.t), .int a.stop]) (fun a d => d = .list (intsL ((List.range a.n).map fun p : Nat => lastW a.t a.stop p)))
def lwV (t : Trc) (k : Nat) (p : Int) : Option PyData := if lastT t p k = -1 then none else some (.int (lastT t p k))
theorem getD_mem {t : Trc} {i : Nat} (h : i < t.length) : t.getD i [] ∈ t := by
  rw [List.getD_eq_getElem?_getD, List.getElem?_eq_getElem h]
  exact List.getElem_mem h
abbrev LW (n : Nat) (t : Trc) (stop : Int) (m : List (Key × PyData)) : Lv := [some (.d (.int n)), some (.d (.list (trcD t))), some (.d (.int stop)), some (.own (.dK m)), none, none]
theorem min_if (a b : Int) : (if b < a then b else a) = min a b := by
  split <;> omega
set_option maxHeartbeats 4000000 in
theorem ok_last_writings (T : Tx K mg base) : FnOk P w K mg base CX0 1 T.f_last_writings T.d_last_writings ["n", "trace", "stop"] (spLw K T.ts) := by
  refine fnX T.F_last_writings sc_last_writings (fun _ _ => rfl) (fun cdv A outer s H E hr => ⟨_, (pss_cons (ps_set (i := 3) sc_last_writings.nd rfl (.inr rfl) pe_dnewK)
      (pss_cons (ps_for PassesOwn.never rfl (pi_range1 rfl T.m_range (pa_cons (pe_callB (call_min2 rfl) (by rfl) T.m_min (by decide +kernel) (pa_cons (pv 2) (pa_cons (pe_callB (kx_len K rfl) (by rfl) T.m_len PySem.boot_len (pa_cons (pv 1) pa_nil)) pa_nil))) pa_nil)) (pg_name (i := 4) sc_last_writings.nd rfl (.inl rfl))
      (pss_one (ps_for PassesOwn.never rfl (kx_piT K rfl (pe_ix (kx_ixL K rfl) (pv 1) (pv 4) (fun _ _ => rfl))) (pg_name (i := 5) sc_last_writings.nd rfl (.inl rfl))
      (pss_one (ps_dput (hu_of hr) (pv 3) (pv 5) (pv 4) rfl)))))
      (pss_one (ps_ret (pe_lc (own := [("p", 5)]) (g := gName 5) (tt := tYes) rfl sc_last_writings.nd (pi_range1 rfl T.m_range (pa_cons (pv 0) pa_nil)) (blkOk_by (own := [("p", 5)]) (N := ["n", "trace", "stop", "last", "tick", "p"]) (sc := defScope s_last_writings) (by decide +kernel)) (fun _ _ _ _ _ => (pg_name (i := 5) sc_last_writings.nd rfl (.inl rfl))) (fun _ _ _ _ _ => pts_nil) (fun _ _ _ _ _ => (pe_dget2 (hu_of hr) (pv 3) (pv 5) (pe_un un_neg pe_int) ⟨rfl, rfl, rfl, rfl⟩))))))), fun a ha => ?_⟩)
  obtain ⟨n, t, stop⟩ := a
  obtain ⟨hn, ⟨htl, htr⟩, hst⟩ := ha
  dsimp only at hn htl htr hst
  try simp only [nox_K, blk_K, cx_K]
  show S K ⟨none, T.ts⟩ H _ [some (.d _), some (.d _), some (.d _), none, none, none] _
  refine s_seq (s_dnew ?_)
  dsimp only [List.set]
  refine s_seq (s_forI (it_rng ?_))
  repeat walk_at "e"
  rw [min_if, trcD_len]
  refine ⟨by omega, by omega, fun k L => ∃ m, m.length ≤ 12 * k ∧ (∀ p : Int, valD m (.inl p) = lwV t k p) ∧ L = LW n t stop m, ⟨_, Sub.refl _, [], Nat.zero_le _, fun p => rfl, rfl⟩, fun k d L' hd ⟨m, hm1, hm2, e⟩ => ?_, fun L' hI L4 s4 => ?_⟩
  · subst e
    obtain ⟨hk, rfl⟩ := rngL_get hd
    rw [Int.zero_add]
    have hkl : k < t.length := by omega
    refine g_name ?_
    dsimp only [List.set]
    have hrl := htr _ (getD_mem hkl)
    refine s_forI (it_tup ?_)
    repeat walk_at "e"
    refine r_ixL (trc_at hkl) ?_
    unfold rowN
    refine ⟨_, rfl, fun i L => ∃ m, m.length ≤ 12 * k + i ∧ (∀ p : Int, valD m (.inl p) = if (((t.getD k []).take i).any fun j => decide ((j : Int) = p)) = true then some (.int k) else lwV t k p) ∧ L = [some (.d (.int n)), some (.d (.list (trcD t))), some (.d (.int stop)), some (.own (.dK m)), some (.d (.int k)), none], ⟨_, Sub.refl _, m, hm1, fun p => by rw [hm2]; rfl, rfl⟩, fun i d L' hd ⟨m, hm1, hm2, e⟩ => ?_, fun L' hI L4 s4 => ?_⟩
    · subst e
      unfold intsL natI at hd
      rw [List.map_map, List.getElem?_map] at hd
      cases hg : (t.getD k [])[i]? with
      | none => rw [hg] at hd; cases hd
      | some j =>
        rw [hg] at hd
        cases hd
        obtain ⟨hlt, hge⟩ := List.getElem?_eq_some_iff.mp hg
        refine g_name ?_
        dsimp only [List.set]
        refine s_dput rfl (by omega) ?_
        repeat walk_at "e"
        refine ⟨.inl (j : Int), rfl, ?_⟩
        refine ⟨_, ?_, putD m (.inl (j : Int)) (.int k), by have := putD_len m (.inl (j : Int)) (.int k); omega, fun p => ?_, rfl⟩
        · repeat (first | exact Sub.nil | apply Sub.keep | apply Sub.drop)
        · rw [valD_put, hm2 p, List.take_succ_eq_append_getElem hlt, List.any_append, hge]
          by_cases z : p = (j : Int)
          · subst z
            rw [if_pos rfl, if_pos]
            simp
          · rw [if_neg (fun q => z (Sum.inl.inj q))]
            have : ([j].any fun j => decide ((j : Int) = p)) = false := by
              rw [List.any_cons, List.any_nil, Bool.or_false]
              exact decide_eq_false fun q => z q.symm
            rw [this, Bool.or_false]
    · obtain ⟨m, hm1, hm2, e⟩ := hI
      subst e
      rw [show (intsL (natI (t.getD k []))).length = (t.getD k []).length from by unfold intsL natI; rw [List.length_map, List.length_map]] at hm1 hm2
      refine ⟨LW n t stop m, Sub.trans (by repeat (first | exact Sub.nil | apply Sub.keep | apply Sub.drop)) s4, m, by omega, fun p => ?_, rfl⟩
      rw [hm2 p, List.take_length]
      unfold lwV
      rw [lastT]
      by_cases z : ((t.getD k []).any fun j => decide ((j : Int) = p)) = true
      · rw [if_pos z, if_pos z, if_neg (by omega)]
      · rw [if_neg z, if_neg z]
  · obtain ⟨m, hm1, hm2, e⟩ := hI
    subst e
    rw [rngL_len] at hm2
    refine S.sub ?_ s4
    refine s_ret (e_ofL (el_lcF (fun i _ => some (.int (lastW t stop i))) (it_rng (ea_cons (e_var rfl (ea_nil ⟨(n : Int), rfl, by omega, by omega, by rw [rngL_len]; omega, fun i d hd => ?_, ?_⟩))))))
    · obtain ⟨hi, rfl⟩ := rngL_get hd
      rw [Int.zero_add]
      refine gw_name (by decide) ?_
      dsimp only [List.map, wipeL, List.set]
      refine et_yes ⟨fun _ => ?_, fun z => (by cases z)⟩
      refine e_dget2O (.inl rfl) (e_var rfl ⟨.inl (i : Int), rfl, ?_⟩)
      repeat walk_at "e"
      rw [hm2 i]
      unfold lwV
      show _ = some ((if lastT t i (cutN t stop) = -1 then none else some (PyData.int (lastT t i (cutN t stop)))).getD (.int (-1)))
      show some (PyData.int (lastT t i (cutN t stop))) = _
      by_cases z : lastT t i (cutN t stop) = -1
      · rw [if_pos z, z]; rfl
      · rw [if_neg z]; rfl
    · rw [mapIdx_range' (fun i : Nat => some (PyData.int (lastW t stop i))), rngL_len, Int.toNat_natCast, fm_some]
      unfold intsL
      rw [List.map_map]
      rfl
structure OutA where
  n : Nat
  t : Trc
  c : Int → Option Int
  m : List (Key × PyData)
  stop : Int
structure OutA.Ok (a : OutA) : Prop where
  lw : LwA.Ok ⟨a.n, a.t, a.stop⟩
  hm : ∀ p : Nat, p < a.n → valD a.m (.inl (p : Int)) = (a.c p).map PyData.int
abbrev natL (l : List Nat) : List PyData := intsL (natI l)
abbrev spOut (K : PySem.W.Frag) (ts : List Addr) : Sp := SpXO (α := OutA) K ts OutA.Ok (fun a => [.inl (.int a.n), .inl (.list (trcD a.t)), .inr (.dK a.m), .inl (.int a.stop)]) (fun a d => d = .list (natL (leftG a.n a.t a.c a.stop)))
theorem rng_at {n : Nat} {f : Nat → Int} {i : Nat} (h : i < n) : atI (intsL ((List.range n).map f)) (i : Int) = some (.int (f i)) := by
  refine atI_nat ?_
  unfold intsL
  rw [List.map_map, List.getElem?_map, List.getElem?_range h]
  rfl
set_option maxHeartbeats 4000000 in
theorem ok_outdated (T : Tx K mg base) : FnOk P w K mg base CX0 2 T.f_outdated T.d_outdated ["n", "trace", "copied", "stop"] (spOut K T.ts) := by
  refine fnXO T.F_outdated sc_outdated (fun _ _ => rfl) (fun cdv A outer s H E hr => ⟨_, (pss_cons (ps_set (i := 4) sc_outdated.nd rfl (.inr rfl) (pe_call (ok_last_writings T) (hr.mono (by decide)) (by rfl) T.g_last_writings T.F_last_writings.kp T.b_last_writings .nil pass0 (pa_cons (pv 0) (pa_cons (pv 1) (pa_cons (pv 3) pa_nil)))))
      (pss_one (ps_ret (pe_lc (own := [("p", 5)]) (g := gName 5) rfl sc_outdated.nd (pi_range1 rfl T.m_range (pa_cons (pv 0) pa_nil)) (blkOk_by (own := [("p", 5)]) (N := ["n", "trace", "copied", "stop", "written", "p"]) (sc := defScope s_outdated) (by decide +kernel)) (fun _ _ _ _ _ => (pg_name (i := 5) sc_outdated.nd rfl (.inl rfl))) (fun _ _ _ _ _ => (pts_one (PW.pt (pw_or (pt_cmp (pc_dnotin (hu_of hr) (pv 5) (pv 2))) (pw_or1 (pt_cmpR op_ge (pe_ix (kx_ixL K rfl) (pv 4) (pv 5) (fun _ _ => rfl)) (pe_dget (hu_of hr) (pv 2) (pv 5) (fun _ _ => rfl)) (nomark _))))))) (fun _ _ _ _ _ => (pv 5)))))), fun a ha => ?_⟩)
  obtain ⟨n, t, c, m, stop⟩ := a
  obtain ⟨hlw, hm⟩ := ha
  have hn := hlw.n2
  dsimp only at hlw hm hn
  try simp only [nox_K, blk_K, cx_K]
  show S K ⟨none, T.ts⟩ H _ [some (.d (.int n)), some (.d (.list (trcD t))), some (.bor (.dK m)), some (.d (.int stop)), none, none] _
  refine s_seq (s_asg ?_)
  repeat walk_at "e"
  refine ⟨⟨n, t, stop⟩, rfl, hlw, ?_⟩
  rintro d rfl
  dsimp only [List.set]
  refine s_retN (en_el (el_lcF (fun i _ => if staleG t c stop i = true then some (.int (i : Nat)) else none) (it_rng (ea_cons (e_var rfl (ea_nil ⟨(n : Int), rfl, by omega, by omega, by rw [rngL_len]; omega, fun i d hd => ?_, ?_⟩))))))
  · obtain ⟨hi, rfl⟩ := rngL_get hd
    rw [Int.zero_add]
    rw [Int.toNat_natCast] at hi
    refine gw_name (by decide) ?_
    dsimp only [List.map, wipeL, List.set]
    unfold staleG
    cases hc : c i with
    | none =>
      refine et_or (et_test (e_dnotinO (.inr rfl) (e_var rfl ⟨.inl (i : Int), rfl, _, rfl, ?_⟩)))
      rw [hm i hi, hc]
      refine ⟨fun _ => ⟨fun _ => ?_, fun z => (by cases z)⟩, fun z => (by cases z)⟩
      repeat walk_at "e"
      rfl
    | some v =>
      refine et_or (et_test (e_dnotinO (.inr rfl) (e_var rfl ⟨.inl (i : Int), rfl, _, rfl, ?_⟩)))
      rw [hm i hi, hc]
      refine ⟨fun z => (by cases z), fun _ => ?_⟩
      refine et_test (e_op (e_op (e_var rfl (e_var rfl (r_ixL (rng_at hi) ?_)))))
      refine e_dgetO (.inr rfl) (e_var rfl ⟨.inl (i : Int), rfl, .int v, by rw [hm i hi, hc]; rfl, ?_⟩)
      repeat walk_at "e"
      refine ⟨fun hb => ?_, fun hb => ?_⟩
      · repeat walk_at "e"
        exact if_pos hb
      · exact if_neg (show ¬ decide (v ≤ lastW t stop i) = true by rw [hb]; exact Bool.false_ne_true)
  · rw [mapIdx_range' (fun i : Nat => if staleG t c stop i = true then some (PyData.int (i : Nat)) else none), rngL_len, Int.toNat_natCast, fm_filter]
    rw [show ((List.range n).filter (staleG t c stop)).map (fun a : Nat => PyData.int (a : Int)) = natL (leftG n t c stop) from by unfold natL leftG intsL natI; rw [List.map_map]; rfl]
    exact ⟨noL_ints _, rfl⟩
structure CpA where
  cs : List (Int × Int)
  stop : Int
abbrev spCp (K : PySem.W.Frag) (ts : List Addr) : Sp := SpXN (α := CpA) K ts (fun a => a.cs.length ≤ 1000) (fun a => [.list (pairsL a.cs), .int a.stop]) (fun a o => ∃ m, o = .dK m ∧ ∀ p : Int, valD m (.inl p) = (lastC a.stop p a.cs).map PyData.int)
theorem pairs_get {cs : List (Int × Int)} {i : Nat} {d : PyData} (h : (pairsL cs)[i]? = some d) : ∃ c, cs[i]? = some c ∧ d = pairD c := by
  unfold pairsL at h
  rw [List.getElem?_map] at h
  cases hc : cs[i]? with
  | none => rw [hc] at h; cases h
  | some c => rw [hc] at h; exact ⟨c, rfl, (Option.some.inj h).symm⟩
theorem max_if (a b : Int) : (if b > a then b else a) = max a b := by
  split <;> omega
set_option maxHeartbeats 4000000 in
theorem ok_last_copyings (T : Tx K mg base) : FnOk P w K mg base CX0 1 T.f_last_copyings T.d_last_copyings ["copies", "stop"] (spCp K T.ts) := by
  refine fnXN T.F_last_copyings sc_last_copyings (fun _ _ => rfl) (fun cdv A outer s H E hr => ⟨_, (pss_cons (ps_set (i := 2) sc_last_copyings.nd rfl (.inl rfl) pe_dnewK)
      (pss_cons (ps_for PassesOwn.never rfl (kx_piL K rfl (pv 0)) (kx_pgT K (n := 2) rfl rfl (pgs_cons (pg_name (i := 3) sc_last_copyings.nd rfl (.inl rfl)) (pgs_cons (pg_name (i := 4) sc_last_copyings.nd rfl (.inl rfl)) pgs_nil)))
      (pss_one (ps_if (pt_chain op_le op_lt pe_int (pv 3) (pv 1))
      (pss_one (ps_dput (hu_of hr) (pv 2) (pv 4) (pe_callB (call_max2 rfl) (by rfl) T.m_max (by decide +kernel) (pa_cons (pv 3) (pa_cons (pe_dget2 (hu_of hr) (pv 2) (pv 4) pe_int ⟨rfl, rfl, rfl, rfl⟩) pa_nil))) rfl))
      pss_nil)))
      (pss_one (ps_ret (pv 2))))), fun a ha => ?_⟩)
  obtain ⟨cs, stop⟩ := a
  dsimp only at ha
  try simp only [nox_K, blk_K, cx_K]
  show S K ⟨none, T.ts⟩ H _ [some (.d _), some (.d _), none, none, none] _
  refine s_seq (s_dnew ?_)
  dsimp only [List.set]
  refine s_seq (s_forI (it_list (e_var rfl ⟨_, rfl, fun i L => ∃ m, m.length ≤ i ∧ (∀ p : Int, valD m (.inl p) = (lastC stop p (cs.take i)).map PyData.int) ∧ L = [some (.d (.list (pairsL cs))), some (.d (.int stop)), some (.own (.dK m)), none, none], ⟨_, Sub.refl _, [], Nat.zero_le _, fun p => rfl, rfl⟩, fun i d L' hd ⟨m, hm1, hm2, e⟩ => ?_, fun L' hI L4 s4 => ?_⟩)))
  · subst e
    obtain ⟨c, hc, rfl⟩ := pairs_get hd
    obtain ⟨hlt, hge⟩ := List.getElem?_eq_some_iff.mp hc
    have step : ∀ p, lastC stop p (cs.take (i + 1)) = if 0 ≤ c.1 ∧ c.1 < stop ∧ c.2 = p then some (max c.1 ((lastC stop p (cs.take i)).getD 0)) else lastC stop p (cs.take i) := fun p => by
      rw [List.take_succ_eq_append_getElem hlt, lastC_snoc, hge]
    repeat walk_at "e"
    dsimp only [List.set]
    have skip : ¬ (0 ≤ c.1 ∧ c.1 < stop) → Wk (fun i L => ∃ m, m.length ≤ i ∧ (∀ p : Int, valD m (.inl p) = (lastC stop p (cs.take i)).map PyData.int) ∧ L = [some (.d (.list (pairsL cs))), some (.d (.int stop)), some (.own (.dK m)), none, none]) (i + 1) [some (.d (.list (pairsL cs))), some (.d (.int stop)), some (.own (.dK m)), some (.d (.int c.1)), some (.d (.int c.2))] := fun hno => by
      refine ⟨_, ?_, m, by omega, fun p => ?_, rfl⟩
      · repeat (first | exact Sub.nil | apply Sub.keep | apply Sub.drop)
      · rw [hm2 p, step p, if_neg (fun z => hno ⟨z.1, z.2.1⟩)]
    refine ⟨fun h0 => ?_, fun h0 => ?_⟩
    · have h0 := of_decide_eq_true h0
      repeat walk_at "e"
      refine ⟨fun h1 => ?_, fun h1 => ?_⟩
      · have h1 := of_decide_eq_true h1
        refine s_dput rfl (by omega) ?_
        refine e_cb (ea_cons (e_var rfl (ea_cons ?_)))
        refine e_dget2O (.inl rfl) (e_var rfl ⟨.inl c.2, rfl, ?_⟩)
        rw [hm2 c.2]
        repeat walk_at "e"
        rw [show ((lastC stop c.2 (cs.take i)).map PyData.int).getD (.int 0) = .int ((lastC stop c.2 (cs.take i)).getD 0) from by cases lastC stop c.2 (cs.take i) <;> rfl]
        refine c_max2 ?_
        rw [max_if]
        repeat walk_at "e"
        refine ⟨.inl c.2, rfl, [some (.d (.list (pairsL cs))), some (.d (.int stop)), some (.own (.dK (putD m (.inl c.2) (.int (max c.1 ((lastC stop c.2 (cs.take i)).getD 0)))))), none, none], ?_, putD m (.inl c.2) (.int (max c.1 ((lastC stop c.2 (cs.take i)).getD 0))), Nat.le_trans (putD_len _ _ _) (by omega), fun p => ?_, rfl⟩
        · repeat (first | exact Sub.nil | apply Sub.keep | apply Sub.drop)
        · rw [valD_put, step p]
          by_cases z : p = c.2
          · subst z
            rw [if_pos rfl, if_pos ⟨h0, h1, rfl⟩]
            rfl
          · rw [if_neg (fun q => z (Sum.inl.inj q)), if_neg (fun q => z q.2.2.symm), hm2 p]
      · have h1 := of_decide_eq_false h1
        refine s_next (skip fun z => h1 z.2)
    · have h0 := of_decide_eq_false h0
      exact ⟨_, rfl, fun z => (by cases z), fun _ => s_next (skip fun z => h0 z.1)⟩
  · obtain ⟨m, hm1, hm2, e⟩ := hI
    subst e
    rw [show (pairsL cs).length = cs.length from List.length_map _, List.take_length] at hm2
    refine S.sub ?_ s4
    exact s_retO rfl ⟨m, rfl, hm2⟩
structure PlA where
  n : Nat
  t : Trc
  cs : List (Int × Int)
  stop : Int
structure PlA.Ok (a : PlA) : Prop where
  lw : LwA.Ok ⟨a.n, a.t, a.stop⟩
  cl : a.cs.length ≤ 1000
abbrev planD (cs : List (Int × Int)) (stop : Int) : PyData := .tuple [.list (pairsL cs), .int stop]
abbrev spLeft (K : PySem.W.Frag) (ts : List Addr) : Sp := SpXF (α := PlA) K ts PlA.Ok (fun a => [.int a.n, .list (trcD a.t), planD a.cs a.stop]) (fun a d => d = .list (natL (leftF a.n a.t a.cs a.stop)))
set_option maxHeartbeats 4000000 in
theorem ok_left_by (T : Tx K mg base) : FnOk P w K mg base CX0 3 T.f_left_by T.d_left_by ["n", "trace", "plan"] (spLeft K T.ts) := by
  refine fnXF T.F_left_by sc_left_by (fun _ _ => rfl) (fun cdv A outer s H E hr => ⟨_, (pss_cons (ps_asg (pv 2) (kx_pgT K (n := 2) rfl rfl (pgs_cons (pg_name (i := 3) sc_left_by.nd rfl (.inl rfl)) (pgs_cons (pg_name (i := 4) sc_left_by.nd rfl (.inl rfl)) pgs_nil))))
      (pss_one (ps_ret (pe_call (ok_outdated T) (hr.mono (by decide)) (by rfl) T.g_outdated T.F_outdated.kp T.b_outdated .nil pass0 (pa_cons (pv 0) (pa_cons (pv 1) (pa_cons (pe_call (ok_last_copyings T) (hr.mono (by decide)) (by rfl) T.g_last_copyings T.F_last_copyings.kp T.b_last_copyings .nil pass0 (pa_cons (pv 3) (pa_cons (pv 4) pa_nil))) (pa_cons (pv 4) pa_nil)))))))), fun a ha => ?_⟩)
  obtain ⟨n, t, cs, stop⟩ := a
  obtain ⟨hlw, hcl⟩ := ha
  dsimp only at hlw hcl
  try simp only [nox_K, blk_K, cx_K]
  show S K ⟨none, T.ts⟩ H _ [some (.d _), some (.d _), some (.d _), none, none] _
  refine s_seq (s_asgG (e_var rfl (g_tup rfl (gs_cons (g_name (gs_cons (g_name (gs_nil ?_))))))))
  dsimp only [List.set]
  refine s_retN (en_callO ?_)
  refine eao_d (e_var rfl ?_)
  refine eao_d (e_var rfl ?_)
  refine eao_k (ek_call ?_)
  refine ea_cons (e_var rfl ?_)
  refine ea_cons (e_var rfl ?_)
  refine ea_nil ⟨⟨cs, stop⟩, rfl, hcl, ?_⟩
  rintro o ⟨m, rfl, hm⟩
  refine eao_d (e_var rfl (eao_nil ⟨⟨n, t, fun p => lastC stop p cs, m, stop⟩, rfl, ⟨hlw, fun p _ => hm p⟩, ?_⟩))
  rintro d rfl
  rfl
abbrev spCarr (K : PySem.W.Frag) (ts : List Addr) : Sp := SpX (α := PlA) K ts PlA.Ok (fun a => [.int a.n, .list (trcD a.t), planD a.cs a.stop]) (fun a d => d = .int ((a.cs.length + (leftF a.n a.t a.cs a.stop).length : Nat) : Int))
set_option maxHeartbeats 4000000 in
theorem ok_carried_by (T : Tx K mg base) : FnOk P w K mg base CX0 4 T.f_carried_by T.d_carried_by ["n", "trace", "plan"] (spCarr K T.ts) := by
  refine fnX T.F_carried_by sc_carried_by (fun _ _ => rfl) (fun cdv A outer s H E hr => ⟨_, (pss_one (ps_ret (pe_op op_add (pe_callB (kx_len K rfl) (by rfl) T.m_len PySem.boot_len (pa_cons (pe_ix (kx_ixT K rfl) (pv 2) pe_int (fun _ _ => rfl)) pa_nil)) (pe_callB (kx_len K rfl) (by rfl) T.m_len PySem.boot_len (pa_cons (pe_call (ok_left_by T) (hr.mono (by decide)) (by rfl) T.g_left_by T.F_left_by.kp T.b_left_by .nil pass0 (pa_cons (pv 0) (pa_cons (pv 1) (pa_cons (pv 2) pa_nil)))) pa_nil))))), fun a ha => ?_⟩)
  obtain ⟨n, t, cs, stop⟩ := a
  try simp only [nox_K, blk_K, cx_K]
  show S K ⟨none, T.ts⟩ H _ [some (.d _), some (.d _), some (.d _)] _
  repeat walk_at "e"
  refine ⟨⟨n, t, cs, stop⟩, rfl, ha, ?_⟩
  rintro d rfl
  repeat walk_at "e"
  show PyData.int _ = PyData.int _
  congr 1
  unfold natL pairsL intsL natI
  simp only [List.length_map]
  omega
end
end K15
set_option Elab.async false
set_option linter.all false
set_option maxRecDepth 100000
namespace K15
open PySem PySem.Spec PyProof.Rows L2 Dl Wm
local macro_rules | `(tactic| walk_at "e") => `(tactic| first
  | ((with_reducible refine e_var (by with_unfolding_all exact rfl) ?_))
  | with_reducible refine e_int ?_
  | with_reducible refine e_str ?_
  | with_reducible refine e_bl ?_
  | with_reducible refine e_non ?_
  | ((with_reducible refine e_pen (by with_unfolding_all exact rfl) (Or.inr rfl) ?_); intro z hz)
  | ((with_reducible refine e_pen (by with_unfolding_all exact rfl) (Or.inl rfl) ?_); intro z hz)
  | ((with_reducible refine e_penIx (by with_unfolding_all exact rfl) ?_))
  | ((with_reducible refine e_spr (by with_unfolding_all exact rfl) ?_); intro z)
  | with_reducible refine e_op ?_
  | with_reducible refine e_tup ?_
  | with_reducible refine e_lst ?_
  | with_reducible refine ea_cons ?_
  | with_reducible refine ea_nil ?_
  | ((with_reducible refine e_penLen (by with_unfolding_all exact rfl) ?_))
  | ((with_reducible refine e_lenOwn (by with_unfolding_all exact rfl) ?_))
  | ((with_reducible refine e_tupOwn (by with_unfolding_all exact rfl) ?_))
  | ((with_reducible refine s_aug (by with_unfolding_all exact rfl) ?_); (try dsimp only [List.set]))
  | with_reducible refine e_callXF ?_
  | with_reducible refine r_ipI ?_
  | with_reducible refine e_un ?_
  | with_reducible refine r_neg ?_
  | with_reducible refine gws_cons ?_
  | with_reducible refine gws_nil ?_
  | with_reducible refine gw_tup rfl ?_
  | ((with_reducible refine gw_name (by decide) ?_); (try dsimp only [List.set]))
  | with_reducible refine e_isI ?_
  | with_reducible refine e_isB ?_
  | with_reducible refine e_isS ?_
  | with_reducible refine e_isTu ?_
  | with_reducible refine e_isL ?_
  | with_reducible refine e_cb ?_
  | with_reducible refine e_sl ?_
  | with_reducible refine eo_none ?_
  | with_reducible refine eo_some ?_
  | with_reducible refine et_test ?_
  | with_reducible refine et_B ?_
  | with_reducible refine et_and ?_
  | with_reducible refine et_or ?_
  | with_reducible refine et_not ?_
  | with_reducible refine et_yes ?_
  | with_reducible refine e_andV ?_
  | with_reducible refine e_orV ?_
  | with_reducible refine e_notV ?_
  | with_reducible refine e_if ?_
  | with_reducible refine e_chain ?_
  | with_reducible refine e_callX ?_
  | ((with_reducible refine e_callXP (by with_unfolding_all exact rfl) ?_ (by with_unfolding_all exact trivial)))
  | ((with_reducible refine s_seq ?_); (try dsimp only [List.set]))
  | with_reducible refine s_next ?_
  | with_reducible refine s_ret ?_
  | ((with_reducible refine s_pen (by with_unfolding_all exact rfl) (Or.inr rfl) ?_))
  | ((with_reducible refine s_pen (by with_unfolding_all exact rfl) (Or.inl rfl) ?_))
  | ((with_reducible refine s_spr (by with_unfolding_all exact rfl) ?_))
  | ((with_reducible refine s_putOwn (by with_unfolding_all exact rfl) ?_ (by with_unfolding_all exact rfl)))
  | with_reducible refine s_asg ?_
  | with_reducible refine s_asgG ?_
  | with_reducible refine s_if ?_
  | with_reducible refine g_name ?_
  | with_reducible refine g_tup rfl ?_
  | with_reducible refine gs_cons ?_
  | with_reducible refine gs_nil ?_
  | with_reducible refine r_lt ?_
  | with_reducible refine r_le ?_
  | with_reducible refine r_gt ?_
  | with_reducible refine r_ge ?_
  | with_reducible refine r_add ?_
  | with_reducible refine r_sub ?_
  | with_reducible refine r_eqI ?_
  | with_reducible refine r_eqS ?_
  | with_reducible refine r_eqB ?_
  | with_reducible refine r_neI ?_
  | with_reducible refine r_neB ?_
  | with_reducible refine c_min2 ?_
  | with_reducible refine c_max2 ?_
  | with_reducible refine c_intB ?_
  | with_reducible refine c_len (Or.inl rfl) ?_
  | with_reducible refine c_len (Or.inr rfl) ?_
  | with_reducible refine c_list (Or.inl rfl) ?_
  | with_reducible refine c_list (Or.inr rfl) ?_
  | with_reducible refine c_tuple (Or.inl rfl) ?_
  | with_reducible refine c_tuple (Or.inr rfl) ?_
  | with_reducible refine r_ixT (by with_unfolding_all exact rfl) ?_
  | with_reducible refine r_ixL (by with_unfolding_all exact rfl) ?_
  | with_reducible refine r_slT ?_
  | with_reducible refine r_slL ?_
  | with_reducible refine r_isNone ?_
  | with_reducible refine r_notBl ?_
  | with_reducible refine eps_cons ?_
  | with_reducible refine eps_nil ?_
  | with_reducible refine e_dget1 ?_
  | with_reducible refine ed_callX ?_
  | with_reducible refine ⟨_, rfl, ?_⟩
  | with_reducible refine And.intro (Nat.le_of_ble_eq_true rfl) ?_)
local macro_rules | `(tactic| walk_at "t") => `(tactic| first
  | walk_at "e"
  | refine r_modAny (by first | omega | decide) fun z z0 z1 => ?_
  | refine r_mul (by first | exact Or.inr ⟨by decide, by decide⟩ | exact Or.inl ⟨by decide, by decide⟩ | exact Or.inl ⟨by omega, by omega⟩) ?_
  | refine r_pow ⟨by decide, by decide, by decide⟩ ?_
  | refine r_fdivW (by first | assumption | (rename_i hw _; exact hw _) | exact wide_div (b := 200) (by decide) (by decide) (by decide) (by decide)) ?_
  | with_reducible refine And.intro (by omega) ?_)
local macro_rules | `(tactic| walk_at "k") => `(tactic| first
  | walk_at "e"
  | with_reducible refine ⟨fun hb => absurd hb (by decide +kernel), fun _ => ?_⟩
  | with_reducible refine ⟨fun _ => ?_, fun hb => absurd hb (by decide +kernel)⟩
  | refine ⟨fun hb => absurd hb Bool.false_ne_true, fun _ => ?_⟩
  | refine ⟨fun _ => ?_, fun hb => absurd hb.symm Bool.false_ne_true⟩)
local macro_rules | `(tactic| walk_at "d") => `(tactic| first
  | walk_at "k"
  | refine And.intro (show WfTake _ from ⟨by omega, by omega⟩) (take_all fun k hk => ?_))
local macro_rules | `(tactic| walk_at "o") => `(tactic| first
  | with_reducible refine s_ownList ?_
  | walk_at "d"
  | with_reducible refine ⟨_, Or.inl rfl, ?_⟩)
local macro_rules | `(tactic| walk_at "c") => `(tactic| first
  | with_reducible refine e_ofL (el_catL ?_)
  | with_reducible refine e_ofL (el_sortP ?_)
  | with_reducible refine e_ofL (el_sortSetP ?_)
  | with_reducible refine e_ofL (el_revL ?_)
  | walk_at "d")

section
variable {P : Program} {w : World} {K : PySem.W.Frag} {mg : Str → Option Value} {base : Heap}
theorem chainB {pen : Pc} {H0 : Hp} {L : Lv} {P : PyData → Prop} {i : Nat} {x y z : Int} (hi : L[i]? = some (some (.d (.int z)))) (h : ∀ ag, (decide (x ≤ y) && decide (y < z)) = ag → P (.bool ag)) :
    ∃ k, PyData.bool (decide (x ≤ y)) = .bool k ∧ (k = true → Dl.E K pen H0 (tVar i) L fun c => R2d K pen (rI0 fun i j => V.bl (decide (i < j))) (.int y) c P) ∧ (k = false → P (.bool false)) :=
  ⟨_, rfl, fun hk => e_var hi (r_lt (h _ (by rw [hk, Bool.true_and]))), fun hk => h false (by rw [hk, Bool.false_and])⟩
theorem natI_len' (l : List Nat) : (intsL (natI l)).length = l.length := by unfold intsL natI; rw [List.length_map, List.length_map]
def pairLt : PyData → Bool
  | .tuple [x, y] => PySem.W.dataLt x y
  | _ => false
def risB (cs : List (Int × Int)) : Bool := (zipL (pairsL cs) ((pairsL cs).drop 1)).all pairLt
def ltPr (a b : Int × Int) : Bool := PySem.W.dataLt (Dl.pairD a) (Dl.pairD b)
theorem pairsL_at (cs : List (Int × Int)) (i : Nat) : (pairsL cs)[i]? = (cs[i]?).map Dl.pairD := by unfold pairsL; rw [List.getElem?_map]
theorem risB_iff (cs : List (Int × Int)) : risB cs = true ↔ ∀ (i : Nat) (c e : Int × Int), cs[i]? = some c → cs[i + 1]? = some e → ltPr c e = true := by
  unfold risB
  rw [List.all_eq_true]
  constructor
  · intro h i c e hc he
    have m : (zipL (pairsL cs) ((pairsL cs).drop 1))[i]? = some (.tuple [Dl.pairD c, Dl.pairD e]) := by
      unfold zipL
      have z : ((pairsL cs).zip ((pairsL cs).drop 1))[i]? = some (Dl.pairD c, Dl.pairD e) := List.getElem?_zip_eq_some.mpr ⟨by rw [pairsL_at, hc]; rfl, by rw [List.getElem?_drop, Nat.add_comm, pairsL_at, he]; rfl⟩
      rw [List.getElem?_map, z]
      rfl
    exact h _ (List.mem_of_getElem? m)
  · intro h x hx
    obtain ⟨i, hi⟩ := List.mem_iff_getElem?.mp hx
    obtain ⟨a, b, h1, h2, rfl⟩ := zipL_get hi
    rw [pairsL_at] at h1
    rw [List.getElem?_drop, Nat.add_comm, pairsL_at] at h2
    obtain ⟨c, hc, rfl⟩ := Option.map_eq_some_iff.mp h1
    obtain ⟨e, he, rfl⟩ := Option.map_eq_some_iff.mp h2
    exact h i c e hc he
theorem cut_drop1 (ds : List PyData) : Dl.cutD ds (some 1) none = ds.drop 1 := by
  show (ds.drop (HT.sIx ds.length 0 (some ((1 : Nat) : Int)))).take (ds.length - HT.sIx ds.length 0 (some ((1 : Nat) : Int))) = ds.drop 1
  rw [HT.sIx_nat]
  cases ds with
  | nil => rfl
  | cons a r =>
    rw [show min 1 (a :: r).length = 1 from by rw [List.length_cons]; omega]
    exact List.take_of_length_le (by rw [List.length_drop]; exact Nat.le_refl _)
set_option maxHeartbeats 4000000 in
theorem ok_is_rising (T : Tx K mg base) : FnOk P w K mg base CX0 2 T.f_is_rising T.d_is_rising ["things"] (SpX (α := List (Int × Int)) K T.ts (fun _ => True) (fun cs => [.list (pairsL cs)]) (fun cs d => d = .bool (risB cs))) := by
  refine fnXc T.F_is_rising sc_is_rising (fun _ _ => rfl) (fun A outer s H E hr => ⟨_, (pss_one (ps_ret (_root_.Gx.pe_allG (own := [("one", 1), ("other", 2)]) (tt := tYes) rfl hr sc_is_rising.nd (by rfl) T.m_all (by decide +kernel) T.tb_is_rising rfl ⟨blkOk_by (own := [("one", 1), ("other", 2)]) (N := ["things", "one", "other"]) (sc := defScope s_is_rising) (by decide +kernel), rfl, by decide +kernel, rfl⟩ (kx_zip K rfl rfl T.m_zip (pa_cons (pv 0) (pa_cons (pe_slice (kx_slL K rfl) (pv 0) (po_some pe_int) po_none) pa_nil))) (fun A' s' H' cl C code fp pn hr' => (kx_pgT K (n := 2) rfl rfl (pgs_cons (pg_name (i := 1) sc_is_rising.nd rfl (.inl rfl)) (pgs_cons (pg_name (i := 2) sc_is_rising.nd rfl (.inl rfl)) pgs_nil)))) (fun A' s' H' cl C code fp pn hr' => pts_nil) (fun A' s' H' cl C code fp pn hr' => (pe_cmpR (kx_ltD (K := K) rfl hr'.units) (pv 1) (pv 2) (nomark _)))))), fun cs _ => ?_⟩)
  try simp only [nox_K, blk_K, cx_K]
  show S K ⟨none, T.ts⟩ H _ [some (.d _), none, none] _
  refine s_ret (e_allI pairLt T.ti_is_rising (it_zip ?_))
  repeat walk_at "k"
  rw [cut_drop1]
  refine ⟨_, _, .inr rfl, fun x hx => ?_, rfl⟩
  obtain ⟨i, hi⟩ := List.mem_iff_getElem?.mp hx
  obtain ⟨a, b, h1, h2, rfl⟩ := zipL_get hi
  rw [pairsL_at] at h1
  rw [List.getElem?_drop, pairsL_at] at h2
  obtain ⟨c, hc, rfl⟩ := Option.map_eq_some_iff.mp h1
  obtain ⟨e, he, rfl⟩ := Option.map_eq_some_iff.mp h2
  refine gw_tup rfl (gws_cons (gw_name (by decide) (gws_cons (gw_name (by decide) (gws_nil ?_)))))
  dsimp only [List.map, wipeL, List.set]
  refine e_op (e_var rfl (e_var rfl (r_ltP ?_)))
  rfl
def cntT (cs : List (Int × Int)) (x : Int) : Nat := (cs.filter fun c => decide (c.1 = x)).length
theorem cntT_snoc (cs : List (Int × Int)) (c : Int × Int) (x : Int) : cntT (cs ++ [c]) x = cntT cs x + if c.1 = x then 1 else 0 := by
  unfold cntT
  rw [List.filter_append, List.length_append]
  by_cases h : c.1 = x
  · rw [if_pos h, List.filter_cons, if_pos (decide_eq_true h)]; rfl
  · rw [if_neg h, List.filter_cons, if_neg (by rw [decide_eq_true_eq]; exact h)]; rfl
theorem cntT_pos {cs : List (Int × Int)} {c : Int × Int} (h : c ∈ cs) : 0 < cntT cs c.1 := List.length_pos_of_mem (List.mem_filter.mpr ⟨h, decide_eq_true rfl⟩)
theorem cntT_mem {cs : List (Int × Int)} {x : Int} (h : 0 < cntT cs x) : ∃ c ∈ cs, c.1 = x := by
  obtain ⟨c, hc⟩ := List.exists_mem_of_length_pos h
  obtain ⟨h1, h2⟩ := List.mem_filter.mp hc
  exact ⟨c, h1, of_decide_eq_true h2⟩
structure ManyI (cs : List (Int × Int)) (m : List (Key × PyData)) : Prop where
  all : ∀ kv ∈ m, ∃ x : Int, kv.1 = .inl x ∧ kv.2 = .int (cntT cs x)
  val : ∀ x : Int, valD m (.inl x) = if cntT cs x = 0 then none else some (.int (cntT cs x))
theorem ManyI.nil : ManyI [] [] := ⟨fun _ h => (nomatch h), fun x => rfl⟩
theorem ManyI.get {cs : List (Int × Int)} {m : List (Key × PyData)} (h : ManyI cs m) (x : Int) : (valD m (.inl x)).getD (.int 0) = .int (cntT cs x) := by
  rw [h.val]
  by_cases z : cntT cs x = 0
  · rw [if_pos z, z]; rfl
  · rw [if_neg z]; rfl
theorem ManyI.put {cs : List (Int × Int)} {m : List (Key × PyData)} (h : ManyI cs m) (c : Int × Int) : ManyI (cs ++ [c]) (putD m (.inl c.1) (.int ((cntT cs c.1 : Int) + 1))) := by
  have same : ((cntT (cs ++ [c]) c.1 : Nat) : Int) = (cntT cs c.1 : Int) + 1 := by rw [cntT_snoc, if_pos rfl]; rfl
  refine ⟨fun kv hkv => ?_, fun x => ?_⟩
  · unfold putD at hkv
    split at hkv
    · obtain ⟨kv0, h0, rfl⟩ := List.mem_map.mp hkv
      by_cases z : kv0.1 = Sum.inl c.1
      · rw [if_pos z]
        exact ⟨c.1, z, by rw [same]⟩
      · rw [if_neg z]
        obtain ⟨x, e1, e2⟩ := h.all kv0 h0
        refine ⟨x, e1, ?_⟩
        rw [e2, cntT_snoc, if_neg (fun q => z (by rw [e1, q]))]
        rfl
    · rename_i no
      rcases List.mem_append.mp hkv with hkv | hkv
      · obtain ⟨x, e1, e2⟩ := h.all kv hkv
        refine ⟨x, e1, ?_⟩
        have : x ≠ c.1 := fun q => no (List.any_eq_true.mpr ⟨kv, hkv, decide_eq_true (by rw [e1, q])⟩)
        rw [e2, cntT_snoc, if_neg (fun q => this q.symm)]
        rfl
      · rw [List.mem_singleton.mp hkv]
        exact ⟨c.1, rfl, by rw [same]⟩
  · rw [valD_put]
    by_cases z : x = c.1
    · subst z
      rw [if_pos rfl, if_neg (by rw [cntT_snoc, if_pos rfl]; omega), same]
    · rw [if_neg (fun q => z (Sum.inl.inj q)), h.val, cntT_snoc, if_neg (show ¬ c.1 = x from fun q => z q.symm), Nat.add_zero]
def valI : PyData → Int
  | .int z => z
  | _ => 0
theorem ManyI.ints {cs : List (Int × Int)} {m : List (Key × PyData)} (h : ManyI cs m) : m.map (·.2) = intsL (m.map fun kv => valI kv.2) := by
  unfold intsL
  rw [List.map_map]
  apply List.map_congr_left
  intro kv hkv
  obtain ⟨x, _, e⟩ := h.all kv hkv
  show kv.2 = .int (valI kv.2)
  rw [e]
  rfl
def fewB (cs : List (Int × Int)) (b : Int) : Bool := cs.all fun c => decide ((cntT cs c.1 : Int) ≤ b)
theorem ManyI.most {cs : List (Int × Int)} {m : List (Key × PyData)} (h : ManyI cs m) {v b : Int} (hb : 0 ≤ b) (h1 : v = 0 ∨ v ∈ m.map fun kv => valI kv.2) (h2 : ∀ y ∈ m.map (fun kv => valI kv.2), y ≤ v) : decide (v ≤ b) = fewB cs b := by
  have fwd : v ≤ b → fewB cs b = true := fun hv => by
    unfold fewB
    rw [List.all_eq_true]
    intro c hc
    have hp := cntT_pos hc
    have hval := h.val c.1
    rw [if_neg (by omega)] at hval
    unfold valD at hval
    obtain ⟨kv, hf, e⟩ := Option.map_eq_some_iff.mp hval
    have := h2 (valI kv.2) (List.mem_map.mpr ⟨kv, List.mem_of_find?_eq_some hf, rfl⟩)
    rw [e] at this
    have : (cntT cs c.1 : Int) ≤ v := this
    exact decide_eq_true (by omega)
  have bwd : fewB cs b = true → v ≤ b := fun hf => by
    rcases h1 with h1 | h1
    · omega
    · obtain ⟨kv, hkv, rfl⟩ := List.mem_map.mp h1
      obtain ⟨x, _, e⟩ := h.all kv hkv
      rw [e]
      show (cntT cs x : Int) ≤ b
      by_cases z : cntT cs x = 0
      · omega
      · obtain ⟨c, hc, rfl⟩ := cntT_mem (cs := cs) (x := x) (by omega)
        exact of_decide_eq_true (List.all_eq_true.mp hf c hc)
  by_cases hv : v ≤ b
  · rw [decide_eq_true hv, fwd hv]
  · rw [decide_eq_false hv]
    cases hq : fewB cs b with
    | false => rfl
    | true => exact absurd (bwd hq) hv
set_option maxHeartbeats 4000000 in
theorem ok_most_at_a_tick (T : Tx K mg base) : FnOk P w K mg base CX0 1 T.f_most_at_a_tick T.d_most_at_a_tick ["copies"] (SpX (α := List (Int × Int)) K T.ts (fun cs => cs.length ≤ 1000) (fun cs => [.list (pairsL cs)]) (fun cs d => ∃ v : Int, d = .int v ∧ ∀ b : Int, 0 ≤ b → decide (v ≤ b) = fewB cs b)) := by
  refine fnX T.F_most_at_a_tick sc_most_at_a_tick (fun _ _ => rfl) (fun cdv A outer s H E hr => ⟨_, (pss_cons (ps_set (i := 1) sc_most_at_a_tick.nd rfl (.inl rfl) pe_dnewK)
      (pss_cons (ps_for PassesOwn.never rfl (kx_piL K rfl (pv 0)) (kx_pgT K (n := 2) rfl rfl (pgs_cons (pg_name (i := 2) sc_most_at_a_tick.nd rfl (.inl rfl)) (pgs_cons (pg_name (i := 3) sc_most_at_a_tick.nd rfl (.inl rfl)) pgs_nil)))
      (pss_one (ps_dput (hu_of hr) (pv 1) (pv 2) (pe_op op_add (pe_dget2 (hu_of hr) (pv 1) (pv 2) pe_int ⟨rfl, rfl, rfl, rfl⟩) pe_int) rfl)))
      (pss_one (ps_ret (_root_.Gx.pe_maxVals rfl (Nat.lt_of_le_of_lt (Nat.add_le_add_left (by decide) _) hr.units) (by rfl) T.m_max (by decide +kernel) (pv 1)))))), fun cs hcs => ?_⟩)
  try simp only [nox_K, blk_K, cx_K]
  show S K ⟨none, T.ts⟩ H _ [some (.d _), none, none, none] _
  refine s_seq (s_dnew ?_)
  dsimp only [List.set]
  refine s_seq (s_forI (it_list (e_var rfl ⟨_, rfl, fun i L => ∃ m, m.length ≤ i ∧ ManyI (cs.take i) m ∧ L = [some (.d (.list (pairsL cs))), some (.own (.dK m)), none, none], ⟨_, Sub.refl _, [], Nat.zero_le _, ManyI.nil, rfl⟩, fun i d L' hd ⟨m, hm1, hm2, e⟩ => ?_, fun L' hI L4 s4 => ?_⟩)))
  · subst e
    obtain ⟨c, hc, rfl⟩ := pairs_get hd
    obtain ⟨hlt, hge⟩ := List.getElem?_eq_some_iff.mp hc
    repeat walk_at "e"
    dsimp only [List.set]
    refine s_dput rfl (by omega) ?_
    refine e_op (e_dget2O (.inl rfl) (e_var rfl ⟨.inl c.1, rfl, e_int ?_⟩))
    rw [hm2.get]
    repeat walk_at "e"
    refine ⟨.inl c.1, rfl, _, ?_, putD m (.inl c.1) (.int ((cntT (cs.take i) c.1 : Int) + 1)), Nat.le_trans (putD_len _ _ _) (by omega), ?_, rfl⟩
    · repeat (first | exact Sub.nil | apply Sub.keep | apply Sub.drop)
    · rw [List.take_succ_eq_append_getElem hlt, hge]
      exact hm2.put c
  · obtain ⟨m, hm1, hm2, e⟩ := hI
    subst e
    rw [show (pairsL cs).length = cs.length from List.length_map _, List.take_length] at hm2
    refine S.sub ?_ s4
    refine s_ret (e_maxVals (.inl rfl) hm2.ints (fun hn => ⟨_, rfl, fun b hb => ?_⟩) (fun x hx hy => ⟨_, rfl, fun b hb => ?_⟩))
    · exact hm2.most hb (.inl rfl) (fun y hy => by rw [hn] at hy; cases hy)
    · exact hm2.most hb (.inr hx) hy
def inB (n : Nat) (stop : Int) (c : Int × Int) : Bool := (decide (0 ≤ c.1) && decide (c.1 < stop)) && (decide (0 ≤ c.2) && decide (c.2 < (n : Int)))
structure IpA where
  n : Nat
  t : Trc
  b : Int
  s : Int
  cs : List (Int × Int)
  stop : Int
structure IpA.Ok (a : IpA) : Prop where
  pl : PlA.Ok ⟨a.n, a.t, a.cs, a.stop⟩
  b0 : 0 ≤ a.b
def planB (a : IpA) : Bool := (decide (0 ≤ a.stop) && risB a.cs) && (a.cs.all (inB a.n a.stop) && (fewB a.cs a.b && decide (((leftF a.n a.t a.cs a.stop).length : Int) ≤ a.s)))
def pairOf : PyData → Int × Int
  | .tuple [.int x, .int y] => (x, y)
  | _ => (0, 0)
theorem all_pairs (cs : List (Int × Int)) (f : Int × Int → Bool) : (pairsL cs).all (fun d => f (pairOf d)) = cs.all f := by
  unfold pairsL
  rw [List.all_map]
  rfl
set_option maxHeartbeats 4000000 in
theorem ok_is_plan (T : Tx K mg base) : FnOk P w K mg base CX0 4 T.f_is_plan T.d_is_plan ["n", "trace", "b", "s", "plan"] (SpX (α := IpA) K T.ts IpA.Ok (fun a => [.int a.n, .list (trcD a.t), .int a.b, .int a.s, planD a.cs a.stop]) (fun a d => d = .bool (planB a))) := by
  refine fnXc T.F_is_plan sc_is_plan (fun _ _ => rfl) (fun A outer s H E hr => ⟨_, (pss_cons (ps_asg (pv 4) (kx_pgT K (n := 2) rfl rfl (pgs_cons (pg_name (i := 5) sc_is_plan.nd rfl (.inl rfl)) (pgs_cons (pg_name (i := 6) sc_is_plan.nd rfl (.inr rfl)) pgs_nil))))
      (pss_cons (ps_if (PW.pt (pw_or (pt_cmpR op_lt (pv 6) pe_int (nomark _)) (pw_or1 (pt_not (pt_val (pe_call (ok_is_rising T) (hr.mono (by decide)) (by rfl) T.g_is_rising T.F_is_rising.kp T.b_is_rising .nil pass0 (pa_cons (pv 5) pa_nil)))))))
      (pss_one (ps_ret pe_bl))
      pss_nil)
      (pss_cons (ps_if (pt_not (pt_val (_root_.Gx.pe_allG (own := [("tick", 7), ("p", 8)]) (tt := tYes) rfl hr sc_is_plan.nd (by rfl) T.m_all (by decide +kernel) T.tb_is_plan rfl ⟨blkOk_by (own := [("tick", 7), ("p", 8)]) (N := ["n", "trace", "b", "s", "plan", "copies", "stop", "tick", "p"]) (sc := defScope s_is_plan) (by decide +kernel), rfl, by decide +kernel, rfl⟩ (kx_piL K rfl (pv 5)) (fun A' s' H' cl C code fp pn hr' => (kx_pgT K (n := 2) rfl rfl (pgs_cons (pg_name (i := 7) sc_is_plan.nd rfl (.inl rfl)) (pgs_cons (pg_name (i := 8) sc_is_plan.nd rfl (.inl rfl)) pgs_nil)))) (fun A' s' H' cl C code fp pn hr' => pts_nil) (fun A' s' H' cl C code fp pn hr' => (pe_and (pe_chain op_le op_lt pe_int (pv 7) (pv 6)) (pe_one (pe_chain op_le op_lt pe_int (pv 8) (pv 0))))))))
      (pss_one (ps_ret pe_bl))
      pss_nil)
      (pss_one (ps_ret (pe_and (pe_cmpR op_le (pe_call (ok_most_at_a_tick T) (hr.mono (by decide)) (by rfl) T.g_most_at_a_tick T.F_most_at_a_tick.kp T.b_most_at_a_tick .nil pass0 (pa_cons (pv 5) pa_nil)) (pv 2) (nomark _)) (pe_one (pe_cmpR op_le (pe_callB (kx_len K rfl) (by rfl) T.m_len PySem.boot_len (pa_cons (pe_call (ok_left_by T) (hr.mono (by decide)) (by rfl) T.g_left_by T.F_left_by.kp T.b_left_by .nil pass0 (pa_cons (pv 0) (pa_cons (pv 1) (pa_cons (pv 4) pa_nil)))) pa_nil)) (pv 3) (nomark _))))))))), fun a ha => ?_⟩)
  obtain ⟨n, t, b, s, cs, stop⟩ := a
  obtain ⟨hpl, hb⟩ := ha
  dsimp only at hpl hb
  try simp only [nox_K, blk_K, cx_K]
  show S K ⟨none, T.ts⟩ H _ [some (.d _), some (.d _), some (.d _), some (.d _), some (.d _), none, none, none, none] _
  unfold planB
  dsimp only
  repeat walk_at "k"
  refine ⟨fun h0 => ?_, fun h0 => ?_⟩
  · have h0 := of_decide_eq_true h0
    repeat walk_at "k"
    rw [decide_eq_false (by omega : ¬ (0 : Int) ≤ stop)]
    rfl
  have h0 := of_decide_eq_false h0
  rw [decide_eq_true (by omega : (0 : Int) ≤ stop)]
  repeat walk_at "k"
  refine ⟨trivial, ?_⟩
  rintro d rfl
  repeat walk_at "k"
  cases hr0 : risB cs with
  | false =>
    repeat walk_at "k"
    rfl
  | true =>
    repeat walk_at "k"
    refine e_allI (fun d => inB n stop (pairOf d)) T.ti_is_plan (it_list (e_var rfl ⟨_, rfl, fun x hx => ?_, ?_⟩))
    · unfold pairsL at hx
      obtain ⟨c, _, rfl⟩ := List.mem_map.mp hx
      refine gw_tup rfl (gws_cons (gw_name (by decide) (gws_cons (gw_name (by decide) (gws_nil ?_)))))
      dsimp only [List.map, wipeL, List.set]
      show Dl.E _ _ _ _ _ fun d => d = .bool (inB n stop c)
      unfold inB
      refine e_andV (e_chain (e_int (e_var rfl (r_le (chainB rfl fun ag hag => ⟨_, rfl, fun h => ?_, fun h => ?_⟩)))))
      · rw [hag, h, Bool.true_and]
        exact e_chain (e_int (e_var rfl (r_le (chainB rfl fun ag hag => by rw [hag]))))
      · rw [hag, h, Bool.false_and]
    · rw [all_pairs]
      repeat walk_at "k"
      cases hi : cs.all (inB n stop) with
      | false =>
        repeat walk_at "k"
        rfl
      | true =>
        repeat walk_at "k"
        refine ⟨hpl.cl, ?_⟩
        rintro d ⟨v, rfl, hv⟩
        repeat walk_at "k"
        rw [hv b hb]
        refine ⟨fun h => ?_, fun h => ?_⟩
        · rw [h]
          repeat walk_at "k"
          refine ⟨⟨n, t, cs, stop⟩, rfl, hpl, ?_⟩
          rintro d rfl
          repeat walk_at "k"
          unfold natL
          rw [natI_len']
          rfl
        · rw [h]
          rfl
end
end K15
set_option Elab.async false
set_option linter.all false
set_option maxRecDepth 100000
namespace K15
open PySem PySem.Spec PyProof.Rows L2 Dl Wm
local macro_rules | `(tactic| walk_at "e") => `(tactic| first
  | ((with_reducible refine e_var (by with_unfolding_all exact rfl) ?_))
  | with_reducible refine e_int ?_
  | with_reducible refine e_str ?_
  | with_reducible refine e_bl ?_
  | with_reducible refine e_non ?_
  | ((with_reducible refine e_pen (by with_unfolding_all exact rfl) (Or.inr rfl) ?_); intro z hz)
  | ((with_reducible refine e_pen (by with_unfolding_all exact rfl) (Or.inl rfl) ?_); intro z hz)
  | ((with_reducible refine e_penIx (by with_unfolding_all exact rfl) ?_))
  | ((with_reducible refine e_spr (by with_unfolding_all exact rfl) ?_); intro z)
  | with_reducible refine e_op ?_
  | with_reducible refine e_tup ?_
  | with_reducible refine e_lst ?_
  | with_reducible refine ea_cons ?_
  | with_reducible refine ea_nil ?_
  | ((with_reducible refine e_penLen (by with_unfolding_all exact rfl) ?_))
  | ((with_reducible refine e_lenOwn (by with_unfolding_all exact rfl) ?_))
  | ((with_reducible refine e_tupOwn (by with_unfolding_all exact rfl) ?_))
  | ((with_reducible refine s_aug (by with_unfolding_all exact rfl) ?_); (try dsimp only [List.set]))
  | with_reducible refine e_callXF ?_
  | with_reducible refine r_ipI ?_
  | with_reducible refine e_un ?_
  | with_reducible refine r_neg ?_
  | with_reducible refine gws_cons ?_
  | with_reducible refine gws_nil ?_
  | with_reducible refine gw_tup rfl ?_
  | ((with_reducible refine gw_name (by decide) ?_); (try dsimp only [List.set]))
  | with_reducible refine e_isI ?_
  | with_reducible refine e_isB ?_
  | with_reducible refine e_isS ?_
  | with_reducible refine e_isTu ?_
  | with_reducible refine e_isL ?_
  | with_reducible refine e_cb ?_
  | with_reducible refine e_sl ?_
  | with_reducible refine eo_none ?_
  | with_reducible refine eo_some ?_
  | with_reducible refine et_test ?_
  | with_reducible refine et_B ?_
  | with_reducible refine et_and ?_
  | with_reducible refine et_or ?_
  | with_reducible refine et_not ?_
  | with_reducible refine et_yes ?_
  | with_reducible refine e_andV ?_
  | with_reducible refine e_orV ?_
  | with_reducible refine e_notV ?_
  | with_reducible refine e_if ?_
  | with_reducible refine e_chain ?_
  | with_reducible refine e_callX ?_
  | ((with_reducible refine e_callXP (by with_unfolding_all exact rfl) ?_ (by with_unfolding_all exact trivial)))
  | ((with_reducible refine s_seq ?_); (try dsimp only [List.set]))
  | with_reducible refine s_next ?_
  | with_reducible refine s_ret ?_
  | ((with_reducible refine s_pen (by with_unfolding_all exact rfl) (Or.inr rfl) ?_))
  | ((with_reducible refine s_pen (by with_unfolding_all exact rfl) (Or.inl rfl) ?_))
  | ((with_reducible refine s_spr (by with_unfolding_all exact rfl) ?_))
  | ((with_reducible refine s_putOwn (by with_unfolding_all exact rfl) ?_ (by with_unfolding_all exact rfl)))
  | with_reducible refine s_asg ?_
  | with_reducible refine s_asgG ?_
  | with_reducible refine s_if ?_
  | with_reducible refine g_name ?_
  | with_reducible refine g_tup rfl ?_
  | with_reducible refine gs_cons ?_
  | with_reducible refine gs_nil ?_
  | with_reducible refine r_lt ?_
  | with_reducible refine r_le ?_
  | with_reducible refine r_gt ?_
  | with_reducible refine r_ge ?_
  | with_reducible refine r_add ?_
  | with_reducible refine r_sub ?_
  | with_reducible refine r_eqI ?_
  | with_reducible refine r_eqS ?_
  | with_reducible refine r_eqB ?_
  | with_reducible refine r_neI ?_
  | with_reducible refine r_neB ?_
  | with_reducible refine c_min2 ?_
  | with_reducible refine c_max2 ?_
  | with_reducible refine c_intB ?_
  | with_reducible refine c_len (Or.inl rfl) ?_
  | with_reducible refine c_len (Or.inr rfl) ?_
  | with_reducible refine c_list (Or.inl rfl) ?_
  | with_reducible refine c_list (Or.inr rfl) ?_
  | with_reducible refine c_tuple (Or.inl rfl) ?_
  | with_reducible refine c_tuple (Or.inr rfl) ?_
  | with_reducible refine r_ixT (by with_unfolding_all exact rfl) ?_
  | with_reducible refine r_ixL (by with_unfolding_all exact rfl) ?_
  | with_reducible refine r_slT ?_
  | with_reducible refine r_slL ?_
  | with_reducible refine r_isNone ?_
  | with_reducible refine r_notBl ?_
  | with_reducible refine eps_cons ?_
  | with_reducible refine eps_nil ?_
  | with_reducible refine e_dget1 ?_
  | with_reducible refine ed_callX ?_
  | with_reducible refine ⟨_, rfl, ?_⟩
  | with_reducible refine And.intro (Nat.le_of_ble_eq_true rfl) ?_)
local macro_rules | `(tactic| walk_at "t") => `(tactic| first
  | walk_at "e"
  | refine r_modAny (by first | omega | decide) fun z z0 z1 => ?_
  | refine r_mul (by first | exact Or.inr ⟨by decide, by decide⟩ | exact Or.inl ⟨by decide, by decide⟩ | exact Or.inl ⟨by omega, by omega⟩) ?_
  | refine r_pow ⟨by decide, by decide, by decide⟩ ?_
  | refine r_fdivW (by first | assumption | (rename_i hw _; exact hw _) | exact wide_div (b := 200) (by decide) (by decide) (by decide) (by decide)) ?_
  | with_reducible refine And.intro (by omega) ?_)
local macro_rules | `(tactic| walk_at "k") => `(tactic| first
  | walk_at "e"
  | with_reducible refine ⟨fun hb => absurd hb (by decide +kernel), fun _ => ?_⟩
  | with_reducible refine ⟨fun _ => ?_, fun hb => absurd hb (by decide +kernel)⟩
  | refine ⟨fun hb => absurd hb Bool.false_ne_true, fun _ => ?_⟩
  | refine ⟨fun _ => ?_, fun hb => absurd hb.symm Bool.false_ne_true⟩)
local macro_rules | `(tactic| walk_at "d") => `(tactic| first
  | walk_at "k"
  | refine And.intro (show WfTake _ from ⟨by omega, by omega⟩) (take_all fun k hk => ?_))
local macro_rules | `(tactic| walk_at "o") => `(tactic| first
  | with_reducible refine s_ownList ?_
  | walk_at "d"
  | with_reducible refine ⟨_, Or.inl rfl, ?_⟩)
local macro_rules | `(tactic| walk_at "c") => `(tactic| first
  | with_reducible refine e_ofL (el_catL ?_)
  | with_reducible refine e_ofL (el_sortP ?_)
  | with_reducible refine e_ofL (el_sortSetP ?_)
  | with_reducible refine e_ofL (el_revL ?_)
  | walk_at "d")

section
variable {P : Program} {w : World} {K : PySem.W.Frag} {mg : Str → Option Value} {base : Heap}
def cntGe (l : List Int) (t : Int) : Nat := (l.filter fun x => decide (t ≤ x)).length
def lackB (l : List Int) (b stop t : Int) : Int := (cntGe l t : Int) - b * (stop - t - 1)
def barsB (l : List Int) (b s stop t : Int) : Bool := (decide (-1 ≤ t) && decide (t < stop)) && decide (s < lackB l b stop t)
structure TmA where
  l : List Int
  b : Int
  stop : Int
  t : Int
abbrev spTm (K : PySem.W.Frag) (ts : List Addr) : Sp := SpX (α := TmA) K ts (fun a => a.l.length ≤ 1000 ∧ 0 ≤ a.b ∧ a.b ≤ 1000) (fun a => [.list (intsL a.l), .int a.b, .int a.stop, .int a.t]) (fun a d => d = .int (lackB a.l a.b a.stop a.t))
def geD (t : Int) : PyData → Bool
  | .int x => decide (t ≤ x)
  | _ => false
theorem filter_ge (l : List Int) (t : Int) : ((intsL l).filter (geD t)).length = cntGe l t := by
  unfold cntGe intsL
  induction l with
  | nil => rfl
  | cons x l ih =>
    rw [List.map_cons, List.filter_cons, List.filter_cons]
    by_cases h : t ≤ x
    · rw [if_pos (show geD t (.int x) = true from decide_eq_true h), if_pos (decide_eq_true h), List.length_cons, List.length_cons, ih]
    · rw [if_neg (show ¬ geD t (.int x) = true by rw [show geD t (.int x) = decide (t ≤ x) from rfl, decide_eq_false h]; exact Bool.false_ne_true), if_neg (by rw [decide_eq_false h]; exact Bool.false_ne_true), ih]
theorem ints_get {l : List Int} {i : Nat} {d : PyData} (h : (intsL l)[i]? = some d) : ∃ x, l[i]? = some x ∧ d = .int x := by
  unfold intsL at h
  rw [List.getElem?_map] at h
  cases hc : l[i]? with
  | none => rw [hc] at h; cases h
  | some c => rw [hc] at h; exact ⟨c, rfl, (Option.some.inj h).symm⟩
set_option maxHeartbeats 4000000 in
theorem ok_too_many_behind (T : Tx K mg base) : FnOk P w K mg base CX0 2 T.f_too_many_behind T.d_too_many_behind ["last", "b", "stop", "t"] (spTm K T.ts) := by
  refine fnXc T.F_too_many_behind sc_too_many_behind (fun _ _ => rfl) (fun A outer s H E hr => ⟨_, (pss_one (ps_ret (pe_op op_sub (_root_.Gx.pe_sumG (own := [("tick", 4)]) rfl hr sc_too_many_behind.nd (by rfl) T.m_sum (by decide +kernel) T.tb_too_many_behind rfl ⟨blkOk_by (own := [("tick", 4)]) (N := ["last", "b", "stop", "t", "tick"]) (sc := defScope s_too_many_behind) (by decide +kernel), rfl, by decide +kernel, rfl⟩ (kx_piL K rfl (pv 0)) (fun A' s' H' cl C code fp pn hr' => (pg_name (i := 4) sc_too_many_behind.nd rfl (.inl rfl))) (fun A' s' H' cl C code fp pn hr' => (pts_one (pt_cmpR op_ge (pv 4) (pv 3) (nomark _)))) (fun A' s' H' cl C code fp pn hr' => pe_int)) (pe_op op_mul (pv 1) (pe_op op_sub (pe_op op_sub (pv 2) (pv 3)) pe_int))))), fun a ha => ?_⟩)
  obtain ⟨l, b, stop, t⟩ := a
  obtain ⟨ha, hb1, hb2⟩ := ha
  dsimp only at ha hb1 hb2
  try simp only [nox_K, blk_K, cx_K]
  show S K ⟨none, T.ts⟩ H _ [some (.d _), some (.d _), some (.d _), some (.d _), none] _
  refine s_ret (e_op (e_sumI (geD t) T.ti_too_many_behind (it_list (e_var rfl ⟨_, rfl, by rw [show (intsL l).length = l.length from List.length_map _]; omega, fun i d hd => ?_, ?_⟩))))
  · obtain ⟨x, hx, rfl⟩ := ints_get hd
    refine gw_name (by decide) ?_
    dsimp only [List.map, wipeL, List.set]
    repeat walk_at "e"
    exact ⟨rfl, fun _ => e_int rfl⟩
  · rw [filter_ge]
    repeat walk_at "e"
    refine r_mul (Or.inl ⟨by omega, by omega⟩) ?_
    repeat walk_at "e"
    rfl
def lastsF (n : Nat) (t : Trc) (stop : Int) : List Int := (List.range n).map fun p : Nat => lastW t stop p
theorem lastsF_len (n : Nat) (t : Trc) (stop : Int) : (lastsF n t stop).length = n := by unfold lastsF; rw [List.length_map, List.length_range]
def candL (l : List Int) (stop : Int) : List Int := (stop - 1) :: l
structure MbA where
  l : List Int
  b : Int
  stop : Int
def MaxAt (l : List Int) (b stop x : Int) : Prop := x ∈ candL l stop ∧ ∀ y ∈ candL l stop, lackB l b stop y ≤ lackB l b stop x
abbrev spMb (K : PySem.W.Frag) (ts : List Addr) : Sp := SpX (α := MbA) K ts (fun a => a.l.length ≤ 1000 ∧ 0 ≤ a.b ∧ a.b ≤ 1000) (fun a => [.list (intsL a.l), .int a.b, .int a.stop]) (fun a d => ∃ x, MaxAt a.l a.b a.stop x ∧ d = .tuple [.int (lackB a.l a.b a.stop x), .int x])
set_option maxHeartbeats 4000000 in
theorem ok_must_be_left (T : Tx K mg base) : FnOk P w K mg base CX0 3 T.f_must_be_left T.d_must_be_left ["last", "b", "stop"] (spMb K T.ts) := by
  refine fnX T.F_must_be_left sc_must_be_left (fun _ _ => rfl) (fun cdv A outer s H E hr => ⟨_, (pss_one (ps_ret (pe_callB (kx_maxP rfl rfl hr.units) (by rfl) T.m_max (by decide +kernel) (pa_cons (pe_lc (own := [("t", 3)]) (g := gName 3) (tt := tYes) rfl sc_must_be_left.nd (kx_piL K rfl (pe_lst (pa_cons (pe_op op_sub (pv 2) pe_int) (StX.pa_star (pv 0) pa_nil)))) (blkOk_by (own := [("t", 3)]) (N := ["last", "b", "stop", "t"]) (sc := defScope s_must_be_left) (by decide +kernel)) (fun _ _ _ _ _ => (pg_name (i := 3) sc_must_be_left.nd rfl (.inl rfl))) (fun _ _ _ _ _ => pts_nil) (fun _ _ _ _ _ => (pe_tup (pa_cons (pe_call (ok_too_many_behind T) (hr.mono (by decide)) (by rfl) T.g_too_many_behind T.F_too_many_behind.kp T.b_too_many_behind .nil pass0 (pa_cons (pv 0) (pa_cons (pv 1) (pa_cons (pv 2) (pa_cons (pv 3) pa_nil))))) (pa_cons (pv 3) pa_nil))))) pa_nil)))), fun a ha => ?_⟩)
  obtain ⟨l, b, stop⟩ := a
  obtain ⟨ha, hb1, hb2⟩ := ha
  dsimp only at ha hb1 hb2
  try simp only [nox_K, blk_K, cx_K]
  show S K ⟨none, T.ts⟩ H _ [some (.d _), some (.d _), some (.d _), none] _
  refine s_ret (e_cb (ea_cons (e_ofL (el_lcF (fun i _ => ((candL l stop)[i]?).map fun t => PyData.tuple [.int (lackB l b stop t), .int t]) (it_list (e_lst (ea_cons (e_op (e_var rfl (e_int (r_sub (ea_star (e_var rfl ⟨_, .inr rfl, ea_nil ?_⟩)))))))))))))
  rw [List.append_nil]
  rw [show PyData.int (stop - 1) :: intsL l = intsL (candL l stop) from rfl]
  have hcl : (intsL (candL l stop)).length = l.length + 1 := List.length_map _
  refine ⟨by omega, _, rfl, by omega, fun i d hd => ?_, ?_⟩
  · obtain ⟨x, hx, rfl⟩ := ints_get hd
    rw [hx]
    refine gw_name (by decide) ?_
    dsimp only [List.map, wipeL, List.set]
    refine et_yes ⟨fun _ => ?_, fun z => (by cases z)⟩
    repeat walk_at "e"
    refine ⟨⟨l, b, stop, x⟩, rfl, ⟨ha, hb1, hb2⟩, ?_⟩
    rintro d rfl
    repeat walk_at "e"
    rfl
  · rw [show ((intsL (candL l stop)).mapIdx fun i _ => ((candL l stop)[i]?).map fun t => PyData.tuple [.int (lackB l b stop t), .int t]) = (candL l stop).map fun t => some (PyData.tuple [.int (lackB l b stop t), .int t]) from by
      apply List.ext_getElem?
      intro i
      unfold intsL
      rw [List.getElem?_mapIdx, List.getElem?_map, List.getElem?_map]
      cases (candL l stop)[i]? <;> rfl, fm_some]
    rw [show (candL l stop).map (fun t => PyData.tuple [.int (lackB l b stop t), .int t]) = pairsL ((lackB l b stop (stop - 1), stop - 1) :: l.map fun t => (lackB l b stop t, t)) from by
      unfold candL pairsL
      rw [List.map_cons, List.map_cons, List.map_map]
      rfl]
    refine ea_nil (c_maxP fun m hm hle => ?_)
    have hall : ∀ c : Int × Int, c ∈ ((lackB l b stop (stop - 1), stop - 1) :: l.map fun t => (lackB l b stop t, t)) → c.2 ∈ candL l stop ∧ c.1 = lackB l b stop c.2 := fun c hc => by
      rcases List.mem_cons.mp hc with rfl | hc
      · exact ⟨List.mem_cons_self .., rfl⟩
      · obtain ⟨t, ht, rfl⟩ := List.mem_map.mp hc
        exact ⟨List.mem_cons_of_mem _ ht, rfl⟩
    obtain ⟨q1, q2⟩ := hall m hm
    refine ⟨m.2, ⟨q1, fun y hy => ?_⟩, by rw [← q2]⟩
    rw [← q2]
    rcases List.mem_cons.mp hy with rfl | hy
    · exact hle _ (List.mem_cons_self ..)
    · exact hle (lackB l b stop y, y) (List.mem_cons_of_mem _ (List.mem_map.mpr ⟨y, hy, rfl⟩))
structure LsA where
  n : Nat
  t : Trc
  b : Int
  stop : Int
def llD (l : List Int) (b stop x : Int) : PyData := .tuple [.int (lackB l b stop x), if decide (0 < lackB l b stop x) = true then .int x else .none]
abbrev spLs (K : PySem.W.Frag) (ts : List Addr) : Sp := SpX (α := LsA) K ts (fun a => LwA.Ok ⟨a.n, a.t, a.stop⟩ ∧ 0 ≤ a.b ∧ a.b ≤ 1000) (fun a => [.int a.n, .list (trcD a.t), .int a.b, .int a.stop]) (fun a d => ∃ x, MaxAt (lastsF a.n a.t a.stop) a.b a.stop x ∧ d = llD (lastsF a.n a.t a.stop) a.b a.stop x)
set_option maxHeartbeats 4000000 in
theorem ok_least_left (T : Tx K mg base) : FnOk P w K mg base CX0 4 T.f_least_left T.d_least_left ["n", "trace", "b", "stop"] (spLs K T.ts) := by
  refine fnX T.F_least_left sc_least_left (fun _ _ => rfl) (fun cdv A outer s H E hr => ⟨_, (pss_cons (ps_asg (pe_call (ok_must_be_left T) (hr.mono (by decide)) (by rfl) T.g_must_be_left T.F_must_be_left.kp T.b_must_be_left .nil pass0 (pa_cons (pe_call (ok_last_writings T) (hr.mono (by decide)) (by rfl) T.g_last_writings T.F_last_writings.kp T.b_last_writings .nil pass0 (pa_cons (pv 0) (pa_cons (pv 1) (pa_cons (pv 3) pa_nil)))) (pa_cons (pv 2) (pa_cons (pv 3) pa_nil)))) (kx_pgT K (n := 2) rfl rfl (pgs_cons (pg_name (i := 4) sc_least_left.nd rfl (.inl rfl)) (pgs_cons (pg_name (i := 5) sc_least_left.nd rfl (.inl rfl)) pgs_nil))))
      (pss_one (ps_ret (pe_tup (pa_cons (pv 4) (pa_cons (pe_ifExp (pt_cmpR op_gt (pv 4) pe_int (nomark _)) (pv 5) pe_non) pa_nil)))))), fun a ha => ?_⟩)
  obtain ⟨n, t, b, stop⟩ := a
  obtain ⟨ha, hb1, hb2⟩ := ha
  have hn := ha.n2
  dsimp only at ha hn hb1 hb2
  try simp only [nox_K, blk_K, cx_K]
  show S K ⟨none, T.ts⟩ H _ [some (.d _), some (.d _), some (.d _), some (.d _), none, none] _
  refine s_seq (s_asgG ?_)
  repeat walk_at "e"
  refine ⟨⟨n, t, stop⟩, rfl, ha, ?_⟩
  rintro d rfl
  repeat walk_at "e"
  refine ⟨⟨lastsF n t stop, b, stop⟩, rfl, ⟨by show (lastsF n t stop).length ≤ 1000; rw [lastsF_len]; exact hn, hb1, hb2⟩, ?_⟩
  rintro d ⟨x, hx, rfl⟩
  refine g_tup rfl (gs_cons (g_name (gs_cons (g_name (gs_nil ?_)))))
  dsimp only [List.set]
  refine s_ret (e_tup (ea_cons (e_var rfl (ea_cons (Dl.E.mono (P := fun d => d = if decide (0 < lackB (lastsF n t stop) b stop x) = true then .int x else .none) (e_if ?_) ?_)))))
  · repeat walk_at "e"
    refine ⟨fun h => ?_, fun h => ?_⟩
    · rw [if_pos h]
      repeat walk_at "e"
      rfl
    · rw [if_neg (by rw [h]; exact Bool.false_ne_true)]
      repeat walk_at "e"
      rfl
  · rintro d rfl
    exact ea_nil ⟨Nat.le_of_ble_eq_true rfl, x, hx, rfl⟩
end
end K15
set_option Elab.async false
set_option linter.all false
set_option maxRecDepth 100000
namespace K15
open PySem PySem.Spec PyProof.Rows L2 Dl Wm
local macro_rules | `(tactic| walk_at "e") => `(tactic| first
  | ((with_reducible refine e_var (by with_unfolding_all exact rfl) ?_))
  | with_reducible refine e_int ?_
  | with_reducible refine e_str ?_
  | with_reducible refine e_bl ?_
  | with_reducible refine e_non ?_
  | ((with_reducible refine e_pen (by with_unfolding_all exact rfl) (Or.inr rfl) ?_); intro z hz)
  | ((with_reducible refine e_pen (by with_unfolding_all exact rfl) (Or.inl rfl) ?_); intro z hz)
  | ((with_reducible refine e_penIx (by with_unfolding_all exact rfl) ?_))
  | ((with_reducible refine e_spr (by with_unfolding_all exact rfl) ?_); intro z)
  | with_reducible refine e_op ?_
  | with_reducible refine e_tup ?_
  | with_reducible refine e_lst ?_
  | with_reducible refine ea_cons ?_
  | with_reducible refine ea_nil ?_
  | ((with_reducible refine e_penLen (by with_unfolding_all exact rfl) ?_))
  | ((with_reducible refine e_lenOwn (by with_unfolding_all exact rfl) ?_))
  | ((with_reducible refine e_tupOwn (by with_unfolding_all exact rfl) ?_))
  | ((with_reducible refine s_aug (by with_unfolding_all exact rfl) ?_); (try dsimp only [List.set]))
  | with_reducible refine e_callXF ?_
  | with_reducible refine r_ipI ?_
  | with_reducible refine e_un ?_
  | with_reducible refine r_neg ?_
  | with_reducible refine gws_cons ?_
  | with_reducible refine gws_nil ?_
  | with_reducible refine gw_tup rfl ?_
  | ((with_reducible refine gw_name (by decide) ?_); (try dsimp only [List.set]))
  | with_reducible refine e_isI ?_
  | with_reducible refine e_isB ?_
  | with_reducible refine e_isS ?_
  | with_reducible refine e_isTu ?_
  | with_reducible refine e_isL ?_
  | with_reducible refine e_cb ?_
  | with_reducible refine e_sl ?_
  | with_reducible refine eo_none ?_
  | with_reducible refine eo_some ?_
  | with_reducible refine et_test ?_
  | with_reducible refine et_B ?_
  | with_reducible refine et_and ?_
  | with_reducible refine et_or ?_
  | with_reducible refine et_not ?_
  | with_reducible refine et_yes ?_
  | with_reducible refine e_andV ?_
  | with_reducible refine e_orV ?_
  | with_reducible refine e_notV ?_
  | with_reducible refine e_if ?_
  | with_reducible refine e_chain ?_
  | with_reducible refine e_callX ?_
  | ((with_reducible refine e_callXP (by with_unfolding_all exact rfl) ?_ (by with_unfolding_all exact trivial)))
  | ((with_reducible refine s_seq ?_); (try dsimp only [List.set]))
  | with_reducible refine s_next ?_
  | with_reducible refine s_ret ?_
  | ((with_reducible refine s_pen (by with_unfolding_all exact rfl) (Or.inr rfl) ?_))
  | ((with_reducible refine s_pen (by with_unfolding_all exact rfl) (Or.inl rfl) ?_))
  | ((with_reducible refine s_spr (by with_unfolding_all exact rfl) ?_))
  | ((with_reducible refine s_putOwn (by with_unfolding_all exact rfl) ?_ (by with_unfolding_all exact rfl)))
  | with_reducible refine s_asg ?_
  | with_reducible refine s_asgG ?_
  | with_reducible refine s_if ?_
  | with_reducible refine g_name ?_
  | with_reducible refine g_tup rfl ?_
  | with_reducible refine gs_cons ?_
  | with_reducible refine gs_nil ?_
  | with_reducible refine r_lt ?_
  | with_reducible refine r_le ?_
  | with_reducible refine r_gt ?_
  | with_reducible refine r_ge ?_
  | with_reducible refine r_add ?_
  | with_reducible refine r_sub ?_
  | with_reducible refine r_eqI ?_
  | with_reducible refine r_eqS ?_
  | with_reducible refine r_eqB ?_
  | with_reducible refine r_neI ?_
  | with_reducible refine r_neB ?_
  | with_reducible refine c_min2 ?_
  | with_reducible refine c_max2 ?_
  | with_reducible refine c_intB ?_
  | with_reducible refine c_len (Or.inl rfl) ?_
  | with_reducible refine c_len (Or.inr rfl) ?_
  | with_reducible refine c_list (Or.inl rfl) ?_
  | with_reducible refine c_list (Or.inr rfl) ?_
  | with_reducible refine c_tuple (Or.inl rfl) ?_
  | with_reducible refine c_tuple (Or.inr rfl) ?_
  | with_reducible refine r_ixT (by with_unfolding_all exact rfl) ?_
  | with_reducible refine r_ixL (by with_unfolding_all exact rfl) ?_
  | with_reducible refine r_slT ?_
  | with_reducible refine r_slL ?_
  | with_reducible refine r_isNone ?_
  | with_reducible refine r_notBl ?_
  | with_reducible refine eps_cons ?_
  | with_reducible refine eps_nil ?_
  | with_reducible refine e_dget1 ?_
  | with_reducible refine ed_callX ?_
  | with_reducible refine ⟨_, rfl, ?_⟩
  | with_reducible refine And.intro (Nat.le_of_ble_eq_true rfl) ?_)
local macro_rules | `(tactic| walk_at "t") => `(tactic| first
  | walk_at "e"
  | refine r_modAny (by first | omega | decide) fun z z0 z1 => ?_
  | refine r_mul (by first | exact Or.inr ⟨by decide, by decide⟩ | exact Or.inl ⟨by decide, by decide⟩ | exact Or.inl ⟨by omega, by omega⟩) ?_
  | refine r_pow ⟨by decide, by decide, by decide⟩ ?_
  | refine r_fdivW (by first | assumption | (rename_i hw _; exact hw _) | exact wide_div (b := 200) (by decide) (by decide) (by decide) (by decide)) ?_
  | with_reducible refine And.intro (by omega) ?_)
local macro_rules | `(tactic| walk_at "k") => `(tactic| first
  | walk_at "e"
  | with_reducible refine ⟨fun hb => absurd hb (by decide +kernel), fun _ => ?_⟩
  | with_reducible refine ⟨fun _ => ?_, fun hb => absurd hb (by decide +kernel)⟩
  | refine ⟨fun hb => absurd hb Bool.false_ne_true, fun _ => ?_⟩
  | refine ⟨fun _ => ?_, fun hb => absurd hb.symm Bool.false_ne_true⟩)
local macro_rules | `(tactic| walk_at "d") => `(tactic| first
  | walk_at "k"
  | refine And.intro (show WfTake _ from ⟨by omega, by omega⟩) (take_all fun k hk => ?_))
local macro_rules | `(tactic| walk_at "o") => `(tactic| first
  | with_reducible refine s_ownList ?_
  | walk_at "d"
  | with_reducible refine ⟨_, Or.inl rfl, ?_⟩)
local macro_rules | `(tactic| walk_at "c") => `(tactic| first
  | with_reducible refine e_ofL (el_catL ?_)
  | with_reducible refine e_ofL (el_sortP ?_)
  | with_reducible refine e_ofL (el_sortSetP ?_)
  | with_reducible refine e_ofL (el_revL ?_)
  | walk_at "d")

section
variable {P : Program} {w : World} {K : PySem.W.Frag} {mg : Str → Option Value} {base : Heap}
/-- what late_copies does: the sheets by their last writings, the latest first; all but the first `left`, b a tick from the stop back -/
def lateF (b : Nat) (stop : Int) (out : List Nat) (k : Nat) : Int × Int := (stop - 1 - ((k / b : Nat) : Int), ((out.getD k 0 : Nat) : Int))
structure LateR (l : List Int) (b left : Nat) (stop : Int) (qs : List (Int × Int)) : Prop where
  ex : ∃ out : List Nat, out.Perm (List.range l.length) ∧ (out.map fun i => -(l.getD i 0)).Pairwise (· ≤ ·) ∧ qs.Perm ((List.range (l.length - left)).map (lateF b stop (out.drop left))) ∧ qs.Pairwise LexLe
structure CopOk (l : List Int) (b left : Nat) (stop : Int) (qs : List (Int × Int)) : Prop where
  len : qs.length + left = l.length
  srt : qs.Pairwise LexLt
  nd : (qs.map (·.2)).Nodup
  rng : ∀ q ∈ qs, ∃ p : Nat, q.2 = (p : Int) ∧ p < l.length ∧ l.getD p 0 < q.1 ∧ q.1 < stop
  tick : ∀ t : Int, (qs.filter fun q => decide (q.1 = t)).length ≤ b
theorem nodup_sub {α : Type} [BEq α] [LawfulBEq α] {l m : List α} (h : l.Nodup) (hs : ∀ x ∈ l, x ∈ m) : l.length ≤ m.length := by
  induction l generalizing m with
  | nil => exact Nat.zero_le _
  | cons x l ih =>
    rw [List.nodup_cons] at h
    have hx := hs x (List.mem_cons_self ..)
    have := ih (m := m.erase x) h.2 fun y hy => by
      have : y ≠ x := fun z => h.1 (z ▸ hy)
      exact (List.mem_erase_of_ne this).mpr (hs y (List.mem_cons_of_mem _ hy))
    rw [List.length_erase_of_mem hx] at this
    have := List.length_pos_of_mem hx
    rw [List.length_cons]
    omega
theorem cnt_range (l : List Int) (t : Int) : cntGe l t = ((List.range l.length).filter fun i => decide (t ≤ l.getD i 0)).length := by
  unfold cntGe
  have e : l = (List.range l.length).map fun i => l.getD i 0 := by
    apply List.ext_getElem?
    intro i
    rw [List.getElem?_map]
    rcases Nat.lt_or_ge i l.length with z | z
    · rw [List.getElem?_range z, List.getElem?_eq_getElem z, Option.map_some, List.getD_eq_getElem?_getD, List.getElem?_eq_getElem z]
      rfl
    · rw [List.getElem?_eq_none z, List.getElem?_eq_none (by rw [List.length_range]; exact z)]
      rfl
  conv => lhs; rw [e]
  rw [List.filter_map, List.length_map]
  rfl
theorem cnt_le (l : List Int) (t : Int) : cntGe l t ≤ l.length := List.length_filter_le ..
/-- so many stand at or behind the last writing of the k-th -/
theorem cnt_prefix {l : List Int} {out : List Nat} (hp : out.Perm (List.range l.length)) (hs : (out.map fun i => -(l.getD i 0)).Pairwise (· ≤ ·)) {k : Nat} (hk : k < out.length) : k + 1 ≤ cntGe l (l.getD out[k] 0) := by
  rw [cnt_range, ← (hp.filter _).length_eq]
  have e : (out.take (k + 1)).filter (fun i => decide (l.getD out[k] 0 ≤ l.getD i 0)) = out.take (k + 1) := by
    rw [List.filter_eq_self]
    intro x hx
    obtain ⟨j, hj⟩ := List.mem_iff_getElem?.mp hx
    have hjl : j < k + 1 := by
      have := (List.getElem?_eq_some_iff.mp hj).1
      rw [List.length_take] at this
      omega
    rw [List.getElem?_take_of_lt hjl] at hj
    obtain ⟨hj2, ej⟩ := List.getElem?_eq_some_iff.mp hj
    rcases Nat.lt_or_ge j k with z | z
    · have := List.pairwise_iff_getElem.mp (List.pairwise_map.mp hs) j k hj2 hk z
      rw [ej] at this
      exact decide_eq_true (by omega)
    · have : j = k := by omega
      subst this
      rw [ej]
      exact decide_eq_true (Int.le_refl _)
  have h1 : ((out.take (k + 1)).filter fun i => decide (l.getD out[k] 0 ≤ l.getD i 0)).length ≤ (out.filter fun i => decide (l.getD out[k] 0 ≤ l.getD i 0)).length := (List.Sublist.filter _ (List.take_sublist ..)).length_le
  rw [e, List.length_take] at h1
  omega
theorem lack_bounds {l : List Int} {b : Nat} {stop x : Int} (h : MaxAt l b stop x) (hl : ∀ y ∈ l, y < stop) : 0 ≤ lackB l b stop x ∧ lackB l b stop x ≤ l.length := by
  constructor
  · have := h.2 (stop - 1) (List.mem_cons_self ..)
    have e : lackB l b stop (stop - 1) = (cntGe l (stop - 1) : Int) := by unfold lackB; rw [show stop - (stop - 1) - 1 = 0 by omega, Int.mul_zero, Int.sub_zero]
    omega
  · have hx : x ≤ stop - 1 := by
      rcases List.mem_cons.mp h.1 with e | e
      · omega
      · have := hl x e; omega
    have := cnt_le l x
    have h2 : 0 ≤ (b : Int) * (stop - x - 1) := Int.mul_nonneg (by omega) (by omega)
    unfold lackB
    omega
theorem late_ok {l : List Int} {b left : Nat} {stop x : Int} {qs : List (Int × Int)} (hb : 1 ≤ b) (hx : MaxAt l b stop x) (hl : ∀ y ∈ l, y < stop) (hleft : (left : Int) = lackB l b stop x) (h : LateR l b left stop qs) : CopOk l b left stop qs := by
  obtain ⟨out, hp, hs, hq, ho⟩ := h.ex
  have hol : out.length = l.length := by have := hp.length_eq; rw [List.length_range] at this; exact this
  have hle : left ≤ l.length := by have := (lack_bounds hx hl).2; omega
  have hond : out.Nodup := hp.nodup_iff.mpr List.nodup_range
  have hdl : (out.drop left).length = l.length - left := by rw [List.length_drop, hol]
  have getd : ∀ k, k < l.length - left → ∃ h : left + k < out.length, (out.drop left).getD k 0 = out[left + k] := fun k hk => by
    have h1 : left + k < out.length := by omega
    refine ⟨h1, ?_⟩
    rw [List.getD_eq_getElem?_getD, List.getElem?_drop, List.getElem?_eq_getElem h1]
    rfl
  have sheets : qs.map (·.2) |>.Perm ((out.drop left).map fun i => ((i : Nat) : Int)) := by
    have h1 := hq.map (·.2)
    rw [List.map_map] at h1
    refine h1.trans (List.Perm.of_eq ?_)
    apply List.ext_getElem?
    intro k
    rw [List.getElem?_map, List.getElem?_map]
    rcases Nat.lt_or_ge k (l.length - left) with z | z
    · rw [List.getElem?_range z, List.getElem?_eq_getElem (by rw [hdl]; exact z), Option.map_some, Option.map_some]
      show some (((out.drop left).getD k 0 : Nat) : Int) = _
      rw [List.getD_eq_getElem?_getD, List.getElem?_eq_getElem (by rw [hdl]; exact z)]
      rfl
    · rw [List.getElem?_eq_none (by rw [List.length_range]; exact z), List.getElem?_eq_none (by rw [hdl]; exact z)]
      rfl
  have nd : (qs.map (·.2)).Nodup := by
    rw [sheets.nodup_iff]
    exact List.Pairwise.map _ (fun a c hac z => hac (by omega)) (hond.sublist (List.drop_sublist ..))
  refine ⟨?_, ?_, nd, fun q hq' => ?_, fun t => ?_⟩
  · have := hq.length_eq
    rw [List.length_map, List.length_range] at this
    omega
  · have h2 : qs.Pairwise fun a c => a.2 ≠ c.2 := List.pairwise_map.mp nd
    refine List.Pairwise.imp (fun {a c} hac => ?_) (ho.and h2)
    have h3 : ¬ (c.1 < a.1 ∨ (c.1 = a.1 ∧ c.2 < a.2)) := SrtO.lexB_no.mp hac.1
    have h4 := hac.2
    omega
  · obtain ⟨k, hk, rfl⟩ := List.mem_map.mp (hq.mem_iff.mp hq')
    have hk := List.mem_range.mp hk
    obtain ⟨h1, e1⟩ := getd k hk
    have hin : out[left + k] < l.length := List.mem_range.mp (hp.mem_iff.mp (List.getElem_mem h1))
    have hkb : 0 ≤ ((k / b : Nat) : Int) := Int.natCast_nonneg _
    refine ⟨out[left + k], by show (((out.drop left).getD k 0 : Nat) : Int) = _; rw [e1], hin, ?_, by show stop - 1 - ((k / b : Nat) : Int) < stop; generalize ((k / b : Nat) : Int) = z at *; omega⟩
    show l.getD out[left + k] 0 < stop - 1 - ((k / b : Nat) : Int)
    apply Classical.byContradiction
    intro z
    have hc := cnt_prefix hp hs h1
    have hmem : l.getD out[left + k] 0 ∈ l := by
      rw [List.getD_eq_getElem?_getD, List.getElem?_eq_getElem hin]
      exact List.getElem_mem hin
    have hm := hx.2 _ (List.mem_cons_of_mem _ hmem)
    generalize l.getD out[left + k] 0 = t at *
    have hmul : (b : Int) * (stop - t - 1) ≤ (b : Int) * ((k / b : Nat) : Int) := Int.mul_le_mul_of_nonneg_left (by omega) (by omega)
    have hdiv : b * (k / b) ≤ k := Nat.mul_div_le k b
    have hdiv2 : (b : Int) * ((k / b : Nat) : Int) ≤ (k : Int) := by exact_mod_cast hdiv
    rw [← hleft] at hm
    unfold lackB at hm
    omega
  · rw [(hq.filter _).length_eq, List.filter_map, List.length_map]
    have e : ((List.range (l.length - left)).filter ((fun q : Int × Int => decide (q.1 = t)) ∘ lateF b stop (out.drop left))).length ≤ (List.range' (b * (stop - 1 - t).toNat) b).length := by
      refine nodup_sub (List.nodup_range.filter _) fun k hk => ?_
      obtain ⟨_, h2⟩ := List.mem_filter.mp hk
      have h2 : stop - 1 - ((k / b : Nat) : Int) = t := of_decide_eq_true h2
      have h3 : (stop - 1 - t).toNat = k / b := by
        rw [show stop - 1 - t = ((k / b : Nat) : Int) by generalize ((k / b : Nat) : Int) = z at *; omega, Int.toNat_natCast]
      rw [h3, List.mem_range'_1]
      have := Nat.div_add_mod k b
      have := Nat.mod_lt k (show b > 0 by omega)
      generalize b * (k / b) = z at *
      omega
    rw [List.length_range'] at e
    exact e
end
end K15
set_option Elab.async false
set_option linter.all false
set_option maxRecDepth 100000
namespace K15
open PySem PySem.Spec PyProof.Rows L2 Dl Wm
local macro_rules | `(tactic| walk_at "e") => `(tactic| first
  | ((with_reducible refine e_var (by with_unfolding_all exact rfl) ?_))
  | with_reducible refine e_int ?_
  | with_reducible refine e_str ?_
  | with_reducible refine e_bl ?_
  | with_reducible refine e_non ?_
  | ((with_reducible refine e_pen (by with_unfolding_all exact rfl) (Or.inr rfl) ?_); intro z hz)
  | ((with_reducible refine e_pen (by with_unfolding_all exact rfl) (Or.inl rfl) ?_); intro z hz)
  | ((with_reducible refine e_penIx (by with_unfolding_all exact rfl) ?_))
  | ((with_reducible refine e_spr (by with_unfolding_all exact rfl) ?_); intro z)
  | with_reducible refine e_op ?_
  | with_reducible refine e_tup ?_
  | with_reducible refine e_lst ?_
  | with_reducible refine ea_cons ?_
  | with_reducible refine ea_nil ?_
  | ((with_reducible refine e_penLen (by with_unfolding_all exact rfl) ?_))
  | ((with_reducible refine e_lenOwn (by with_unfolding_all exact rfl) ?_))
  | ((with_reducible refine e_tupOwn (by with_unfolding_all exact rfl) ?_))
  | ((with_reducible refine s_aug (by with_unfolding_all exact rfl) ?_); (try dsimp only [List.set]))
  | with_reducible refine e_callXF ?_
  | with_reducible refine r_ipI ?_
  | with_reducible refine e_un ?_
  | with_reducible refine r_neg ?_
  | with_reducible refine gws_cons ?_
  | with_reducible refine gws_nil ?_
  | with_reducible refine gw_tup rfl ?_
  | ((with_reducible refine gw_name (by decide) ?_); (try dsimp only [List.set]))
  | with_reducible refine e_isI ?_
  | with_reducible refine e_isB ?_
  | with_reducible refine e_isS ?_
  | with_reducible refine e_isTu ?_
  | with_reducible refine e_isL ?_
  | with_reducible refine e_cb ?_
  | with_reducible refine e_sl ?_
  | with_reducible refine eo_none ?_
  | with_reducible refine eo_some ?_
  | with_reducible refine et_test ?_
  | with_reducible refine et_B ?_
  | with_reducible refine et_and ?_
  | with_reducible refine et_or ?_
  | with_reducible refine et_not ?_
  | with_reducible refine et_yes ?_
  | with_reducible refine e_andV ?_
  | with_reducible refine e_orV ?_
  | with_reducible refine e_notV ?_
  | with_reducible refine e_if ?_
  | with_reducible refine e_chain ?_
  | with_reducible refine e_callX ?_
  | ((with_reducible refine e_callXP (by with_unfolding_all exact rfl) ?_ (by with_unfolding_all exact trivial)))
  | ((with_reducible refine s_seq ?_); (try dsimp only [List.set]))
  | with_reducible refine s_next ?_
  | with_reducible refine s_ret ?_
  | ((with_reducible refine s_pen (by with_unfolding_all exact rfl) (Or.inr rfl) ?_))
  | ((with_reducible refine s_pen (by with_unfolding_all exact rfl) (Or.inl rfl) ?_))
  | ((with_reducible refine s_spr (by with_unfolding_all exact rfl) ?_))
  | ((with_reducible refine s_putOwn (by with_unfolding_all exact rfl) ?_ (by with_unfolding_all exact rfl)))
  | with_reducible refine s_asg ?_
  | with_reducible refine s_asgG ?_
  | with_reducible refine s_if ?_
  | with_reducible refine g_name ?_
  | with_reducible refine g_tup rfl ?_
  | with_reducible refine gs_cons ?_
  | with_reducible refine gs_nil ?_
  | with_reducible refine r_lt ?_
  | with_reducible refine r_le ?_
  | with_reducible refine r_gt ?_
  | with_reducible refine r_ge ?_
  | with_reducible refine r_add ?_
  | with_reducible refine r_sub ?_
  | with_reducible refine r_eqI ?_
  | with_reducible refine r_eqS ?_
  | with_reducible refine r_eqB ?_
  | with_reducible refine r_neI ?_
  | with_reducible refine r_neB ?_
  | with_reducible refine c_min2 ?_
  | with_reducible refine c_max2 ?_
  | with_reducible refine c_intB ?_
  | with_reducible refine c_len (Or.inl rfl) ?_
  | with_reducible refine c_len (Or.inr rfl) ?_
  | with_reducible refine c_list (Or.inl rfl) ?_
  | with_reducible refine c_list (Or.inr rfl) ?_
  | with_reducible refine c_tuple (Or.inl rfl) ?_
  | with_reducible refine c_tuple (Or.inr rfl) ?_
  | with_reducible refine r_ixT (by with_unfolding_all exact rfl) ?_
  | with_reducible refine r_ixL (by with_unfolding_all exact rfl) ?_
  | with_reducible refine r_slT ?_
  | with_reducible refine r_slL ?_
  | with_reducible refine r_isNone ?_
  | with_reducible refine r_notBl ?_
  | with_reducible refine eps_cons ?_
  | with_reducible refine eps_nil ?_
  | with_reducible refine e_dget1 ?_
  | with_reducible refine ed_callX ?_
  | with_reducible refine ⟨_, rfl, ?_⟩
  | with_reducible refine And.intro (Nat.le_of_ble_eq_true rfl) ?_)
local macro_rules | `(tactic| walk_at "t") => `(tactic| first
  | walk_at "e"
  | refine r_modAny (by first | omega | decide) fun z z0 z1 => ?_
  | refine r_mul (by first | exact Or.inr ⟨by decide, by decide⟩ | exact Or.inl ⟨by decide, by decide⟩ | exact Or.inl ⟨by omega, by omega⟩) ?_
  | refine r_pow ⟨by decide, by decide, by decide⟩ ?_
  | refine r_fdivW (by first | assumption | (rename_i hw _; exact hw _) | exact wide_div (b := 200) (by decide) (by decide) (by decide) (by decide)) ?_
  | with_reducible refine And.intro (by omega) ?_)
local macro_rules | `(tactic| walk_at "k") => `(tactic| first
  | walk_at "e"
  | with_reducible refine ⟨fun hb => absurd hb (by decide +kernel), fun _ => ?_⟩
  | with_reducible refine ⟨fun _ => ?_, fun hb => absurd hb (by decide +kernel)⟩
  | refine ⟨fun hb => absurd hb Bool.false_ne_true, fun _ => ?_⟩
  | refine ⟨fun _ => ?_, fun hb => absurd hb.symm Bool.false_ne_true⟩)
local macro_rules | `(tactic| walk_at "d") => `(tactic| first
  | walk_at "k"
  | refine And.intro (show WfTake _ from ⟨by omega, by omega⟩) (take_all fun k hk => ?_))
local macro_rules | `(tactic| walk_at "o") => `(tactic| first
  | with_reducible refine s_ownList ?_
  | walk_at "d"
  | with_reducible refine ⟨_, Or.inl rfl, ?_⟩)
local macro_rules | `(tactic| walk_at "c") => `(tactic| first
  | with_reducible refine e_ofL (el_catL ?_)
  | with_reducible refine e_ofL (el_sortP ?_)
  | with_reducible refine e_ofL (el_sortSetP ?_)
  | with_reducible refine e_ofL (el_revL ?_)
  | walk_at "d")

section
variable {P : Program} {w : World} {K : PySem.W.Frag} {mg : Str → Option Value} {base : Heap}
structure LcA where
  l : List Int
  b : Nat
  left : Nat
  stop : Int
abbrev spLc (K : PySem.W.Frag) (ts : List Addr) : Sp := SpXF (α := LcA) K ts (fun a => a.l.length ≤ 50 ∧ 1 ≤ a.b ∧ a.b ≤ 1000 ∧ a.left ≤ a.l.length) (fun a => [.list (intsL a.l), .int a.b, .int a.left, .int a.stop]) (fun a d => ∃ qs, LateR a.l a.b a.left a.stop qs ∧ d = .list (pairsL qs))
theorem noL_pairs (qs : List (Int × Int)) : noLs (pairsL qs) = true := by
  rw [noLs_iff]
  intro d hd
  obtain ⟨v, _, rfl⟩ := List.mem_map.mp hd
  rfl
theorem cut_dropN (l : List PyData) (m : Nat) : Dl.cutD l (some (m : Int)) none = l.drop m := by
  unfold Dl.cutD HT.sIx
  have e : ¬ (m : Int) < 0 := by omega
  simp only [if_neg e, Int.toNat_natCast]
  apply List.ext_getElem?
  intro i
  rw [List.getElem?_take, List.getElem?_drop, List.getElem?_drop]
  by_cases h1 : m + i < l.length
  · rw [if_pos (by omega), show min m l.length + i = m + i by omega]
  · by_cases h2 : i < l.length - min m l.length
    · rw [if_pos h2, List.getElem?_eq_none (by omega), List.getElem?_eq_none (by omega)]
    · rw [if_neg h2, List.getElem?_eq_none (by omega)]
set_option maxHeartbeats 8000000 in
theorem ok_late_copies (T : Tx K mg base) : FnOk P w K mg base CX0 6 T.f_late_copies T.d_late_copies ["last", "b", "left", "stop"] (spLc K T.ts) := by
  refine fnXFc T.F_late_copies sc_late_copies (fun _ _ => rfl) (fun A outer s H E hr => ⟨_, (pss_cons (ps_set (i := 4) sc_late_copies.nd rfl (.inl rfl) (_root_.Gx.pe_sortKey (k := 0) (ip := 5) rfl (hr.mono (by decide)) sc_late_copies.nd (by rfl) T.m_sorted (by decide +kernel) T.tb_late_copies rfl (prg_1 (by rfl) T.m_range (pe_callB (kx_len K rfl) (by rfl) T.m_len PySem.boot_len (pa_cons (pv 0) pa_nil))) (_root_.Gx.lamP_by (sc := defScope s_late_copies) (by decide +kernel)) rfl rfl (fun _ _ _ _ _ _ => rfl) (fun A' s' H' q' f' c' hr' => (pe_un un_neg (pe_ix (kx_ixL K rfl) (pv 0) (pv 5) (fun _ _ => rfl))))))
      (pss_one (ps_ret (_root_.Gx.pe_sortedG (_root_.Gx.pgen_gx (own := [("place", 6), ("p", 5)]) (tt := tYes) (k := 0) rfl (hr.mono (by decide)) sc_late_copies.nd T.tb_late_copies rfl ⟨blkOk_by (own := [("place", 6), ("p", 5)]) (N := ["last", "b", "left", "stop", "latest", "p", "place"]) (sc := defScope s_late_copies) (by decide +kernel), rfl, by decide +kernel, rfl⟩ (kx_enum rfl rfl T.m_enumerate (pa_cons (pe_slice (kx_slL K rfl) (pv 4) (po_some (pv 2)) po_none) pa_nil)) (fun A' s' H' cl C code fp pn hr' => (kx_pgT K (n := 2) rfl rfl (pgs_cons (pg_name (i := 6) sc_late_copies.nd rfl (.inl rfl)) (pgs_cons (pg_name (i := 5) sc_late_copies.nd rfl (.inl rfl)) pgs_nil)))) (fun A' s' H' cl C code fp pn hr' => pts_nil) (fun A' s' H' cl C code fp pn hr' => (pe_tup (pa_cons (pe_op op_sub (pe_op op_sub (pv 3) pe_int) (pe_op op_fdivW (pv 6) (pv 1))) (pa_cons (pv 5) pa_nil))))) (hr.mono (by decide)) (by rfl) T.m_sorted (by decide +kernel))))), fun a ha => ?_⟩)
  obtain ⟨l, b, left, stop⟩ := a
  obtain ⟨hl, hb1, hb2, hle⟩ := ha
  dsimp only at hl hb1 hb2 hle
  try simp only [nox_K, blk_K, cx_K]
  show S K ⟨none, T.ts⟩ H _ [some (.d _), some (.d _), some (.d _), some (.d _), none, none, none] _
  have hil : (intsL l).length = l.length := List.length_map _
  refine s_seq (s_asg (e_ofL (el_sortK (ls := l) T.ti_late_copies rfl (by decide) (Nat.le_of_ble_eq_true rfl) (e_cb (ea_cons (e_var rfl (ea_nil (c_len (Or.inr rfl) ⟨l.length, by rw [hil], by omega, Nat.le_refl _, fun out hp hs => ?_⟩))))))))
  dsimp only [List.set]
  have hol : out.length = l.length := by have := hp.length_eq; rw [List.length_range] at this; exact this
  refine s_retN (en_el (el_sortG (lateF b stop (out.drop left)) T.ti_late_copies (it_enum (ea_cons (e_sl (e_var rfl (eo_some (e_var rfl ⟨_, rfl, eo_none (r_slL ?_)⟩))))))))
  rw [cut_dropN]
  have edr : (intsL (out.map fun i => ((i : Nat) : Int))).drop left = intsL ((out.drop left).map fun i => ((i : Nat) : Int)) := by
    unfold intsL
    rw [← List.map_drop, ← List.map_drop]
  rw [edr]
  have hdl : (out.drop left).length = l.length - left := by rw [List.length_drop, hol]
  have hel : (enumL (intsL ((out.drop left).map fun i => ((i : Nat) : Int)))).length = l.length - left := by
    rw [enumL_len]
    unfold intsL
    rw [List.length_map, List.length_map, hdl]
  refine ea_nil ⟨_, rfl, by rw [hel]; omega, fun k d hd => ?_, fun qs hq ho => ⟨noL_pairs qs, qs, ⟨out, hp, hs, by rw [hel] at hq; exact hq, ho⟩, rfl⟩⟩
  obtain ⟨x, hx, rfl⟩ := enumL_get hd
  unfold intsL at hx
  rw [List.map_map, List.getElem?_map] at hx
  cases hy : (out.drop left)[k]? with
  | none => rw [hy] at hx; cases hx
  | some y =>
    rw [hy] at hx
    cases hx
    refine gw_tup rfl (gws_cons (gw_name (by decide) (gws_cons (gw_name (by decide) (gws_nil ?_)))))
    dsimp only [List.map, wipeL, List.set]
    repeat walk_at "t"
    refine r_fdivW (by first | exact wide_div (b := 200) (by omega) (by omega) (by omega) (by omega) | exact wide_div (b := 200) (by decide) (by omega) (by omega) (by omega)) ?_
    rw [show (k : Int) / (b : Int) = ((k / b : Nat) : Int) from rfl]
    repeat walk_at "e"
    show PyData.tuple [.int (stop - 1 - ((k / b : Nat) : Int)), .int ((y : Nat) : Int)] = Dl.pairD (stop - 1 - ((k / b : Nat) : Int), (((out.drop left).getD k 0 : Nat) : Int))
    rw [List.getD_eq_getElem?_getD, hy]
    rfl
end
end K15
set_option Elab.async false
set_option linter.all false
set_option maxRecDepth 100000
namespace K15
open PySem PySem.Spec PyProof.Rows L2 Dl Wm
local macro_rules | `(tactic| walk_at "e") => `(tactic| first
  | ((with_reducible refine e_var (by with_unfolding_all exact rfl) ?_))
  | with_reducible refine e_int ?_
  | with_reducible refine e_str ?_
  | with_reducible refine e_bl ?_
  | with_reducible refine e_non ?_
  | ((with_reducible refine e_pen (by with_unfolding_all exact rfl) (Or.inr rfl) ?_); intro z hz)
  | ((with_reducible refine e_pen (by with_unfolding_all exact rfl) (Or.inl rfl) ?_); intro z hz)
  | ((with_reducible refine e_penIx (by with_unfolding_all exact rfl) ?_))
  | ((with_reducible refine e_spr (by with_unfolding_all exact rfl) ?_); intro z)
  | with_reducible refine e_op ?_
  | with_reducible refine e_tup ?_
  | with_reducible refine e_lst ?_
  | with_reducible refine ea_cons ?_
  | with_reducible refine ea_nil ?_
  | ((with_reducible refine e_penLen (by with_unfolding_all exact rfl) ?_))
  | ((with_reducible refine e_lenOwn (by with_unfolding_all exact rfl) ?_))
  | ((with_reducible refine e_tupOwn (by with_unfolding_all exact rfl) ?_))
  | ((with_reducible refine s_aug (by with_unfolding_all exact rfl) ?_); (try dsimp only [List.set]))
  | with_reducible refine e_callXF ?_
  | with_reducible refine r_ipI ?_
  | with_reducible refine e_un ?_
  | with_reducible refine r_neg ?_
  | with_reducible refine gws_cons ?_
  | with_reducible refine gws_nil ?_
  | with_reducible refine gw_tup rfl ?_
  | ((with_reducible refine gw_name (by decide) ?_); (try dsimp only [List.set]))
  | with_reducible refine e_isI ?_
  | with_reducible refine e_isB ?_
  | with_reducible refine e_isS ?_
  | with_reducible refine e_isTu ?_
  | with_reducible refine e_isL ?_
  | with_reducible refine e_cb ?_
  | with_reducible refine e_sl ?_
  | with_reducible refine eo_none ?_
  | with_reducible refine eo_some ?_
  | with_reducible refine et_test ?_
  | with_reducible refine et_B ?_
  | with_reducible refine et_and ?_
  | with_reducible refine et_or ?_
  | with_reducible refine et_not ?_
  | with_reducible refine et_yes ?_
  | with_reducible refine e_andV ?_
  | with_reducible refine e_orV ?_
  | with_reducible refine e_notV ?_
  | with_reducible refine e_if ?_
  | with_reducible refine e_chain ?_
  | with_reducible refine e_callX ?_
  | ((with_reducible refine e_callXP (by with_unfolding_all exact rfl) ?_ (by with_unfolding_all exact trivial)))
  | ((with_reducible refine s_seq ?_); (try dsimp only [List.set]))
  | with_reducible refine s_next ?_
  | with_reducible refine s_ret ?_
  | ((with_reducible refine s_pen (by with_unfolding_all exact rfl) (Or.inr rfl) ?_))
  | ((with_reducible refine s_pen (by with_unfolding_all exact rfl) (Or.inl rfl) ?_))
  | ((with_reducible refine s_spr (by with_unfolding_all exact rfl) ?_))
  | ((with_reducible refine s_putOwn (by with_unfolding_all exact rfl) ?_ (by with_unfolding_all exact rfl)))
  | with_reducible refine s_asg ?_
  | with_reducible refine s_asgG ?_
  | with_reducible refine s_if ?_
  | with_reducible refine g_name ?_
  | with_reducible refine g_tup rfl ?_
  | with_reducible refine gs_cons ?_
  | with_reducible refine gs_nil ?_
  | with_reducible refine r_lt ?_
  | with_reducible refine r_le ?_
  | with_reducible refine r_gt ?_
  | with_reducible refine r_ge ?_
  | with_reducible refine r_add ?_
  | with_reducible refine r_sub ?_
  | with_reducible refine r_eqI ?_
  | with_reducible refine r_eqS ?_
  | with_reducible refine r_eqB ?_
  | with_reducible refine r_neI ?_
  | with_reducible refine r_neB ?_
  | with_reducible refine c_min2 ?_
  | with_reducible refine c_max2 ?_
  | with_reducible refine c_intB ?_
  | with_reducible refine c_len (Or.inl rfl) ?_
  | with_reducible refine c_len (Or.inr rfl) ?_
  | with_reducible refine c_list (Or.inl rfl) ?_
  | with_reducible refine c_list (Or.inr rfl) ?_
  | with_reducible refine c_tuple (Or.inl rfl) ?_
  | with_reducible refine c_tuple (Or.inr rfl) ?_
  | with_reducible refine r_ixT (by with_unfolding_all exact rfl) ?_
  | with_reducible refine r_ixL (by with_unfolding_all exact rfl) ?_
  | with_reducible refine r_slT ?_
  | with_reducible refine r_slL ?_
  | with_reducible refine r_isNone ?_
  | with_reducible refine r_notBl ?_
  | with_reducible refine eps_cons ?_
  | with_reducible refine eps_nil ?_
  | with_reducible refine e_dget1 ?_
  | with_reducible refine ed_callX ?_
  | with_reducible refine ⟨_, rfl, ?_⟩
  | with_reducible refine And.intro (Nat.le_of_ble_eq_true rfl) ?_)
local macro_rules | `(tactic| walk_at "t") => `(tactic| first
  | walk_at "e"
  | refine r_modAny (by first | omega | decide) fun z z0 z1 => ?_
  | refine r_mul (by first | exact Or.inr ⟨by decide, by decide⟩ | exact Or.inl ⟨by decide, by decide⟩ | exact Or.inl ⟨by omega, by omega⟩) ?_
  | refine r_pow ⟨by decide, by decide, by decide⟩ ?_
  | refine r_fdivW (by first | assumption | (rename_i hw _; exact hw _) | exact wide_div (b := 200) (by decide) (by decide) (by decide) (by decide)) ?_
  | with_reducible refine And.intro (by omega) ?_)
local macro_rules | `(tactic| walk_at "k") => `(tactic| first
  | walk_at "e"
  | with_reducible refine ⟨fun hb => absurd hb (by decide +kernel), fun _ => ?_⟩
  | with_reducible refine ⟨fun _ => ?_, fun hb => absurd hb (by decide +kernel)⟩
  | refine ⟨fun hb => absurd hb Bool.false_ne_true, fun _ => ?_⟩
  | refine ⟨fun _ => ?_, fun hb => absurd hb.symm Bool.false_ne_true⟩)
local macro_rules | `(tactic| walk_at "d") => `(tactic| first
  | walk_at "k"
  | refine And.intro (show WfTake _ from ⟨by omega, by omega⟩) (take_all fun k hk => ?_))
local macro_rules | `(tactic| walk_at "o") => `(tactic| first
  | with_reducible refine s_ownList ?_
  | walk_at "d"
  | with_reducible refine ⟨_, Or.inl rfl, ?_⟩)
local macro_rules | `(tactic| walk_at "c") => `(tactic| first
  | with_reducible refine e_ofL (el_catL ?_)
  | with_reducible refine e_ofL (el_sortP ?_)
  | with_reducible refine e_ofL (el_sortSetP ?_)
  | with_reducible refine e_ofL (el_revL ?_)
  | walk_at "d")

section
variable {P : Program} {w : World} {K : PySem.W.Frag} {mg : Str → Option Value} {base : Heap}
structure TsA where
  l : List Int
  b : Nat
  s : Int
  stop : Int
structure TsA.Ok (a : TsA) : Prop where
  ln : a.l.length ≤ 50
  b1 : 1 ≤ a.b
  b2 : a.b ≤ 1000
  lt : ∀ y ∈ a.l, y < a.stop
/-- what is told of a stop -/
def ToldR (l : List Int) (b : Nat) (s stop : Int) (d : PyData) : Prop := ∃ x, MaxAt l b stop x ∧ ((s < lackB l b stop x ∧ d = .tuple [.str "barred", .int x]) ∨
  (lackB l b stop x ≤ s ∧ ∃ qs, LateR l b (lackB l b stop x).toNat stop qs ∧ CopOk l b (lackB l b stop x).toNat stop qs ∧ d = .tuple [.str "plan", .list (pairsL qs)]))
abbrev spTs (K : PySem.W.Frag) (ts : List Addr) : Sp := SpXF (α := TsA) K ts TsA.Ok (fun a => [.list (intsL a.l), .int a.b, .int a.s, .int a.stop]) (fun a d => ToldR a.l a.b a.s a.stop d)
set_option maxHeartbeats 8000000 in
theorem ok_told_of_stop (T : Tx K mg base) : FnOk P w K mg base CX0 7 T.f_told_of_stop T.d_told_of_stop ["last", "b", "s", "stop"] (spTs K T.ts) := by
  refine fnXF T.F_told_of_stop sc_told_of_stop (fun _ _ => rfl) (fun cdv A outer s H E hr => ⟨_, (pss_cons (ps_asg (pe_call (ok_must_be_left T) (hr.mono (by decide)) (by rfl) T.g_must_be_left T.F_must_be_left.kp T.b_must_be_left .nil pass0 (pa_cons (pv 0) (pa_cons (pv 1) (pa_cons (pv 3) pa_nil)))) (kx_pgT K (n := 2) rfl rfl (pgs_cons (pg_name (i := 4) sc_told_of_stop.nd rfl (.inl rfl)) (pgs_cons (pg_name (i := 5) sc_told_of_stop.nd rfl (.inl rfl)) pgs_nil))))
      (pss_cons (ps_if (pt_cmpR op_gt (pv 4) (pv 2) (nomark _))
      (pss_one (ps_ret (pe_tup (pa_cons pe_str (pa_cons (pv 5) pa_nil)))))
      pss_nil)
      (pss_one (ps_ret (pe_tup (pa_cons pe_str (pa_cons (pe_call (ok_late_copies T) (hr.mono (by decide)) (by rfl) T.g_late_copies T.F_late_copies.kp T.b_late_copies .nil pass0 (pa_cons (pv 0) (pa_cons (pv 1) (pa_cons (pv 4) (pa_cons (pv 3) pa_nil))))) pa_nil))))))), fun a ha => ?_⟩)
  obtain ⟨l, b, s, stop⟩ := a
  obtain ⟨hl, hb1, hb2, hlt⟩ := ha
  dsimp only at hl hb1 hb2 hlt
  try simp only [nox_K, blk_K, cx_K]
  show S K ⟨none, T.ts⟩ H _ [some (.d _), some (.d _), some (.d _), some (.d _), none, none] _
  refine s_cut (fun L' => ∃ x, MaxAt l b stop x ∧ Sub [some (.d (.list (intsL l))), some (.d (.int b)), some (.d (.int s)), some (.d (.int stop)), some (.d (.int (lackB l b stop x))), some (.d (.int x))] L') (s_asgG (e_callX (ea_cons (e_var rfl (ea_cons (e_var rfl (ea_cons (e_var rfl (ea_nil ⟨⟨l, b, stop⟩, rfl, ⟨by show l.length ≤ 1000; omega, by show (0 : Int) ≤ (b : Int); omega, by show (b : Int) ≤ 1000; omega⟩, ?_⟩))))))))) fun L' ⟨x, hx, sb⟩ => S.sub ?_ sb
  · rintro d ⟨x, hx, rfl⟩
    refine g_tup rfl (gs_cons (g_name (gs_cons (g_name (gs_nil ?_)))))
    dsimp only [List.set]
    exact ⟨x, hx, by repeat (first | exact Sub.nil | apply Sub.keep | apply Sub.drop)⟩
  · obtain ⟨h0, h1⟩ := lack_bounds hx hlt
    have hz : (((lackB l b stop x).toNat : Nat) : Int) = lackB l b stop x := Int.toNat_of_nonneg h0
    refine s_seq (s_if ?_)
    repeat walk_at "e"
    refine ⟨fun hb => ?_, fun hb => s_next ?_⟩
    · have hb := of_decide_eq_true hb
      refine s_retN (en_e (e_tup (ea_cons (e_str (ea_cons (e_var rfl (ea_nil ⟨Nat.le_of_ble_eq_true rfl, rfl, x, hx, .inl ⟨hb, rfl⟩⟩)))))))
    · have hb := of_decide_eq_false hb
      refine s_retN (en_tup (ena_cons (en_e (e_str ⟨rfl, ena_cons (en_callF ?_)⟩))))
      refine ea_cons (e_var rfl (ea_cons (e_var rfl (ea_cons (e_var rfl (ea_cons (e_var rfl (ea_nil ⟨⟨l, b, (lackB l b stop x).toNat, stop⟩, by show _ = _; dsimp only; rw [hz], ⟨hl, hb1, hb2, by show (lackB l b stop x).toNat ≤ l.length; omega⟩, ?_⟩))))))))
      rintro d ⟨qs, hq, rfl⟩
      exact ena_nil ⟨Nat.le_of_ble_eq_true rfl, x, hx, .inr ⟨by omega, qs, hq, late_ok hb1 hx hlt hz hq, rfl⟩⟩
structure IsLeast (l : List Int) (b stop m : Int) : Prop where
  pos : 0 ≤ m
  up : ∀ t, -1 ≤ t → t < stop → lackB l b stop t ≤ m
  at_ : m = 0 ∨ ∃ t, -1 ≤ t ∧ t < stop ∧ lackB l b stop t = m
theorem IsLeast.one {l : List Int} {b stop m m' : Int} (h : IsLeast l b stop m) (h' : IsLeast l b stop m') : m = m' := by
  have z : ∀ {x y : Int}, IsLeast l b stop x → IsLeast l b stop y → x ≤ y := fun {x y} h h' => by
    rcases h.at_ with e | ⟨t, h1, h2, h3⟩
    · rw [e]; exact h'.pos
    · rw [← h3]; exact h'.up t h1 h2
  exact Int.le_antisymm (z h h') (z h' h)
theorem least_of : ∀ {l : List Int}, l ≠ [] → ∃ y ∈ l, ∀ z ∈ l, y ≤ z
  | [], h => absurd rfl h
  | [x], _ => ⟨x, List.mem_singleton.mpr rfl, fun z hz => by rw [List.mem_singleton.mp hz]; exact Int.le_refl _⟩
  | x :: y :: l, _ => by
    obtain ⟨m, h1, h2⟩ := least_of (l := y :: l) (List.cons_ne_nil _ _)
    by_cases q : x ≤ m
    · refine ⟨x, List.mem_cons_self .., fun z hz => ?_⟩
      rcases List.mem_cons.mp hz with rfl | hz
      · exact Int.le_refl _
      · exact Int.le_trans q (h2 z hz)
    · refine ⟨m, List.mem_cons_of_mem _ h1, fun z hz => ?_⟩
      rcases List.mem_cons.mp hz with rfl | hz
      · omega
      · exact h2 z hz
theorem lack_zero (l : List Int) (b stop : Int) : lackB l b stop (stop - 1) = (cntGe l (stop - 1) : Int) := by
  unfold lackB
  rw [show stop - (stop - 1) - 1 = 0 by omega, Int.mul_zero, Int.sub_zero]
theorem lack_step {l : List Int} {b stop t y : Int} (hb : 0 ≤ b) (h1 : t ≤ y) (hc : cntGe l y = cntGe l t) : lackB l b stop t ≤ lackB l b stop y := by
  unfold lackB
  rw [hc]
  have : b * (stop - y - 1) ≤ b * (stop - t - 1) := Int.mul_le_mul_of_nonneg_left (by omega) hb
  omega
theorem MaxAt.least {l : List Int} {b stop x : Int} (h : MaxAt l b stop x) (hb : 0 ≤ b) (hs : 0 ≤ stop) (hl : ∀ y ∈ l, -1 ≤ y ∧ y < stop) : IsLeast l b stop (lackB l b stop x) := by
  have h0 : 0 ≤ lackB l b stop x := by
    have := h.2 (stop - 1) (List.mem_cons_self ..)
    rw [lack_zero] at this
    omega
  refine ⟨h0, fun t h1 h2 => ?_, .inr ⟨x, ?_⟩⟩
  · by_cases q : l.filter (fun z => decide (t ≤ z)) = []
    · have hc : cntGe l t = 0 := by unfold cntGe; rw [q]; rfl
      have : 0 ≤ b * (stop - t - 1) := Int.mul_nonneg hb (by omega)
      have e : lackB l b stop t = (cntGe l t : Int) - b * (stop - t - 1) := rfl
      omega
    · obtain ⟨y, hy, hm⟩ := least_of q
      obtain ⟨hy1, hy2⟩ := List.mem_filter.mp hy
      have hy2 := of_decide_eq_true hy2
      refine Int.le_trans (lack_step hb hy2 ?_) (h.2 y (List.mem_cons_of_mem _ hy1))
      unfold cntGe
      congr 1
      apply List.filter_congr
      intro z hz
      by_cases w : t ≤ z
      · rw [decide_eq_true w, decide_eq_true (hm z (List.mem_filter.mpr ⟨hz, decide_eq_true w⟩))]
      · rw [decide_eq_false w, decide_eq_false (fun v => w (Int.le_trans hy2 v))]
  · rcases List.mem_cons.mp h.1 with e | e
    · rw [e]; exact ⟨by omega, by omega, rfl⟩
    · exact ⟨(hl x e).1, (hl x e).2, rfl⟩
theorem lastsF_in {n : Nat} {t : Trc} {stop : Int} (hs : 0 ≤ stop) : ∀ y ∈ lastsF n t stop, -1 ≤ y ∧ y < stop ∧ y < (t.length : Int) := fun y hy => by
  obtain ⟨p, _, rfl⟩ := List.mem_map.mp hy
  have h := lastT_lt t (p : Int) (cutN t stop)
  have hc : (cutN t stop : Int) ≤ stop := by unfold cutN; omega
  have hc2 := cutN_le t stop
  unfold lastW
  omega
theorem lastsF_far (n : Nat) (t : Trc) : lastsF n t ((t.length : Int) + 1) = lastsF n t (t.length : Int) := by
  unfold lastsF lastW
  rw [show cutN t ((t.length : Int) + 1) = cutN t (t.length : Int) from by unfold cutN; omega]
theorem IsLeast.later {l : List Int} {b stop m m' : Int} (h : IsLeast l b stop m) (h' : IsLeast l b (stop + 1) m') (hb : 0 ≤ b) (hl : ∀ y ∈ l, y < stop) : m' ≤ m := by
  rcases h'.at_ with e | ⟨t, h1, h2, h3⟩
  · rw [e]; exact h.pos
  · by_cases q : t < stop
    · have := h.up t h1 q
      have hc : b * (stop - t - 1) ≤ b * (stop + 1 - t - 1) := Int.mul_le_mul_of_nonneg_left (by omega) hb
      have e1 : lackB l b (stop + 1) t = (cntGe l t : Int) - b * (stop + 1 - t - 1) := rfl
      have e2 : lackB l b stop t = (cntGe l t : Int) - b * (stop - t - 1) := rfl
      omega
    · have et : t = (stop + 1) - 1 := by omega
      rw [et, lack_zero] at h3
      have : cntGe l (stop + 1 - 1) = 0 := by
        unfold cntGe
        rw [List.length_eq_zero_iff, List.filter_eq_nil_iff]
        intro z hz
        have := hl z hz
        rw [decide_eq_true_eq]
        omega
      have := h.pos
      omega
structure PfA where
  n : Nat
  t : Trc
  b : Nat
  s : Int
  stop : Int
structure PfA.Ok (a : PfA) : Prop where
  lw : LwA.Ok ⟨a.n, a.t, a.stop⟩
  n2 : a.n ≤ 50
  b1 : 1 ≤ a.b
  b2 : a.b ≤ 1000
  s0 : 0 ≤ a.stop

abbrev spPf (K : PySem.W.Frag) (ts : List Addr) : Sp := SpXF (α := PfA) K ts PfA.Ok (fun a => [.int a.n, .list (trcD a.t), .int a.b, .int a.s, .int a.stop]) (fun a d => ToldR (lastsF a.n a.t a.stop) a.b a.s a.stop d)
set_option maxHeartbeats 8000000 in
theorem ok_plan_for (T : Tx K mg base) : FnOk P w K mg base CX0 8 T.f_plan_for T.d_plan_for ["n", "trace", "b", "s", "stop"] (spPf K T.ts) := by
  refine fnXF T.F_plan_for sc_plan_for (fun _ _ => rfl) (fun cdv A outer s H E hr => ⟨_, (pss_one (ps_ret (pe_call (ok_told_of_stop T) (hr.mono (by decide)) (by rfl) T.g_told_of_stop T.F_told_of_stop.kp T.b_told_of_stop .nil pass0 (pa_cons (pe_call (ok_last_writings T) (hr.mono (by decide)) (by rfl) T.g_last_writings T.F_last_writings.kp T.b_last_writings .nil pass0 (pa_cons (pv 0) (pa_cons (pv 1) (pa_cons (pv 4) pa_nil)))) (pa_cons (pv 2) (pa_cons (pv 3) (pa_cons (pv 4) pa_nil))))))), fun a ha => ?_⟩)
  obtain ⟨n, t, b, s, stop⟩ := a
  obtain ⟨hlw, hn2, hb1, hb2, hs0⟩ := ha
  dsimp only at hlw hn2 hb1 hb2 hs0
  try simp only [nox_K, blk_K, cx_K]
  show S K ⟨none, T.ts⟩ H _ [some (.d _), some (.d _), some (.d _), some (.d _), some (.d _)] _
  refine s_retN (en_callF (ea_cons (e_callX (ea_cons (e_var rfl (ea_cons (e_var rfl (ea_cons (e_var rfl (ea_nil ⟨⟨n, t, stop⟩, rfl, hlw, ?_⟩))))))))))
  rintro d rfl
  refine ea_cons (e_var rfl (ea_cons (e_var rfl (ea_cons (e_var rfl (ea_nil ⟨⟨lastsF n t stop, b, s, stop⟩, rfl, ⟨by show (lastsF n t stop).length ≤ 50; rw [lastsF_len]; exact hn2, hb1, hb2, fun y hy => (lastsF_in hs0 y hy).2.1⟩, fun d h => h⟩))))))
end
end K15
set_option Elab.async false
set_option linter.all false
set_option maxRecDepth 100000
namespace K15
open PySem PySem.Spec PyProof.Rows L2 Dl Wm
local macro_rules | `(tactic| walk_at "e") => `(tactic| first
  | ((with_reducible refine e_var (by with_unfolding_all exact rfl) ?_))
  | with_reducible refine e_int ?_
  | with_reducible refine e_str ?_
  | with_reducible refine e_bl ?_
  | with_reducible refine e_non ?_
  | ((with_reducible refine e_pen (by with_unfolding_all exact rfl) (Or.inr rfl) ?_); intro z hz)
  | ((with_reducible refine e_pen (by with_unfolding_all exact rfl) (Or.inl rfl) ?_); intro z hz)
  | ((with_reducible refine e_penIx (by with_unfolding_all exact rfl) ?_))
  | ((with_reducible refine e_spr (by with_unfolding_all exact rfl) ?_); intro z)
  | with_reducible refine e_op ?_
  | with_reducible refine e_tup ?_
  | with_reducible refine e_lst ?_
  | with_reducible refine ea_cons ?_
  | with_reducible refine ea_nil ?_
  | ((with_reducible refine e_penLen (by with_unfolding_all exact rfl) ?_))
  | ((with_reducible refine e_lenOwn (by with_unfolding_all exact rfl) ?_))
  | ((with_reducible refine e_tupOwn (by with_unfolding_all exact rfl) ?_))
  | ((with_reducible refine s_aug (by with_unfolding_all exact rfl) ?_); (try dsimp only [List.set]))
  | with_reducible refine e_callXF ?_
  | with_reducible refine r_ipI ?_
  | with_reducible refine e_un ?_
  | with_reducible refine r_neg ?_
  | with_reducible refine gws_cons ?_
  | with_reducible refine gws_nil ?_
  | with_reducible refine gw_tup rfl ?_
  | ((with_reducible refine gw_name (by decide) ?_); (try dsimp only [List.set]))
  | with_reducible refine e_isI ?_
  | with_reducible refine e_isB ?_
  | with_reducible refine e_isS ?_
  | with_reducible refine e_isTu ?_
  | with_reducible refine e_isL ?_
  | with_reducible refine e_cb ?_
  | with_reducible refine e_sl ?_
  | with_reducible refine eo_none ?_
  | with_reducible refine eo_some ?_
  | with_reducible refine et_test ?_
  | with_reducible refine et_B ?_
  | with_reducible refine et_and ?_
  | with_reducible refine et_or ?_
  | with_reducible refine et_not ?_
  | with_reducible refine et_yes ?_
  | with_reducible refine e_andV ?_
  | with_reducible refine e_orV ?_
  | with_reducible refine e_notV ?_
  | with_reducible refine e_if ?_
  | with_reducible refine e_chain ?_
  | with_reducible refine e_callX ?_
  | ((with_reducible refine e_callXP (by with_unfolding_all exact rfl) ?_ (by with_unfolding_all exact trivial)))
  | ((with_reducible refine s_seq ?_); (try dsimp only [List.set]))
  | with_reducible refine s_next ?_
  | with_reducible refine s_ret ?_
  | ((with_reducible refine s_pen (by with_unfolding_all exact rfl) (Or.inr rfl) ?_))
  | ((with_reducible refine s_pen (by with_unfolding_all exact rfl) (Or.inl rfl) ?_))
  | ((with_reducible refine s_spr (by with_unfolding_all exact rfl) ?_))
  | ((with_reducible refine s_putOwn (by with_unfolding_all exact rfl) ?_ (by with_unfolding_all exact rfl)))
  | with_reducible refine s_asg ?_
  | with_reducible refine s_asgG ?_
  | with_reducible refine s_if ?_
  | with_reducible refine g_name ?_
  | with_reducible refine g_tup rfl ?_
  | with_reducible refine gs_cons ?_
  | with_reducible refine gs_nil ?_
  | with_reducible refine r_lt ?_
  | with_reducible refine r_le ?_
  | with_reducible refine r_gt ?_
  | with_reducible refine r_ge ?_
  | with_reducible refine r_add ?_
  | with_reducible refine r_sub ?_
  | with_reducible refine r_eqI ?_
  | with_reducible refine r_eqS ?_
  | with_reducible refine r_eqB ?_
  | with_reducible refine r_neI ?_
  | with_reducible refine r_neB ?_
  | with_reducible refine c_min2 ?_
  | with_reducible refine c_max2 ?_
  | with_reducible refine c_intB ?_
  | with_reducible refine c_len (Or.inl rfl) ?_
  | with_reducible refine c_len (Or.inr rfl) ?_
  | with_reducible refine c_list (Or.inl rfl) ?_
  | with_reducible refine c_list (Or.inr rfl) ?_
  | with_reducible refine c_tuple (Or.inl rfl) ?_
  | with_reducible refine c_tuple (Or.inr rfl) ?_
  | with_reducible refine r_ixT (by with_unfolding_all exact rfl) ?_
  | with_reducible refine r_ixL (by with_unfolding_all exact rfl) ?_
  | with_reducible refine r_slT ?_
  | with_reducible refine r_slL ?_
  | with_reducible refine r_isNone ?_
  | with_reducible refine r_notBl ?_
  | with_reducible refine eps_cons ?_
  | with_reducible refine eps_nil ?_
  | with_reducible refine e_dget1 ?_
  | with_reducible refine ed_callX ?_
  | with_reducible refine ⟨_, rfl, ?_⟩
  | with_reducible refine And.intro (Nat.le_of_ble_eq_true rfl) ?_)
local macro_rules | `(tactic| walk_at "t") => `(tactic| first
  | walk_at "e"
  | refine r_modAny (by first | omega | decide) fun z z0 z1 => ?_
  | refine r_mul (by first | exact Or.inr ⟨by decide, by decide⟩ | exact Or.inl ⟨by decide, by decide⟩ | exact Or.inl ⟨by omega, by omega⟩) ?_
  | refine r_pow ⟨by decide, by decide, by decide⟩ ?_
  | refine r_fdivW (by first | assumption | (rename_i hw _; exact hw _) | exact wide_div (b := 200) (by decide) (by decide) (by decide) (by decide)) ?_
  | with_reducible refine And.intro (by omega) ?_)
local macro_rules | `(tactic| walk_at "k") => `(tactic| first
  | walk_at "e"
  | with_reducible refine ⟨fun hb => absurd hb (by decide +kernel), fun _ => ?_⟩
  | with_reducible refine ⟨fun _ => ?_, fun hb => absurd hb (by decide +kernel)⟩
  | refine ⟨fun hb => absurd hb Bool.false_ne_true, fun _ => ?_⟩
  | refine ⟨fun _ => ?_, fun hb => absurd hb.symm Bool.false_ne_true⟩)
local macro_rules | `(tactic| walk_at "d") => `(tactic| first
  | walk_at "k"
  | refine And.intro (show WfTake _ from ⟨by omega, by omega⟩) (take_all fun k hk => ?_))
local macro_rules | `(tactic| walk_at "o") => `(tactic| first
  | with_reducible refine s_ownList ?_
  | walk_at "d"
  | with_reducible refine ⟨_, Or.inl rfl, ?_⟩)
local macro_rules | `(tactic| walk_at "c") => `(tactic| first
  | with_reducible refine e_ofL (el_catL ?_)
  | with_reducible refine e_ofL (el_sortP ?_)
  | with_reducible refine e_ofL (el_sortSetP ?_)
  | with_reducible refine e_ofL (el_revL ?_)
  | walk_at "d")

section
variable {P : Program} {w : World} {K : PySem.W.Frag} {mg : Str → Option Value} {base : Heap}
abbrev spCup (K : PySem.W.Frag) (ts : List Addr) : Sp := SpXS (α := Int) K ts WfTake (fun m => [.int m]) resTake
set_option maxHeartbeats 4000000 in
theorem ok_law_cup (T : Tx K mg base) : FnOk P w K mg base CX0 1 T.f_law_cup T.d_law_cup ["spring", "many"] (spCup K T.ts) := by
  refine fnXS T.F_law_cup sc_law_cup ⟨_, _, rfl⟩ (fun _ _ => rfl) (fun cdv A outer s H E hr => ⟨_, (pss_cons (ps_set (i := 2) sc_law_cup.nd rfl (.inl rfl) (pe_op op_mod (pe_ix (kx_ixL K rfl) (pv 0) pe_int (fun _ _ => rfl)) (pv 1)))
      (pss_cons (ps_asg (pe_op op_fdivW (pe_ix (kx_ixL K rfl) (pv 0) pe_int (fun _ _ => rfl)) (pv 1)) (pg_sub (pv 0) pe_int set_list))
      (pss_one (ps_ret (pv 2))))), fun pa m hm => ?_⟩)
  try simp only [nox_K, blk_K, cx_K]
  obtain ⟨h0, h1⟩ := hm
  have hw : ∀ i : Int, CDivW i m := fun i => wide_div (b := 200) h0 (by omega) (by decide) (by decide)
  show S K ⟨some ⟨pa, .spr⟩, T.ts⟩ H _ [some .pen, some (.d _), none] _
  repeat walk_at "e"
  refine r_modAny h0 fun y y0 y1 => ?_
  repeat walk_at "e"
  refine r_fdivW (hw _) ?_
  repeat walk_at "e"
  exact resTake_of y0 y1
structure SprA where
  ns : List Int
  k : Nat
abbrev spSpr (K : PySem.W.Frag) (ts : List Addr) : Sp := SpXF (α := SprA) K ts (fun a => a.k ≤ 100) (fun a => [.list (intsL a.ns), .int a.k]) (fun _ d => ∃ z : Int, d = .list [.int z])
theorem ints_at {ns : List Int} {i : Nat} (h : i < ns.length) : atI (intsL ns) (i : Int) = some (.int (ns.getD i 0)) := by
  refine atI_nat ?_
  unfold intsL
  rw [List.getElem?_map, List.getElem?_eq_getElem h, List.getD_eq_getElem?_getD, List.getElem?_eq_getElem h]
  rfl
set_option maxHeartbeats 4000000 in
theorem ok_law_spring (T : Tx K mg base) : FnOk P w K mg base CX0 1 T.f_law_spring T.d_law_spring ["script", "k"] (spSpr K T.ts) := by
  refine fnXF T.F_law_spring sc_law_spring (fun _ _ => rfl) (fun cdv A outer s H E hr => ⟨_, (pss_cons (ps_set (i := 2) sc_law_spring.nd rfl (.inl rfl) (pe_op op_add (pe_op op_mul pe_int (pv 1)) pe_int))
      (pss_cons (ps_if (pt_cmpR op_lt (pv 1) (pe_callB (kx_len K rfl) (by rfl) T.m_len PySem.boot_len (pa_cons (pv 0) pa_nil)) (nomark _))
      (pss_one (ps_set (i := 2) sc_law_spring.nd rfl (.inl rfl) (pe_ix (kx_ixL K rfl) (pv 0) (pv 1) (fun _ _ => rfl))))
      pss_nil)
      (pss_cons (ps_if (pt_cmpR op_eq (pe_op op_mod (pv 2) pe_int) pe_int (nomark _))
      (pss_one (ps_ret (pe_lst (pa_cons (pe_op op_fdivW (pv 2) pe_int) pa_nil))))
      pss_nil)
      (pss_cons (ps_set (i := 3) sc_law_spring.nd rfl (.inl rfl) (pe_op op_mod (pe_op op_add (pe_op op_add (pe_op op_mul (pe_op op_mod (pv 2) pe_int) pe_int) (pe_op op_mul pe_int (pv 1))) pe_int) pe_int))
      (pss_cons (ps_set (i := 4) sc_law_spring.nd rfl (.inl rfl) pe_int)
      (pss_cons (ps_for PassesOwn.never rfl (pi_range1 rfl T.m_range (pa_cons pe_int pa_nil)) (pg_name (i := 5) sc_law_spring.nd rfl (.inl rfl))
      (pss_cons (ps_set (i := 3) sc_law_spring.nd rfl (.inl rfl) (pe_op op_mod (pe_op op_add (pe_op op_add (pe_op op_add (pe_op op_mul (pv 3) (pv 3)) (pe_op op_mul pe_int (pv 3))) (pe_op op_mul pe_int (pv 5))) pe_int) pe_int))
      (pss_one (ps_set (i := 4) sc_law_spring.nd rfl (.inl rfl) (pe_op op_add (pe_op op_mul (pv 4) pe_int) (pv 3))))))
      (pss_one (ps_ret (pe_lst (pa_cons (pv 4) pa_nil)))))))))), fun a ha => ?_⟩)
  obtain ⟨ns, k⟩ := a
  dsimp only at ha
  try simp only [nox_K, blk_K, cx_K]
  show S K ⟨none, T.ts⟩ H _ [some (.d _), some (.d _), none, none, none, none] _
  refine s_seq (s_asg (e_op (e_op (e_int (e_var rfl (r_mul (.inl ⟨by decide, by decide⟩) (e_int (r_add ?_))))))))
  dsimp only [List.set]
  refine s_cut (fun L => ∃ z : Int, L = [some (.d (.list (intsL ns))), some (.d (.int k)), some (.d (.int z)), none, none, none]) (s_if ?_) fun L' ⟨num, e⟩ => ?_
  · have ln : (intsL ns).length = ns.length := List.length_map _
    repeat walk_at "e"
    rw [ln]
    refine ⟨fun hb => ?_, fun _ => s_next ⟨_, rfl⟩⟩
    have hb := of_decide_eq_true hb
    repeat walk_at "e"
    refine r_ixL (ints_at (by omega)) ?_
    exact ⟨_, rfl⟩
  · subst e
    have one : ∀ z : Int, noLs [PyData.int z] = true := fun z => rfl
    refine s_seq (s_if ?_)
    repeat walk_at "t"
    refine ⟨fun _ => ?_, fun _ => s_next ?_⟩
    · refine s_retN (en_el (el_lst (ea_cons ?_)))
      refine e_op (e_var rfl (e_int (r_fdivW (wide_div (b := 200) (by decide) (by decide) (by decide) (by decide)) ?_)))
      exact ea_nil ⟨Nat.le_of_ble_eq_true rfl, one _, _, rfl⟩
    · repeat walk_at "t"
      rename_i st st0 st1
      refine s_forRw (ea_cons (e_int (ea_nil ⟨60, rfl, by decide, fun _ L => ∃ y x : Int, 0 ≤ y ∧ y < 2147483549 ∧ L = [some (.d (.list (intsL ns))), some (.d (.int k)), some (.d (.int num)), some (.d (.int y)), some (.d (.int x)), none], ⟨_, Sub.refl _, st, 0, st0, st1, rfl⟩, fun i L' hi ⟨y, x, y0, y1, e⟩ => ?_, fun L' ⟨y, x, y0, y1, e⟩ L4 s4 => ?_⟩)))
      · subst e
        refine g_name ?_
        dsimp only [List.set]
        repeat walk_at "t"
        rename_i q q0 q1
        refine ⟨_, ?_, q, x * 2147483549 + q, q0, q1, rfl⟩
        repeat (first | exact Sub.nil | apply Sub.keep | apply Sub.drop)
      · subst e
        refine S.sub ?_ s4
        refine s_retN (en_el (el_lst (ea_cons (e_var rfl (ea_nil ⟨Nat.le_of_ble_eq_true rfl, one _, _, rfl⟩)))))
structure SzR where
  n : Nat
  b : Nat
  s : Nat
structure SzR.Ok (z : SzR) : Prop where
  n1 : 1 ≤ z.n
  n2 : z.n ≤ 12
  b1 : 1 ≤ z.b
  b2 : z.b ≤ 6
  s2 : z.s ≤ 12
abbrev spSizes (K : PySem.W.Frag) (ts : List Addr) : Sp := SpXS (α := Unit) K ts (fun _ => True) (fun _ => []) (fun _ d => ∃ z : SzR, z.Ok ∧ d = .tuple [.int z.n, .int z.b, .int z.s])
set_option maxHeartbeats 4000000 in
theorem ok_law_sizes (T : Tx K mg base) : FnOk P w K mg base CX0 2 T.f_law_sizes T.d_law_sizes ["spring"] (spSizes K T.ts) := by
  refine fnXS T.F_law_sizes sc_law_sizes ⟨_, _, rfl⟩ (fun _ _ => rfl) (fun cdv A outer s H E hr => ⟨_, (pss_cons (ps_set (i := 1) sc_law_sizes.nd rfl (.inl rfl) (pe_op op_add pe_int (pe_call (ok_law_cup T) (hr.mono (by decide)) (by rfl) T.g_law_cup T.F_law_cup.kp T.b_law_cup .nil pass0 (pa_cons (pv 0) (pa_cons (pe_ix (kx_ixL K rfl) (pe_lst (pa_cons pe_int (pa_cons pe_int (pa_cons pe_int pa_nil)))) (pe_call (ok_law_cup T) (hr.mono (by decide)) (by rfl) T.g_law_cup T.F_law_cup.kp T.b_law_cup .nil pass0 (pa_cons (pv 0) (pa_cons pe_int pa_nil))) (fun _ _ => rfl)) pa_nil)))))
      (pss_cons (ps_set (i := 2) sc_law_sizes.nd rfl (.inl rfl) (pe_ix (kx_ixL K rfl) (pe_lst (pa_cons pe_int (pa_cons pe_int (pa_cons pe_int (pa_cons pe_int (pa_cons (pe_op op_add pe_int (pe_call (ok_law_cup T) (hr.mono (by decide)) (by rfl) T.g_law_cup T.F_law_cup.kp T.b_law_cup .nil pass0 (pa_cons (pv 0) (pa_cons pe_int pa_nil)))) pa_nil)))))) (pe_call (ok_law_cup T) (hr.mono (by decide)) (by rfl) T.g_law_cup T.F_law_cup.kp T.b_law_cup .nil pass0 (pa_cons (pv 0) (pa_cons pe_int pa_nil))) (fun _ _ => rfl)))
      (pss_one (ps_ret (pe_tup (pa_cons (pv 1) (pa_cons (pv 2) (pa_cons (pe_ix (kx_ixL K rfl) (pe_lst (pa_cons pe_int (pa_cons pe_int (pa_cons pe_int (pa_cons pe_int (pa_cons pe_int (pa_cons (pv 1) (pa_cons (pe_call (ok_law_cup T) (hr.mono (by decide)) (by rfl) T.g_law_cup T.F_law_cup.kp T.b_law_cup .nil pass0 (pa_cons (pv 0) (pa_cons pe_int pa_nil))) pa_nil)))))))) (pe_call (ok_law_cup T) (hr.mono (by decide)) (by rfl) T.g_law_cup T.F_law_cup.kp T.b_law_cup .nil pass0 (pa_cons (pv 0) (pa_cons pe_int pa_nil))) (fun _ _ => rfl)) pa_nil)))))))), fun pa a _ => ?_⟩)
  try simp only [nox_K, blk_K, cx_K]
  show S K ⟨some ⟨pa, .spr⟩, T.ts⟩ H _ [some .pen, none, none] _
  repeat walk_at "d"
  rename_i k0 hk0
  have hm : ∃ m : Nat, atI [PyData.int 4, .int 8, .int 12] (k0 : Int) = some (.int m) ∧ 1 ≤ m ∧ m ≤ 12 := by
    rcases (by omega : k0 = 0 ∨ k0 = 1 ∨ k0 = 2) with rfl | rfl | rfl
    · exact ⟨4, rfl, by decide, by decide⟩
    · exact ⟨8, rfl, by decide, by decide⟩
    · exact ⟨12, rfl, by decide, by decide⟩
  obtain ⟨m0, e0, hm1, hm2⟩ := hm
  refine r_ixL e0 ?_
  repeat walk_at "d"
  rename_i n0 hn0 k1 hk1 k2 hk2
  have hb : ∃ m : Nat, atI [PyData.int 1, .int 1, .int 2, .int 3, .int (1 + (k1 : Int))] (k2 : Int) = some (.int m) ∧ 1 ≤ m ∧ m ≤ 6 := by
    rcases (by omega : k2 = 0 ∨ k2 = 1 ∨ k2 = 2 ∨ k2 = 3 ∨ k2 = 4) with rfl | rfl | rfl | rfl | rfl
    · exact ⟨1, rfl, by decide, by decide⟩
    · exact ⟨1, rfl, by decide, by decide⟩
    · exact ⟨2, rfl, by decide, by decide⟩
    · exact ⟨3, rfl, by decide, by decide⟩
    · exact ⟨1 + k1, rfl, by omega, by omega⟩
  obtain ⟨b0, e1, hb1, hb2⟩ := hb
  refine r_ixL e1 ?_
  repeat walk_at "d"
  rename_i k3 hk3 k4 hk4
  have hs : ∃ m : Nat, atI [PyData.int 0, .int 0, .int 1, .int 2, .int 3, .int (1 + (n0 : Int)), .int (k3 : Int)] (k4 : Int) = some (.int m) ∧ m ≤ 12 := by
    rcases (by omega : k4 = 0 ∨ k4 = 1 ∨ k4 = 2 ∨ k4 = 3 ∨ k4 = 4 ∨ k4 = 5 ∨ k4 = 6) with rfl | rfl | rfl | rfl | rfl | rfl | rfl
    · exact ⟨0, rfl, by decide⟩
    · exact ⟨0, rfl, by decide⟩
    · exact ⟨1, rfl, by decide⟩
    · exact ⟨2, rfl, by decide⟩
    · exact ⟨3, rfl, by decide⟩
    · exact ⟨1 + n0, rfl, by omega⟩
    · exact ⟨k3, rfl, by omega⟩
  obtain ⟨s0, e2, hs2⟩ := hs
  refine r_ixL e2 ?_
  repeat walk_at "d"
  exact ⟨⟨1 + n0, b0, s0⟩, ⟨by show 1 ≤ 1 + n0; omega, by show 1 + n0 ≤ 12; omega, hb1, hb2, hs2⟩, rfl⟩
structure TrA where
  n : Nat
  most : Nat
structure TrR (n most : Nat) (t : Trc) : Prop where
  ln : t.length ≤ most
  up : ∀ r ∈ t, r.Pairwise (· < ·)
  lt : ∀ r ∈ t, ∀ k ∈ r, k < n
theorem rise_len {r : List Nat} {n : Nat} (h1 : r.Pairwise (· < ·)) (h2 : ∀ k ∈ r, k < n) : r.length ≤ n := by
  have nd : r.Nodup := h1.imp fun h => Nat.ne_of_lt h
  have := List.Nodup.length_le_of_subset nd (l₂ := List.range n) fun k hk => List.mem_range.mpr (h2 k hk)
  rw [List.length_range] at this
  exact this
theorem TrR.ok {n most : Nat} {t : Trc} (h : TrR n most t) (hn : n ≤ 12) (hm : most ≤ 5000) : Trc.Ok n t := ⟨Nat.le_trans h.ln hm, fun r hr => Nat.le_trans (rise_len (h.up r hr) (h.lt r hr)) hn⟩
/-- keys that are sheets, each once -/
structure KeysN (n : Nat) (m : List (Key × PyData)) (ks : List Nat) : Prop where
  ek : m.map (·.1) = (natI ks).map Sum.inl
  nd : ks.Nodup
  lt : ∀ k ∈ ks, k < n
theorem KeysN.len {n : Nat} {m : List (Key × PyData)} {ks : List Nat} (h : KeysN n m ks) : ks.length ≤ n := by
  have := List.Nodup.length_le_of_subset h.nd (l₂ := List.range n) fun k hk => List.mem_range.mpr (h.lt k hk)
  rw [List.length_range] at this
  exact this
theorem KeysN.mlen {n : Nat} {m : List (Key × PyData)} {ks : List Nat} (h : KeysN n m ks) : m.length = ks.length := by
  have := congrArg List.length h.ek
  unfold natI at this
  simpa using this
theorem KeysN.put {n : Nat} {m : List (Key × PyData)} {ks : List Nat} (h : KeysN n m ks) {k : Nat} (hk : k < n) (d : PyData) : ∃ ks', KeysN n (putD m (.inl (k : Int)) d) ks' := by
  have mem : (m.any fun kv => decide (kv.1 = (Sum.inl (k : Int) : Key))) = true ↔ k ∈ ks := by
    rw [List.any_eq_true]
    constructor
    · rintro ⟨x, hx, e⟩
      have e := of_decide_eq_true e
      have : x.1 ∈ m.map (·.1) := List.mem_map.mpr ⟨x, hx, rfl⟩
      rw [h.ek, e] at this
      obtain ⟨z, hz, ez⟩ := List.mem_map.mp this
      obtain ⟨j, hj, rfl⟩ := List.mem_map.mp hz
      have := Sum.inl.inj ez
      have : j = k := by omega
      exact this ▸ hj
    · intro hk
      have : (Sum.inl (k : Int) : Key) ∈ m.map (·.1) := by
        rw [h.ek]
        exact List.mem_map.mpr ⟨(k : Int), List.mem_map.mpr ⟨k, hk, rfl⟩, rfl⟩
      obtain ⟨x, hx, e⟩ := List.mem_map.mp this
      exact ⟨x, hx, decide_eq_true e⟩
  unfold putD
  by_cases z : k ∈ ks
  · rw [if_pos (mem.mpr z)]
    refine ⟨ks, ?_, h.nd, h.lt⟩
    rw [List.map_map, ← h.ek]
    apply List.map_congr_left
    intro x _
    show (if x.1 = _ then (x.1, d) else x).1 = x.1
    split <;> rfl
  · rw [if_neg (fun q => z (mem.mp q))]
    refine ⟨ks ++ [k], ?_, ?_, fun j hj => ?_⟩
    · unfold natI
      rw [List.map_append, h.ek, List.map_append, List.map_append]
      rfl
    · rw [List.nodup_append]
      exact ⟨h.nd, List.pairwise_singleton .., fun a ha b hb e => by rw [List.mem_singleton.mp hb] at e; exact z (e ▸ ha)⟩
    · rcases List.mem_append.mp hj with hj | hj
      · exact h.lt j hj
      · rw [List.mem_singleton.mp hj]; exact hk
abbrev spLTr (K : PySem.W.Frag) (ts : List Addr) : Sp := SpXS (α := TrA) K ts (fun a => 1 ≤ a.n ∧ a.n ≤ 12 ∧ a.most ≤ 1000) (fun a => [.int a.n, .int a.most]) (fun a d => ∃ t : Trc, d = .list (trcD t) ∧ TrR a.n a.most t)
theorem sorted_nat {ys : List Int} {ks : List Nat} (hp : ys.Perm (natI ks)) (hw : ys.Pairwise (· ≤ ·)) (nd : ks.Nodup) : ∃ r : List Nat, ys = natI r ∧ r.Pairwise (· < ·) ∧ ∀ k ∈ r, k ∈ ks := by
  have hpos : ∀ y ∈ ys, 0 ≤ y := fun y hy => by
    obtain ⟨k, _, rfl⟩ := List.mem_map.mp (hp.mem_iff.mp hy)
    omega
  have hnd : ys.Nodup := hp.nodup_iff.mpr (by
    unfold natI
    exact List.Pairwise.map _ (fun a b h e => h (by omega)) nd)
  have e : ys = natI (ys.map Int.toNat) := by
    unfold natI
    rw [List.map_map]
    conv => lhs; rw [← List.map_id ys]
    apply List.map_congr_left
    intro y hy
    show y = ((y.toNat : Nat) : Int)
    rw [Int.toNat_of_nonneg (hpos y hy)]
  refine ⟨ys.map Int.toNat, e, ?_, fun k hk => ?_⟩
  · rw [List.pairwise_map]
    have both : ys.Pairwise fun a b => a ≤ b ∧ a ≠ b := List.Pairwise.and hw hnd
    refine List.Pairwise.imp_of_mem (fun {a b} ha hb h => ?_) both
    have h1 := hpos a ha
    have h2 := hpos b hb
    obtain ⟨h3, h4⟩ := h
    omega
  · obtain ⟨y, hy, rfl⟩ := List.mem_map.mp hk
    obtain ⟨j, hj, rfl⟩ := List.mem_map.mp (hp.mem_iff.mp hy)
    rw [Int.toNat_natCast]
    exact hj
abbrev LTr (n most : Nat) (often : List Nat) (found : Trc) : Lv := [some .pen, some (.d (.int n)), some (.d (.int most)), some (.d (.list (intsL (natI often)))), some (.own (.lst (trcD found))), none, none, none, none, none]
theorem natI_at {l : List Nat} {i : Nat} (h : i < l.length) : atI (intsL (natI l)) (i : Int) = some (.int ((l.getD i 0 : Nat) : Int)) := by
  refine atI_nat ?_
  unfold intsL natI
  rw [List.map_map, List.getElem?_map, List.getElem?_eq_getElem h, List.getD_eq_getElem?_getD, List.getElem?_eq_getElem h]
  rfl
theorem natI_len (l : List Nat) : (intsL (natI l)).length = l.length := by unfold intsL natI; rw [List.length_map, List.length_map]
theorem getD_mem' {l : List Nat} {i : Nat} (h : i < l.length) : l.getD i 0 ∈ l := by
  rw [List.getD_eq_getElem?_getD, List.getElem?_eq_getElem h]
  exact List.getElem_mem h
set_option maxHeartbeats 4000000 in
theorem ok_law_trace (T : Tx K mg base) : FnOk P w K mg base CX0 2 T.f_law_trace T.d_law_trace ["spring", "n", "most"] (spLTr K T.ts) := by
  refine fnXS T.F_law_trace sc_law_trace ⟨_, _, rfl⟩ (fun _ _ => rfl) (fun cdv A outer s H E hr => ⟨_, (pss_cons (ps_setLc (i := 3) (own := [("k", 9)]) (g := gName 9) (tt := tYes) rfl sc_law_trace.nd rfl rfl (sw_true rfl rfl rfl (by decide +kernel)) (pi_range1 rfl T.m_range (pa_cons (pe_op op_add pe_int (pe_call (ok_law_cup T) (hr.mono (by decide)) (by rfl) T.g_law_cup T.F_law_cup.kp T.b_law_cup .nil pass0 (pa_cons (pv 0) (pa_cons pe_int pa_nil)))) pa_nil)) (blkOk_by (own := [("k", 9)]) (N := ["spring", "n", "most", "often", "found", "beat", "row", "turn", "sheet", "k"]) (sc := defScope s_law_trace) (by decide +kernel)) (fun _ _ _ _ _ => (pg_name (i := 9) sc_law_trace.nd rfl (.inl rfl))) (fun _ _ _ _ _ => pts_nil) (fun _ _ _ _ _ => (pe_call (ok_law_cup T) (hr.mono (by decide)) (by rfl) T.g_law_cup T.F_law_cup.kp T.b_law_cup .nil pass0 (pa_cons (pv 0) (pa_cons (pv 1) pa_nil)))))
      (pss_cons (ps_set (i := 4) sc_law_trace.nd rfl (.inl rfl) (pe_lst pa_nil))
      (pss_cons (ps_for PassesOwn.never rfl (pi_range1 rfl T.m_range (pa_cons (pe_call (ok_law_cup T) (hr.mono (by decide)) (by rfl) T.g_law_cup T.F_law_cup.kp T.b_law_cup .nil pass0 (pa_cons (pv 0) (pa_cons (pe_op op_add (pv 2) pe_int) pa_nil))) pa_nil)) (pg_name (i := 5) sc_law_trace.nd rfl (.inl rfl))
      (pss_cons (ps_set (i := 6) sc_law_trace.nd rfl (.inl rfl) pe_dnewK)
      (pss_cons (ps_for PassesOwn.never rfl (pi_range1 rfl T.m_range (pa_cons (pe_ix (kx_ixL K rfl) (pe_lst (pa_cons pe_int (pa_cons pe_int (pa_cons pe_int (pa_cons pe_int (pa_cons pe_int (pa_cons (pv 1) pa_nil))))))) (pe_call (ok_law_cup T) (hr.mono (by decide)) (by rfl) T.g_law_cup T.F_law_cup.kp T.b_law_cup .nil pass0 (pa_cons (pv 0) (pa_cons pe_int pa_nil))) (fun _ _ => rfl)) pa_nil)) (pg_name (i := 7) sc_law_trace.nd rfl (.inl rfl))
      (pss_cons (ps_set (i := 8) sc_law_trace.nd rfl (.inl rfl) (pe_call (ok_law_cup T) (hr.mono (by decide)) (by rfl) T.g_law_cup T.F_law_cup.kp T.b_law_cup .nil pass0 (pa_cons (pv 0) (pa_cons (pv 1) pa_nil))))
      (pss_one (ps_dput (hu_of hr) (pv 6) (pe_ix (kx_ixL K rfl) (pe_lst (pa_cons (pv 8) (pa_cons (pe_ix (kx_ixL K rfl) (pv 3) (pe_op op_mod (pv 8) (pe_callB (kx_len K rfl) (by rfl) T.m_len PySem.boot_len (pa_cons (pv 3) pa_nil))) (fun _ _ => rfl)) pa_nil))) (pe_callTy call_int1 (by rfl) T.m_int (by decide +kernel) (pa_cons (pe_cmpR op_gt (pe_call (ok_law_cup T) (hr.mono (by decide)) (by rfl) T.g_law_cup T.F_law_cup.kp T.b_law_cup .nil pass0 (pa_cons (pv 0) (pa_cons pe_int pa_nil))) pe_int (nomark _)) pa_nil)) (fun _ _ => rfl)) pe_bl rfl))))
      (pss_one (ps_expr (pe_bm PySem.F.plainAttrs_list PySem.F.slot_list_append PySem.F.type_list_append mt_append (pv 4) (pa_cons (pe_callTy (kx_tuple K rfl) (by rfl) T.m_tuple (by decide +kernel) (pa_cons (pe_callB (kx_sortDI rfl) (by rfl) T.m_sorted (by decide +kernel) (pa_cons (pv 6) pa_nil)) pa_nil)) pa_nil)))))))
      (pss_one (ps_ret (pv 4)))))), fun pa a ha => ?_⟩)
  obtain ⟨n, most⟩ := a
  obtain ⟨hn1, hn2, hm⟩ := ha
  dsimp only at hn1 hn2 hm
  try simp only [nox_K, blk_K, cx_K]
  show S K ⟨some ⟨pa, .spr⟩, T.ts⟩ H _ [some .pen, some (.d _), some (.d _), none, none, none, none, none, none, none] _
  refine s_seq (s_asg (e_lcI (it_rng ?_)))
  repeat walk_at "d"
  rename_i c hc
  refine ⟨by omega, by omega, by rw [rngL_len]; omega, fun i acc => ∃ l : List Nat, acc = intsL (natI l) ∧ l.length = i ∧ ∀ v ∈ l, v < n, ⟨[], rfl, rfl, fun v hv => (nomatch hv)⟩, fun i d acc hd ⟨l, ea, el, eo⟩ => ?_, fun acc ⟨often, ea, el, eo⟩ => ?_⟩
  · subst ea
    refine gw_name (by decide) ?_
    dsimp only [List.map, wipeL, List.set]
    repeat walk_at "d"
    rename_i v hv
    refine ⟨l ++ [v], by unfold intsL natI; rw [List.map_append, List.map_append]; rfl, by rw [List.length_append, el]; rfl, fun u hu => ?_⟩
    rcases List.mem_append.mp hu with hu | hu
    · exact eo u hu
    · rw [List.mem_singleton.mp hu]; omega
  · subst ea
    rw [rngL_len] at el
    dsimp only [List.set]
    refine s_seq (s_ownNil ?_)
    dsimp only [List.set]
    refine s_seq (s_forI (it_rng ?_))
    repeat walk_at "d"
    rename_i beats hbeats
    refine ⟨by omega, by omega, fun i L => ∃ t : Trc, t.length = i ∧ (∀ r ∈ t, r.Pairwise (· < ·)) ∧ (∀ r ∈ t, ∀ k ∈ r, k < n) ∧ L = LTr n most often t, ⟨_, Sub.refl _, [], rfl, fun r hr => (nomatch hr), fun r hr => (nomatch hr), rfl⟩, fun i d L' hd ⟨t, t1, t2, t3, e⟩ => ?_, fun L' hI L4 s4 => ?_⟩
    · subst e
      obtain ⟨hi, rfl⟩ := rngL_get hd
      refine g_name ?_
      dsimp only [List.set]
      refine s_seq (s_dnew ?_)
      dsimp only [List.set]
      refine s_cut (fun L => ∃ m ks, KeysN n m ks ∧ Sub [some .pen, some (.d (.int n)), some (.d (.int most)), some (.d (.list (intsL (natI often)))), some (.own (.lst (trcD t))), none, some (.own (.dK m)), none, none, none] L) (s_forI (it_rng ?_)) fun L' ⟨m, ks, hk, sb⟩ => S.sub ?_ sb
      · repeat walk_at "d"
        rename_i k0 hk0
        have hmm : ∃ q : Nat, atI [PyData.int 0, .int 0, .int 1, .int 1, .int 2, .int (n : Int)] (k0 : Int) = some (.int q) ∧ q ≤ 12 := by
          rcases (by omega : k0 = 0 ∨ k0 = 1 ∨ k0 = 2 ∨ k0 = 3 ∨ k0 = 4 ∨ k0 = 5) with rfl | rfl | rfl | rfl | rfl | rfl
          · exact ⟨0, rfl, by decide⟩
          · exact ⟨0, rfl, by decide⟩
          · exact ⟨1, rfl, by decide⟩
          · exact ⟨1, rfl, by decide⟩
          · exact ⟨2, rfl, by decide⟩
          · exact ⟨n, rfl, hn2⟩
        obtain ⟨turns, e0, htu⟩ := hmm
        refine r_ixL e0 ?_
        repeat walk_at "d"
        refine ⟨by omega, by omega, fun j L => ∃ m ks, KeysN n m ks ∧ L = [some .pen, some (.d (.int n)), some (.d (.int most)), some (.d (.list (intsL (natI often)))), some (.own (.lst (trcD t))), none, some (.own (.dK m)), none, none, none], ⟨_, ?_, [], [], ⟨rfl, List.Pairwise.nil, fun k hk => (nomatch hk)⟩, rfl⟩, fun j d L' hd ⟨m, ks, hk, e⟩ => ?_, fun L' ⟨m, ks, hk, e⟩ L4 s4 => ⟨m, ks, hk, e ▸ s4⟩⟩
        · repeat (first | exact Sub.nil | apply Sub.keep | apply Sub.drop)
        · subst e
          obtain ⟨hj, rfl⟩ := rngL_get hd
          refine g_name ?_
          dsimp only [List.set]
          refine s_seq (s_asg ?_)
          repeat walk_at "d"
          rename_i sheet hsh
          have hml := hk.mlen
          have hkl := hk.len
          refine s_dput rfl (by omega) ?_
          repeat walk_at "d"
          rw [natI_len]
          refine r_mod (by omega) ?_
          rw [show ((sheet : Int) % (often.length : Int)) = ((sheet % often.length : Nat) : Int) from rfl]
          refine r_ixL (natI_at (Nat.mod_lt _ (by omega))) ?_
          repeat walk_at "d"
          rename_i z hz
          have hpick : ∃ q : Nat, atI [PyData.int (sheet : Int), .int ((often.getD (sheet % often.length) 0 : Nat) : Int)] (if decide ((0 : Int) < z) = true then (1 : Int) else 0) = some (.int q) ∧ q < n := by
            by_cases hb : (0 : Int) < z
            · rw [if_pos (decide_eq_true hb)]
              exact ⟨_, rfl, eo _ (getD_mem' (Nat.mod_lt _ (by omega)))⟩
            · rw [if_neg (by rw [decide_eq_true_eq]; exact hb)]
              exact ⟨sheet, rfl, by omega⟩
          obtain ⟨q, eq, hq⟩ := hpick
          refine r_ixL eq ?_
          obtain ⟨ks', hk'⟩ := hk.put hq (.bool true)
          refine ⟨.inl (q : Int), rfl, _, ?_, _, ks', hk', rfl⟩
          repeat (first | exact Sub.nil | apply Sub.keep | apply Sub.drop)
      · have hkl := hk.len
        refine s_appOwn rfl (by rw [trcD_len]; omega) ?_
        refine e_cb (ea_cons (e_ofL (el_sortD (ks := natI ks) (.inl rfl) hk.ek (by unfold natI; rw [List.length_map]; omega) fun ys hp hw => ?_)))
        obtain ⟨r, er, r1, r2⟩ := sorted_nat hp hw hk.nd
        rw [er]
        refine ea_nil (c_tuple (Or.inr rfl) ?_)
        dsimp only [List.set]
        refine ⟨LTr n most often (t ++ [r]), ?_, t ++ [r], by rw [List.length_append, t1]; rfl, fun u hu => ?_, fun u hu => ?_, rfl⟩
        · rw [show trcD t ++ [PyData.tuple (intsL (natI r))] = trcD (t ++ [r]) from by unfold trcD; rw [List.map_append]; rfl]
          repeat (first | exact Sub.nil | apply Sub.keep | apply Sub.drop)
        · rcases List.mem_append.mp hu with hu | hu
          · exact t2 u hu
          · rw [List.mem_singleton.mp hu]; exact r1
        · rcases List.mem_append.mp hu with hu | hu
          · exact t3 u hu
          · rw [List.mem_singleton.mp hu]; exact fun k hk2 => hk.lt k (r2 k hk2)
    · obtain ⟨t, t1, t2, t3, e⟩ := hI
      subst e
      rw [rngL_len] at t1
      refine S.sub ?_ s4
      refine s_retL ?_
      dsimp only [lookL, lookA, List.map]
      repeat walk_at "d"
      exact ⟨by show t.length ≤ most; omega, t2, t3⟩
end
end K15
set_option Elab.async false
set_option linter.all false
set_option maxRecDepth 100000
namespace K15
open PySem PySem.Spec PyProof.Rows L2 Dl Wm
local macro_rules | `(tactic| walk_at "e") => `(tactic| first
  | ((with_reducible refine e_var (by with_unfolding_all exact rfl) ?_))
  | with_reducible refine e_int ?_
  | with_reducible refine e_str ?_
  | with_reducible refine e_bl ?_
  | with_reducible refine e_non ?_
  | ((with_reducible refine e_pen (by with_unfolding_all exact rfl) (Or.inr rfl) ?_); intro z hz)
  | ((with_reducible refine e_pen (by with_unfolding_all exact rfl) (Or.inl rfl) ?_); intro z hz)
  | ((with_reducible refine e_penIx (by with_unfolding_all exact rfl) ?_))
  | ((with_reducible refine e_spr (by with_unfolding_all exact rfl) ?_); intro z)
  | with_reducible refine e_op ?_
  | with_reducible refine e_tup ?_
  | with_reducible refine e_lst ?_
  | with_reducible refine ea_cons ?_
  | with_reducible refine ea_nil ?_
  | ((with_reducible refine e_penLen (by with_unfolding_all exact rfl) ?_))
  | ((with_reducible refine e_lenOwn (by with_unfolding_all exact rfl) ?_))
  | ((with_reducible refine e_tupOwn (by with_unfolding_all exact rfl) ?_))
  | ((with_reducible refine s_aug (by with_unfolding_all exact rfl) ?_); (try dsimp only [List.set]))
  | with_reducible refine e_callXF ?_
  | with_reducible refine r_ipI ?_
  | with_reducible refine e_un ?_
  | with_reducible refine r_neg ?_
  | with_reducible refine gws_cons ?_
  | with_reducible refine gws_nil ?_
  | with_reducible refine gw_tup rfl ?_
  | ((with_reducible refine gw_name (by decide) ?_); (try dsimp only [List.set]))
  | with_reducible refine e_isI ?_
  | with_reducible refine e_isB ?_
  | with_reducible refine e_isS ?_
  | with_reducible refine e_isTu ?_
  | with_reducible refine e_isL ?_
  | with_reducible refine e_cb ?_
  | with_reducible refine e_sl ?_
  | with_reducible refine eo_none ?_
  | with_reducible refine eo_some ?_
  | with_reducible refine et_test ?_
  | with_reducible refine et_B ?_
  | with_reducible refine et_and ?_
  | with_reducible refine et_or ?_
  | with_reducible refine et_not ?_
  | with_reducible refine et_yes ?_
  | with_reducible refine e_andV ?_
  | with_reducible refine e_orV ?_
  | with_reducible refine e_notV ?_
  | with_reducible refine e_if ?_
  | with_reducible refine e_chain ?_
  | with_reducible refine e_callX ?_
  | ((with_reducible refine e_callXP (by with_unfolding_all exact rfl) ?_ (by with_unfolding_all exact trivial)))
  | ((with_reducible refine s_seq ?_); (try dsimp only [List.set]))
  | with_reducible refine s_next ?_
  | with_reducible refine s_ret ?_
  | ((with_reducible refine s_pen (by with_unfolding_all exact rfl) (Or.inr rfl) ?_))
  | ((with_reducible refine s_pen (by with_unfolding_all exact rfl) (Or.inl rfl) ?_))
  | ((with_reducible refine s_spr (by with_unfolding_all exact rfl) ?_))
  | ((with_reducible refine s_putOwn (by with_unfolding_all exact rfl) ?_ (by with_unfolding_all exact rfl)))
  | with_reducible refine s_asg ?_
  | with_reducible refine s_asgG ?_
  | with_reducible refine s_if ?_
  | with_reducible refine g_name ?_
  | with_reducible refine g_tup rfl ?_
  | with_reducible refine gs_cons ?_
  | with_reducible refine gs_nil ?_
  | with_reducible refine r_lt ?_
  | with_reducible refine r_le ?_
  | with_reducible refine r_gt ?_
  | with_reducible refine r_ge ?_
  | with_reducible refine r_add ?_
  | with_reducible refine r_sub ?_
  | with_reducible refine r_eqI ?_
  | with_reducible refine r_eqS ?_
  | with_reducible refine r_eqB ?_
  | with_reducible refine r_neI ?_
  | with_reducible refine r_neB ?_
  | with_reducible refine c_min2 ?_
  | with_reducible refine c_max2 ?_
  | with_reducible refine c_intB ?_
  | with_reducible refine c_len (Or.inl rfl) ?_
  | with_reducible refine c_len (Or.inr rfl) ?_
  | with_reducible refine c_list (Or.inl rfl) ?_
  | with_reducible refine c_list (Or.inr rfl) ?_
  | with_reducible refine c_tuple (Or.inl rfl) ?_
  | with_reducible refine c_tuple (Or.inr rfl) ?_
  | with_reducible refine r_ixT (by with_unfolding_all exact rfl) ?_
  | with_reducible refine r_ixL (by with_unfolding_all exact rfl) ?_
  | with_reducible refine r_slT ?_
  | with_reducible refine r_slL ?_
  | with_reducible refine r_isNone ?_
  | with_reducible refine r_notBl ?_
  | with_reducible refine eps_cons ?_
  | with_reducible refine eps_nil ?_
  | with_reducible refine e_dget1 ?_
  | with_reducible refine ed_callX ?_
  | with_reducible refine ⟨_, rfl, ?_⟩
  | with_reducible refine And.intro (Nat.le_of_ble_eq_true rfl) ?_)
local macro_rules | `(tactic| walk_at "t") => `(tactic| first
  | walk_at "e"
  | refine r_modAny (by first | omega | decide) fun z z0 z1 => ?_
  | refine r_mul (by first | exact Or.inr ⟨by decide, by decide⟩ | exact Or.inl ⟨by decide, by decide⟩ | exact Or.inl ⟨by omega, by omega⟩) ?_
  | refine r_pow ⟨by decide, by decide, by decide⟩ ?_
  | refine r_fdivW (by first | assumption | (rename_i hw _; exact hw _) | exact wide_div (b := 200) (by decide) (by decide) (by decide) (by decide)) ?_
  | with_reducible refine And.intro (by omega) ?_)
local macro_rules | `(tactic| walk_at "k") => `(tactic| first
  | walk_at "e"
  | with_reducible refine ⟨fun hb => absurd hb (by decide +kernel), fun _ => ?_⟩
  | with_reducible refine ⟨fun _ => ?_, fun hb => absurd hb (by decide +kernel)⟩
  | refine ⟨fun hb => absurd hb Bool.false_ne_true, fun _ => ?_⟩
  | refine ⟨fun _ => ?_, fun hb => absurd hb.symm Bool.false_ne_true⟩)
local macro_rules | `(tactic| walk_at "d") => `(tactic| first
  | walk_at "k"
  | refine And.intro (show WfTake _ from ⟨by omega, by omega⟩) (take_all fun k hk => ?_))
local macro_rules | `(tactic| walk_at "o") => `(tactic| first
  | with_reducible refine s_ownList ?_
  | walk_at "d"
  | with_reducible refine ⟨_, Or.inl rfl, ?_⟩)
local macro_rules | `(tactic| walk_at "c") => `(tactic| first
  | with_reducible refine e_ofL (el_catL ?_)
  | with_reducible refine e_ofL (el_sortP ?_)
  | with_reducible refine e_ofL (el_sortSetP ?_)
  | with_reducible refine e_ofL (el_revL ?_)
  | walk_at "d")

section
variable {P : Program} {w : World} {K : PySem.W.Frag} {mg : Str → Option Value} {base : Heap}
theorem ltPr_of {a b : Int × Int} (h : a.1 < b.1 ∨ (a.1 = b.1 ∧ a.2 < b.2)) : ltPr a b = true := by
  obtain ⟨a1, a2⟩ := a
  obtain ⟨b1, b2⟩ := b
  dsimp only at h
  show PySem.W.dataLt (.tuple [.int a1, .int a2]) (.tuple [.int b1, .int b2]) = true
  rw [PySem.W.dataLt_tuple]
  have ne : ∀ x y : Int, x < y → PyData.eqv (.int x) (.int y) = false := fun x y h => by
    show decide (x = y) = false
    exact decide_eq_false (by omega)
  rcases h with h | ⟨h, h2⟩
  · rw [PySem.W.dataLt_all_no (by rfl) (ne _ _ h), PySem.W.dataLt_int]
    exact decide_eq_true h
  · subst h
    rw [PySem.W.dataLt_all_yes (x := .int a1) (y := .int a1) (by rfl) (show decide (a1 = a1) = true from decide_eq_true rfl), PySem.W.dataLt_all_no (by rfl) (ne _ _ h2), PySem.W.dataLt_int]
    exact decide_eq_true h2
theorem perm_of {α : Type} [BEq α] [LawfulBEq α] {l m : List α} (h : l.Nodup) (hs : ∀ x ∈ l, x ∈ m) (hl : m.length ≤ l.length) : l.Perm m := by
  induction l generalizing m with
  | nil =>
    have : m = [] := List.length_eq_zero_iff.mp (Nat.le_zero.mp hl)
    rw [this]
  | cons x l ih =>
    rw [List.nodup_cons] at h
    have hx := hs x (List.mem_cons_self ..)
    have hp := List.perm_cons_erase hx
    refine List.Perm.trans (List.Perm.cons x (ih (m := m.erase x) h.2 (fun y hy => ?_) ?_)) hp.symm
    · have : y ≠ x := fun z => h.1 (z ▸ hy)
      exact (List.mem_erase_of_ne this).mpr (hs y (List.mem_cons_of_mem _ hy))
    · rw [List.length_erase_of_mem hx]
      rw [List.length_cons] at hl
      omega
theorem eqv_int (a b : Int) : PyData.eqv (.int a) (.int b) = decide (a = b) := by
  unfold PyData.eqv
  by_cases h : a = b
  · rw [decide_eq_true h, h]; exact beq_self_eq_true _
  · rw [decide_eq_false h]; exact beq_eq_false_iff_ne.mpr h
theorem eqv_pair (a c : Int × Int) : PyData.eqv (Dl.pairD a) (Dl.pairD c) = decide (a = c) := by
  show (PyData.eqv (.int a.1) (.int c.1) && (PyData.eqv (.int a.2) (.int c.2) && true)) = _
  rw [eqv_int, eqv_int, Bool.and_true, ← Bool.decide_and]
  exact decide_eq_decide.mpr Prod.ext_iff.symm
theorem eqvAll_len : ∀ {xs ys : List PyData}, PyData.eqvAll xs ys = true → xs.length = ys.length
  | [], [], _ => rfl
  | x :: xs, y :: ys, h => by
    rw [PyData.eqvAll, Bool.and_eq_true] at h
    rw [List.length_cons, List.length_cons, eqvAll_len h.2]
  | [], _ :: _, h => by rw [PyData.eqvAll] at h; cases h
  | _ :: _, [], h => by rw [PyData.eqvAll] at h; cases h
theorem any_ints (l : List Int) (x : Int) : ((intsL l).any fun z => PyData.eqv z (.int x)) = decide (x ∈ l) := by
  unfold intsL
  rw [List.any_map]
  induction l with
  | nil => rfl
  | cons a l ih =>
    rw [List.any_cons, ih]
    show (PyData.eqv (.int a) (.int x) || decide (x ∈ l)) = decide (x ∈ a :: l)
    rw [eqv_int, ← Bool.decide_or]
    exact decide_eq_decide.mpr ⟨fun h => h.elim (fun e => e ▸ List.mem_cons_self ..) (List.mem_cons_of_mem _), fun h => (List.mem_cons.mp h).imp Eq.symm id⟩
def matchC (stop p : Int) (c : Int × Int) : Prop := 0 ≤ c.1 ∧ c.1 < stop ∧ c.2 = p
theorem lastC_same {stop p : Int} {cs cs' : List (Int × Int)} (h : ∀ c, matchC stop p c → (c ∈ cs ↔ c ∈ cs')) : lastC stop p cs = lastC stop p cs' := by
  obtain ⟨n1, s1⟩ := lastC_spec stop p cs
  obtain ⟨n2, s2⟩ := lastC_spec stop p cs'
  cases e1 : lastC stop p cs with
  | none =>
    refine (n2.mpr fun c hc hm => ?_).symm
    exact n1.mp e1 c ((h c hm).mpr hc) hm
  | some m =>
    obtain ⟨_, ⟨c, hc, rfl, hm⟩, hu⟩ := s1 m e1
    cases e2 : lastC stop p cs' with
    | none => exact absurd hm (n2.mp e2 c ((h c hm).mp hc))
    | some m' =>
      obtain ⟨_, ⟨c', hc', rfl, hm'⟩, hu'⟩ := s2 m' e2
      have g1 := hu c' ((h c' hm').mpr hc') hm'
      have g2 := hu' c ((h c hm).mp hc) hm
      rw [show c.1 = c'.1 by omega]
theorem stale_same {t : Trc} {stop : Int} {p : Nat} {cs cs' : List (Int × Int)} (h : lastC stop p cs = lastC stop p cs') : stale t cs stop p = stale t cs' stop p := by
  unfold stale
  rw [h]
theorem left_same {n : Nat} {t : Trc} {stop : Int} {cs cs' : List (Int × Int)} (h : ∀ p : Nat, p < n → stale t cs stop p = stale t cs' stop p) : leftF n t cs stop = leftF n t cs' stop := by
  unfold leftF
  exact List.filter_congr fun p hp => h p (List.mem_range.mp hp)
/-- fewer copies of a sheet that is left: it is left as well -/
theorem left_fewer {n : Nat} {t : Trc} {stop : Int} {cs : List (Int × Int)} {c : Int × Int} {q : Nat} (hq : c.2 = (q : Int)) (hl : q ∈ leftF n t cs stop) : leftF n t (cs.filter fun x => !decide (x = c)) stop = leftF n t cs stop := by
  refine left_same fun p hp => ?_
  by_cases e : p = q
  · subst e
    have hst : stale t cs stop p = true := (List.mem_filter.mp hl).2
    rw [hst]
    unfold stale
    cases e2 : lastC stop p (cs.filter fun x => !decide (x = c)) with
    | none => rfl
    | some m' =>
      obtain ⟨_, ⟨c', hc', rfl, hm'⟩, _⟩ := (lastC_spec stop p _).2 m' e2
      have hc1 : c' ∈ cs := (List.mem_filter.mp hc').1
      unfold stale at hst
      cases e1 : lastC stop p cs with
      | none => exact absurd hm' ((lastC_spec stop p cs).1.mp e1 c' hc1)
      | some m =>
        rw [e1] at hst
        have h1 := of_decide_eq_true hst
        have h2 := ((lastC_spec stop p cs).2 m e1).2.2 c' hc1 hm'
        exact decide_eq_true (by omega)
  · refine stale_same (lastC_same fun x hx => ?_)
    refine ⟨fun h => (List.mem_filter.mp h).1, fun h => List.mem_filter.mpr ⟨h, ?_⟩⟩
    have : x ≠ c := fun z => e (by
      subst z
      have := hx.2.2
      omega)
    rw [decide_eq_false this]
    rfl
/-- each sheet is copied or left -/
theorem all_sheets {n : Nat} {t : Trc} {stop : Int} {cs : List (Int × Int)} : ∀ x ∈ natI (List.range n), x ∈ cs.map (·.2) ++ natI (leftF n t cs stop) := fun x hx => by
  obtain ⟨p, hp, rfl⟩ := List.mem_map.mp hx
  by_cases e : stale t cs stop p = true
  · exact List.mem_append.mpr (.inr (List.mem_map.mpr ⟨p, List.mem_filter.mpr ⟨hp, e⟩, rfl⟩))
  · refine List.mem_append.mpr (.inl ?_)
    unfold stale at e
    cases e1 : lastC stop p cs with
    | none => rw [e1] at e; exact absurd rfl e
    | some m =>
      obtain ⟨_, ⟨c, hc, _, hm⟩, _⟩ := (lastC_spec stop p cs).2 m e1
      exact List.mem_map.mpr ⟨c, hc, hm.2.2⟩
theorem natI_nodup {l : List Nat} (h : l.Nodup) : (natI l).Nodup := by
  unfold natI
  rw [List.nodup_iff_pairwise_ne, List.pairwise_map]
  exact (List.nodup_iff_pairwise_ne.mp h).imp fun h z => h (by omega)
theorem natJ_len (l : List Nat) : (natI l).length = l.length := List.length_map _
theorem sheets_len (n : Nat) (t : Trc) (stop : Int) (cs : List (Int × Int)) : n ≤ cs.length + (leftF n t cs stop).length := by
  have := nodup_sub (natI_nodup List.nodup_range) (all_sheets (n := n) (t := t) (stop := stop) (cs := cs))
  rw [natJ_len, List.length_range, List.length_append, List.length_map, natJ_len] at this
  exact this
theorem range_up (n : Nat) : (natI (List.range n)).Pairwise (· ≤ ·) := by
  unfold natI
  rw [List.pairwise_map]
  exact List.pairwise_le_range.imp fun h => by omega
theorem once_iff {n : Nat} {t : Trc} {stop : Int} {cs : List (Int × Int)} {ms : List Int} (hp : ms.Perm (cs.map (·.2) ++ natI (leftF n t cs stop))) (hs : ms.Pairwise (· ≤ ·)) : (cs.length + (leftF n t cs stop).length = n → ms = natI (List.range n)) ∧ (cs.length + (leftF n t cs stop).length ≠ n → ms.length ≠ n) := by
  have hl : ms.length = cs.length + (leftF n t cs stop).length := by rw [hp.length_eq, List.length_append, List.length_map, natJ_len]
  refine ⟨fun h => ?_, fun h z => h (by omega)⟩
  have h2 := perm_of (natI_nodup List.nodup_range) (all_sheets (n := n) (t := t) (stop := stop) (cs := cs)) (by rw [natJ_len, List.length_range, List.length_append, List.length_map, natJ_len]; omega)
  exact List.Perm.eq_of_pairwise (le := (· ≤ ·)) (fun a b _ _ h1 h2 => Int.le_antisymm h1 h2) hs (range_up n) (hp.trans h2.symm)
/-- a plan's copies: each copied sheet is not left -/
theorem plan_stale {n : Nat} {t : Trc} {b left : Nat} {stop : Int} {qs : List (Int × Int)} (hs : 0 ≤ stop) (h : CopOk (lastsF n t stop) b left stop qs) {p : Nat} (hp : p < n) : stale t qs stop p = !decide ((p : Int) ∈ qs.map (·.2)) := by
  have hin := lastsF_in (n := n) (t := t) hs
  have rng : ∀ c ∈ qs, ∃ p : Nat, c.2 = (p : Int) ∧ p < n ∧ lastW t stop (p : Nat) < c.1 ∧ c.1 < stop ∧ 0 ≤ c.1 := fun c hc => by
    obtain ⟨p, h1, h2, h3, h4⟩ := h.rng c hc
    rw [lastsF_len] at h2
    have e : (lastsF n t stop).getD p 0 = lastW t stop (p : Nat) := by
      unfold lastsF
      rw [List.getD_eq_getElem?_getD, List.getElem?_map, List.getElem?_range h2]
      rfl
    have h5 : (lastsF n t stop).getD p 0 ∈ lastsF n t stop := by
      rw [List.getD_eq_getElem?_getD, List.getElem?_eq_getElem (by rw [lastsF_len]; exact h2)]
      exact List.getElem_mem _
    have h6 := (hin _ h5).1
    exact ⟨p, h1, h2, by rw [← e]; exact h3, h4, by omega⟩
  unfold stale
  cases e1 : lastC stop p qs with
  | none =>
    rw [decide_eq_false]
    · rfl
    · intro z
      obtain ⟨c, hc, e⟩ := List.mem_map.mp z
      obtain ⟨q, g1, g2, g3, g4, g5⟩ := rng c hc
      exact (lastC_spec stop p qs).1.mp e1 c hc ⟨g5, g4, e⟩
  | some m =>
    obtain ⟨_, ⟨c, hc, rfl, hm⟩, _⟩ := (lastC_spec stop p qs).2 m e1
    rw [decide_eq_true (List.mem_map.mpr ⟨c, hc, hm.2.2⟩)]
    obtain ⟨q, g1, g2, g3, g4, g5⟩ := rng c hc
    have : q = p := by have := hm.2.2; omega
    subst this
    exact decide_eq_false (by omega)
theorem filter_two (l : List Nat) (f : Nat → Bool) : (l.filter f).length + (l.filter fun x => !f x).length = l.length := by
  induction l with
  | nil => rfl
  | cons x l ih =>
    rw [List.filter_cons, List.filter_cons, List.length_cons]
    cases f x <;> simp <;> omega
theorem plan_left {n : Nat} {t : Trc} {b left : Nat} {stop : Int} {qs : List (Int × Int)} (hs : 0 ≤ stop) (h : CopOk (lastsF n t stop) b left stop qs) : qs.length + (leftF n t qs stop).length = n := by
  have e : leftF n t qs stop = (List.range n).filter fun p : Nat => !decide ((p : Int) ∈ qs.map (·.2)) := by
    unfold leftF
    exact List.filter_congr fun p hp => plan_stale hs h (List.mem_range.mp hp)
  have h2 := filter_two (List.range n) fun p : Nat => decide ((p : Int) ∈ qs.map (·.2))
  rw [List.length_range] at h2
  rw [e]
  have h3 : ((List.range n).filter fun p : Nat => decide ((p : Int) ∈ qs.map (·.2))).length = qs.length := by
    refine Nat.le_antisymm ?_ ?_
    · have hnd : ((List.range n).filter fun p : Nat => decide ((p : Int) ∈ qs.map (·.2))).Nodup := List.Pairwise.filter _ List.nodup_range
      have := nodup_sub (natI_nodup hnd) (m := qs.map (·.2)) fun x hx => by
        obtain ⟨p, hp, rfl⟩ := List.mem_map.mp hx
        exact of_decide_eq_true (List.mem_filter.mp hp).2
      rw [natJ_len, List.length_map] at this
      exact this
    · have := nodup_sub h.nd (m := natI ((List.range n).filter fun p : Nat => decide ((p : Int) ∈ qs.map (·.2)))) fun x hx => by
        obtain ⟨c, hc, rfl⟩ := List.mem_map.mp hx
        obtain ⟨p, h1, h2, _⟩ := h.rng c hc
        rw [lastsF_len] at h2
        exact List.mem_map.mpr ⟨p, List.mem_filter.mpr ⟨List.mem_range.mpr h2, decide_eq_true (by rw [← h1]; exact hx)⟩, h1.symm⟩
      rw [natJ_len, List.length_map] at this
      exact this
  omega
theorem plan_again {n : Nat} {t : Trc} {stop : Int} {qs : List (Int × Int)} {c : Int × Int} (hc : c ∈ qs) : leftF n t (qs ++ [c]) stop = leftF n t qs stop :=
  left_same fun p _ => stale_same (lastC_same fun x _ => ⟨fun h => (List.mem_append.mp h).elim id fun h => by rw [List.mem_singleton.mp h]; exact hc, fun h => List.mem_append.mpr (.inl h)⟩)
theorem cut_last (ds : List PyData) (d : PyData) : Dl.cutD (ds ++ [d]) (some (-1)) none = [d] := by
  show ((ds ++ [d]).drop (HT.sIx (ds ++ [d]).length 0 (some (-1)))).take ((ds ++ [d]).length - HT.sIx (ds ++ [d]).length 0 (some (-1))) = [d]
  have e : HT.sIx (ds ++ [d]).length 0 (some (-1)) = ds.length := by
    show (if (-1 : Int) < 0 then ((-1 : Int) + ((ds ++ [d]).length : Int)).toNat else min (-1 : Int).toNat (ds ++ [d]).length) = _
    rw [if_pos (by decide), List.length_append, List.length_singleton]
    omega
  rw [e, List.drop_left, List.length_append]
  exact List.take_of_length_le (by simp)
theorem plan_ok {n : Nat} {t : Trc} {b left : Nat} {stop : Int} {qs : List (Int × Int)} (hs : 0 ≤ stop) (h : CopOk (lastsF n t stop) b left stop qs) : planB ⟨n, t, (b : Int), (n : Int), qs, stop⟩ = true := by
  have hin := lastsF_in (n := n) (t := t) hs
  unfold planB
  dsimp only
  rw [decide_eq_true hs, Bool.true_and, Bool.and_eq_true, Bool.and_eq_true, Bool.and_eq_true]
  refine ⟨(risB_iff qs).mpr fun i c e hc he => ?_, ?_, ?_, ?_⟩
  · obtain ⟨i1, e1⟩ := List.getElem?_eq_some_iff.mp hc
    obtain ⟨i2, e2⟩ := List.getElem?_eq_some_iff.mp he
    have := List.pairwise_iff_getElem.mp h.srt i (i + 1) i1 i2 (Nat.lt_succ_self i)
    rw [e1, e2] at this
    exact ltPr_of this
  · rw [List.all_eq_true]
    intro c hc
    obtain ⟨p, h1, h2, h3, h4⟩ := h.rng c hc
    have h5 : (lastsF n t stop).getD p 0 ∈ lastsF n t stop := by
      rw [List.getD_eq_getElem?_getD, List.getElem?_eq_getElem h2]
      exact List.getElem_mem _
    have h6 := (hin _ h5).1
    rw [lastsF_len] at h2
    unfold inB
    rw [decide_eq_true (show 0 ≤ c.1 by omega), decide_eq_true h4, decide_eq_true (show 0 ≤ c.2 by omega), decide_eq_true (show c.2 < (n : Int) by omega)]
    rfl
  · unfold fewB
    rw [List.all_eq_true]
    intro c hc
    have := h.tick c.1
    unfold cntT
    exact decide_eq_true (by omega)
  · refine decide_eq_true ?_
    have : (leftF n t qs stop).length ≤ (List.range n).length := List.length_filter_le _ _
    rw [List.length_range] at this
    omega
theorem max_same {l : List Int} {b stop x y : Int} (hx : MaxAt l b stop x) (hy : MaxAt l b stop y) : lackB l b stop x = lackB l b stop y := Int.le_antisymm (hy.2 x hx.1) (hx.2 y hy.1)
structure DrOk (n stop : Nat) (k : Nat) (m : List (NestedKey × PyData)) (ps : List (Int × Int)) : Prop where
  key : m.map (·.1) = ps.map Gn.pairK
  len : ps.length ≤ k
  nd : ps.Nodup
  rng : ∀ c ∈ ps, 0 ≤ c.1 ∧ c.1 < (stop : Int) ∧ 0 ≤ c.2 ∧ c.2 < (n : Int)
theorem pairK_inj {a c : Int × Int} (h : Gn.pairK a = Gn.pairK c) : a = c := by
  unfold Gn.pairK at h
  injection h with h
  injection h with h1 h2
  injection h2 with h2 _
  injection h1 with h1
  injection h2 with h2
  exact Prod.ext h1 h2
theorem DrOk.put {n stop k : Nat} {m : List (NestedKey × PyData)} {ps : List (Int × Int)} (h : DrOk n stop k m ps) (c : Int × Int) (d : PyData) (hc : 0 ≤ c.1 ∧ c.1 < (stop : Int) ∧ 0 ≤ c.2 ∧ c.2 < (n : Int)) : ∃ ps', DrOk n stop (k + 1) (putD m (Gn.pairK c) d) ps' := by
  unfold putD
  by_cases q : (m.any fun kv => decide (kv.1 = Gn.pairK c)) = true
  · rw [if_pos q]
    refine ⟨ps, ?_, by have := h.len; omega, h.nd, h.rng⟩
    rw [← h.key, List.map_map]
    refine List.map_congr_left fun kv _ => ?_
    show (if kv.1 = Gn.pairK c then (kv.1, d) else kv).1 = kv.1
    split <;> rfl
  · rw [if_neg q]
    refine ⟨ps ++ [c], by rw [List.map_append, List.map_append, h.key]; rfl, by rw [List.length_append]; have := h.len; show ps.length + 1 ≤ _; omega, ?_, fun x hx => ?_⟩
    · rw [List.nodup_append]
      refine ⟨h.nd, List.nodup_cons.mpr ⟨List.not_mem_nil, List.nodup_nil⟩, fun x hx y hy => ?_⟩
      rw [List.mem_singleton.mp hy]
      intro z
      subst z
      apply q
      rw [List.any_eq_true]
      have : Gn.pairK x ∈ m.map (·.1) := by rw [h.key]; exact List.mem_map.mpr ⟨x, hx, rfl⟩
      obtain ⟨kv, hkv, e⟩ := List.mem_map.mp this
      exact ⟨kv, hkv, decide_eq_true e⟩
    · rcases List.mem_append.mp hx with hx | hx
      · exact h.rng x hx
      · rw [List.mem_singleton.mp hx]; exact hc
theorem pair_nk (c : Int × Int) : NkD (Dl.pairD c) (Gn.pairK c) := by
  refine ⟨(Dl.pairK_data c).symm, ?_, _, rfl⟩
  unfold Gn.pairK
  rw [NestedKey.depth, NestedKey.depthAll, NestedKey.depthAll, NestedKey.depthAll, NestedKey.depth, NestedKey.depth]
  decide
end
end K15
set_option Elab.async false
set_option linter.all false
set_option maxRecDepth 100000
namespace K15
open PySem PySem.Spec PyProof.Rows L2 Dl Wm
local macro_rules | `(tactic| walk_at "e") => `(tactic| first
  | ((with_reducible refine e_var (by with_unfolding_all exact rfl) ?_))
  | with_reducible refine e_int ?_
  | with_reducible refine e_str ?_
  | with_reducible refine e_bl ?_
  | with_reducible refine e_non ?_
  | ((with_reducible refine e_pen (by with_unfolding_all exact rfl) (Or.inr rfl) ?_); intro z hz)
  | ((with_reducible refine e_pen (by with_unfolding_all exact rfl) (Or.inl rfl) ?_); intro z hz)
  | ((with_reducible refine e_penIx (by with_unfolding_all exact rfl) ?_))
  | ((with_reducible refine e_spr (by with_unfolding_all exact rfl) ?_); intro z)
  | with_reducible refine e_op ?_
  | with_reducible refine e_tup ?_
  | with_reducible refine e_lst ?_
  | with_reducible refine ea_cons ?_
  | with_reducible refine ea_nil ?_
  | ((with_reducible refine e_penLen (by with_unfolding_all exact rfl) ?_))
  | ((with_reducible refine e_lenOwn (by with_unfolding_all exact rfl) ?_))
  | ((with_reducible refine e_tupOwn (by with_unfolding_all exact rfl) ?_))
  | ((with_reducible refine s_aug (by with_unfolding_all exact rfl) ?_); (try dsimp only [List.set]))
  | with_reducible refine e_callXF ?_
  | with_reducible refine r_ipI ?_
  | with_reducible refine e_un ?_
  | with_reducible refine r_neg ?_
  | with_reducible refine gws_cons ?_
  | with_reducible refine gws_nil ?_
  | with_reducible refine gw_tup rfl ?_
  | ((with_reducible refine gw_name (by decide) ?_); (try dsimp only [List.set]))
  | with_reducible refine e_isI ?_
  | with_reducible refine e_isB ?_
  | with_reducible refine e_isS ?_
  | with_reducible refine e_isTu ?_
  | with_reducible refine e_isL ?_
  | with_reducible refine e_cb ?_
  | with_reducible refine e_sl ?_
  | with_reducible refine eo_none ?_
  | with_reducible refine eo_some ?_
  | with_reducible refine et_test ?_
  | with_reducible refine et_B ?_
  | with_reducible refine et_and ?_
  | with_reducible refine et_or ?_
  | with_reducible refine et_not ?_
  | with_reducible refine et_yes ?_
  | with_reducible refine e_andV ?_
  | with_reducible refine e_orV ?_
  | with_reducible refine e_notV ?_
  | with_reducible refine e_if ?_
  | with_reducible refine e_chain ?_
  | with_reducible refine e_callX ?_
  | ((with_reducible refine e_callXP (by with_unfolding_all exact rfl) ?_ (by with_unfolding_all exact trivial)))
  | ((with_reducible refine s_seq ?_); (try dsimp only [List.set]))
  | with_reducible refine s_next ?_
  | with_reducible refine s_ret ?_
  | ((with_reducible refine s_pen (by with_unfolding_all exact rfl) (Or.inr rfl) ?_))
  | ((with_reducible refine s_pen (by with_unfolding_all exact rfl) (Or.inl rfl) ?_))
  | ((with_reducible refine s_spr (by with_unfolding_all exact rfl) ?_))
  | ((with_reducible refine s_putOwn (by with_unfolding_all exact rfl) ?_ (by with_unfolding_all exact rfl)))
  | with_reducible refine s_asg ?_
  | with_reducible refine s_asgG ?_
  | with_reducible refine s_if ?_
  | with_reducible refine g_name ?_
  | with_reducible refine g_tup rfl ?_
  | with_reducible refine gs_cons ?_
  | with_reducible refine gs_nil ?_
  | with_reducible refine r_lt ?_
  | with_reducible refine r_le ?_
  | with_reducible refine r_gt ?_
  | with_reducible refine r_ge ?_
  | with_reducible refine r_add ?_
  | with_reducible refine r_sub ?_
  | with_reducible refine r_eqI ?_
  | with_reducible refine r_eqS ?_
  | with_reducible refine r_eqB ?_
  | with_reducible refine r_neI ?_
  | with_reducible refine r_neB ?_
  | with_reducible refine c_min2 ?_
  | with_reducible refine c_max2 ?_
  | with_reducible refine c_intB ?_
  | with_reducible refine c_len (Or.inl rfl) ?_
  | with_reducible refine c_len (Or.inr rfl) ?_
  | with_reducible refine c_list (Or.inl rfl) ?_
  | with_reducible refine c_list (Or.inr rfl) ?_
  | with_reducible refine c_tuple (Or.inl rfl) ?_
  | with_reducible refine c_tuple (Or.inr rfl) ?_
  | with_reducible refine r_ixT (by with_unfolding_all exact rfl) ?_
  | with_reducible refine r_ixL (by with_unfolding_all exact rfl) ?_
  | with_reducible refine r_slT ?_
  | with_reducible refine r_slL ?_
  | with_reducible refine r_isNone ?_
  | with_reducible refine r_notBl ?_
  | with_reducible refine eps_cons ?_
  | with_reducible refine eps_nil ?_
  | with_reducible refine e_dget1 ?_
  | with_reducible refine ed_callX ?_
  | with_reducible refine ⟨_, rfl, ?_⟩
  | with_reducible refine And.intro (Nat.le_of_ble_eq_true rfl) ?_)
local macro_rules | `(tactic| walk_at "t") => `(tactic| first
  | walk_at "e"
  | refine r_modAny (by first | omega | decide) fun z z0 z1 => ?_
  | refine r_mul (by first | exact Or.inr ⟨by decide, by decide⟩ | exact Or.inl ⟨by decide, by decide⟩ | exact Or.inl ⟨by omega, by omega⟩) ?_
  | refine r_pow ⟨by decide, by decide, by decide⟩ ?_
  | refine r_fdivW (by first | assumption | (rename_i hw _; exact hw _) | exact wide_div (b := 200) (by decide) (by decide) (by decide) (by decide)) ?_
  | with_reducible refine And.intro (by omega) ?_)
local macro_rules | `(tactic| walk_at "k") => `(tactic| first
  | walk_at "e"
  | with_reducible refine ⟨fun hb => absurd hb (by decide +kernel), fun _ => ?_⟩
  | with_reducible refine ⟨fun _ => ?_, fun hb => absurd hb (by decide +kernel)⟩
  | refine ⟨fun hb => absurd hb Bool.false_ne_true, fun _ => ?_⟩
  | refine ⟨fun _ => ?_, fun hb => absurd hb.symm Bool.false_ne_true⟩)
local macro_rules | `(tactic| walk_at "d") => `(tactic| first
  | walk_at "k"
  | refine And.intro (show WfTake _ from ⟨by omega, by omega⟩) (take_all fun k hk => ?_))
local macro_rules | `(tactic| walk_at "o") => `(tactic| first
  | with_reducible refine s_ownList ?_
  | walk_at "d"
  | with_reducible refine ⟨_, Or.inl rfl, ?_⟩)
local macro_rules | `(tactic| walk_at "c") => `(tactic| first
  | with_reducible refine e_ofL (el_catL ?_)
  | with_reducible refine e_ofL (el_sortP ?_)
  | with_reducible refine e_ofL (el_sortSetP ?_)
  | with_reducible refine e_ofL (el_revL ?_)
  | walk_at "d")

section
variable {P : Program} {w : World} {K : PySem.W.Frag} {mg : Str → Option Value} {base : Heap}
theorem mem3 {α : Type} {a b d : α} (h : d ∈ [a, b]) : d = a ∨ d = b := by
  rcases List.mem_cons.mp h with h | h
  · exact .inl h
  · exact .inr (List.mem_singleton.mp h)
abbrev PyData.Lay (k : Nat) (d : PyData) : Prop := d.canLay0 = true ∧ d.depth ≤ k
theorem lay_all {k : Nat} : ∀ {ds : List PyData}, (∀ d ∈ ds, PyData.Lay k d) → PyData.canLayAll0 ds = true ∧ PyData.depthAll ds ≤ k
  | [], _ => ⟨rfl, Nat.zero_le _⟩
  | d :: ds, h => by
    obtain ⟨h1, h2⟩ := lay_all fun x hx => h x (List.mem_cons_of_mem _ hx)
    obtain ⟨h3, h4⟩ := h d (List.mem_cons_self ..)
    rw [PyData.canLayAll0, PyData.depthAll, h1, h3]
    exact ⟨rfl, Nat.max_le.mpr ⟨h4, h2⟩⟩
theorem lay_tup {k : Nat} {ds : List PyData} (h : ∀ d ∈ ds, PyData.Lay k d) : PyData.Lay (k + 1) (.tuple ds) := by
  obtain ⟨h1, h2⟩ := lay_all h
  exact ⟨by rw [PyData.canLay0]; exact h1, by rw [PyData.depth]; omega⟩
theorem lay_lst {k : Nat} {ds : List PyData} (h : ∀ d ∈ ds, PyData.Lay k d) : PyData.Lay (k + 1) (.list ds) := by
  obtain ⟨h1, h2⟩ := lay_all h
  exact ⟨by rw [PyData.canLay0]; exact h1, by rw [PyData.depth]; omega⟩
theorem lay_int {k : Nat} (i : Int) : PyData.Lay k (.int i) := ⟨rfl, Nat.zero_le _⟩
theorem shaped_lay {k : Nat} {d : PyData} (h : PyData.Lay k d) (hk : k ≤ 64) : SeqAt.shaped d = true := by
  unfold SeqAt.shaped
  rw [h.1, decide_eq_true (Nat.le_trans h.2 hk)]
  rfl
theorem lay_ints (l : List Int) : PyData.Lay 1 (.list (intsL l)) := lay_lst fun d hd => by
  obtain ⟨v, _, rfl⟩ := List.mem_map.mp hd
  exact lay_int _
theorem lay_intsT (l : List Int) : PyData.Lay 1 (.tuple (intsL l)) := lay_tup fun d hd => by
  obtain ⟨v, _, rfl⟩ := List.mem_map.mp hd
  exact lay_int _
theorem lay_pairs (l : List (Int × Int)) : PyData.Lay 2 (.list (pairsL l)) := lay_lst fun d hd => by
  obtain ⟨v, _, rfl⟩ := List.mem_map.mp hd
  exact lay_tup fun d hd => by
    rcases mem3 hd with rfl | rfl <;> exact lay_int _
theorem lay_trc (t : Trc) : PyData.Lay 2 (.list (trcD t)) := lay_lst fun d hd => by
  obtain ⟨v, _, rfl⟩ := List.mem_map.mp hd
  exact lay_intsT _
theorem lay_mono {k m : Nat} {d : PyData} (h : PyData.Lay k d) (hk : k ≤ m) : PyData.Lay m d := ⟨h.1, Nat.le_trans h.2 hk⟩
theorem lay_plan (l : List (Int × Int)) (s : Int) : PyData.Lay 3 (.tuple [.list (pairsL l), .int s]) := lay_tup fun d hd => by
  rcases mem3 hd with rfl | rfl
  · exact lay_pairs _
  · exact lay_int _
theorem max_if' (a b : Int) : (if b > a then b else a) = max a b := by
  split <;> omega
theorem r_neSame {pen : Pc} {P : PyData → Prop} {a b : PyData} (hab : a = b) (hl : PyData.Lay 4 a) (p : P (.bool false)) : R2d K pen (rNeD K) a b P := by
  subst hab
  refine r_neD (shaped_lay hl (by decide)) (shaped_lay hl (by decide)) ?_
  rw [SeqAt.eqv_refl _ hl.1]
  exact p
theorem pairs_get' {cs : List (Int × Int)} {i : Nat} {d : PyData} (h : (pairsL cs)[i]? = some d) : ∃ c, cs[i]? = some c ∧ d = pairD c := by
  unfold pairsL at h
  rw [List.getElem?_map] at h
  cases hc : cs[i]? with
  | none => rw [hc] at h; cases h
  | some c => rw [hc] at h; exact ⟨c, rfl, (Option.some.inj h).symm⟩
theorem r_neS {pen : Pc} {P : PyData → Prop} {i j : Str} (p : P (.bool (!decide (i = j)))) : R2d K pen rNe (.str i) (.str j) P := fun x y G H v hx hy Q q => by
  cases hx
  cases hy
  refine ⟨rfl, ?_⟩
  rw [show decide (V.str i = V.str j) = decide (i = j) by rw [dec_str]; exact Bool.beq_eq_decide_eq i j]
  exact q _ _ G H (.refl v) (.bl _) p
abbrev L0 (ns : List Int) : Lv := [some (.d (.list (intsL ns))), none, none, none, none, none, none, none, none, none, none, none, none, none, none, none, none, none, none, none]
abbrev LZ (ns : List Int) (n b : Nat) (trail stop : Option AV) : Lv := [some (.d (.list (intsL ns))), none, some .pen, some (.d (.int n)), some (.d (.int b)), none, trail, stop, none, none, none, none, none, none, none, none, none, none, none, none]
abbrev LD (w : World) (ns : List Int) (n b : Nat) (t : Trc) (stop : Nat) (m : List (NestedKey × PyData)) : Lv := [some (.d (.list (intsL ns))), none, some .pen, some (.d (.int n)), some (.d (.int b)), none, some (.d (.list (trcD t))), some (.d (.int (stop : Nat))), some (.own (.dN w m)), none, none, none, none, none, none, none, none, none, none, none]
abbrev LC (ns : List Int) (n b : Nat) (t : Trc) (stop : Nat) (cs : List (Int × Int)) (left many once : Option AV) : Lv := [some (.d (.list (intsL ns))), none, some .pen, some (.d (.int n)), some (.d (.int b)), none, some (.d (.list (trcD t))), some (.d (.int (stop : Nat))), none, none, some (.d (.list (pairsL cs))), left, many, none, none, once, none, none, none, none]
abbrev LT (ns : List Int) (n b : Nat) (t : Trc) (stop : Nat) (qs : List (Int × Int)) : Lv := [some (.d (.list (intsL ns))), none, some .pen, some (.d (.int n)), some (.d (.int b)), none, some (.d (.list (trcD t))), some (.d (.int (stop : Nat))), none, none, none, none, none, none, none, none, none, some (.d (.str "plan")), some (.d (.list (pairsL qs))), none]
theorem pairs_snd (qs : List (Int × Int)) : ((pairsL qs).mapIdx fun i _ => (qs[i]?).map fun c => PyData.int c.2).filterMap id = intsL (qs.map (·.2)) := by
  have e : ((pairsL qs).mapIdx fun i _ => (qs[i]?).map fun c => PyData.int c.2) = qs.map fun c => some (PyData.int c.2) := by
    apply List.ext_getElem?
    intro i
    unfold pairsL
    rw [List.getElem?_mapIdx, List.getElem?_map, List.getElem?_map]
    cases qs[i]? <;> rfl
  rw [e, fm_some]
  unfold intsL
  rw [List.map_map]
  rfl
theorem pairs_but (cs : List (Int × Int)) (c : Int × Int) : ((pairsL cs).mapIdx fun i _ => (cs[i]?).bind fun x => if (!decide (x = c)) = true then some (Dl.pairD x) else none).filterMap id = pairsL (cs.filter fun x => !decide (x = c)) := by
  have e : ((pairsL cs).mapIdx fun i _ => (cs[i]?).bind fun x => if (!decide (x = c)) = true then some (Dl.pairD x) else none) = cs.map fun x => if (!decide (x = c)) = true then some (Dl.pairD x) else none := by
    apply List.ext_getElem?
    intro i
    unfold pairsL
    rw [List.getElem?_mapIdx, List.getElem?_map, List.getElem?_map]
    cases cs[i]? <;> rfl
  rw [e, fm_filter]
  rfl
theorem lay_pair (c : Int × Int) : PyData.Lay 1 (Dl.pairD c) := lay_tup fun d hd => by
  rcases mem3 hd with rfl | rfl <;> exact lay_int _
theorem rng_natI (n : Nat) : rngL 0 n = intsL (natI (List.range n)) := by
  unfold rngL intsL natI
  rw [List.map_map]
  refine List.map_congr_left fun i _ => ?_
  show PyData.int (0 + (i : Int)) = .int (i : Int)
  rw [Int.zero_add]
set_option maxHeartbeats 16000000 in
theorem ok_law {f : Addr} {fd : FuncData} (F : Fun K "law" "law" s_law f fd) (T : Tx K mg base) : FnOk P w K mg base CX0 9 f fd ["script"] (spLawT K T.ts) := by
  refine F.ok sc_law (fun vs H Q E h => ?_) (fun cdv A outer s H vs Q E hr h => ?_)
  · obtain ⟨a, ns, rfl, _⟩ := h
    rfl
  · obtain ⟨a, ns, rfl, hS, hlen, hT, q⟩ := h
    refine ⟨_, (pss_cons (ps_for PassesOwn.never rfl (pi_range1 rfl T.m_range (pa_cons (pe_callB (call_max2 rfl) (by rfl) T.m_max (by decide +kernel) (pa_cons pe_int (pa_cons (pe_callB (call_min2 rfl) (by rfl) T.m_min (by decide +kernel) (pa_cons pe_int (pa_cons (pe_callB (kx_len K rfl) (by rfl) T.m_len PySem.boot_len (pa_cons (pv 0) pa_nil)) pa_nil))) pa_nil))) pa_nil)) (pg_name (i := 1) sc_law.nd rfl (.inl rfl))
      (pss_cons (ps_set (i := 2) sc_law.nd rfl (.inl rfl) (pe_call (ok_law_spring T) (hr.mono (by decide)) (by rfl) T.g_law_spring T.F_law_spring.kp T.b_law_spring .nil pass0 (pa_cons (pv 0) (pa_cons (pv 1) pa_nil))))
      (pss_cons (ps_asg (pe_call (ok_law_sizes T) (hr.mono (by decide)) (by rfl) T.g_law_sizes T.F_law_sizes.kp T.b_law_sizes .nil pass0 (pa_cons (pv 2) pa_nil)) (kx_pgT K (n := 3) rfl rfl (pgs_cons (pg_name (i := 3) sc_law.nd rfl (.inl rfl)) (pgs_cons (pg_name (i := 4) sc_law.nd rfl (.inl rfl)) (pgs_cons (pg_name (i := 5) sc_law.nd rfl (.inl rfl)) pgs_nil)))))
      (pss_cons (ps_set (i := 6) sc_law.nd rfl (.inl rfl) (pe_call (ok_law_trace T) (hr.mono (by decide)) (by rfl) T.g_law_trace T.F_law_trace.kp T.b_law_trace .nil pass0 (pa_cons (pv 2) (pa_cons (pv 3) (pa_cons pe_int pa_nil)))))
      (pss_cons (ps_set (i := 7) sc_law.nd rfl (.inl rfl) (pe_call (ok_law_cup T) (hr.mono (by decide)) (by rfl) T.g_law_cup T.F_law_cup.kp T.b_law_cup .nil pass0 (pa_cons (pv 2) (pa_cons pe_int pa_nil))))
      (pss_cons (ps_set (i := 8) sc_law.nd rfl (.inl rfl) (_root_.Gn.pe_new rfl))
      (pss_cons (ps_for PassesOwn.never rfl (pi_range1 rfl T.m_range (pa_cons (pe_op op_mul (pe_call (ok_law_cup T) (hr.mono (by decide)) (by rfl) T.g_law_cup T.F_law_cup.kp T.b_law_cup .nil pass0 (pa_cons (pv 2) (pa_cons (pe_op op_add (pe_op op_mul pe_int (pv 3)) pe_int) pa_nil))) (pe_callTy call_int1 (by rfl) T.m_int (by decide +kernel) (pa_cons (pe_cmpR op_gt (pv 7) pe_int (nomark _)) pa_nil))) pa_nil)) (pg_name (i := 9) sc_law.nd rfl (.inl rfl))
      (pss_one (_root_.Gn.ps_put rfl rfl (hu9_of hr) (pv 8) (pe_tup (pa_cons (pe_call (ok_law_cup T) (hr.mono (by decide)) (by rfl) T.g_law_cup T.F_law_cup.kp T.b_law_cup .nil pass0 (pa_cons (pv 2) (pa_cons (pv 7) pa_nil))) (pa_cons (pe_call (ok_law_cup T) (hr.mono (by decide)) (by rfl) T.g_law_cup T.F_law_cup.kp T.b_law_cup .nil pass0 (pa_cons (pv 2) (pa_cons (pv 3) pa_nil))) pa_nil))) pe_bl rfl)))
      (pss_cons (ps_set (i := 10) sc_law.nd rfl (.inl rfl) (pe_callB (_root_.Gn.call_sorted rfl rfl rfl) (by rfl) T.m_sorted (by decide +kernel) (pa_cons (pv 8) pa_nil)))
      (pss_cons (ps_set (i := 11) sc_law.nd rfl (.inl rfl) (pe_call (ok_left_by T) (hr.mono (by decide)) (by rfl) T.g_left_by T.F_left_by.kp T.b_left_by .nil pass0 (pa_cons (pv 3) (pa_cons (pv 6) (pa_cons (pe_tup (pa_cons (pv 10) (pa_cons (pv 7) pa_nil))) pa_nil)))))
      (pss_cons (ps_set (i := 12) sc_law.nd rfl (.inl rfl) (pe_call (ok_carried_by T) (hr.mono (by decide)) (by rfl) T.g_carried_by T.F_carried_by.kp T.b_carried_by .nil pass0 (pa_cons (pv 3) (pa_cons (pv 6) (pa_cons (pe_tup (pa_cons (pv 10) (pa_cons (pv 7) pa_nil))) pa_nil)))))
      (pss_cons (ps_set (i := 15) sc_law.nd rfl (.inl rfl) (pe_cmpR (kx_eqD K rfl hr.units) (pe_callB (kx_sortI (K := K) rfl) (by rfl) T.m_sorted (by decide +kernel) (pa_cons (pe_op (kx_catL (K := K) rfl) (pe_lc (own := [("beat", 13), ("sheet", 14)]) (tt := tYes) rfl sc_law.nd (kx_piL K rfl (pv 10)) (blkOk_by (own := [("beat", 13), ("sheet", 14)]) (N := ["script", "k", "spring", "n", "b", "s", "trail", "stop", "drawn", "turn", "copies", "left", "many", "beat", "sheet", "once", "fewer", "word", "told", "one"]) (sc := defScope s_law) (by decide +kernel)) (fun _ _ _ _ _ => (kx_pgT K (n := 2) rfl rfl (pgs_cons (pg_name (i := 13) sc_law.nd rfl (.inl rfl)) (pgs_cons (pg_name (i := 14) sc_law.nd rfl (.inl rfl)) pgs_nil)))) (fun _ _ _ _ _ => pts_nil) (fun _ _ _ _ _ => (pv 14))) (pv 11)) pa_nil)) (pe_listRg rfl (by rfl) T.m_list (prg_1 (by rfl) T.m_range (pv 3))) (nomark _)))
      (pss_cons (ps_if (PW.pt (pw_or (pt_cmpR op_lt (pv 12) (pv 3) (nomark _)) (pw_or (pt_cmpR op_ne (pe_cmpR op_eq (pv 12) (pv 3) (nomark _)) (pv 15) (nomark _)) (pw_or1 (pt_cmpR op_ne (pv 12) (pe_op op_add (pe_callB (kx_len K rfl) (by rfl) T.m_len PySem.boot_len (pa_cons (pv 10) pa_nil)) (pe_callB (kx_len K rfl) (by rfl) T.m_len PySem.boot_len (pa_cons (pv 11) pa_nil))) (nomark _))))))
      (pss_one (ps_ret pe_bl))
      pss_nil)
      (pss_cons (ps_for PassesOwn.never rfl (kx_piL K rfl (pv 10)) (kx_pgT K (n := 2) rfl rfl (pgs_cons (pg_name (i := 13) sc_law.nd rfl (.inr rfl)) (pgs_cons (pg_name (i := 14) sc_law.nd rfl (.inr rfl)) pgs_nil)))
      (pss_cons (ps_setLc (i := 16) (own := [("one", 19)]) (g := gName 19) rfl sc_law.nd rfl rfl (sw_true rfl rfl rfl (by decide +kernel)) (kx_piL K rfl (pv 10)) (blkOk_by (own := [("one", 19)]) (N := ["script", "k", "spring", "n", "b", "s", "trail", "stop", "drawn", "turn", "copies", "left", "many", "beat", "sheet", "once", "fewer", "word", "told", "one"]) (sc := defScope s_law) (by decide +kernel)) (fun _ _ _ _ _ => (pg_name (i := 19) sc_law.nd rfl (.inl rfl))) (fun _ _ _ _ _ => (pts_one (pt_cmpR (kx_neD K rfl hr.units) (pv 19) (pe_tup (pa_cons (pv 13) (pa_cons (pv 14) pa_nil))) (nomark _)))) (fun _ _ _ _ _ => (pv 19)))
      (pss_one (ps_if (PW.pt (pw_and (pt_cmpR (kx_inD rfl (room65 hr)) (pv 14) (pv 11) (by rfl)) (pw_and1 (pt_cmpR (kx_neD K rfl hr.units) (pe_call (ok_left_by T) (hr.mono (by decide)) (by rfl) T.g_left_by T.F_left_by.kp T.b_left_by .nil pass0 (pa_cons (pv 3) (pa_cons (pv 6) (pa_cons (pe_tup (pa_cons (pv 16) (pa_cons (pv 7) pa_nil))) pa_nil)))) (pv 11) (nomark _)))))
      (pss_one (ps_ret pe_bl))
      pss_nil))))
      (pss_cons (ps_asg (pe_call (ok_plan_for T) (hr.mono (by decide)) (by rfl) T.g_plan_for T.F_plan_for.kp T.b_plan_for .nil pass0 (pa_cons (pv 3) (pa_cons (pv 6) (pa_cons (pv 4) (pa_cons (pe_ix (kx_ixT K rfl) (pe_call (ok_least_left T) (hr.mono (by decide)) (by rfl) T.g_least_left T.F_least_left.kp T.b_least_left .nil pass0 (pa_cons (pv 3) (pa_cons (pv 6) (pa_cons (pv 4) (pa_cons (pv 7) pa_nil))))) pe_int (fun _ _ => rfl)) (pa_cons (pv 7) pa_nil)))))) (kx_pgT K (n := 2) rfl rfl (pgs_cons (pg_name (i := 17) sc_law.nd rfl (.inl rfl)) (pgs_cons (pg_name (i := 18) sc_law.nd rfl (.inl rfl)) pgs_nil))))
      (pss_cons (ps_if (PW.pt (pw_or (pt_cmpR op_ne (pv 17) pe_str (nomark _)) (pw_or1 (pt_cmpR op_ne (pe_call (ok_carried_by T) (hr.mono (by decide)) (by rfl) T.g_carried_by T.F_carried_by.kp T.b_carried_by .nil pass0 (pa_cons (pv 3) (pa_cons (pv 6) (pa_cons (pe_tup (pa_cons (pv 18) (pa_cons (pv 7) pa_nil))) pa_nil)))) (pv 3) (nomark _)))))
      (pss_one (ps_ret pe_bl))
      pss_nil)
      (pss_cons (ps_if (PW.pt (pw_and (pt_cmpR (kx_neD K rfl hr.units) (pv 18) (pe_lst pa_nil) (nomark _)) (pw_and1 (pt_cmpR op_ne (pe_call (ok_carried_by T) (hr.mono (by decide)) (by rfl) T.g_carried_by T.F_carried_by.kp T.b_carried_by .nil pass0 (pa_cons (pv 3) (pa_cons (pv 6) (pa_cons (pe_tup (pa_cons (pe_op (kx_catL (K := K) rfl) (pv 18) (pe_slice (kx_slL K rfl) (pv 18) (po_some (pe_un un_neg pe_int)) po_none)) (pa_cons (pv 7) pa_nil))) pa_nil)))) (pe_op op_add (pv 3) pe_int) (nomark _)))))
      (pss_one (ps_ret pe_bl))
      pss_nil)
      (pss_one (ps_if (pt_cmpR op_notBl (pe_call (ok_is_plan T) (hr.mono (by decide)) (by rfl) T.g_is_plan T.F_is_plan.kp T.b_is_plan .nil pass0 (pa_cons (pv 3) (pa_cons (pv 6) (pa_cons (pv 4) (pa_cons (pv 3) (pa_cons (pe_tup (pa_cons (pv 18) (pa_cons (pv 7) pa_nil))) pa_nil)))))) pe_bl (nomark _))
      (pss_one (ps_ret pe_bl))
      pss_nil))))))))))))))))))
      (pss_one (ps_ret pe_bl))), ?_⟩
    refine law_start (K := K) (ts := T.ts) (L := L0 ns) hS rfl (fun i av hi => ?_) hT ?_ q
    · rcases i with _ | i
      · cases hi
        exact ⟨rfl, rfl⟩
      · iterate 19 (rcases i with _ | i; (· cases hi))
        cases hi
    · refine s_seq (s_forI (it_rng ?_))
      repeat walk_at "e"
      have ll : (intsL ns).length = ns.length := List.length_map _
      rw [min_if, max_if', ll]
      refine ⟨by omega, by omega, fun _ L => L = L0 ns, ⟨L0 ns, Sub.refl _, rfl⟩, fun k d L' hd e => ?_, fun L' e L4 s4 => ?_⟩
      · subst e
        obtain ⟨hk, rfl⟩ := rngL_get hd
        rw [Int.zero_add]
        have hk8 : k < 9 := by omega
        refine g_name ?_
        dsimp only [List.set]
        refine s_seq (s_ownL (el_callF ?_))
        repeat walk_at "d"
        refine ⟨⟨ns, k⟩, rfl, by show k ≤ 100; omega, ?_⟩
        rintro d ⟨z, rfl⟩
        refine ⟨_, rfl, rfl, ?_⟩
        dsimp only [List.set]
        refine s_spring (i := 2) rfl fun pa H1 => ?_
        dsimp only [List.set]
        clear z
        refine s_cut (fun L => ∃ z : SzR, z.Ok ∧ Sub (LZ ns z.n z.b none none) L) (s_asgG ?_) fun L' ⟨z, hz, sb⟩ => S.sub ?_ sb
        · repeat walk_at "d"
          refine ⟨(), rfl, trivial, ?_⟩
          rintro d ⟨sz, hsz, rfl⟩
          repeat walk_at "d"
          exact ⟨sz, hsz, by dsimp only [List.set]; repeat (first | exact Sub.nil | apply Sub.keep | apply Sub.drop)⟩
        obtain ⟨n, b, s0⟩ := z
        obtain ⟨hn1, hn2, hb1, hb2, hs2⟩ := hz
        dsimp only at hn1 hn2 hb1 hb2 hs2
        refine s_cut (fun L => ∃ t : Trc, Trc.Ok n t ∧ t.length ≤ 24 ∧ Sub (LZ ns n b (some (.d (.list (trcD t)))) none) L) (s_asg ?_) fun L' ⟨t, htk, htl, sb⟩ => S.sub ?_ sb
        · repeat walk_at "d"
          refine ⟨⟨n, 24⟩, rfl, ⟨hn1, hn2, by show 24 ≤ 1000; decide⟩, ?_⟩
          rintro d ⟨t, rfl, ht⟩
          exact ⟨t, ht.ok hn2 (by show 24 ≤ 5000; decide), ht.ln, by dsimp only [List.set]; repeat (first | exact Sub.nil | apply Sub.keep | apply Sub.drop)⟩
        refine s_cut (fun L => ∃ stop : Nat, stop < 30 ∧ Sub (LZ ns n b (some (.d (.list (trcD t)))) (some (.d (.int (stop : Nat))))) L) (s_asg ?_) fun L' ⟨stop, hstop, sb⟩ => S.sub ?_ sb
        · repeat walk_at "d"
          rename_i c hc
          exact ⟨c, by omega, by dsimp only [List.set]; repeat (first | exact Sub.nil | apply Sub.keep | apply Sub.drop)⟩
        refine s_seq (s_nnew ?_)
        dsimp only [List.set]
        refine s_cut (fun L => ∃ m ps, DrOk n stop 25 m ps ∧ Sub (LD w ns n b t stop m) L) (s_forI (it_rng ?_)) fun L' ⟨m, ps, hdr, sb⟩ => S.sub ?_ sb
        · refine ea_cons (e_op ?_)
          repeat walk_at "t"
          refine And.intro (show WfTake _ from ⟨by omega, by omega⟩) (take_all fun c hc => ?_)
          repeat walk_at "e"
          refine r_mul (Or.inl ⟨by omega, by omega⟩) ?_
          refine ea_nil ⟨_, rfl, by split <;> omega, by split <;> omega, fun i L => (i ≠ 0 → 0 < stop) ∧ ∃ m ps, DrOk n stop i m ps ∧ L = LD w ns n b t stop m, ⟨LD w ns n b t stop [], by repeat (first | exact Sub.nil | apply Sub.keep | apply Sub.drop), fun h => absurd rfl h, [], [], ⟨rfl, Nat.le_refl _, List.nodup_nil, fun _ h => absurd h List.not_mem_nil⟩, rfl⟩, fun i d L' hd ⟨_, m, ps, hm, e⟩ => ?_, fun L' ⟨_, m, ps, hm, e⟩ L4 s4 => ?_⟩
          · subst e
            obtain ⟨hi, rfl⟩ := rngL_get hd
            have hst : 0 < stop := by
              apply Classical.byContradiction
              intro z
              have e0 : stop = 0 := by omega
              subst e0
              rw [if_neg (by decide), Int.mul_zero] at hi
              exact absurd hi (Nat.not_lt_zero _)
            have hi25 : i < 25 := by
              rw [if_pos (decide_eq_true (show (0 : Int) < (stop : Int) by omega)), Int.mul_one, Int.toNat_natCast] at hi
              omega
            refine g_name ?_
            dsimp only [List.set]
            have hmz : m.length < 100000 := by
              have := congrArg List.length hm.key
              rw [List.length_map, List.length_map] at this
              have := hm.len
              omega
            refine s_nput rfl hmz (e_bl ?_)
            repeat walk_at "d"
            rename_i a ha c2 hc2
            have hr2 : 0 ≤ (a : Int) ∧ (a : Int) < (stop : Int) ∧ 0 ≤ (c2 : Int) ∧ (c2 : Int) < (n : Int) := ⟨by omega, by omega, by omega, by omega⟩
            refine ⟨Gn.pairK ((a : Int), (c2 : Int)), pair_nk ((a : Int), (c2 : Int)), ?_⟩
            obtain ⟨ps', h'⟩ := hm.put ((a : Int), (c2 : Int)) (.bool true) hr2
            dsimp only [List.set]
            exact ⟨LD w ns n b t stop (putD m (Gn.pairK ((a : Int), (c2 : Int))) (.bool true)), by repeat (first | exact Sub.nil | apply Sub.keep | apply Sub.drop), fun _ => hst, _, ps', h', rfl⟩
          · subst e
            rw [rngL_len] at hm
            refine ⟨m, ps, ⟨hm.key, Nat.le_trans hm.len ?_, hm.nd, hm.rng⟩, s4⟩
            split <;> omega
        refine s_cut (fun L => ∃ cs : List (Int × Int), cs.length ≤ 25 ∧ (∀ c ∈ cs, 0 ≤ c.1 ∧ c.1 < (stop : Int) ∧ 0 ≤ c.2 ∧ c.2 < (n : Int)) ∧ Sub (LC ns n b t stop cs none none none) L) (s_asg (e_ofL (el_sortN (Or.inl rfl) ⟨ps, hdr.key, fun cs hp hs => ?_⟩))) fun L' ⟨cs, hcl, hcr, sb⟩ => S.sub ?_ sb
        · refine ⟨cs, by rw [hp.length_eq]; exact hdr.len, fun c hc => hdr.rng c (hp.mem_iff.mp hc), ?_⟩
          dsimp only [List.set]
          repeat (first | exact Sub.nil | apply Sub.keep | apply Sub.drop)
        clear hdr
        have hlw : LwA.Ok ⟨n, t, (stop : Int)⟩ := ⟨by show n ≤ 1000; omega, htk, by show -(2 ^ 62) ≤ (stop : Int); omega⟩
        have hpl : ∀ qs : List (Int × Int), qs.length ≤ 100 → PlA.Ok ⟨n, t, qs, (stop : Int)⟩ := fun qs h => ⟨hlw, by show qs.length ≤ 1000; omega⟩
        have hpc : (pairsL cs).length = cs.length := List.length_map _
        have hln : (natL (leftF n t cs stop)).length = (leftF n t cs stop).length := by unfold natL intsL; rw [List.length_map, natJ_len]
        refine s_cut (fun L => Sub (LC ns n b t stop cs (some (.d (.list (natL (leftF n t cs stop))))) none none) L) (s_asg ?_) fun L' sb => S.sub ?_ sb
        · repeat walk_at "d"
          refine ⟨⟨n, t, cs, (stop : Int)⟩, rfl, hpl cs (by omega), ?_⟩
          rintro d rfl
          dsimp only [List.set]
          repeat (first | exact Sub.nil | apply Sub.keep | apply Sub.drop)
        refine s_cut (fun L => Sub (LC ns n b t stop cs (some (.d (.list (natL (leftF n t cs stop))))) (some (.d (.int ((cs.length + (leftF n t cs stop).length : Nat) : Int)))) none) L) (s_asg ?_) fun L' sb => S.sub ?_ sb
        · repeat walk_at "d"
          refine ⟨⟨n, t, cs, (stop : Int)⟩, rfl, hpl cs (by omega), ?_⟩
          rintro d rfl
          dsimp only [List.set]
          repeat (first | exact Sub.nil | apply Sub.keep | apply Sub.drop)
        have hsl := sheets_len n t (stop : Int) cs
        have hfl : (leftF n t cs stop).length ≤ n := by
          have : (leftF n t cs stop).length ≤ (List.range n).length := List.length_filter_le _ _
          rw [List.length_range] at this
          exact this
        refine s_cut (fun L => Sub (LC ns n b t stop cs (some (.d (.list (natL (leftF n t cs stop))))) (some (.d (.int ((cs.length + (leftF n t cs stop).length : Nat) : Int)))) (some (.d (.bool (decide (cs.length + (leftF n t cs stop).length = n)))))) L) (s_asg (e_op (e_ofL (el_sortI (e_ofL (el_catL (e_ofL (el_lcF (fun i _ => (cs[i]?).map fun c => PyData.int c.2) (it_list (e_var rfl ⟨_, rfl, by rw [hpc]; omega, fun i d hd => ?_, ?_⟩)))))))))) fun L' sb => S.sub ?_ sb
        · obtain ⟨c, hc, rfl⟩ := pairs_get' hd
          rw [hc]
          dsimp only [List.map, wipeL, List.set]
          repeat walk_at "e"
          exact ⟨fun _ => e_var rfl rfl, fun z => (by cases z)⟩
        · rw [pairs_snd]
          refine e_var rfl ⟨_, _, rfl, rfl, ?_, ?_⟩
          · unfold intsL
            rw [List.length_map, List.length_map, hln]
            omega
          refine ⟨cs.map (·.2) ++ natI (leftF n t cs stop), by unfold natL intsL; rw [List.map_append], fun ms hp hs => ?_⟩
          obtain ⟨o1, o2⟩ := once_iff hp hs
          refine e_ofL (el_lstRg (e_var rfl ⟨n, rfl, by omega, ?_⟩))
          rw [rng_natI]
          refine r_eqD (shaped_lay (lay_ints _) (by decide)) (shaped_lay (lay_ints _) (by decide)) ?_
          have ev : PyData.eqv (.list (intsL ms)) (.list (intsL (natI (List.range n)))) = decide (cs.length + (leftF n t cs stop).length = n) := by
            by_cases h : cs.length + (leftF n t cs stop).length = n
            · rw [decide_eq_true h, o1 h, SeqAt.eqv_refl _ (lay_ints _).1]
            · rw [decide_eq_false h]
              cases e : PyData.eqv (.list (intsL ms)) (.list (intsL (natI (List.range n)))) with
              | false => rfl
              | true =>
                have := eqvAll_len (xs := intsL ms) (ys := intsL (natI (List.range n))) e
                unfold intsL at this
                rw [List.length_map, List.length_map, natJ_len, List.length_range] at this
                exact absurd this (o2 h)
          rw [ev]
          dsimp only [List.set]
          repeat (first | exact Sub.nil | apply Sub.keep | apply Sub.drop)
        refine s_cut (fun L => Sub (LC ns n b t stop cs (some (.d (.list (natL (leftF n t cs stop))))) none none) L) (s_if ?_) fun L' sb => S.sub ?_ sb
        · refine et_or ?_
          repeat walk_at "e"
          refine ⟨fun h => absurd (of_decide_eq_true h) (by omega), fun _ => ?_⟩
          refine et_or ?_
          repeat walk_at "e"
          rw [show decide (((cs.length + (leftF n t cs stop).length : Nat) : Int) = (n : Int)) = decide (cs.length + (leftF n t cs stop).length = n) from decide_eq_decide.mpr (by omega)]
          refine ⟨fun h => absurd h (by rw [decide_eq_true rfl]; decide), fun _ => ?_⟩
          repeat walk_at "e"
          rw [hpc, hln]
          refine ⟨fun h => absurd h (by rw [decide_eq_true (show ((cs.length + (leftF n t cs stop).length : Nat) : Int) = (cs.length : Int) + ((leftF n t cs stop).length : Int) by omega)]; decide), fun _ => s_next ?_⟩
          show Sub _ _
          repeat (first | exact Sub.nil | apply Sub.keep | apply Sub.drop)
        refine s_cut (fun L => Sub (LC ns n b t stop cs (some (.d (.list (natL (leftF n t cs stop))))) none none) L) (s_forI (it_list (e_var rfl ⟨_, rfl, fun _ L => L = LC ns n b t stop cs (some (.d (.list (natL (leftF n t cs stop))))) none none, ⟨_, Sub.refl _, rfl⟩, fun i d L' hd e => ?_, fun L' e L4 s4 => e ▸ s4⟩))) fun L' sb => S.sub ?_ sb
        · subst e
          obtain ⟨c, hc, rfl⟩ := pairs_get' hd
          obtain ⟨r1, r2, r3, r4⟩ := hcr c (List.mem_of_getElem? hc)
          refine g_tup rfl (gs_cons (g_name (gs_cons (g_name (gs_nil ?_)))))
          dsimp only [List.set]
          refine s_seq (s_asg (e_ofL (el_lcF (fun i _ => (cs[i]?).bind fun x => if (!decide (x = c)) = true then some (Dl.pairD x) else none) (it_list (e_var rfl ⟨_, rfl, by rw [hpc]; omega, fun i d hd => ?_, ?_⟩)))))
          · obtain ⟨x, hx, rfl⟩ := pairs_get' hd
            rw [hx, Option.bind_some]
            dsimp only [List.map, wipeL, List.set]
            refine gw_name (by decide) ?_
            dsimp only [List.set]
            refine et_test (e_op (e_var rfl (e_tup (ea_cons (e_var rfl (ea_cons (e_var rfl (ea_nil ⟨Nat.le_of_ble_eq_true rfl, ?_⟩))))))))
            refine r_neD (shaped_lay (lay_pair x) (by decide)) (shaped_lay (lay_pair c) (by decide)) ?_
            rw [show PyData.eqv (Dl.pairD x) (.tuple [.int c.1, .int c.2]) = decide (x = c) from eqv_pair x c]
            exact ⟨_, rfl, fun h => e_var rfl (if_pos h), fun h => if_neg (by rw [h]; exact Bool.false_ne_true)⟩
          · rw [pairs_but]
            dsimp only [List.set]
            have hfl2 : (cs.filter fun x => !decide (x = c)).length ≤ cs.length := List.length_filter_le _ _
            have back : Wk (fun _ L => L = LC ns n b t stop cs (some (.d (.list (natL (leftF n t cs stop))))) none none) (i + 1) [some (.d (.list (intsL ns))), none, some .pen, some (.d (.int n)), some (.d (.int b)), none, some (.d (.list (trcD t))), some (.d (.int (stop : Nat))), none, none, some (.d (.list (pairsL cs))), some (.d (.list (natL (leftF n t cs stop)))), none, some (.d (.int c.1)), some (.d (.int c.2)), none, some (.d (.list (pairsL (cs.filter fun x => !decide (x = c))))), none, none, none] := ⟨_, by repeat (first | exact Sub.nil | apply Sub.keep | apply Sub.drop), rfl⟩
            refine s_if (et_and (et_test (e_op (e_var rfl (e_var rfl (r_inD (shaped_lay (lay_int (k := 0) _) (by decide)) (shaped_lay (lay_ints _) (by decide)) ?_))))))
            rw [any_ints]
            refine ⟨_, rfl, fun h => ?_, fun _ => ⟨fun z => absurd z Bool.false_ne_true, fun _ => s_next back⟩⟩
            obtain ⟨q, hq, eq⟩ := List.mem_map.mp (of_decide_eq_true h)
            have e3 := left_fewer (n := n) (t := t) (stop := (stop : Int)) (cs := cs) (c := c) (q := q) eq.symm hq
            refine et_test (e_op (e_callXF (ea_cons (e_var rfl (ea_cons (e_var rfl (ea_cons (e_tup (ea_cons (e_var rfl (ea_cons (e_var rfl (ea_nil ⟨Nat.le_of_ble_eq_true rfl, ea_nil ⟨⟨n, t, cs.filter fun x => !decide (x = c), (stop : Int)⟩, rfl, hpl _ (by omega), ?_⟩⟩)))))))))))))
            rintro d rfl
            dsimp only
            rw [e3]
            refine e_var rfl (r_neSame rfl (lay_mono (lay_ints _) (by decide)) ?_)
            exact ⟨_, rfl, fun z => absurd z Bool.false_ne_true, fun _ => s_next back⟩
        refine s_cut (fun L => ∃ (qs : List (Int × Int)) (left : Nat), CopOk (lastsF n t (stop : Int)) b left stop qs ∧ Sub (LT ns n b t stop qs) L) (s_asgG ?_) fun L' ⟨qs, left, hq, sb⟩ => S.sub ?_ sb
        · repeat walk_at "d"
          refine ⟨⟨n, t, (b : Int), (stop : Int)⟩, rfl, ⟨hlw, by show (0 : Int) ≤ (b : Int); omega, by show (b : Int) ≤ 1000; omega⟩, ?_⟩
          rintro d ⟨x, hx, rfl⟩
          dsimp only at hx ⊢
          unfold llD
          repeat walk_at "d"
          refine ⟨⟨n, t, b, lackB (lastsF n t stop) b stop x, (stop : Int)⟩, rfl, ⟨hlw, by show n ≤ 50; omega, hb1, by show b ≤ 1000; omega, by show (0 : Int) ≤ (stop : Int); omega⟩, ?_⟩
          rintro d ⟨y, hy, hd⟩
          dsimp only at hy hd
          have e := max_same hx hy
          rcases hd with ⟨hlt, _⟩ | ⟨_, qs, hq1, hq2, rfl⟩
          · omega
          · refine g_tup rfl (gs_cons (g_name (gs_cons (g_name (gs_nil ?_)))))
            dsimp only [List.set]
            exact ⟨qs, _, hq2, by repeat (first | exact Sub.nil | apply Sub.keep | apply Sub.drop)⟩
        have hs0 : (0 : Int) ≤ (stop : Int) := by omega
        have hql : qs.length ≤ 12 := by
          have := hq.len
          rw [lastsF_len] at this
          omega
        have hpq : (pairsL qs).length = qs.length := List.length_map _
        have hleft := plan_left hs0 hq
        refine s_cut (fun L => Sub (LT ns n b t stop qs) L) (s_if ?_) fun L' sb => S.sub ?_ sb
        · repeat walk_at "k"
          refine r_neS ?_
          rw [decide_eq_true rfl]
          repeat walk_at "k"
          refine ⟨⟨n, t, qs, (stop : Int)⟩, rfl, hpl qs (by omega), ?_⟩
          rintro d rfl
          dsimp only
          rw [hleft]
          repeat walk_at "k"
          refine ⟨fun h => absurd h (by rw [decide_eq_true rfl]; decide), fun _ => s_next ?_⟩
          exact Sub.refl _
        refine s_cut (fun L => Sub (LT ns n b t stop qs) L) (s_if ?_) fun L' sb => S.sub ?_ sb
        · refine et_and (et_test (e_op (e_var rfl (e_lst (ea_nil ⟨Nat.zero_le _, r_neD (shaped_lay (lay_pairs qs) (by decide)) rfl ?_⟩)))))
          rcases List.eq_nil_or_concat qs with e | ⟨q1, c, e⟩
          · subst e
            refine ⟨_, rfl, fun h => absurd h (by decide +kernel), fun _ => ⟨fun z => absurd z Bool.false_ne_true, fun _ => s_next ?_⟩⟩
            exact Sub.refl _
          · have e2 : qs = q1 ++ [c] := by rw [e, List.concat_eq_append]
            have e4 : Dl.cutD (pairsL qs) (some (-1)) none = [Dl.pairD c] := by
              rw [e2]
              unfold pairsL
              rw [List.map_append]
              exact cut_last _ _
            have e5 : pairsL qs ++ [Dl.pairD c] = pairsL (qs ++ [c]) := by unfold pairsL; rw [List.map_append]; rfl
            have hcq : c ∈ qs := by rw [e2]; exact List.mem_append.mpr (.inr (List.mem_singleton.mpr rfl))
            have hag := plan_again (n := n) (t := t) (stop := (stop : Int)) hcq
            refine ⟨_, rfl, fun _ => ?_, fun h => ?_⟩
            · refine et_test (e_op (e_callX (ea_cons (e_var rfl (ea_cons (e_var rfl (ea_cons (e_tup (ea_cons (e_ofL (el_catL (e_var rfl (e_sl (e_var rfl (eo_some (e_un (e_int (r_neg ⟨_, rfl, eo_none (r_slL ?_)⟩))))))))))))))))))
              rw [e4]
              refine ⟨_, _, rfl, rfl, by rw [hpq]; show _ + 1 ≤ 100000; omega, ?_⟩
              rw [e5]
              refine ea_cons (e_var rfl (ea_nil ⟨Nat.le_of_ble_eq_true rfl, ea_nil ⟨⟨n, t, qs ++ [c], (stop : Int)⟩, rfl, hpl _ (by rw [List.length_append]; show qs.length + 1 ≤ 100; omega), ?_⟩⟩))
              rintro d rfl
              dsimp only
              rw [hag, List.length_append, List.length_singleton]
              repeat walk_at "k"
              refine ⟨fun h => absurd h (by rw [decide_eq_true (show ((qs.length + 1 + (leftF n t qs stop).length : Nat) : Int) = (n : Int) + 1 by omega)]; decide), fun _ => s_next ?_⟩
              exact Sub.refl _
            · exfalso
              rw [e2] at h
              unfold pairsL at h
              rw [List.map_append] at h
              cases q1 <;> cases h
        refine s_if ?_
        repeat walk_at "k"
        refine ⟨⟨n, t, (b : Int), (n : Int), qs, (stop : Int)⟩, rfl, ⟨hpl qs (by omega), by show (0 : Int) ≤ (b : Int); omega⟩, ?_⟩
        rintro d rfl
        rw [plan_ok hs0 hq]
        repeat walk_at "k"
        exact ⟨L0 ns, by repeat (first | exact Sub.nil | apply Sub.keep | apply Sub.drop), rfl, ⟨L0 ns, Sub.refl _, rfl⟩⟩
      · subst e
        refine S.sub ?_ s4
        repeat walk_at "d"
        rfl
end
end K15
set_option Elab.async false
set_option linter.all false
set_option maxRecDepth 100000
namespace K15
open PySem PySem.Spec PyProof.Rows L2 Dl
set_option maxHeartbeats 0 in
theorem all_mk {l : PySem.W.OpenLaw} {q : Program} {w : World} {K : PySem.W.Frag} {h : Heap} {mg : Str → Option Value} {fa f1 f2 f3 f4 f5 f6 f7 f8 f9 f10 f11 f12 f13 f14 f15 f16 f17 f18 f19 kc5 pt5 kc7 pt7 kc9 pt9 kc11 pt11 : Addr} (X : K.In h) (G : h.Ns mainGlobals mg) (hfa : mg "law" = some (.ref fa)) (AT : Dl.AllTabs q K mg h)
    {od1 an1 od2 an2 od3 an3 od4 an4 od5 an5 od6 an6 od7 an7 od8 an8 od9 an9 od10 an10 od11 an11 od12 an12 od13 an13 od14 an14 od15 an15 od16 an16 od17 an17 od18 an18 od19 an19 : Option Addr} {sl1 sl2 sl3 sl4 sl5 sl6 sl7 sl8 sl9 sl10 sl11 sl12 sl13 sl14 sl15 sl16 sl17 sl18 sl19 : Array (Option Value)} {oc1 kV1 dc1 pm1 ct1 cd1 oc2 kV2 dc2 pm2 ct2 cd2 oc3 kV3 dc3 pm3 ct3 cd3 oc4 kV4 dc4 pm4 ct4 cd4 oc5 kV5 dc5 pm5 ct5 oc6 kV6 dc6 pm6 ct6 cd6 oc7 kV7 dc7 pm7 ct7 oc8 kV8 dc8 pm8 ct8 cd8 oc9 kV9 dc9 pm9 ct9 oc10 kV10 dc10 pm10 ct10 cd10 oc11 kV11 dc11 pm11 ct11 oc12 kV12 dc12 pm12 ct12 cd12 oc13 kV13 dc13 pm13 ct13 cd13 oc14 kV14 dc14 pm14 ct14 cd14 oc15 kV15 dc15 pm15 ct15 cd15 oc16 kV16 dc16 pm16 ct16 cd16 oc17 kV17 dc17 pm17 ct17 cd17 oc18 kV18 dc18 pm18 ct18 cd18 oc19 kV19 dc19 pm19 ct19 cd19 : Value}
    {te5 te7 te9 te11 : Value} {td5 td7 td9 td11 : Option Addr} {tv5 tv7 tv9 tv11 : Array Value} {tl5 tl7 tl9 tl11 : Array (Option Value)}
    (a1 : PySem.W.nsIn K mainGlobals "last_writings" = some (some (.ref f1))) (l1 : K.lookup f1 = some ⟨oc1, od1, .func (PySem.W.fnOf "last_writings" "last_writings" (defArgs s_last_writings) (defBody s_last_writings) (defScope s_last_writings) .none kV1 dc1 pm1 an1 cd1 ct1), sl1⟩) (c1 : PySem.W.codeIn K cd1 "last_writings" = true) (k1 : PySem.W.keepIn K (.ref f1) = true)
    (a2 : PySem.W.nsIn K mainGlobals "outdated" = some (some (.ref f2))) (l2 : K.lookup f2 = some ⟨oc2, od2, .func (PySem.W.fnOf "outdated" "outdated" (defArgs s_outdated) (defBody s_outdated) (defScope s_outdated) .none kV2 dc2 pm2 an2 cd2 ct2), sl2⟩) (c2 : PySem.W.codeIn K cd2 "outdated" = true) (k2 : PySem.W.keepIn K (.ref f2) = true)
    (a3 : PySem.W.nsIn K mainGlobals "last_copyings" = some (some (.ref f3))) (l3 : K.lookup f3 = some ⟨oc3, od3, .func (PySem.W.fnOf "last_copyings" "last_copyings" (defArgs s_last_copyings) (defBody s_last_copyings) (defScope s_last_copyings) .none kV3 dc3 pm3 an3 cd3 ct3), sl3⟩) (c3 : PySem.W.codeIn K cd3 "last_copyings" = true) (k3 : PySem.W.keepIn K (.ref f3) = true)
    (a4 : PySem.W.nsIn K mainGlobals "left_by" = some (some (.ref f4))) (l4 : K.lookup f4 = some ⟨oc4, od4, .func (PySem.W.fnOf "left_by" "left_by" (defArgs s_left_by) (defBody s_left_by) (defScope s_left_by) .none kV4 dc4 pm4 an4 cd4 ct4), sl4⟩) (c4 : PySem.W.codeIn K cd4 "left_by" = true) (k4 : PySem.W.keepIn K (.ref f4) = true)
    (a5 : PySem.W.nsIn K mainGlobals "is_rising" = some (some (.ref f5))) (l5 : K.lookup f5 = some ⟨oc5, od5, .func (PySem.W.fnOf "is_rising" "is_rising" (defArgs s_is_rising) (defBody s_is_rising) (defScope s_is_rising) .none kV5 dc5 pm5 an5 (.ref kc5) ct5), sl5⟩) (c5 : PySem.W.codeIn K (.ref kc5) "is_rising" = true) (k5 : PySem.W.keepIn K (.ref f5) = true)
    (h5 : K.lookup kc5 = some ⟨te5, td5, .fields tv5, tl5⟩) (v5 : tv5[11]? = some (.ref pt5)) (n5 : K.lookup pt5 = none) (q5 : PySem.W.codeHdIn K kc5 pt5 = true) (r5 : ((recsOf q).any fun e => e.name == "is_rising") = true)
    (a6 : PySem.W.nsIn K mainGlobals "most_at_a_tick" = some (some (.ref f6))) (l6 : K.lookup f6 = some ⟨oc6, od6, .func (PySem.W.fnOf "most_at_a_tick" "most_at_a_tick" (defArgs s_most_at_a_tick) (defBody s_most_at_a_tick) (defScope s_most_at_a_tick) .none kV6 dc6 pm6 an6 cd6 ct6), sl6⟩) (c6 : PySem.W.codeIn K cd6 "most_at_a_tick" = true) (k6 : PySem.W.keepIn K (.ref f6) = true)
    (a7 : PySem.W.nsIn K mainGlobals "is_plan" = some (some (.ref f7))) (l7 : K.lookup f7 = some ⟨oc7, od7, .func (PySem.W.fnOf "is_plan" "is_plan" (defArgs s_is_plan) (defBody s_is_plan) (defScope s_is_plan) .none kV7 dc7 pm7 an7 (.ref kc7) ct7), sl7⟩) (c7 : PySem.W.codeIn K (.ref kc7) "is_plan" = true) (k7 : PySem.W.keepIn K (.ref f7) = true)
    (h7 : K.lookup kc7 = some ⟨te7, td7, .fields tv7, tl7⟩) (v7 : tv7[11]? = some (.ref pt7)) (n7 : K.lookup pt7 = none) (q7 : PySem.W.codeHdIn K kc7 pt7 = true) (r7 : ((recsOf q).any fun e => e.name == "is_plan") = true)
    (a8 : PySem.W.nsIn K mainGlobals "carried_by" = some (some (.ref f8))) (l8 : K.lookup f8 = some ⟨oc8, od8, .func (PySem.W.fnOf "carried_by" "carried_by" (defArgs s_carried_by) (defBody s_carried_by) (defScope s_carried_by) .none kV8 dc8 pm8 an8 cd8 ct8), sl8⟩) (c8 : PySem.W.codeIn K cd8 "carried_by" = true) (k8 : PySem.W.keepIn K (.ref f8) = true)
    (a9 : PySem.W.nsIn K mainGlobals "too_many_behind" = some (some (.ref f9))) (l9 : K.lookup f9 = some ⟨oc9, od9, .func (PySem.W.fnOf "too_many_behind" "too_many_behind" (defArgs s_too_many_behind) (defBody s_too_many_behind) (defScope s_too_many_behind) .none kV9 dc9 pm9 an9 (.ref kc9) ct9), sl9⟩) (c9 : PySem.W.codeIn K (.ref kc9) "too_many_behind" = true) (k9 : PySem.W.keepIn K (.ref f9) = true)
    (h9 : K.lookup kc9 = some ⟨te9, td9, .fields tv9, tl9⟩) (v9 : tv9[11]? = some (.ref pt9)) (n9 : K.lookup pt9 = none) (q9 : PySem.W.codeHdIn K kc9 pt9 = true) (r9 : ((recsOf q).any fun e => e.name == "too_many_behind") = true)
    (a10 : PySem.W.nsIn K mainGlobals "must_be_left" = some (some (.ref f10))) (l10 : K.lookup f10 = some ⟨oc10, od10, .func (PySem.W.fnOf "must_be_left" "must_be_left" (defArgs s_must_be_left) (defBody s_must_be_left) (defScope s_must_be_left) .none kV10 dc10 pm10 an10 cd10 ct10), sl10⟩) (c10 : PySem.W.codeIn K cd10 "must_be_left" = true) (k10 : PySem.W.keepIn K (.ref f10) = true)
    (a11 : PySem.W.nsIn K mainGlobals "late_copies" = some (some (.ref f11))) (l11 : K.lookup f11 = some ⟨oc11, od11, .func (PySem.W.fnOf "late_copies" "late_copies" (defArgs s_late_copies) (defBody s_late_copies) (defScope s_late_copies) .none kV11 dc11 pm11 an11 (.ref kc11) ct11), sl11⟩) (c11 : PySem.W.codeIn K (.ref kc11) "late_copies" = true) (k11 : PySem.W.keepIn K (.ref f11) = true)
    (h11 : K.lookup kc11 = some ⟨te11, td11, .fields tv11, tl11⟩) (v11 : tv11[11]? = some (.ref pt11)) (n11 : K.lookup pt11 = none) (q11 : PySem.W.codeHdIn K kc11 pt11 = true) (r11 : ((recsOf q).any fun e => e.name == "late_copies") = true)
    (a12 : PySem.W.nsIn K mainGlobals "told_of_stop" = some (some (.ref f12))) (l12 : K.lookup f12 = some ⟨oc12, od12, .func (PySem.W.fnOf "told_of_stop" "told_of_stop" (defArgs s_told_of_stop) (defBody s_told_of_stop) (defScope s_told_of_stop) .none kV12 dc12 pm12 an12 cd12 ct12), sl12⟩) (c12 : PySem.W.codeIn K cd12 "told_of_stop" = true) (k12 : PySem.W.keepIn K (.ref f12) = true)
    (a13 : PySem.W.nsIn K mainGlobals "plan_for" = some (some (.ref f13))) (l13 : K.lookup f13 = some ⟨oc13, od13, .func (PySem.W.fnOf "plan_for" "plan_for" (defArgs s_plan_for) (defBody s_plan_for) (defScope s_plan_for) .none kV13 dc13 pm13 an13 cd13 ct13), sl13⟩) (c13 : PySem.W.codeIn K cd13 "plan_for" = true) (k13 : PySem.W.keepIn K (.ref f13) = true)
    (a14 : PySem.W.nsIn K mainGlobals "least_left" = some (some (.ref f14))) (l14 : K.lookup f14 = some ⟨oc14, od14, .func (PySem.W.fnOf "least_left" "least_left" (defArgs s_least_left) (defBody s_least_left) (defScope s_least_left) .none kV14 dc14 pm14 an14 cd14 ct14), sl14⟩) (c14 : PySem.W.codeIn K cd14 "least_left" = true) (k14 : PySem.W.keepIn K (.ref f14) = true)
    (a15 : PySem.W.nsIn K mainGlobals "_law_spring" = some (some (.ref f15))) (l15 : K.lookup f15 = some ⟨oc15, od15, .func (PySem.W.fnOf "_law_spring" "_law_spring" (defArgs s_law_spring) (defBody s_law_spring) (defScope s_law_spring) .none kV15 dc15 pm15 an15 cd15 ct15), sl15⟩) (c15 : PySem.W.codeIn K cd15 "_law_spring" = true) (k15 : PySem.W.keepIn K (.ref f15) = true)
    (a16 : PySem.W.nsIn K mainGlobals "_law_cup" = some (some (.ref f16))) (l16 : K.lookup f16 = some ⟨oc16, od16, .func (PySem.W.fnOf "_law_cup" "_law_cup" (defArgs s_law_cup) (defBody s_law_cup) (defScope s_law_cup) .none kV16 dc16 pm16 an16 cd16 ct16), sl16⟩) (c16 : PySem.W.codeIn K cd16 "_law_cup" = true) (k16 : PySem.W.keepIn K (.ref f16) = true)
    (a17 : PySem.W.nsIn K mainGlobals "_law_trace" = some (some (.ref f17))) (l17 : K.lookup f17 = some ⟨oc17, od17, .func (PySem.W.fnOf "_law_trace" "_law_trace" (defArgs s_law_trace) (defBody s_law_trace) (defScope s_law_trace) .none kV17 dc17 pm17 an17 cd17 ct17), sl17⟩) (c17 : PySem.W.codeIn K cd17 "_law_trace" = true) (k17 : PySem.W.keepIn K (.ref f17) = true)
    (a18 : PySem.W.nsIn K mainGlobals "_law_sizes" = some (some (.ref f18))) (l18 : K.lookup f18 = some ⟨oc18, od18, .func (PySem.W.fnOf "_law_sizes" "_law_sizes" (defArgs s_law_sizes) (defBody s_law_sizes) (defScope s_law_sizes) .none kV18 dc18 pm18 an18 cd18 ct18), sl18⟩) (c18 : PySem.W.codeIn K cd18 "_law_sizes" = true) (k18 : PySem.W.keepIn K (.ref f18) = true)
    (a19 : PySem.W.nsIn K mainGlobals "law" = some (some (.ref f19))) (l19 : K.lookup f19 = some ⟨oc19, od19, .func (PySem.W.fnOf "law" "law" (defArgs s_law) (defBody s_law) (defScope s_law) .none kV19 dc19 pm19 an19 cd19 ct19), sl19⟩) (c19 : PySem.W.codeIn K cd19 "law" = true) (k19 : PySem.W.keepIn K (.ref f19) = true)
    (z_all : PySem.W.nsIn K mainGlobals "all" = some none)
    (z_enumerate : PySem.W.nsIn K mainGlobals "enumerate" = some none)
    (z_int : PySem.W.nsIn K mainGlobals "int" = some none)
    (z_len : PySem.W.nsIn K mainGlobals "len" = some none)
    (z_list : PySem.W.nsIn K mainGlobals "list" = some none)
    (z_max : PySem.W.nsIn K mainGlobals "max" = some none)
    (z_min : PySem.W.nsIn K mainGlobals "min" = some none)
    (z_range : PySem.W.nsIn K mainGlobals "range" = some none)
    (z_sorted : PySem.W.nsIn K mainGlobals "sorted" = some none)
    (z_sum : PySem.W.nsIn K mainGlobals "sum" = some none)
    (z_tuple : PySem.W.nsIn K mainGlobals "tuple" = some none)
    (z_zip : PySem.W.nsIn K mainGlobals "zip" = some none)
    : LamX.LawAtS l w K CX0 9 63 "script" mg fa h := by
  have e := hfa.symm.trans (PySem.W.mg_of X G a19)
  cases e
  have F1 := fun_mk (st := s_last_writings) l1 c1 k1
  have F2 := fun_mk (st := s_outdated) l2 c2 k2
  have F3 := fun_mk (st := s_last_copyings) l3 c3 k3
  have F4 := fun_mk (st := s_left_by) l4 c4 k4
  have F5 := funC_mk (st := s_is_rising) l5 c5 k5
  have T5 := AT "is_rising" f5 kc5 pt5 _ _ _ _ _ _ r5 (PySem.W.mg_of X G a5) l5 rfl rfl h5 v5
  have F6 := fun_mk (st := s_most_at_a_tick) l6 c6 k6
  have F7 := funC_mk (st := s_is_plan) l7 c7 k7
  have T7 := AT "is_plan" f7 kc7 pt7 _ _ _ _ _ _ r7 (PySem.W.mg_of X G a7) l7 rfl rfl h7 v7
  have F8 := fun_mk (st := s_carried_by) l8 c8 k8
  have F9 := funC_mk (st := s_too_many_behind) l9 c9 k9
  have T9 := AT "too_many_behind" f9 kc9 pt9 _ _ _ _ _ _ r9 (PySem.W.mg_of X G a9) l9 rfl rfl h9 v9
  have F10 := fun_mk (st := s_must_be_left) l10 c10 k10
  have F11 := funC_mk (st := s_late_copies) l11 c11 k11
  have T11 := AT "late_copies" f11 kc11 pt11 _ _ _ _ _ _ r11 (PySem.W.mg_of X G a11) l11 rfl rfl h11 v11
  have F12 := fun_mk (st := s_told_of_stop) l12 c12 k12
  have F13 := fun_mk (st := s_plan_for) l13 c13 k13
  have F14 := fun_mk (st := s_least_left) l14 c14 k14
  have F15 := fun_mk (st := s_law_spring) l15 c15 k15
  have F16 := fun_mk (st := s_law_cup) l16 c16 k16
  have F17 := fun_mk (st := s_law_trace) l17 c17 k17
  have F18 := fun_mk (st := s_law_sizes) l18 c18 k18
  have F19 := fun_mk (st := s_law) l19 c19 k19
  have b1 := F1.binds (ps := ["n", "trace", "stop"]) fun _ _ _ _ _ _ us hl => match us, hl with | [_, _, _], _ => rfl
  have b2 := F2.binds (ps := ["n", "trace", "copied", "stop"]) fun _ _ _ _ _ _ us hl => match us, hl with | [_, _, _, _], _ => rfl
  have b3 := F3.binds (ps := ["copies", "stop"]) fun _ _ _ _ _ _ us hl => match us, hl with | [_, _], _ => rfl
  have b4 := F4.binds (ps := ["n", "trace", "plan"]) fun _ _ _ _ _ _ us hl => match us, hl with | [_, _, _], _ => rfl
  have b5 := F5.plain.binds (ps := ["things"]) fun _ _ _ _ _ _ us hl => match us, hl with | [_], _ => rfl
  have b6 := F6.binds (ps := ["copies"]) fun _ _ _ _ _ _ us hl => match us, hl with | [_], _ => rfl
  have b7 := F7.plain.binds (ps := ["n", "trace", "b", "s", "plan"]) fun _ _ _ _ _ _ us hl => match us, hl with | [_, _, _, _, _], _ => rfl
  have b8 := F8.binds (ps := ["n", "trace", "plan"]) fun _ _ _ _ _ _ us hl => match us, hl with | [_, _, _], _ => rfl
  have b9 := F9.plain.binds (ps := ["last", "b", "stop", "t"]) fun _ _ _ _ _ _ us hl => match us, hl with | [_, _, _, _], _ => rfl
  have b10 := F10.binds (ps := ["last", "b", "stop"]) fun _ _ _ _ _ _ us hl => match us, hl with | [_, _, _], _ => rfl
  have b11 := F11.plain.binds (ps := ["last", "b", "left", "stop"]) fun _ _ _ _ _ _ us hl => match us, hl with | [_, _, _, _], _ => rfl
  have b12 := F12.binds (ps := ["last", "b", "s", "stop"]) fun _ _ _ _ _ _ us hl => match us, hl with | [_, _, _, _], _ => rfl
  have b13 := F13.binds (ps := ["n", "trace", "b", "s", "stop"]) fun _ _ _ _ _ _ us hl => match us, hl with | [_, _, _, _, _], _ => rfl
  have b14 := F14.binds (ps := ["n", "trace", "b", "stop"]) fun _ _ _ _ _ _ us hl => match us, hl with | [_, _, _, _], _ => rfl
  have b15 := F15.binds (ps := ["script", "k"]) fun _ _ _ _ _ _ us hl => match us, hl with | [_, _], _ => rfl
  have b16 := F16.binds (ps := ["spring", "many"]) fun _ _ _ _ _ _ us hl => match us, hl with | [_, _], _ => rfl
  have b17 := F17.binds (ps := ["spring", "n", "most"]) fun _ _ _ _ _ _ us hl => match us, hl with | [_, _, _], _ => rfl
  have b18 := F18.binds (ps := ["spring"]) fun _ _ _ _ _ _ us hl => match us, hl with | [_], _ => rfl
  refine ⟨PySem.W.fnOf "law" "law" (defArgs s_law) (defBody s_law) (defScope s_law) .none kV19 dc19 pm19 an19 cd19 ct19, [(kc5, pt5), (kc7, pt7), (kc9, pt9), (kc11, pt11)], Dl.spLawT K [pt5, pt7, pt9, pt11], (List.forall_mem_cons.mpr ⟨T5, List.forall_mem_cons.mpr ⟨T7, List.forall_mem_cons.mpr ⟨T9, List.forall_mem_cons.mpr ⟨T11, fun _ h => nomatch h⟩⟩⟩⟩), (List.forall_mem_cons.mpr ⟨n5, List.forall_mem_cons.mpr ⟨n7, List.forall_mem_cons.mpr ⟨n9, List.forall_mem_cons.mpr ⟨n11, fun _ h => nomatch h⟩⟩⟩⟩), (List.forall_mem_cons.mpr ⟨PySem.W.codeHd_of_K X q5, List.forall_mem_cons.mpr ⟨PySem.W.codeHd_of_K X q7, List.forall_mem_cons.mpr ⟨PySem.W.codeHd_of_K X q9, List.forall_mem_cons.mpr ⟨PySem.W.codeHd_of_K X q11, fun _ h => nomatch h⟩⟩⟩⟩), fun s v => .of_eq rfl, fun H a ns hl _ hH hS => ⟨a, ns, rfl, hS, hl, ?_, fun _ => rfl⟩, fun base _ _ TB => ?_⟩
  · intro P hP
    have hP : P ∈ ([(kc5, pt5), (kc7, pt7), (kc9, pt9), (kc11, pt11)] : List (Addr × Addr)).map (·.2) := hP
    obtain ⟨p, hp, rfl⟩ := List.mem_map.mp hP
    exact Dl.tabG_nil (hH p hp)
  · exact ok_law (base := base) F19 { ts := [pt5, pt7, pt9, pt11], f_last_writings := f1, d_last_writings := _, F_last_writings := F1, b_last_writings := b1, g_last_writings := PySem.W.mg_of X G a1, f_outdated := f2, d_outdated := _, F_outdated := F2, b_outdated := b2, g_outdated := PySem.W.mg_of X G a2, f_last_copyings := f3, d_last_copyings := _, F_last_copyings := F3, b_last_copyings := b3, g_last_copyings := PySem.W.mg_of X G a3, f_left_by := f4, d_left_by := _, F_left_by := F4, b_left_by := b4, g_left_by := PySem.W.mg_of X G a4, f_is_rising := f5, d_is_rising := _, F_is_rising := F5, b_is_rising := b5, g_is_rising := PySem.W.mg_of X G a5, k_is_rising := kc5, p_is_rising := pt5, tb_is_rising := Dl.tabB_of (TB (kc5, pt5) (List.mem_cons_self ..)), ti_is_rising := List.mem_cons_self .., f_most_at_a_tick := f6, d_most_at_a_tick := _, F_most_at_a_tick := F6, b_most_at_a_tick := b6, g_most_at_a_tick := PySem.W.mg_of X G a6, f_is_plan := f7, d_is_plan := _, F_is_plan := F7, b_is_plan := b7, g_is_plan := PySem.W.mg_of X G a7, k_is_plan := kc7, p_is_plan := pt7, tb_is_plan := Dl.tabB_of (TB (kc7, pt7) (List.mem_cons_of_mem _ (List.mem_cons_self ..))), ti_is_plan := List.mem_cons_of_mem _ (List.mem_cons_self ..), f_carried_by := f8, d_carried_by := _, F_carried_by := F8, b_carried_by := b8, g_carried_by := PySem.W.mg_of X G a8, f_too_many_behind := f9, d_too_many_behind := _, F_too_many_behind := F9, b_too_many_behind := b9, g_too_many_behind := PySem.W.mg_of X G a9, k_too_many_behind := kc9, p_too_many_behind := pt9, tb_too_many_behind := Dl.tabB_of (TB (kc9, pt9) (List.mem_cons_of_mem _ (List.mem_cons_of_mem _ (List.mem_cons_self ..)))), ti_too_many_behind := List.mem_cons_of_mem _ (List.mem_cons_of_mem _ (List.mem_cons_self ..)), f_must_be_left := f10, d_must_be_left := _, F_must_be_left := F10, b_must_be_left := b10, g_must_be_left := PySem.W.mg_of X G a10, f_late_copies := f11, d_late_copies := _, F_late_copies := F11, b_late_copies := b11, g_late_copies := PySem.W.mg_of X G a11, k_late_copies := kc11, p_late_copies := pt11, tb_late_copies := Dl.tabB_of (TB (kc11, pt11) (List.mem_cons_of_mem _ (List.mem_cons_of_mem _ (List.mem_cons_of_mem _ (List.mem_cons_self ..))))), ti_late_copies := List.mem_cons_of_mem _ (List.mem_cons_of_mem _ (List.mem_cons_of_mem _ (List.mem_cons_self ..))), f_told_of_stop := f12, d_told_of_stop := _, F_told_of_stop := F12, b_told_of_stop := b12, g_told_of_stop := PySem.W.mg_of X G a12, f_plan_for := f13, d_plan_for := _, F_plan_for := F13, b_plan_for := b13, g_plan_for := PySem.W.mg_of X G a13, f_least_left := f14, d_least_left := _, F_least_left := F14, b_least_left := b14, g_least_left := PySem.W.mg_of X G a14, f_law_spring := f15, d_law_spring := _, F_law_spring := F15, b_law_spring := b15, g_law_spring := PySem.W.mg_of X G a15, f_law_cup := f16, d_law_cup := _, F_law_cup := F16, b_law_cup := b16, g_law_cup := PySem.W.mg_of X G a16, f_law_trace := f17, d_law_trace := _, F_law_trace := F17, b_law_trace := b17, g_law_trace := PySem.W.mg_of X G a17, f_law_sizes := f18, d_law_sizes := _, F_law_sizes := F18, b_law_sizes := b18, g_law_sizes := PySem.W.mg_of X G a18, m_all := PySem.W.mg_none_of X G z_all, m_enumerate := PySem.W.mg_none_of X G z_enumerate, m_int := PySem.W.mg_none_of X G z_int, m_len := PySem.W.mg_none_of X G z_len, m_list := PySem.W.mg_none_of X G z_list, m_max := PySem.W.mg_none_of X G z_max, m_min := PySem.W.mg_none_of X G z_min, m_range := PySem.W.mg_none_of X G z_range, m_sorted := PySem.W.mg_none_of X G z_sorted, m_sum := PySem.W.mg_none_of X G z_sum, m_tuple := PySem.W.mg_none_of X G z_tuple, m_zip := PySem.W.mg_none_of X G z_zip }
end K15
open PySem PySem.W PyProof.Rows
set_option maxHeartbeats 0 in
theorem PySem.Challenge.cw_warmove_k15_whole_none_carries_fewer_holds : PySem.Challenge.rw_warmove_k15_whole_none_carries_fewer.Holds := by
  w_on; o_law; k_head; (case hw => w_witness2)
  k_fill
  refine Dl.walk_ofTabs (l := PySem.Challenge.rw_warmove_k15_whole_none_carries_fewer) (n := 63) (k := 9) (x := "script") (CX := fun _ => L2.CX0) rfl (by decide) rfl ⟨rfl, by decide, by decide⟩ (fun w h Y => by first | exact PySem.W.kIn_of Y | exact PySem.W.km_in_of Y) ?F (fun _ _ _ _ _ h => h)
  case F =>
    intro w mg fa h KX G hmg AT
    refine' K15.all_mk KX G hmg AT ?a1 ?l1 ?c1 ?k1 ?a2 ?l2 ?c2 ?k2 ?a3 ?l3 ?c3 ?k3 ?a4 ?l4 ?c4 ?k4 ?a5 ?l5 ?c5 ?k5 ?h5 ?v5 ?n5 ?q5 ?r5 ?a6 ?l6 ?c6 ?k6 ?a7 ?l7 ?c7 ?k7 ?h7 ?v7 ?n7 ?q7 ?r7 ?a8 ?l8 ?c8 ?k8 ?a9 ?l9 ?c9 ?k9 ?h9 ?v9 ?n9 ?q9 ?r9 ?a10 ?l10 ?c10 ?k10 ?a11 ?l11 ?c11 ?k11 ?h11 ?v11 ?n11 ?q11 ?r11 ?a12 ?l12 ?c12 ?k12 ?a13 ?l13 ?c13 ?k13 ?a14 ?l14 ?c14 ?k14 ?a15 ?l15 ?c15 ?k15 ?a16 ?l16 ?c16 ?k16 ?a17 ?l17 ?c17 ?k17 ?a18 ?l18 ?c18 ?k18 ?a19 ?l19 ?c19 ?k19 ?z_all ?z_enumerate ?z_int ?z_len ?z_list ?z_max ?z_min ?z_range ?z_sorted ?z_sum ?z_tuple ?z_zip
    (case a1 => k_is); (case l1 => k_is); (case c1 => k_is); (case k1 => k_is); (case a2 => k_is); (case l2 => k_is); (case c2 => k_is); (case k2 => k_is); (case a3 => k_is); (case l3 => k_is); (case c3 => k_is); (case k3 => k_is); (case a4 => k_is); (case l4 => k_is); (case c4 => k_is); (case k4 => k_is); (case a5 => k_is); (case l5 => k_is); (case c5 => k_is); (case k5 => k_is); (case h5 => k_is); (case v5 => exact rfl); (case n5 => kernel_rfl); (case q5 => kernel_rfl); (case r5 => kernel_rfl); (case a6 => k_is); (case l6 => k_is); (case c6 => k_is); (case k6 => k_is); (case a7 => k_is); (case l7 => k_is); (case c7 => k_is); (case k7 => k_is); (case h7 => k_is); (case v7 => exact rfl); (case n7 => kernel_rfl); (case q7 => kernel_rfl); (case r7 => kernel_rfl); (case a8 => k_is); (case l8 => k_is); (case c8 => k_is); (case k8 => k_is); (case a9 => k_is); (case l9 => k_is); (case c9 => k_is); (case k9 => k_is); (case h9 => k_is); (case v9 => exact rfl); (case n9 => kernel_rfl); (case q9 => kernel_rfl); (case r9 => kernel_rfl); (case a10 => k_is); (case l10 => k_is); (case c10 => k_is); (case k10 => k_is); (case a11 => k_is); (case l11 => k_is); (case c11 => k_is); (case k11 => k_is); (case h11 => k_is); (case v11 => exact rfl); (case n11 => kernel_rfl); (case q11 => kernel_rfl); (case r11 => kernel_rfl); (case a12 => k_is); (case l12 => k_is); (case c12 => k_is); (case k12 => k_is); (case a13 => k_is); (case l13 => k_is); (case c13 => k_is); (case k13 => k_is); (case a14 => k_is); (case l14 => k_is); (case c14 => k_is); (case k14 => k_is); (case a15 => k_is); (case l15 => k_is); (case c15 => k_is); (case k15 => k_is); (case a16 => k_is); (case l16 => k_is); (case c16 => k_is); (case k16 => k_is); (case a17 => k_is); (case l17 => k_is); (case c17 => k_is); (case k17 => k_is); (case a18 => k_is); (case l18 => k_is); (case c18 => k_is); (case k18 => k_is); (case a19 => k_is); (case l19 => k_is); (case c19 => k_is); (case k19 => k_is); (case z_all => k_is); (case z_enumerate => k_is); (case z_int => k_is); (case z_len => k_is); (case z_list => k_is); (case z_max => k_is); (case z_min => k_is); (case z_range => k_is); (case z_sorted => k_is); (case z_sum => k_is); (case z_tuple => k_is); (case z_zip => k_is)
