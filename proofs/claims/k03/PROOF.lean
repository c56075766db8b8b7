import PyProof.Rows.All
import Wide.All
import OpenK.AllK
import Wide.FinOn
import HandS.Base
import HandS.Call
import HandS.List
import HandS.Comp
import HandS.Ends
import HandS.Words
import HandS.WordsList
import HandS.TupAny
import HandS.Zip
import HandS.Wide
import HandS.IsInst
import PySem.Challenge.RW_warmove_k03_ticks
set_option Elab.async false
set_option linter.all false
set_option maxRecDepth 100000
/-! Data layer: what readings ask, said of data (PyData) and of a list of slots. -/
namespace Dl
open PySem PySem.Spec PyProof.Rows L2

/-! ### data stand where the heap only grows -/
theorem rd_mono {G G' : Hp} (e : Same G G') {a : Addr} {u : HO} (h : Rd G a u) : Rd G' a u := by
  rcases h with h | ⟨o, h⟩
  · exact .inl (e _ _ h)
  · exact .inr ⟨o, e _ _ h⟩
theorem sqT_mono {K : PySem.W.Frag} {G G' : Hp} (e : Same G G') {a : Addr} {xs : List V} (h : SqT K G a xs) : SqT K G' a xs := by
  rcases h with h | h
  · exact .inl (rd_mono e h)
  · exact .inr h
theorem sqL_mono {K : PySem.W.Frag} {G G' : Hp} (e : Same G G') {a : Addr} {xs : List V} (h : SqL K G a xs) : SqL K G' a xs := e.seq h
mutual
theorem dp_mono {K : PySem.W.Frag} {G G' : Hp} (e : Same G G') : ∀ (d : PyData) (v : V), Dp K G v d → Dp K G' v d
  | .none, _, h => by cases h; exact .non
  | .bool b, _, h => by cases h; exact .bl b
  | .int i, _, h => by cases h; exact .int i
  | .str x, _, h => by cases h; exact .str x
  | .list ds, _, h => by
    cases h with
    | lst hs ha => exact .lst (sqL_mono e hs) (dpa_mono e ds _ ha)
  | .tuple ds, _, h => by
    cases h with
    | tup hs ha => exact .tup (sqT_mono e hs) (dpa_mono e ds _ ha)
  | .dict _, _, h => by cases h
theorem dpa_mono {K : PySem.W.Frag} {G G' : Hp} (e : Same G G') : ∀ (ds : List PyData) (vs : List V), DpAll K G vs ds → DpAll K G' vs ds
  | [], _, h => by cases h; exact .nil
  | d :: ds, _, h => by
    cases h with
    | cons h1 h2 => exact .cons (dp_mono e d _ h1) (dpa_mono e ds _ h2)
end
theorem dpa_len {K : PySem.W.Frag} {G : Hp} : ∀ {vs : List V} {ds : List PyData}, DpAll K G vs ds → vs.length = ds.length
  | _, _, .nil => rfl
  | _, _, .cons _ h => by rw [List.length_cons, List.length_cons, dpa_len h]
theorem dpa_get {K : PySem.W.Frag} {G : Hp} : ∀ {vs : List V} {ds : List PyData} {i : Nat} {d : PyData}, DpAll K G vs ds → ds[i]? = some d → ∃ v, vs[i]? = some v ∧ Dp K G v d
  | _, _, _, _, .nil, e => by simp at e
  | _, _, 0, _, .cons (v := v) h _, e => by
    have e' := Option.some.inj e
    subst e'
    exact ⟨v, rfl, h⟩
  | _, _, i + 1, d, .cons _ t, e => dpa_get (i := i) (d := d) t e
theorem dpa_getV {K : PySem.W.Frag} {G : Hp} : ∀ {vs : List V} {ds : List PyData} {i : Nat} {v : V}, DpAll K G vs ds → vs[i]? = some v → ∃ d, ds[i]? = some d ∧ Dp K G v d
  | _, _, _, _, .nil, e => by simp at e
  | _, _, 0, _, .cons (d := d) h _, e => by
    have e' := Option.some.inj e
    subst e'
    exact ⟨d, rfl, h⟩
  | _, _, i + 1, v, .cons _ t, e => dpa_getV (i := i) (v := v) t e
theorem dpa_app {K : PySem.W.Frag} {G : Hp} : ∀ {vs ws : List V} {ds es : List PyData}, DpAll K G vs ds → DpAll K G ws es → DpAll K G (vs ++ ws) (ds ++ es)
  | _, _, _, _, .nil, h => h
  | _, _, _, _, .cons h t, h' => .cons h (dpa_app t h')
theorem dpa_take {K : PySem.W.Frag} {G : Hp} : ∀ (n : Nat) {vs : List V} {ds : List PyData}, DpAll K G vs ds → DpAll K G (vs.take n) (ds.take n)
  | 0, _, _, _ => .nil
  | _ + 1, _, _, .nil => .nil
  | n + 1, _, _, .cons h t => .cons h (dpa_take n t)
theorem dpa_drop {K : PySem.W.Frag} {G : Hp} : ∀ (n : Nat) {vs : List V} {ds : List PyData}, DpAll K G vs ds → DpAll K G (vs.drop n) (ds.drop n)
  | 0, _, _, h => h
  | _ + 1, _, _, .nil => .nil
  | n + 1, _, _, .cons _ t => dpa_drop n t
theorem dpa_set {K : PySem.W.Frag} {G : Hp} {v : V} {d : PyData} (hd : Dp K G v d) : ∀ (n : Nat) {vs : List V} {ds : List PyData}, DpAll K G vs ds → DpAll K G (vs.set n v) (ds.set n d)
  | _, _, _, .nil => .nil
  | 0, _, _, .cons _ t => .cons hd t
  | n + 1, _, _, .cons h t => .cons h (dpa_set hd n t)

/-! ### the pen -/
structure Pn where
  a : Addr
  c : Addr
  n : Nat
def PenOk (p : Pn) (H : Hp) : Prop := ∃ (cells : List Int) (at_ rest : Int), H p.a = some (.lst [.ref p.c, .int at_, .int rest]) ∧ H p.c = some (.lst (cells.map V.int)) ∧ 0 ≤ at_ ∧ 0 ≤ rest ∧ cells.length = p.n
def POk : Option Pn → Hp → Prop
  | none, _ => True
  | some p, H => PenOk p H
/-- a is the pen's own list -/
def IsPn (pen : Option Pn) (a : Addr) : Prop := ∃ p, pen = some p ∧ a = p.a
theorem PenOk.ne {p : Pn} {H : Hp} (h : PenOk p H) : p.c ≠ p.a := by
  obtain ⟨cells, at_, rest, h1, h2, _⟩ := h
  intro e
  rw [e, h1] at h2
  cases cells with
  | nil => cases h2
  | cons x r => cases h2
theorem POk.keep {pen : Option Pn} {H H' : Hp} (h : POk pen H) (k : ∀ a o, H a = some o → H' a = some o) : POk pen H' := by
  cases pen with
  | none => trivial
  | some p =>
    obtain ⟨cells, at_, rest, h1, h2, h3⟩ := h
    exact ⟨cells, at_, rest, k _ _ h1, k _ _ h2, h3⟩

structure Vw (pen : Option Pn) (G H : Hp) : Prop where
  vw : Same G H
  no : ∀ a, IsPn pen a → G a = none
  ok : POk pen H
structure Go (pen : Option Pn) (G H G' H' : Hp) : Prop where
  gg : Same G G'
  nw : ∀ a, H a ≠ none → G' a = G a
  od : ∀ a o, ¬ IsPn pen a → H a = some o → H' a = some o
  vw : Vw pen G' H'
theorem POk.there {pen : Option Pn} {H : Hp} {a : Addr} (h : POk pen H) (p : IsPn pen a) : H a ≠ none := by
  obtain ⟨q, rfl, rfl⟩ := p
  obtain ⟨cells, at_, rest, h1, _⟩ := h
  rw [h1]
  exact fun z => by cases z
theorem Go.dom {pen : Option Pn} {G H G' H' : Hp} (g : Go pen G H G' H') {a : Addr} (h : H a ≠ none) : H' a ≠ none := by
  by_cases p : IsPn pen a
  · exact g.vw.ok.there p
  · cases e : H a with
    | none => exact absurd e h
    | some o =>
      rw [g.od a o p e]
      exact fun z => by cases z
theorem Go.refl {pen : Option Pn} {G H : Hp} (v : Vw pen G H) : Go pen G H G H := ⟨Same.refl _, fun _ _ => rfl, fun _ _ _ e => e, v⟩
theorem Go.trans {pen : Option Pn} {G H G1 H1 G2 H2 : Hp} (a : Go pen G H G1 H1) (b : Go pen G1 H1 G2 H2) : Go pen G H G2 H2 :=
  ⟨a.gg.trans b.gg, fun x h => (b.nw x (a.dom h)).trans (a.nw x h), fun x o p e => b.od x o p (a.od x o p e), b.vw⟩
/-- a new object that never changes -/
theorem Go.new {pen : Option Pn} {G H : Hp} (v : Vw pen G H) {p : Addr} {o : HO} (h : H p = none) : Go pen G H (upd G p o) (upd H p o) := by
  have np : ∀ a, IsPn pen a → a ≠ p := fun a q e => v.ok.there q (e ▸ h)
  have kH : ∀ a u, H a = some u → upd H p o a = some u := fun a u e => by rw [upd_ne (ne_of_none e h)]; exact e
  refine ⟨fun a u e => ?_, fun a e => ?_, fun a u _ e => kH a u e, ⟨fun a u e => ?_, fun a q => ?_, v.ok.keep kH⟩⟩
  · have h' : G p = none := by
      cases q : G p with
      | none => rfl
      | some u => rw [v.vw _ _ q] at h; cases h
    rw [upd_ne (ne_of_none e h')]; exact e
  · rw [upd_ne (fun (z : a = p) => e (by rw [z]; exact h))]
  · by_cases q : a = p
    · subst q; rw [upd_same] at e ⊢; exact e
    · rw [upd_ne q] at e ⊢; exact v.vw _ _ e
  · rw [upd_ne (np a q)]; exact v.no a q
/-- a new object that is not looked at as data -/
theorem Go.hid {pen : Option Pn} {G H : Hp} (v : Vw pen G H) {p : Addr} {o : HO} (h : H p = none) : Go pen G H G (upd H p o) := by
  have kH : ∀ a u, H a = some u → upd H p o a = some u := fun a u e => by rw [upd_ne (ne_of_none e h)]; exact e
  exact ⟨Same.refl _, fun _ _ => rfl, fun a u _ e => kH a u e, ⟨fun a u e => kH a u (v.vw a u e), v.no, v.ok.keep kH⟩⟩
/-- what a def without the pen does, seen by one who has it -/
theorem Go.lift {pen : Option Pn} {G H G' H' : Hp} (v : Vw pen G H) (g : Go none G H G' H') : Go pen G H G' H' := by
  have k : ∀ a o, H a = some o → H' a = some o := fun a o e => g.od a o (fun ⟨p, z, _⟩ => by cases z) e
  exact ⟨g.gg, g.nw, fun a o _ e => k a o e, ⟨g.vw.vw, fun a q => (g.nw a (v.ok.there q)).trans (v.no a q), v.ok.keep k⟩⟩
theorem Vw.plain {pen : Option Pn} {G H : Hp} (v : Vw pen G H) : Vw none G H := ⟨v.vw, fun a ⟨p, z, _⟩ => (nomatch z), trivial⟩

/-! ### slots -/
inductive AV where
  | d (x : PyData)
  | pen
  | own (xs : List PyData)
abbrev Lv := List (Option AV)
def AvOk (K : PySem.W.Frag) (pen : Option Pn) (H0 G H : Hp) (v : V) : AV → Prop
  | .d x => Dp K G v x
  | .pen => ∃ p, pen = some p ∧ v = .ref p.a
  | .own ds => ∃ l vs, v = .ref l ∧ H l = some (.lst vs) ∧ H0 l = none ∧ G l = none ∧ DpAll K G vs ds
structure Ev (K : PySem.W.Frag) (pen : Option Pn) (H0 G H : Hp) (σ : L2.St) (L : Lv) : Prop where
  vw : Vw pen G H
  h0 : POk pen H0
  dom : ∀ a, H0 a ≠ none → H a ≠ none
  len : σ.length = L.length
  sl : ∀ (i : Nat) av, L[i]? = some (some av) → ∃ v, σ[i]? = some (some v) ∧ AvOk K pen H0 G H v av
  ow : ∀ (i j : Nat) ds es l, L[i]? = some (some (.own ds)) → L[j]? = some (some (.own es)) → σ[i]? = some (some (.ref l)) → σ[j]? = some (some (.ref l)) → i = j
section
variable {K : PySem.W.Frag} {pen : Option Pn} {H0 G H G' H' : Hp} {σ : L2.St} {L : Lv}
theorem POk.dom0 {a : Addr} (h : POk pen H0) (p : IsPn pen a) : H0 a ≠ none := h.there p
theorem AvOk.go {v : V} {av : AV} (h : AvOk K pen H0 G H v av) (h0 : POk pen H0) (g : Go pen G H G' H') : AvOk K pen H0 G' H' v av := by
  cases av with
  | d x => exact dp_mono g.gg _ _ h
  | pen => exact h
  | own ds =>
    obtain ⟨l, vs, e, h1, h2, h3, h4⟩ := h
    have np : ¬ IsPn pen l := fun q => h0.there q h2
    refine ⟨l, vs, e, g.od _ _ np h1, h2, ?_, dpa_mono g.gg _ _ h4⟩
    rw [g.nw l (by rw [h1]; exact fun z => by cases z)]
    exact h3
theorem Ev.go (e : Ev K pen H0 G H σ L) (g : Go pen G H G' H') : Ev K pen H0 G' H' σ L :=
  ⟨g.vw, e.h0, fun a h => g.dom (e.dom a h), e.len, fun i av h => by
    obtain ⟨v, h1, h2⟩ := e.sl i av h
    exact ⟨v, h1, h2.go e.h0 g⟩, e.ow⟩
/-- a slot stored with data -/
theorem Ev.set (e : Ev K pen H0 G H σ L) {i : Nat} {v : V} {x : PyData} (h : Dp K G v x) : Ev K pen H0 G H (σ.set i (some v)) (L.set i (some (.d x))) := by
  refine ⟨e.vw, e.h0, e.dom, by rw [List.length_set, List.length_set]; exact e.len, fun j av hj => ?_, fun j k ds es l h1 h2 h3 h4 => ?_⟩
  · by_cases q : i = j
    · subst q
      have hl : i < L.length := by
        have := (List.getElem?_eq_some_iff.mp hj).1
        rw [List.length_set] at this; exact this
      rw [List.getElem?_set_self hl] at hj
      have := Option.some.inj (Option.some.inj hj)
      subst this
      exact ⟨v, List.getElem?_set_self (by rw [e.len]; exact hl), h⟩
    · rw [List.getElem?_set_ne q] at hj
      obtain ⟨w, h1, h2⟩ := e.sl j av hj
      exact ⟨w, by rw [List.getElem?_set_ne q]; exact h1, h2⟩
  · have nj : ∀ (j : Nat) (ds : List PyData), (L.set i (some (.d x)))[j]? = some (some (.own ds)) → i ≠ j := fun j ds hj q => by
      subst q
      have hl : i < L.length := by
        have := (List.getElem?_eq_some_iff.mp hj).1
        rw [List.length_set] at this; exact this
      rw [List.getElem?_set_self hl] at hj
      cases hj
    have q1 := nj j ds h1
    have q2 := nj k es h2
    rw [List.getElem?_set_ne q1] at h1 h3
    rw [List.getElem?_set_ne q2] at h2 h4
    exact e.ow j k ds es l h1 h2 h3 h4
end

/-! ### expressions -/
section
variable (K : PySem.W.Frag) (pen : Option Pn) (H0 : Hp)
def E (te : TE) (L : Lv) (P : PyData → Prop) : Prop := ∀ (σ : L2.St) (G H : Hp), Ev K pen H0 G H σ L → ∀ Q : VK, (∀ v d G' H', Go pen G H G' H' → Dp K G' v d → P d → Q v H') → te σ H Q
def EA (ta : TA) (L : Lv) (P : List PyData → Prop) : Prop := ∀ (σ : L2.St) (G H : Hp), Ev K pen H0 G H σ L → ∀ Q : List V → Hp → Prop, (∀ vs ds G' H', Go pen G H G' H' → DpAll K G' vs ds → P ds → Q vs H') → ta σ H Q
def ET (tt : TT) (L : Lv) (P : Bool → Prop) : Prop := ∀ (σ : L2.St) (G H : Hp), Ev K pen H0 G H σ L → ∀ Q : Bool → Hp → Prop, (∀ b G' H', Go pen G H G' H' → P b → Q b H') → tt σ H Q
def EO (to : TO) (L : Lv) (P : Option Int → Prop) : Prop := ∀ (σ : L2.St) (G H : Hp), Ev K pen H0 G H σ L → ∀ Q : Option Int → Hp → Prop, (∀ b G' H', Go pen G H G' H' → P b → Q b H') → to σ H Q
/-- an operation by values -/
def R2d (r : R2) (a b : PyData) (P : PyData → Prop) : Prop := ∀ (x y : V) (G H : Hp), Vw pen G H → Dp K G x a → Dp K G y b → ∀ Q : VK, (∀ v d G' H', Go pen G H G' H' → Dp K G' v d → P d → Q v H') → r x y H Q
def RCd (r : List V → Hp → VK → Prop) (ds : List PyData) (P : PyData → Prop) : Prop := ∀ (vs : List V) (G H : Hp), Vw pen G H → DpAll K G vs ds → ∀ Q : VK, (∀ v d G' H', Go pen G H G' H' → Dp K G' v d → P d → Q v H') → r vs H Q
def RSd (r : V → Option Int → Option Int → Hp → VK → Prop) (a : PyData) (lo hi : Option Int) (P : PyData → Prop) : Prop := ∀ (x : V) (G H : Hp), Vw pen G H → Dp K G x a → ∀ Q : VK, (∀ v d G' H', Go pen G H G' H' → Dp K G' v d → P d → Q v H') → r x lo hi H Q
def RUd (r : V → Hp → VK → Prop) (a : PyData) (P : PyData → Prop) : Prop := ∀ (x : V) (G H : Hp), Vw pen G H → Dp K G x a → ∀ Q : VK, (∀ v d G' H', Go pen G H G' H' → Dp K G' v d → P d → Q v H') → r x H Q
end
section
variable {K : PySem.W.Frag} {pen : Option Pn} {H0 : Hp} {L : Lv} {P P' : PyData → Prop} {ta tb tc te : TE} {tl tr : TA} {t u : TT} {Pb : Bool → Prop}
theorem E.mono (h : E K pen H0 te L P) (k : ∀ d, P d → P' d) : E K pen H0 te L P' := fun σ G H e Q q => h σ G H e Q fun v d G' H' g hd p => q v d G' H' g hd (k d p)
theorem ET.mono {Pb' : Bool → Prop} (h : ET K pen H0 t L Pb) (k : ∀ d, Pb d → Pb' d) : ET K pen H0 t L Pb' := fun σ G H e Q q => h σ G H e Q fun v G' H' g p => q v G' H' g (k v p)
theorem e_var {i : Nat} {x : PyData} (h : L[i]? = some (some (.d x))) (p : P x) : E K pen H0 (tVar i) L P := fun σ G H e Q q => by
  obtain ⟨v, h1, h2⟩ := e.sl i _ h
  exact ⟨v, h1, q v x G H (.refl e.vw) h2 p⟩
theorem e_int {i : Int} (p : P (.int i)) : E K pen H0 (tC (.int i)) L P := fun σ G H e Q q => q _ _ G H (.refl e.vw) (.int i) p
theorem e_str {i : Str} (p : P (.str i)) : E K pen H0 (tC (.str i)) L P := fun σ G H e Q q => q _ _ G H (.refl e.vw) (.str i) p
theorem e_bl {i : Bool} (p : P (.bool i)) : E K pen H0 (tC (.bl i)) L P := fun σ G H e Q q => q _ _ G H (.refl e.vw) (.bl i) p
theorem e_non (p : P .none) : E K pen H0 (tC .non) L P := fun σ G H e Q q => q _ _ G H (.refl e.vw) .non p
theorem e_op {r : R2} (h : E K pen H0 ta L fun a => E K pen H0 tb L fun b => R2d K pen r a b P) : E K pen H0 (tOp r ta tb) L P := fun σ G H e Q q =>
  h σ G H e _ fun v a G1 H1 g1 d1 h1 => h1 σ G1 H1 (e.go g1) _ fun w b G2 H2 g2 d2 h2 =>
    h2 v w G2 H2 g2.vw (dp_mono g2.gg _ _ d1) d2 Q fun z c G3 H3 g3 d3 p => q z c G3 H3 ((g1.trans g2).trans g3) d3 p
theorem e_un {r : V → Hp → VK → Prop} (h : E K pen H0 ta L fun a => RUd K pen r a P) : E K pen H0 (tUn r ta) L P := fun σ G H e Q q =>
  h σ G H e _ fun v a G1 H1 g1 d1 h1 => h1 v G1 H1 g1.vw d1 Q fun z c G3 H3 g3 d3 p => q z c G3 H3 (g1.trans g3) d3 p
theorem ea_nil {Pl : List PyData → Prop} (p : Pl []) : EA K pen H0 tNil L Pl := fun σ G H e Q q => q [] [] G H (.refl e.vw) .nil p
theorem ea_cons {Pl : List PyData → Prop} (h : E K pen H0 ta L fun a => EA K pen H0 tr L fun ds => Pl (a :: ds)) : EA K pen H0 (tCons ta tr) L Pl := fun σ G H e Q q =>
  h σ G H e _ fun v a G1 H1 g1 d1 h1 => h1 σ G1 H1 (e.go g1) _ fun vs ds G2 H2 g2 d2 p => q _ _ G2 H2 (g1.trans g2) (.cons (dp_mono g2.gg _ _ d1) d2) p
theorem e_tup (h : EA K pen H0 tl L fun ds => ds.length ≤ 100000 ∧ P (.tuple ds)) : E K pen H0 (tTup tl) L P := fun σ G H e Q q =>
  h σ G H e _ fun vs ds G1 H1 g1 d1 h1 => ⟨Nat.le_trans (by rw [dpa_len d1]; exact h1.1) (by decide : 100000 ≤ sizeLine), fun p hp => by
    have g2 := Go.new g1.vw (o := .tup vs) hp
    exact q _ _ _ _ (g1.trans g2) (.tup (.inl (.inl upd_same)) (dpa_mono g2.gg _ _ d1)) h1.2⟩
theorem e_lst (h : EA K pen H0 tl L fun ds => ds.length ≤ 100000 ∧ P (.list ds)) : E K pen H0 (tLst tl) L P := fun σ G H e Q q =>
  h σ G H e _ fun vs ds G1 H1 g1 d1 h1 => ⟨Nat.le_trans (by rw [dpa_len d1]; exact h1.1) (by decide : 100000 ≤ sizeLine), fun p hp => by
    have g2 := Go.new g1.vw (o := .lst vs) hp
    exact q _ _ _ _ (g1.trans g2) (.lst (.inl (.inl upd_same)) (dpa_mono g2.gg _ _ d1)) h1.2⟩
theorem e_cb {r : List V → Hp → VK → Prop} (h : EA K pen H0 tl L fun ds => RCd K pen r ds P) : E K pen H0 (tCB r tl) L P := fun σ G H e Q q =>
  h σ G H e _ fun vs ds G1 H1 g1 d1 h1 => h1 vs G1 H1 g1.vw d1 Q fun z c G3 H3 g3 d3 p => q z c G3 H3 (g1.trans g3) d3 p
theorem e_sl {r : V → Option Int → Option Int → Hp → VK → Prop} {to th : TO} (h : E K pen H0 te L fun a => EO K pen H0 to L fun lo => EO K pen H0 th L fun hi => RSd K pen r a lo hi P) : E K pen H0 (tSl r te to th) L P := fun σ G H e Q q =>
  h σ G H e _ fun v a G1 H1 g1 d1 h1 => h1 σ G1 H1 (e.go g1) _ fun lo G2 H2 g2 h2 => h2 σ G2 H2 (e.go (g1.trans g2)) _ fun hi G3 H3 g3 h3 =>
    h3 v G3 H3 g3.vw (dp_mono (g2.gg.trans g3.gg) _ _ d1) Q fun z c G4 H4 g4 d4 p => q z c G4 H4 (((g1.trans g2).trans g3).trans g4) d4 p
theorem eo_none {Po : Option Int → Prop} (p : Po none) : EO K pen H0 tNoPart L Po := fun σ G H e Q q => q _ G H (.refl e.vw) p
theorem eo_some {Po : Option Int → Prop} (h : E K pen H0 te L fun d => ∃ i, d = .int i ∧ Po (some i)) : EO K pen H0 (tPart te) L Po := fun σ G H e Q q =>
  h σ G H e _ fun v d G1 H1 g1 d1 ⟨i, hi, p⟩ => by
    subst hi
    cases d1
    exact ⟨i, rfl, q _ G1 H1 g1 p⟩
/-! tests -/
theorem et_test (h : E K pen H0 te L fun d => ∃ b, d = .bool b ∧ Pb b) : ET K pen H0 (tTest te) L Pb := fun σ G H e Q q =>
  h σ G H e _ fun v d G1 H1 g1 d1 ⟨b, hb, p⟩ => by
    subst hb
    cases d1
    exact ⟨b, rfl, q _ G1 H1 g1 p⟩
theorem et_B (h : E K pen H0 te L fun d => ∃ b, d = .bool b ∧ Pb b) : ET K pen H0 (tB te) L Pb := fun σ G H e Q q =>
  h σ G H e _ fun v d G1 H1 g1 d1 ⟨b, hb, p⟩ => by
    subst hb
    cases d1
    exact ⟨b, rfl, q _ G1 H1 g1 p⟩
theorem et_and (h : ET K pen H0 t L fun a => (a = true → ET K pen H0 u L Pb) ∧ (a = false → Pb false)) : ET K pen H0 (tAnd t u) L Pb := fun σ G H e Q q =>
  h σ G H e _ fun a G1 H1 g1 h1 => by
    cases a with
    | true => exact h1.1 rfl σ G1 H1 (e.go g1) Q fun b G2 H2 g2 p => q b G2 H2 (g1.trans g2) p
    | false => exact q false G1 H1 g1 (h1.2 rfl)
theorem et_or (h : ET K pen H0 t L fun a => (a = true → Pb true) ∧ (a = false → ET K pen H0 u L Pb)) : ET K pen H0 (tOr t u) L Pb := fun σ G H e Q q =>
  h σ G H e _ fun a G1 H1 g1 h1 => by
    cases a with
    | false => exact h1.2 rfl σ G1 H1 (e.go g1) Q fun b G2 H2 g2 p => q b G2 H2 (g1.trans g2) p
    | true => exact q true G1 H1 g1 (h1.1 rfl)
theorem et_not (h : ET K pen H0 t L fun a => Pb (!a)) : ET K pen H0 (tNot t) L Pb := fun σ G H e Q q => h σ G H e _ fun a G1 H1 g1 h1 => q (!a) G1 H1 g1 h1
theorem e_andV (h : E K pen H0 ta L fun d => ∃ a, d = .bool a ∧ (a = true → E K pen H0 tb L P) ∧ (a = false → P (.bool false))) : E K pen H0 (tAndV ta tb) L P := fun σ G H e Q q =>
  h σ G H e _ fun v d G1 H1 g1 d1 ⟨a, ha, h1, h2⟩ => by
    subst ha
    cases d1
    refine ⟨a, rfl, ?_⟩
    cases a with
    | true => exact h1 rfl σ G1 H1 (e.go g1) Q fun w b G2 H2 g2 d2 p => q w b G2 H2 (g1.trans g2) d2 p
    | false => exact q _ _ G1 H1 g1 (.bl false) (h2 rfl)
theorem e_orV (h : E K pen H0 ta L fun d => ∃ a, d = .bool a ∧ (a = true → P (.bool true)) ∧ (a = false → E K pen H0 tb L P)) : E K pen H0 (tOrV ta tb) L P := fun σ G H e Q q =>
  h σ G H e _ fun v d G1 H1 g1 d1 ⟨a, ha, h1, h2⟩ => by
    subst ha
    cases d1
    refine ⟨a, rfl, ?_⟩
    cases a with
    | false => exact h2 rfl σ G1 H1 (e.go g1) Q fun w b G2 H2 g2 d2 p => q w b G2 H2 (g1.trans g2) d2 p
    | true => exact q _ _ G1 H1 g1 (.bl true) (h1 rfl)
theorem e_notV (h : E K pen H0 ta L fun d => ∃ a, d = .bool a ∧ P (.bool (!a))) : E K pen H0 (tNotV ta) L P := fun σ G H e Q q =>
  h σ G H e _ fun v d G1 H1 g1 d1 ⟨a, ha, h1⟩ => by
    subst ha
    cases d1
    exact ⟨a, rfl, q _ _ G1 H1 g1 (.bl _) h1⟩
theorem e_if (h : ET K pen H0 t L fun a => (a = true → E K pen H0 ta L P) ∧ (a = false → E K pen H0 tb L P)) : E K pen H0 (tIf t ta tb) L P := fun σ G H e Q q =>
  h σ G H e _ fun a G1 H1 g1 h1 => by
    cases a with
    | true => exact h1.1 rfl σ G1 H1 (e.go g1) Q fun w b G2 H2 g2 d2 p => q w b G2 H2 (g1.trans g2) d2 p
    | false => exact h1.2 rfl σ G1 H1 (e.go g1) Q fun w b G2 H2 g2 d2 p => q w b G2 H2 (g1.trans g2) d2 p
theorem e_chain {r r' : R2} (h : E K pen H0 ta L fun a => E K pen H0 tb L fun b => R2d K pen r a b fun z => ∃ k, z = .bool k ∧ (k = true → E K pen H0 tc L fun c => R2d K pen r' b c P) ∧ (k = false → P (.bool false))) : E K pen H0 (tChain r r' ta tb tc) L P := fun σ G H e Q q =>
  h σ G H e _ fun v a G1 H1 g1 d1 h1 => h1 σ G1 H1 (e.go g1) _ fun w b G2 H2 g2 d2 h2 =>
    h2 v w G2 H2 g2.vw (dp_mono g2.gg _ _ d1) d2 _ fun z c G3 H3 g3 d3 ⟨k, hk, p1, p2⟩ => by
      subst hk
      cases d3
      refine ⟨k, rfl, ?_⟩
      cases k with
      | true =>
        exact p1 rfl σ G3 H3 (e.go ((g1.trans g2).trans g3)) _ fun y c G4 H4 g4 d4 p => p w y G4 H4 g4.vw (dp_mono (g3.gg.trans g4.gg) _ _ d2) d4 Q fun z c G5 H5 g5 d5 p' =>
          q z c G5 H5 ((((g1.trans g2).trans g3).trans g4).trans g5) d5 p'
      | false => exact q _ _ G3 H3 ((g1.trans g2).trans g3) (.bl false) (p2 rfl)
/-! operators by values -/
theorem r_I0 {g : Int → Int → V} {f : Int → Int → PyData} {i j : Int} (hg : ∀ G, Dp K G (g i j) (f i j)) (p : P (f i j)) : R2d K pen (rI0 g) (.int i) (.int j) P := fun x y G H v hx hy Q q => by
  cases hx
  cases hy
  exact ⟨i, j, rfl, rfl, q _ _ G H (.refl v) (hg G) p⟩
theorem r_I {C : Int → Int → Prop} {g : Int → Int → V} {f : Int → Int → PyData} {i j : Int} (hg : ∀ G, Dp K G (g i j) (f i j)) (hc : C i j) (p : P (f i j)) : R2d K pen (rI C g) (.int i) (.int j) P := fun x y G H v hx hy Q q => by
  cases hx
  cases hy
  exact ⟨i, j, rfl, rfl, hc, q _ _ G H (.refl v) (hg G) p⟩
theorem r_add {i j : Int} (p : P (.int (i + j))) : R2d K pen (rI0 fun i j => .int (i + j)) (.int i) (.int j) P := r_I0 (f := fun i j => .int (i + j)) (fun _ => .int _) p
theorem r_sub {i j : Int} (p : P (.int (i - j))) : R2d K pen (rI0 fun i j => .int (i - j)) (.int i) (.int j) P := r_I0 (f := fun i j => .int (i - j)) (fun _ => .int _) p
theorem r_mul {i j : Int} (hc : CMul i j) (p : P (.int (i * j))) : R2d K pen (rI CMul fun i j => .int (i * j)) (.int i) (.int j) P := r_I (f := fun i j => .int (i * j)) (fun _ => .int _) hc p
theorem r_mod {i j : Int} (hc : 0 < j) (p : P (.int (i % j))) : R2d K pen (rI (fun _ j => 0 < j) fun i j => .int (i % j)) (.int i) (.int j) P := r_I (f := fun i j => .int (i % j)) (fun _ => .int _) hc p
theorem r_lt {i j : Int} (p : P (.bool (decide (i < j)))) : R2d K pen (rI0 fun i j => .bl (decide (i < j))) (.int i) (.int j) P := r_I0 (f := fun i j => .bool (decide (i < j))) (fun _ => .bl _) p
theorem r_le {i j : Int} (p : P (.bool (decide (i ≤ j)))) : R2d K pen (rI0 fun i j => .bl (decide (i ≤ j))) (.int i) (.int j) P := r_I0 (f := fun i j => .bool (decide (i ≤ j))) (fun _ => .bl _) p
theorem r_gt {i j : Int} (p : P (.bool (decide (j < i)))) : R2d K pen (rI0 fun i j => .bl (decide (j < i))) (.int i) (.int j) P := r_I0 (f := fun i j => .bool (decide (j < i))) (fun _ => .bl _) p
theorem r_ge {i j : Int} (p : P (.bool (decide (j ≤ i)))) : R2d K pen (rI0 fun i j => .bl (decide (j ≤ i))) (.int i) (.int j) P := r_I0 (f := fun i j => .bool (decide (j ≤ i))) (fun _ => .bl _) p
theorem r_eqI {i j : Int} (p : P (.bool (decide (i = j)))) : R2d K pen rEq (.int i) (.int j) P := fun x y G H v hx hy Q q => by
  cases hx
  cases hy
  refine ⟨rfl, ?_⟩
  rw [show decide (V.int i = V.int j) = decide (i = j) by rw [dec_int]; exact Bool.beq_eq_decide_eq i j]
  exact q _ _ G H (.refl v) (.bl _) p
theorem r_neI {i j : Int} (p : P (.bool (!decide (i = j)))) : R2d K pen rNe (.int i) (.int j) P := fun x y G H v hx hy Q q => by
  cases hx
  cases hy
  refine ⟨rfl, ?_⟩
  rw [show decide (V.int i = V.int j) = decide (i = j) by rw [dec_int]; exact Bool.beq_eq_decide_eq i j]
  exact q _ _ G H (.refl v) (.bl _) p
theorem r_eqB {i j : Bool} (p : P (.bool (decide (i = j)))) : R2d K pen rEq (.bool i) (.bool j) P := fun x y G H v hx hy Q q => by
  cases hx
  cases hy
  refine ⟨rfl, ?_⟩
  rw [show decide (V.bl i = V.bl j) = decide (i = j) by rw [dec_bl]; exact Bool.beq_eq_decide_eq i j]
  exact q _ _ G H (.refl v) (.bl _) p
theorem r_eqS {i j : Str} (p : P (.bool (decide (i = j)))) : R2d K pen rEq (.str i) (.str j) P := fun x y G H v hx hy Q q => by
  cases hx
  cases hy
  refine ⟨rfl, ?_⟩
  rw [show decide (V.str i = V.str j) = decide (i = j) by rw [dec_str]; exact Bool.beq_eq_decide_eq i j]
  exact q _ _ G H (.refl v) (.bl _) p
theorem r_eqD {a b : PyData} (ha : SeqAt.shaped a = true) (hb : SeqAt.shaped b = true) (p : P (.bool (PyData.eqv a b))) : R2d K pen (rEqD K) a b P := fun x y G H v hx hy Q q =>
  ⟨a, b, dp_mono v.vw _ _ hx, dp_mono v.vw _ _ hy, ha, hb, q _ _ G H (.refl v) (.bl _) p⟩
theorem r_neD {a b : PyData} (ha : SeqAt.shaped a = true) (hb : SeqAt.shaped b = true) (p : P (.bool (!PyData.eqv a b))) : R2d K pen (rNeD K) a b P := fun x y G H v hx hy Q q =>
  ⟨a, b, dp_mono v.vw _ _ hx, dp_mono v.vw _ _ hy, ha, hb, q _ _ G H (.refl v) (.bl _) p⟩
theorem r_isN {a : PyData} (p : P (.bool (match a with | .none => true | _ => false))) : R2d K pen (fun x y H Q => y = .non ∧ Q (.bl (decide (x = .non))) H) a .none P := fun x y G H v hx hy Q q => by
  cases hy
  refine ⟨rfl, q _ _ G H (.refl v) ?_ p⟩
  cases hx <;> exact .bl _
theorem r_ixT {ds : List PyData} {i : Int} {d : PyData} (h : atI ds i = some d) (p : P d) : R2d K pen (rIxT K) (.tuple ds) (.int i) P := fun x y G H v hx hy Q q => by
  cases hy
  cases hx with
  | tup hs ha =>
    rename_i a xs
    unfold atI at h
    cases hj : ixN ds.length i with
    | none => rw [hj] at h; cases h
    | some j =>
      rw [hj] at h
      obtain ⟨w, h1, h2⟩ := dpa_get ha (show ds[j]? = some d from h)
      refine ⟨_, xs, i, w, rfl, rfl, sqT_mono v.vw hs, ?_, q w d G H (.refl v) h2 p⟩
      unfold atI
      rw [dpa_len ha, hj]
      exact h1
theorem r_ixL {ds : List PyData} {i : Int} {d : PyData} (h : atI ds i = some d) (p : P d) : R2d K pen (rIxL K) (.list ds) (.int i) P := fun x y G H v hx hy Q q => by
  cases hy
  cases hx with
  | lst hs ha =>
    rename_i a xs
    unfold atI at h
    cases hj : ixN ds.length i with
    | none => rw [hj] at h; cases h
    | some j =>
      rw [hj] at h
      obtain ⟨w, h1, h2⟩ := dpa_get ha (show ds[j]? = some d from h)
      refine ⟨_, xs, i, w, rfl, rfl, sqL_mono v.vw hs, ?_, q w d G H (.refl v) h2 p⟩
      unfold atI
      rw [dpa_len ha, hj]
      exact h1
/-- len -/
theorem c_len {ds es : List PyData} (h : ds = [.tuple es] ∨ ds = [.list es]) (p : P (.int es.length)) : RCd K pen (fun xs H Q => ∃ p ys, xs = [.ref p] ∧ (SqL K H p ys ∨ SqT K H p ys) ∧ Q (.int ys.length) H) ds P := fun vs G H v hv Q q => by
  rcases h with rfl | rfl
  · cases hv with
    | cons h1 h2 =>
      cases h2
      cases h1 with
      | tup hs ha =>
        refine ⟨_, _, rfl, .inr (sqT_mono v.vw hs), ?_⟩
        rw [dpa_len ha]
        exact q _ _ G H (.refl v) (.int _) p
  · cases hv with
    | cons h1 h2 =>
      cases h2
      cases h1 with
      | lst hs ha =>
        refine ⟨_, _, rfl, .inl (sqL_mono v.vw hs), ?_⟩
        rw [dpa_len ha]
        exact q _ _ G H (.refl v) (.int _) p
/-- list(xs) -/
theorem c_list {ds es : List PyData} (h : ds = [.tuple es] ∨ ds = [.list es]) (p : P (.list es)) : RCd K pen (fun xs H Q => ∃ p ys, xs = [.ref p] ∧ (SqL K H p ys ∨ SqT K H p ys) ∧ ∀ l, H l = none → Q (.ref l) (upd H l (.lst ys))) ds P := fun vs G H v hv Q q => by
  rcases h with rfl | rfl
  · cases hv with
    | cons h1 h2 =>
      cases h2
      cases h1 with
      | tup hs ha =>
        refine ⟨_, _, rfl, .inr (sqT_mono v.vw hs), fun l hl => ?_⟩
        rename_i xs
        have g := Go.new v (o := .lst xs) hl
        exact q _ _ _ _ g (.lst (.inl (.inl upd_same)) (dpa_mono g.gg _ _ ha)) p
  · cases hv with
    | cons h1 h2 =>
      cases h2
      cases h1 with
      | lst hs ha =>
        refine ⟨_, _, rfl, .inl (sqL_mono v.vw hs), fun l hl => ?_⟩
        rename_i xs
        have g := Go.new v (o := .lst xs) hl
        exact q _ _ _ _ g (.lst (.inl (.inl upd_same)) (dpa_mono g.gg _ _ ha)) p
/-- tuple(xs) -/
theorem c_tuple {ds es : List PyData} (h : ds = [.tuple es] ∨ ds = [.list es]) (p : P (.tuple es)) : RCd K pen (fun xs H Q => ∃ p ys, xs = [.ref p] ∧ ((SqL K H p ys ∧ ∀ l, H l = none → Q (.ref l) (upd H l (.tup ys))) ∨ (SqT K H p ys ∧ Q (.ref p) H))) ds P := fun vs G H v hv Q q => by
  rcases h with rfl | rfl
  · cases hv with
    | cons h1 h2 =>
      cases h2
      cases h1 with
      | tup hs ha => exact ⟨_, _, rfl, .inr ⟨sqT_mono v.vw hs, q _ _ G H (.refl v) (.tup hs ha) p⟩⟩
  · cases hv with
    | cons h1 h2 =>
      cases h2
      cases h1 with
      | lst hs ha =>
        refine ⟨_, _, rfl, .inl ⟨sqL_mono v.vw hs, fun l hl => ?_⟩⟩
        rename_i xs
        have g := Go.new v (o := .tup xs) hl
        exact q _ _ _ _ g (.tup (.inl (.inl upd_same)) (dpa_mono g.gg _ _ ha)) p
theorem c_min2 {i j : Int} (p : P (.int (if j < i then j else i))) : RCd K pen (fun xs H Q => ∃ i j, xs = [.int i, .int j] ∧ Q (.int (if j < i then j else i)) H) [.int i, .int j] P := fun vs G H v hv Q q => by
  cases hv with
  | cons h1 h2 =>
    cases h2 with
    | cons h3 h4 =>
      cases h4
      cases h1
      cases h3
      exact ⟨i, j, rfl, q _ _ G H (.refl v) (.int _) p⟩
theorem c_max2 {i j : Int} (p : P (.int (if j > i then j else i))) : RCd K pen (fun xs H Q => ∃ i j, xs = [.int i, .int j] ∧ Q (.int (if j > i then j else i)) H) [.int i, .int j] P := fun vs G H v hv Q q => by
  cases hv with
  | cons h1 h2 =>
    cases h2 with
    | cons h3 h4 =>
      cases h4
      cases h1
      cases h3
      exact ⟨i, j, rfl, q _ _ G H (.refl v) (.int _) p⟩
theorem c_intB {b : Bool} (p : P (.int (if b then 1 else 0))) : RCd K pen (fun xs H Q => (∃ i, xs = [.int i] ∧ Q (.int i) H) ∨ ∃ k, xs = [.bl k] ∧ Q (.int (if k then 1 else 0)) H) [.bool b] P := fun vs G H v hv Q q => by
  cases hv with
  | cons h1 h2 =>
    cases h2
    cases h1
    exact .inr ⟨b, rfl, q _ _ G H (.refl v) (.int _) p⟩
end
end Dl
set_option Elab.async false
set_option linter.all false
set_option maxRecDepth 100000
namespace Dl
open PySem PySem.Spec PyProof.Rows L2

/-! ### statements -/
structure Dn where
  nx : Lv → Prop
  rt : PyData → Prop
  bk : Lv → Prop := fun _ => False
  ct : Lv → Prop := fun _ => False
structure Gx (pen : Option Pn) (H0 G H G' H' : Hp) : Prop where
  gg : Same G G'
  nw : ∀ a, H0 a ≠ none → G' a = G a
  od : ∀ a o, ¬ IsPn pen a → H0 a ≠ none → H a = some o → H' a = some o
theorem Gx.refl {pen : Option Pn} {H0 G H : Hp} : Gx pen H0 G H G H := ⟨Same.refl _, fun _ _ => rfl, fun _ _ _ _ e => e⟩
theorem Gx.trans {pen : Option Pn} {H0 G H G1 H1 G2 H2 : Hp} (a : Gx pen H0 G H G1 H1) (b : Gx pen H0 G1 H1 G2 H2) : Gx pen H0 G H G2 H2 :=
  ⟨a.gg.trans b.gg, fun x h => (b.nw x h).trans (a.nw x h), fun x o p h e => b.od x o p h (a.od x o p h e)⟩
section
variable {K : PySem.W.Frag} {pen : Option Pn} {H0 G H G' H' : Hp} {σ : L2.St} {L : Lv}
theorem Ev.gx (e : Ev K pen H0 G H σ L) (g : Go pen G H G' H') : Gx pen H0 G H G' H' := ⟨g.gg, fun a h => g.nw a (e.dom a h), fun a o p _ q => g.od a o p q⟩
/-- a slot forgotten -/
theorem Ev.unset (e : Ev K pen H0 G H σ L) (i : Nat) : Ev K pen H0 G H (σ.set i none) (L.set i none) := by
  have nj : ∀ (j : Nat) (av : AV), (L.set i none)[j]? = some (some av) → i ≠ j := fun j av hj q => by
    subst q
    have hl : i < L.length := by
      have := (List.getElem?_eq_some_iff.mp hj).1
      rw [List.length_set] at this; exact this
    rw [List.getElem?_set_self hl] at hj
    cases hj
  refine ⟨e.vw, e.h0, e.dom, by rw [List.length_set, List.length_set]; exact e.len, fun j av hj => ?_, fun j k ds es l h1 h2 h3 h4 => ?_⟩
  · have q := nj j av hj
    rw [List.getElem?_set_ne q] at hj
    obtain ⟨w, h1, h2⟩ := e.sl j av hj
    exact ⟨w, by rw [List.getElem?_set_ne q]; exact h1, h2⟩
  · have q1 := nj j _ h1
    have q2 := nj k _ h2
    rw [List.getElem?_set_ne q1] at h1 h3
    rw [List.getElem?_set_ne q2] at h2 h4
    exact e.ow j k ds es l h1 h2 h3 h4
end
section
variable (K : PySem.W.Frag) (pen : Option Pn) (H0 : Hp)
def S (t : TS) (L : Lv) (D : Dn) : Prop := ∀ (σ : L2.St) (G H : Hp) (N : Ends), Ev K pen H0 G H σ L →
  (∀ σ' G' H' L', Gx pen H0 G H G' H' → Ev K pen H0 G' H' σ' L' → D.nx L' → N.nx σ' H') →
  (∀ v d G' H', Gx pen H0 G H G' H' → Vw pen G' H' → Dp K G' v d → D.rt d → N.rt v H') →
  (∀ σ' G' H' L', Gx pen H0 G H G' H' → Ev K pen H0 G' H' σ' L' → D.bk L' → N.bk σ' H') →
  (∀ σ' G' H' L', Gx pen H0 G H G' H' → Ev K pen H0 G' H' σ' L' → D.ct L' → N.ct σ' H') → t N σ H
def GT (g : TG) (d : PyData) (L : Lv) (P : Lv → Prop) : Prop := ∀ (σ : L2.St) (G H : Hp) (v : V), Ev K pen H0 G H σ L → Dp K G v d → ∀ R : L2.St → Hp → Prop, (∀ σ' L', Ev K pen H0 G H σ' L' → P L' → R σ' H) → g v σ H R
def GTs (g : TGs) (ds : List PyData) (L : Lv) (P : Lv → Prop) : Prop := ∀ (σ : L2.St) (G H : Hp) (vs : List V), Ev K pen H0 G H σ L → DpAll K G vs ds → ∀ R : L2.St → Hp → Prop, (∀ σ' L', Ev K pen H0 G H σ' L' → P L' → R σ' H) → g vs σ H R
end
section
variable {K : PySem.W.Frag} {pen : Option Pn} {H0 : Hp} {L : Lv} {P P' : PyData → Prop} {ta tb tc te ti : TE} {tl tr : TA} {tt : TT} {t u : TS} {Pb : Bool → Prop} {D : Dn} {g : TG} {gs : TGs}
theorem g_name {i : Nat} {d : PyData} {P : Lv → Prop} (h : P (L.set i (some (.d d)))) : GT K pen H0 (gName i) d L P := fun σ G H v e hd R r => r _ _ (e.set hd) h
theorem g_tup {n : Nat} {ds : List PyData} {P : Lv → Prop} (hn : ds.length = n) (h : GTs K pen H0 gs ds L P) : GT K pen H0 (gTup K n gs) (.tuple ds) L P := fun σ G H v e hd R r => by
  cases hd with
  | tup hs ha => exact ⟨_, _, rfl, sqT_mono e.vw.vw hs, (dpa_len ha).trans hn, h σ G H _ e ha R r⟩
theorem gs_nil {P : Lv → Prop} (h : P L) : GTs K pen H0 gNil [] L P := fun σ G H vs e hd R r => by
  cases hd
  exact ⟨rfl, r _ _ e h⟩
theorem gs_cons {d : PyData} {ds : List PyData} {P : Lv → Prop} (h : GT K pen H0 g d L fun L' => GTs K pen H0 gs ds L' P) : GTs K pen H0 (gCons g gs) (d :: ds) L P := fun σ G H vs e hd R r => by
  cases hd with
  | cons h1 h2 =>
    refine ⟨_, _, rfl, h σ G H _ e h1 _ fun σ' L' e' h' => ?_⟩
    exact h' σ' G H _ e' h2 R r
theorem s_seq (h : S K pen H0 t L { D with nx := fun L' => S K pen H0 u L' D }) : S K pen H0 (tSeq t u) L D := fun σ G H N e n1 n2 n3 n4 =>
  h σ G H _ e (fun σ' G' H' L' x e' h' => h' σ' G' H' N e' (fun σ2 G2 H2 L2 x2 e2 q => n1 σ2 G2 H2 L2 (x.trans x2) e2 q) (fun v d G2 H2 x2 vw hd q => n2 v d G2 H2 (x.trans x2) vw hd q)
    (fun σ2 G2 H2 L2 x2 e2 q => n3 σ2 G2 H2 L2 (x.trans x2) e2 q) (fun σ2 G2 H2 L2 x2 e2 q => n4 σ2 G2 H2 L2 (x.trans x2) e2 q)) n2 n3 n4
theorem s_next (h : D.nx L) : S K pen H0 tNext L D := fun σ G H N e n1 _ _ _ => n1 σ G H L .refl e h
theorem s_ret (h : E K pen H0 te L D.rt) : S K pen H0 (tRet te) L D := fun σ G H N e _ n2 _ _ => h σ G H e _ fun v d G' H' g hd p => n2 v d G' H' (e.gx g) g.vw hd p
theorem s_asg {i : Nat} (h : E K pen H0 te L fun d => D.nx (L.set i (some (.d d)))) : S K pen H0 (tAsg te (gName i)) L D := fun σ G H N e n1 _ _ _ =>
  h σ G H e _ fun v d G' H' g hd p => n1 _ G' H' _ (e.gx g) ((e.go g).set hd) p
theorem s_asgG (h : E K pen H0 te L fun d => GT K pen H0 g d L D.nx) : S K pen H0 (tAsg te g) L D := fun σ G H N e n1 _ _ _ =>
  h σ G H e _ fun v d G' H' go hd p => p σ G' H' v (e.go go) hd _ fun σ' L' e' p' => n1 σ' G' H' L' (e.gx go) e' p'
theorem s_drop (h : E K pen H0 te L fun _ => D.nx L) : S K pen H0 (tDrop te) L D := fun σ G H N e n1 _ _ _ => h σ G H e _ fun v d G' H' go _ p => n1 σ G' H' L (e.gx go) (e.go go) p
theorem s_if (h : ET K pen H0 tt L fun b => (b = true → S K pen H0 t L D) ∧ (b = false → S K pen H0 u L D)) : S K pen H0 (tIfS tt t u) L D := fun σ G H N e n1 n2 n3 n4 =>
  h σ G H e _ fun b G' H' go p => by
    have x := e.gx go
    have go2 : ∀ {t : TS}, S K pen H0 t L D → t N σ H' := fun {t} h => h σ G' H' N (e.go go) (fun σ2 G2 H2 L2 x2 e2 q => n1 σ2 G2 H2 L2 (x.trans x2) e2 q) (fun v d G2 H2 x2 vw hd q => n2 v d G2 H2 (x.trans x2) vw hd q)
      (fun σ2 G2 H2 L2 x2 e2 q => n3 σ2 G2 H2 L2 (x.trans x2) e2 q) (fun σ2 G2 H2 L2 x2 e2 q => n4 σ2 G2 H2 L2 (x.trans x2) e2 q)
    cases b with
    | true => exact go2 (p.1 rfl)
    | false => exact go2 (p.2 rfl)
theorem S.mono {D' : Dn} (h : S K pen H0 t L D) (h1 : ∀ L, D.nx L → D'.nx L) (h2 : ∀ d, D.rt d → D'.rt d) (h3 : ∀ L, D.bk L → D'.bk L) (h4 : ∀ L, D.ct L → D'.ct L) : S K pen H0 t L D' := fun σ G H N e n1 n2 n3 n4 =>
  h σ G H N e (fun σ' G' H' L' x e' q => n1 σ' G' H' L' x e' (h1 _ q)) (fun v d G' H' x vw hd q => n2 v d G' H' x vw hd (h2 _ q)) (fun σ' G' H' L' x e' q => n3 σ' G' H' L' x e' (h3 _ q)) (fun σ' G' H' L' x e' q => n4 σ' G' H' L' x e' (h4 _ q))
/-! loops -/
theorem s_forT (h : E K pen H0 te L fun d => ∃ ds, d = .tuple ds ∧ ∃ I : Nat → Lv → Prop, I 0 L ∧ (∀ (i : Nat) x L', ds[i]? = some x → I i L' → GT K pen H0 g x L' fun L2 => S K pen H0 t L2 { D with nx := I (i + 1), ct := I (i + 1), bk := D.nx }) ∧ (∀ L', I ds.length L' → D.nx L')) :
    S K pen H0 (tFor (iTup K te) g t) L D := fun σ G H N e n1 n2 n3 n4 => h σ G H e _ fun v d G1 H1 go hd ⟨ds, hds, I, i0, is, id⟩ => by
  subst hds
  cases hd with
  | tup hs ha =>
    rename_i a xs
    have x1 := e.gx go
    refine ⟨a, rfl, ⟨xs, sqT_mono go.vw.vw hs⟩, ?_⟩
    refine for_tup (fun i σ' H' => ∃ G' L', Gx pen H0 G1 H1 G' H' ∧ Ev K pen H0 G' H' σ' L' ∧ I i L') ⟨G1, L, .refl, e.go go, i0⟩ (fun i σ' H' _ ⟨G', L', x, e', _⟩ => sqT_mono (x.gg.trans e'.vw.vw) hs) (fun i y σ' H' hy ⟨G', L', x, e', q⟩ => ?_) (fun σ' H' ⟨G', L', x, e', q⟩ => ?_)
    · obtain ⟨z, hz, hd⟩ := dpa_getV ha hy
      refine is i z L' hz q σ' G' H' y e' (dp_mono x.gg _ _ hd) _ fun σ2 L2 e2 h2 => ?_
      exact h2 σ2 G' H' _ e2 (fun σ3 G3 H3 L3 x3 e3 q3 => ⟨G3, L3, x.trans x3, e3, q3⟩) (fun v d G3 H3 x3 vw hd q3 => n2 v d G3 H3 (x1.trans (x.trans x3)) vw hd q3)
        (fun σ3 G3 H3 L3 x3 e3 q3 => n1 σ3 G3 H3 L3 (x1.trans (x.trans x3)) e3 q3) (fun σ3 G3 H3 L3 x3 e3 q3 => ⟨G3, L3, x.trans x3, e3, q3⟩)
    · rw [dpa_len ha] at q
      exact n1 σ' G' H' L' (x1.trans x) e' (id L' q)
theorem s_forL (h : E K pen H0 te L fun d => ∃ ds, d = .list ds ∧ ∃ I : Nat → Lv → Prop, I 0 L ∧ (∀ (i : Nat) x L', ds[i]? = some x → I i L' → GT K pen H0 g x L' fun L2 => S K pen H0 t L2 { D with nx := I (i + 1), ct := I (i + 1), bk := D.nx }) ∧ (∀ L', I ds.length L' → D.nx L')) :
    S K pen H0 (tFor (iList K te) g t) L D := fun σ G H N e n1 n2 n3 n4 => h σ G H e _ fun v d G1 H1 go hd ⟨ds, hds, I, i0, is, id⟩ => by
  subst hds
  cases hd with
  | lst hs ha =>
    rename_i a xs
    have x1 := e.gx go
    refine ⟨a, rfl, ⟨xs, sqL_mono go.vw.vw hs⟩, ?_⟩
    refine for_list (fun i σ' H' => ∃ G' L', Gx pen H0 G1 H1 G' H' ∧ Ev K pen H0 G' H' σ' L' ∧ I i L') ⟨G1, L, .refl, e.go go, i0⟩ (fun i σ' H' _ ⟨G', L', x, e', _⟩ => sqL_mono (x.gg.trans e'.vw.vw) hs) (fun i y σ' H' hy ⟨G', L', x, e', q⟩ => ?_) (fun σ' H' ⟨G', L', x, e', q⟩ => ?_)
    · obtain ⟨z, hz, hd⟩ := dpa_getV ha hy
      refine is i z L' hz q σ' G' H' y e' (dp_mono x.gg _ _ hd) _ fun σ2 L2 e2 h2 => ?_
      exact h2 σ2 G' H' _ e2 (fun σ3 G3 H3 L3 x3 e3 q3 => ⟨G3, L3, x.trans x3, e3, q3⟩) (fun v d G3 H3 x3 vw hd q3 => n2 v d G3 H3 (x1.trans (x.trans x3)) vw hd q3)
        (fun σ3 G3 H3 L3 x3 e3 q3 => n1 σ3 G3 H3 L3 (x1.trans (x.trans x3)) e3 q3) (fun σ3 G3 H3 L3 x3 e3 q3 => ⟨G3, L3, x.trans x3, e3, q3⟩)
    · rw [dpa_len ha] at q
      exact n1 σ' G' H' L' (x1.trans x) e' (id L' q)
theorem s_forR (h : EA K pen H0 tl L fun ds => ∃ n : Nat, ds = [.int n] ∧ n ≤ 100000 ∧ ∃ I : Nat → Lv → Prop, I 0 L ∧ (∀ (i : Nat) L', i < n → I i L' → GT K pen H0 g (.int i) L' fun L2 => S K pen H0 t L2 { D with nx := I (i + 1), ct := I (i + 1), bk := D.nx }) ∧ (∀ L', I n L' → D.nx L')) :
    S K pen H0 (tFor (iRng1 tl) g t) L D := fun σ G H N e n1 n2 n3 n4 => h σ G H e _ fun vs ds G1 H1 go hd ⟨n, hds, hn, I, i0, is, id⟩ => by
  subst hds
  cases hd with
  | cons hd hd2 =>
    cases hd2
    cases hd
    have x1 := e.gx go
    refine ⟨(n : Int), rfl, by omega, by omega, ?_⟩
    rw [Int.toNat_natCast]
    refine for_range (lo := 0) (n := n) (fun i σ' H' => ∃ G' L', Gx pen H0 G1 H1 G' H' ∧ Ev K pen H0 G' H' σ' L' ∧ I i L') ⟨G1, L, .refl, e.go go, i0⟩ (fun i σ' H' hi ⟨G', L', x, e', q⟩ => ?_) (fun σ' H' ⟨G', L', x, e', q⟩ => ?_)
    · refine is i L' hi q σ' G' H' _ e' (by rw [Int.zero_add]; exact .int _) _ fun σ2 L2 e2 h2 => ?_
      exact h2 σ2 G' H' _ e2 (fun σ3 G3 H3 L3 x3 e3 q3 => ⟨G3, L3, x.trans x3, e3, q3⟩) (fun v d G3 H3 x3 vw hd q3 => n2 v d G3 H3 (x1.trans (x.trans x3)) vw hd q3)
        (fun σ3 G3 H3 L3 x3 e3 q3 => n1 σ3 G3 H3 L3 (x1.trans (x.trans x3)) e3 q3) (fun σ3 G3 H3 L3 x3 e3 q3 => ⟨G3, L3, x.trans x3, e3, q3⟩)
    · exact n1 σ' G' H' L' (x1.trans x) e' (id L' q)
/-! calls -/
def SpX {α : Type} (K : PySem.W.Frag) (Wf : α → Prop) (enc : α → List PyData) (res : α → PyData → Prop) : Sp := fun vs H Q _ => ∃ (x : α) (G : Hp), Vw none G H ∧ DpAll K G vs (enc x) ∧ Wf x ∧ ∀ v d G' H', Go none G H G' H' → Dp K G' v d → res x d → Q v H'
def SpXP {α : Type} (K : PySem.W.Frag) (Wf : α → Prop) (enc : α → List PyData) (res : α → PyData → Prop) : Sp := fun vs H Q _ => ∃ (x : α) (p : Pn) (G : Hp) (us : List V), vs = .ref p.a :: us ∧ Vw (some p) G H ∧ DpAll K G us (enc x) ∧ Wf x ∧ ∀ v d G' H', Go (some p) G H G' H' → Dp K G' v d → res x d → Q v H'
theorem e_callX {α : Type} {Wf : α → Prop} {enc : α → List PyData} {res : α → PyData → Prop} {X : XK} (h : EA K pen H0 tl L fun ds => ∃ x, ds = enc x ∧ Wf x ∧ ∀ d, res x d → P d) : E K pen H0 (tCall (SpX K Wf enc res) [] X tl) L P := fun σ G H e Q q =>
  h σ G H e _ fun vs ds G1 H1 go hd ⟨x, hx, h1, h2⟩ => ⟨x, G1, go.vw.plain, by rw [List.append_nil, ← hx]; exact hd, h1, fun v d G' H' go2 hd2 p => q v d G' H' (go.trans (go2.lift go.vw)) hd2 (h2 d p)⟩
theorem e_callXP {α : Type} {Wf : α → Prop} {enc : α → List PyData} {res : α → PyData → Prop} {X : XK} {i : Nat} (hi : L[i]? = some (some .pen)) (h : EA K pen H0 tl L fun ds => ∃ x, ds = enc x ∧ Wf x ∧ ∀ d, res x d → P d) : E K pen H0 (tCall (SpXP K Wf enc res) [] X (tCons (tVar i) tl)) L P := fun σ G H e Q q => by
  obtain ⟨v, hv, p, hp, rfl⟩ := e.sl i _ hi
  refine ⟨_, hv, h σ G H e _ fun vs ds G1 H1 go hd ⟨x, hx, h1, h2⟩ => ?_⟩
  subst hp
  exact ⟨x, p, G1, vs, by rw [List.append_nil], go.vw, by rw [← hx]; exact hd, h1, fun v d G' H' go2 hd2 p => q v d G' H' (go.trans go2) hd2 (h2 d p)⟩
/-! defs -/
def st0 (N : List Str) (ds : List PyData) : Lv := ds.map (fun d => some (.d d)) ++ List.replicate (N.length - ds.length) none
def stP (N : List Str) (ds : List PyData) : Lv := some .pen :: (ds.map (fun d => some (.d d)) ++ List.replicate (N.length - (ds.length + 1)) none)
theorem start_get {N : List Str} {vs : List V} {ds : List PyData} {G : Hp} (h : DpAll K G vs ds) : ∀ (i : Nat) av, (st0 N ds)[i]? = some (some av) → ∃ v d, av = .d d ∧ (start N vs)[i]? = some (some v) ∧ Dp K G v d := fun i av hi => by
  unfold st0 at hi
  unfold L2.start
  by_cases q : i < ds.length
  · rw [List.getElem?_append_left (by rw [List.length_map]; exact q), List.getElem?_map] at hi
    cases hd : ds[i]? with
    | none => rw [hd] at hi; cases hi
    | some d =>
      rw [hd] at hi
      obtain ⟨v, h1, h2⟩ := dpa_get h hd
      refine ⟨v, d, (Option.some.inj (Option.some.inj hi)).symm, ?_, h2⟩
      rw [List.getElem?_append_left (by rw [List.length_map, dpa_len h]; exact q), List.getElem?_map, h1]
      rfl
  · rw [List.getElem?_append_right (by rw [List.length_map]; omega)] at hi
    have z := List.mem_of_getElem? hi
    have z2 := (List.mem_replicate.mp z).2
    cases z2
theorem ev_start {N : List Str} {vs : List V} {ds : List PyData} {G H : Hp} (h : DpAll K G vs ds) (v : Vw none G H) : Ev K none H G H (start N vs) (st0 N ds) := by
  refine ⟨v, trivial, fun _ h => h, ?_, fun i av hi => ?_, fun i j ds' es l h1 _ _ _ => ?_⟩
  · unfold L2.start st0
    rw [List.length_append, List.length_append, List.length_map, List.length_map, List.length_replicate, List.length_replicate, dpa_len h]
  · obtain ⟨v, d, rfl, h1, h2⟩ := start_get h i av hi
    exact ⟨v, h1, h2⟩
  · obtain ⟨v, d, e, _⟩ := start_get h i _ h1
    cases e
theorem ev_startP {N : List Str} {p : Pn} {vs : List V} {ds : List PyData} {G H : Hp} (h : DpAll K G vs ds) (v : Vw (some p) G H) (hN : ∃ x r, N = x :: r) : Ev K (some p) H G H (start N (.ref p.a :: vs)) (stP N ds) := by
  obtain ⟨x, r, rfl⟩ := hN
  have e1 : start (x :: r) (.ref p.a :: vs) = some (.ref p.a) :: start r vs := by
    unfold L2.start
    rw [List.length_cons, List.length_cons, Nat.add_sub_add_right]
    rfl
  have e2 : stP (x :: r) ds = some .pen :: st0 r ds := by
    unfold stP st0
    rw [List.length_cons, Nat.add_sub_add_right]
  rw [e1, e2]
  have l0 : (start r vs).length = (st0 r ds).length := by
    unfold L2.start st0
    rw [List.length_append, List.length_append, List.length_map, List.length_map, List.length_replicate, List.length_replicate, dpa_len h]
  refine ⟨v, v.ok, fun _ h => h, ?_, fun i av hi => ?_, fun i j ds' es l h1 _ _ _ => ?_⟩
  · rw [List.length_cons, List.length_cons, l0]
  · cases i with
    | zero =>
      have e := Option.some.inj (Option.some.inj hi)
      subst e
      exact ⟨_, rfl, p, rfl, rfl⟩
    | succ i =>
      obtain ⟨v, d, rfl, h1, h2⟩ := start_get h i av hi
      exact ⟨v, h1, h2⟩
  · cases i with
    | zero => cases h1
    | succ i =>
      obtain ⟨v, d, e, _⟩ := start_get h i _ h1
      cases e
end
section
variable {P : Program} {w : World} {K : PySem.W.Frag} {mg : Str → Option Value} {base : Heap}
/-- a def without the pen -/
theorem fnX {α : Type} {x qual : Str} {st : Stmt} {f : Addr} {fd : FuncData} {N ps : List Str} {k : Nat} {Wf : α → Prop} {enc : α → List PyData} {res : α → PyData → Prop} (F : Fun K x qual st f fd) (S0 : FnScope N ps (defScope st)) (hl : ∀ x, Wf x → (enc x).length = ps.length)
    (hbody : ∀ (cdv : Value) (A : Around) (outer : List Env) (s : Shared) (H : Hp) (E : XK), Room k (A.deeper (envOfC qual (defScope st) s.heap.objs.size f cdv)) →
      ∃ t, PSs (cxOf CX0 P w K mg base N qual (defScope st) f cdv A outer s H E).nox (defBody st) t ∧ ∀ x, Wf x → S K none H t (st0 N (enc x)) { nx := fun _ => res x .none, rt := res x }) : FnOk P w K mg base CX0 (k + 1) f fd ps (SpX K Wf enc res) := by
  refine F.ok S0 (fun vs H Q E h => ?_) (fun cdv A outer s H vs Q E hr h => ?_)
  · obtain ⟨x, G, _, h1, h2, _⟩ := h
    rw [dpa_len h1]
    exact hl x h2
  · obtain ⟨x, G, v, h1, h2, q⟩ := h
    obtain ⟨t, ht, hS⟩ := hbody cdv A outer s H E hr
    refine ⟨t, ht, hS x h2 (L2.start N vs) G H _ (ev_start h1 v) (fun σ' G' H' L' x e' p => ?_) (fun v d G' H' x vw hd p => ?_) (fun _ _ _ _ _ _ z => z.elim) (fun _ _ _ _ _ _ z => z.elim)⟩
    · exact q .non .none G' H' ⟨x.gg, x.nw, fun a o hp e => x.od a o hp (by rw [e]; exact fun z => by cases z) e, e'.vw⟩ .non p
    · exact q v d G' H' ⟨x.gg, x.nw, fun a o hp e => x.od a o hp (by rw [e]; exact fun z => by cases z) e, vw⟩ hd p
/-- a def whose first argument is the pen -/
theorem fnXP {α : Type} {x qual : Str} {st : Stmt} {f : Addr} {fd : FuncData} {N ps : List Str} {k : Nat} {Wf : α → Prop} {enc : α → List PyData} {res : α → PyData → Prop} (F : Fun K x qual st f fd) (S0 : FnScope N ps (defScope st)) (hN : ∃ x r, N = x :: r) (hl : ∀ x, Wf x → (enc x).length + 1 = ps.length)
    (hbody : ∀ (cdv : Value) (A : Around) (outer : List Env) (s : Shared) (H : Hp) (E : XK), Room k (A.deeper (envOfC qual (defScope st) s.heap.objs.size f cdv)) →
      ∃ t, PSs (cxOf CX0 P w K mg base N qual (defScope st) f cdv A outer s H E).nox (defBody st) t ∧ ∀ (p : Pn) x, Wf x → S K (some p) H t (stP N (enc x)) { nx := fun _ => res x .none, rt := res x }) : FnOk P w K mg base CX0 (k + 1) f fd ps (SpXP K Wf enc res) := by
  refine F.ok S0 (fun vs H Q E h => ?_) (fun cdv A outer s H vs Q E hr h => ?_)
  · obtain ⟨x, p, G, us, rfl, _, h1, h2, _⟩ := h
    rw [List.length_cons, dpa_len h1]
    exact hl x h2
  · obtain ⟨x, p, G, us, rfl, v, h1, h2, q⟩ := h
    obtain ⟨t, ht, hS⟩ := hbody cdv A outer s H E hr
    refine ⟨t, ht, hS p x h2 _ G H _ (ev_startP h1 v hN) (fun σ' G' H' L' x e' p => ?_) (fun v d G' H' x vw hd p => ?_) (fun _ _ _ _ _ _ z => z.elim) (fun _ _ _ _ _ _ z => z.elim)⟩
    · exact q .non .none G' H' ⟨x.gg, x.nw, fun a o hp e => x.od a o hp (by rw [e]; exact fun z => by cases z) e, e'.vw⟩ .non p
    · exact q v d G' H' ⟨x.gg, x.nw, fun a o hp e => x.od a o hp (by rw [e]; exact fun z => by cases z) e, vw⟩ hd p
end
end Dl
set_option Elab.async false
set_option linter.all false
set_option maxRecDepth 100000
namespace Dl
open PySem PySem.Spec PyProof.Rows L2
section
variable {K : PySem.W.Frag} {pen : Option Pn} {H0 : Hp} {L : Lv} {P P' : PyData → Prop} {ta tb tc te ti : TE} {tl tr : TA} {tt : TT} {t u : TS} {Pb : Bool → Prop} {D : Dn} {g : TG} {gs : TGs}
/-! ### comprehensions -/
theorem POk.ne2 {H1 : Hp} {a : Addr} (h : POk pen H1) (p : ∃ q, pen = some q ∧ (a = q.a ∨ a = q.c)) : H1 a ≠ none := by
  obtain ⟨q, rfl, z⟩ := p
  obtain ⟨cells, at_, rest, h1, h2, _⟩ := h
  rcases z with rfl | rfl
  · rw [h1]; exact fun z => by cases z
  · rw [h2]; exact fun z => by cases z
/-- an object that was new at H1 and is not data changes -/
theorem Go.mut {G H1 G' H' : Hp} {D : Addr} {o : HO} (v1 : Vw pen G H1) (hD : H1 D = none) (gd : G' D = none) (g : Go pen G H1 G' H') : Go pen G H1 G' (upd H' D o) := by
  refine ⟨g.gg, g.nw, fun a o hp e => ?_, ⟨fun a o e => ?_, g.vw.no, ?_⟩⟩
  · rw [upd_ne (ne_of_none e hD)]
    exact g.od a o hp e
  · rw [upd_ne (fun z => by rw [z, gd] at e; cases e)]
    exact g.vw.vw a o e
  · cases pen with
    | none => trivial
    | some p =>
      obtain ⟨cells, at_, rest, h1, h2, h3⟩ := g.vw.ok
      refine ⟨cells, at_, rest, ?_, ?_, h3⟩
      · rw [upd_ne (fun z => v1.ok.ne2 ⟨p, rfl, .inl rfl⟩ (by rw [z]; exact hD))]
        exact h1
      · rw [upd_ne (fun z => v1.ok.ne2 ⟨p, rfl, .inr rfl⟩ (by rw [z]; exact hD))]
        exact h2
def LcI (K : PySem.W.Frag) (pen : Option Pn) (G H1 : Hp) (D : Addr) (J : Nat → List PyData → Prop) (i : Nat) (H' : Hp) : Prop :=
  ∃ G' vs acc, Go pen G H1 G' H' ∧ H' D = some (.lst vs) ∧ G' D = none ∧ DpAll K G' vs acc ∧ J i acc ∧ acc.length ≤ i
theorem lc_start {G H1 : Hp} {D : Addr} {J : Nat → List PyData → Prop} (v : Vw pen G H1) (hD : H1 D = none) (j0 : J 0 []) : LcI K pen G H1 D J 0 (upd H1 D (.lst [])) := by
  refine ⟨G, [], [], Go.hid v hD, upd_same, ?_, .nil, j0, Nat.le_refl _⟩
  cases q : G D with
  | none => rfl
  | some o => rw [v.vw _ _ q] at hD; cases hD
theorem lc_end {G H1 H' : Hp} {D : Addr} {J : Nat → List PyData → Prop} {n : Nat} {Q : VK} (v1 : Vw pen G H1) (hD : H1 D = none) (I : LcI K pen G H1 D J n H') (j1 : ∀ acc, J n acc → P (.list acc)) (q : ∀ v d G' H', Go pen G H1 G' H' → Dp K G' v d → P d → Q v H') : Q (.ref D) H' := by
  obtain ⟨G', vs, acc, g, h1, h2, h3, h4, _⟩ := I
  have s : Same G' (upd G' D (.lst vs)) := fun a o e => by
    rw [upd_ne (ne_of_none e h2)]
    exact e
  refine q _ _ (upd G' D (.lst vs)) H' ⟨g.gg.trans s, fun a h => ?_, g.od, ⟨fun a o e => ?_, fun a p => ?_, g.vw.ok⟩⟩ (.lst (.inl (.inl upd_same)) (dpa_mono s _ _ h3)) (j1 acc h4)
  · rw [upd_ne (fun z => h (by rw [z]; exact hD))]
    exact g.nw a h
  · by_cases z : a = D
    · subst z
      rw [upd_same] at e
      rw [h1]; exact e
    · rw [upd_ne z] at e
      exact g.vw.vw a o e
  · rw [upd_ne (fun z => v1.ok.there p (by rw [z]; exact hD))]
    exact g.vw.no a p
theorem lc_turn {G H1 G' H' : Hp} {D : Addr} {J : Nat → List PyData → Prop} {i : Nat} {vs : List V} {acc : List PyData} {σ2 : L2.St} {L2 : Lv} (v1 : Vw pen G H1) (hD : H1 D = none) (hi : i < 100000) (go : Go pen G H1 G' H') (h1 : H' D = some (.lst vs)) (h2 : G' D = none) (h3 : DpAll K G' vs acc) (h5 : acc.length ≤ i)
    (e2 : Ev K pen H0 G' H' σ2 L2) (h : ET K pen H0 tt L2 fun b => (b = true → E K pen H0 te L2 fun d => J (i + 1) (acc ++ [d])) ∧ (b = false → J (i + 1) acc)) :
    tt σ2 H' fun b H3 => if b = true then te σ2 H3 fun y H4 => ∃ acc, H4 D = some (.lst acc) ∧ acc.length < sizeLine ∧ LcI K pen G H1 D J (i + 1) (upd H4 D (.lst (acc ++ [y]))) else LcI K pen G H1 D J (i + 1) H3 := by
  have np : ¬ IsPn pen D := fun p => v1.ok.there p hD
  have hz : H' D ≠ none := by rw [h1]; exact fun z => by cases z
  refine h σ2 G' H' e2 _ fun b G3 H3 g3 p => ?_
  have k1 : H3 D = some (.lst vs) := g3.od D _ np h1
  have k2 : G3 D = none := (g3.nw D hz).trans h2
  cases b with
  | true =>
    show te σ2 H3 _
    refine p.1 rfl σ2 G3 H3 (e2.go g3) _ fun y d G4 H4 g4 d4 p4 => ?_
    have m1 : H4 D = some (.lst vs) := g4.od D _ np k1
    have m2 : G4 D = none := (g4.nw D (by rw [k1]; exact fun z => by cases z)).trans k2
    have m3 := dpa_mono (g3.gg.trans g4.gg) _ _ h3
    refine ⟨vs, m1, Nat.lt_of_lt_of_le (Nat.lt_of_le_of_lt (by rw [dpa_len h3]; exact h5) hi) (by decide : 100000 ≤ sizeLine), G4, vs ++ [y], acc ++ [d], Go.mut v1 hD m2 ((go.trans g3).trans g4), upd_same, m2, dpa_app m3 (.cons d4 .nil), p4, ?_⟩
    rw [List.length_append]
    show acc.length + 1 ≤ i + 1
    omega
  | false =>
    show LcI K pen G H1 D J (i + 1) H3
    exact ⟨G3, vs, acc, go.trans g3, k1, k2, dpa_mono g3.gg _ _ h3, p.2 rfl, by omega⟩
theorem wipe1 (σ : L2.St) (j : Nat) (x : Option V) : wipe ((wipe σ [j]).set j x) [j] = wipe σ [j] := by
  show ((σ.set j none).set j x).set j none = σ.set j none
  rw [List.set_set, List.set_set]
theorem wipe2 (σ : L2.St) (j k : Nat) (x y : Option V) : wipe (((wipe σ [j, k]).set j x).set k y) [j, k] = wipe σ [j, k] := by
  show (((((σ.set k none).set j none).set j x).set k y).set k none).set j none = (σ.set k none).set j none
  apply List.ext_getElem?
  intro m
  simp only [List.getElem?_set, List.length_set]
  by_cases h1 : j = m <;> by_cases h2 : k = m <;> simp [h1, h2] <;> (try split) <;> simp_all
theorem ev_wipe1 {G H : Hp} {σ : L2.St} (e : Ev K pen H0 G H σ L) (j : Nat) : Ev K pen H0 G H (wipe σ [j]) (L.set j none) := e.unset j
theorem ev_wipe2 {G H : Hp} {σ : L2.St} (e : Ev K pen H0 G H σ L) (j k : Nat) : Ev K pen H0 G H (wipe σ [j, k]) ((L.set k none).set j none) := (e.unset k).unset j
/-- one turn, by data -/
abbrev LcT (K : PySem.W.Frag) (pen : Option Pn) (H0 : Hp) (tt : TT) (te : TE) (L2 : Lv) (acc : List PyData) (Jn : List PyData → Prop) : Prop :=
  ET K pen H0 tt L2 fun b => (b = true → E K pen H0 te L2 fun d => Jn (acc ++ [d])) ∧ (b = false → Jn acc)
theorem e_lcR {j : Nat} (h : EA K pen H0 tl L fun ds => ∃ n : Nat, ds = [.int n] ∧ n ≤ 100000 ∧ ∃ J : Nat → List PyData → Prop, J 0 [] ∧
    (∀ (i : Nat) acc, i < n → J i acc → LcT K pen H0 tt te ((L.set j none).set j (some (.d (.int i)))) acc (J (i + 1))) ∧ (∀ acc, J n acc → P (.list acc))) :
    E K pen H0 (tLc (iRng1 tl) (gName j) tt te [j]) L P := fun σ G H e Q q => h σ G H e _ fun vs ds G1 H1 go hd ⟨n, hds, hn, J, j0, js, je⟩ => by
  subst hds
  cases hd with
  | cons hd hd2 =>
    cases hd2
    cases hd
    refine ⟨(n : Int), rfl, by omega, by omega, fun Dl hD => ?_⟩
    rw [Int.toNat_natCast]
    refine lc_range (lo := 0) (n := n) (LcI K pen G1 H1 Dl J) (lc_start go.vw hD j0) (fun i H' hi ⟨G', vs, acc, g, h1, h2, h3, h4, h5⟩ => ?_) (fun H' I => lc_end go.vw hD I je fun v d G' H' g hd p => q v d G' H' (go.trans g) hd p)
    show wipe ((wipe σ [j]).set j (some (.int ((0 : Int) + (i : Int))))) [j] = wipe σ [j] ∧ tt ((wipe σ [j]).set j (some (.int ((0 : Int) + (i : Int))))) H' _
    refine ⟨wipe1 _ _ _, ?_⟩
    rw [Int.zero_add]
    exact lc_turn go.vw hD (by omega) g h1 h2 h3 h5 ((ev_wipe1 ((e.go go).go g) j).set (.int _)) (js i acc hi h4)
theorem e_lcT {j : Nat} (h : E K pen H0 ta L fun d => ∃ ds, d = .tuple ds ∧ ds.length ≤ 100000 ∧ ∃ J : Nat → List PyData → Prop, J 0 [] ∧
    (∀ (i : Nat) x acc, ds[i]? = some x → J i acc → LcT K pen H0 tt te ((L.set j none).set j (some (.d x))) acc (J (i + 1))) ∧ (∀ acc, J ds.length acc → P (.list acc))) :
    E K pen H0 (tLc (iTup K ta) (gName j) tt te [j]) L P := fun σ G H e Q q => h σ G H e _ fun v d G1 H1 go hd ⟨ds, hds, hn, J, j0, js, je⟩ => by
  subst hds
  cases hd with
  | tup hs ha =>
    rename_i a xs
    refine ⟨a, rfl, ⟨xs, sqT_mono go.vw.vw hs⟩, fun Dl hD => ?_⟩
    refine lc_tup (xs := xs) (LcI K pen G1 H1 Dl J) (lc_start go.vw hD j0) (fun i H' _ ⟨G', vs, acc, g, _⟩ => sqT_mono (g.gg.trans g.vw.vw) hs) (fun i x H' hx ⟨G', vs, acc, g, h1, h2, h3, h4, h5⟩ => ?_) (fun H' I => ?_)
    · obtain ⟨z, hz, hd⟩ := dpa_getV ha hx
      refine ⟨wipe1 _ _ _, ?_⟩
      have := (List.getElem?_eq_some_iff.mp hz).1
      exact lc_turn go.vw hD (by omega) g h1 h2 h3 h5 ((ev_wipe1 ((e.go go).go g) j).set (dp_mono g.gg _ _ hd)) (js i z acc hz h4)
    · rw [dpa_len ha] at I
      exact lc_end go.vw hD I je fun v d G' H' g hd p => q v d G' H' (go.trans g) hd p
theorem e_lcL {j : Nat} (h : E K pen H0 ta L fun d => ∃ ds, d = .list ds ∧ ds.length ≤ 100000 ∧ ∃ J : Nat → List PyData → Prop, J 0 [] ∧
    (∀ (i : Nat) x acc, ds[i]? = some x → J i acc → LcT K pen H0 tt te ((L.set j none).set j (some (.d x))) acc (J (i + 1))) ∧ (∀ acc, J ds.length acc → P (.list acc))) :
    E K pen H0 (tLc (iList K ta) (gName j) tt te [j]) L P := fun σ G H e Q q => h σ G H e _ fun v d G1 H1 go hd ⟨ds, hds, hn, J, j0, js, je⟩ => by
  subst hds
  cases hd with
  | lst hs ha =>
    rename_i a xs
    refine ⟨a, rfl, ⟨xs, sqL_mono go.vw.vw hs⟩, fun Dl hD => ?_⟩
    refine lc_list (xs := xs) (LcI K pen G1 H1 Dl J) (lc_start go.vw hD j0) (fun i H' _ ⟨G', vs, acc, g, _⟩ => sqL_mono (g.gg.trans g.vw.vw) hs) (fun i x H' hx ⟨G', vs, acc, g, h1, h2, h3, h4, h5⟩ => ?_) (fun H' I => ?_)
    · obtain ⟨z, hz, hd⟩ := dpa_getV ha hx
      refine ⟨wipe1 _ _ _, ?_⟩
      have := (List.getElem?_eq_some_iff.mp hz).1
      exact lc_turn go.vw hD (by omega) g h1 h2 h3 h5 ((ev_wipe1 ((e.go go).go g) j).set (dp_mono g.gg _ _ hd)) (js i z acc hz h4)
    · rw [dpa_len ha] at I
      exact lc_end go.vw hD I je fun v d G' H' g hd p => q v d G' H' (go.trans g) hd p
/-- [e for a, b in zip(x, y)], two tuples or two lists of one length -/
theorem e_lcZ {j k : Nat} (h : EA K pen H0 tl L fun ds => ∃ as bs, (ds = [.tuple as, .tuple bs] ∨ ds = [.list as, .list bs]) ∧ as.length = bs.length ∧ as.length ≤ 100000 ∧ ∃ J : Nat → List PyData → Prop, J 0 [] ∧
    (∀ (i : Nat) x y acc, as[i]? = some x → bs[i]? = some y → J i acc → LcT K pen H0 tt te ((((L.set k none).set j none).set j (some (.d x))).set k (some (.d y))) acc (J (i + 1))) ∧ (∀ acc, J as.length acc → P (.list acc))) :
    E K pen H0 (tLc (RZ.iZipA K tl) (gTup K 2 (gCons (gName j) (gCons (gName k) gNil))) tt te [j, k]) L P := fun σ G H e Q q => h σ G H e _ fun vs ds G1 H1 go hd ⟨as, bs, hds, hl, hn, J, j0, js, je⟩ => by
  have turn : ∀ (Dl : Addr) (i : Nat) (H' : Hp) (x y : V) (T : Addr) (a b : PyData), H1 Dl = none → as[i]? = some a → bs[i]? = some b → (∀ G', Same G1 G' → Dp K G' x a ∧ Dp K G' y b) → LcI K pen G1 H1 Dl J i H' → H' T = none →
      gTup K 2 (gCons (gName j) (gCons (gName k) gNil)) (.ref T) (wipe σ [j, k]) (upd H' T (.tup [x, y])) fun σ2 H2 => wipe σ2 [j, k] = wipe σ [j, k] ∧ tt σ2 H2 fun b H3 =>
        if b = true then te σ2 H3 fun y H4 => ∃ acc, H4 Dl = some (.lst acc) ∧ acc.length < sizeLine ∧ LcI K pen G1 H1 Dl J (i + 1) (upd H4 Dl (.lst (acc ++ [y]))) else LcI K pen G1 H1 Dl J (i + 1) H3 := fun Dl i H' x y T a b hD ha hb hxy ⟨G', vs, acc, g, h1, h2, h3, h4, h5⟩ hT => by
    have g2 := Go.new g.vw (o := .tup [x, y]) hT
    have nT : Dl ≠ T := ne_of_none h1 hT
    refine ⟨T, [x, y], rfl, .inl (.inl upd_same), rfl, x, [y], rfl, y, [], rfl, rfl, wipe2 _ _ _ _ _, ?_⟩
    have hi := (List.getElem?_eq_some_iff.mp ha).1
    have ex := ((((ev_wipe2 ((e.go go).go g) j k).go g2).set (i := j) (dp_mono g2.gg _ _ (hxy G' g.gg).1)).set (i := k) (dp_mono g2.gg _ _ (hxy G' g.gg).2))
    refine lc_turn go.vw hD (by omega) (g.trans g2) ?_ ?_ (dpa_mono g2.gg _ _ h3) h5 ex (js i a b acc ha hb h4)
    · rw [upd_ne nT]; exact h1
    · rw [upd_ne nT]; exact h2
  rcases hds with rfl | rfl
  · cases hd with
    | cons hd hd2 =>
      cases hd2 with
      | cons hd3 hd4 =>
        cases hd4
        cases hd with
        | tup hs ha =>
          cases hd3 with
          | tup hs' ha' =>
            rename_i a xs a' ys
            refine ⟨a, a', xs, ys, rfl, .inr ⟨sqT_mono go.vw.vw hs, sqT_mono go.vw.vw hs', fun Dl hD => ?_⟩⟩
            refine ⟨fun i m H' => m = as.length - i ∧ i ≤ as.length ∧ LcI K pen G1 H1 Dl J i H', ⟨as.length, rfl, Nat.zero_le _, lc_start go.vw hD j0⟩, ?_⟩
            rintro i m H' ⟨rfl, hi, I⟩
            obtain ⟨G', vs, acc, g, r⟩ := id I
            have z1 : SqT K H' a xs := sqT_mono (g.gg.trans g.vw.vw) hs
            have z2 : SqT K H' a' ys := sqT_mono (g.gg.trans g.vw.vw) hs'
            by_cases hlt : i < as.length
            · obtain ⟨x, hx, dx⟩ := dpa_get ha (List.getElem?_eq_getElem hlt)
              obtain ⟨y, hy, dy⟩ := dpa_get ha' (List.getElem?_eq_getElem (hl ▸ hlt))
              refine .inr ⟨⟨xs, ys, x, y, z1, z2, hx, hy⟩, LcI K pen G1 H1 Dl J (i + 1), fun H2 I2 => ⟨as.length - (i + 1), by omega, rfl, hlt, I2⟩, fun v H2 hv => ?_⟩
              obtain ⟨T, x', y', rfl, hT, rfl, f1, f2⟩ := hv
              have e1 : x' = x := Option.some.inj ((f1 _ z1).symm.trans hx)
              have e2 : y' = y := Option.some.inj ((f2 _ z2).symm.trans hy)
              subst e1 e2
              exact turn Dl i H' x' y' T _ _ hD (List.getElem?_eq_getElem hlt) (List.getElem?_eq_getElem (hl ▸ hlt)) (fun G2 s => ⟨dp_mono s _ _ dx, dp_mono s _ _ dy⟩) I hT
            · have e1 : i = as.length := by omega
              subst e1
              exact .inl ⟨⟨xs, ys, z1, z2, .inl (by rw [dpa_len ha]; exact Nat.le_refl _)⟩, lc_end go.vw hD I je fun v d G' H' g hd p => q v d G' H' (go.trans g) hd p⟩
  · cases hd with
    | cons hd hd2 =>
      cases hd2 with
      | cons hd3 hd4 =>
        cases hd4
        cases hd with
        | lst hs ha =>
          cases hd3 with
          | lst hs' ha' =>
            rename_i a xs a' ys
            refine ⟨a, a', xs, ys, rfl, .inl ⟨sqL_mono go.vw.vw hs, sqL_mono go.vw.vw hs', fun Dl hD => ?_⟩⟩
            refine ⟨fun i m H' => m = as.length - i ∧ i ≤ as.length ∧ LcI K pen G1 H1 Dl J i H', ⟨as.length, rfl, Nat.zero_le _, lc_start go.vw hD j0⟩, ?_⟩
            rintro i m H' ⟨rfl, hi, I⟩
            obtain ⟨G', vs, acc, g, r⟩ := id I
            have z1 : SqL K H' a xs := sqL_mono (g.gg.trans g.vw.vw) hs
            have z2 : SqL K H' a' ys := sqL_mono (g.gg.trans g.vw.vw) hs'
            by_cases hlt : i < as.length
            · obtain ⟨x, hx, dx⟩ := dpa_get ha (List.getElem?_eq_getElem hlt)
              obtain ⟨y, hy, dy⟩ := dpa_get ha' (List.getElem?_eq_getElem (hl ▸ hlt))
              refine .inr ⟨⟨xs, ys, x, y, z1, z2, hx, hy⟩, LcI K pen G1 H1 Dl J (i + 1), fun H2 I2 => ⟨as.length - (i + 1), by omega, rfl, hlt, I2⟩, fun v H2 hv => ?_⟩
              obtain ⟨T, x', y', rfl, hT, rfl, f1, f2⟩ := hv
              have e1 : x' = x := Option.some.inj ((f1 _ z1).symm.trans hx)
              have e2 : y' = y := Option.some.inj ((f2 _ z2).symm.trans hy)
              subst e1 e2
              exact turn Dl i H' x' y' T _ _ hD (List.getElem?_eq_getElem hlt) (List.getElem?_eq_getElem (hl ▸ hlt)) (fun G2 s => ⟨dp_mono s _ _ dx, dp_mono s _ _ dy⟩) I hT
            · have e1 : i = as.length := by omega
              subst e1
              exact .inl ⟨⟨xs, ys, z1, z2, .inl (by rw [dpa_len ha]; exact Nat.le_refl _)⟩, lc_end go.vw hD I je fun v d G' H' g hd p => q v d G' H' (go.trans g) hd p⟩
theorem et_yes (h : Pb true) : ET K pen H0 tYes L Pb := fun σ G H e Q q => q true G H (.refl e.vw) h
/-! ### slices, sums of tuples and lists -/
def cutD (xs : List PyData) (lo hi : Option Int) : List PyData := (xs.drop (HT.sIx xs.length 0 lo)).take (HT.sIx xs.length xs.length hi - HT.sIx xs.length 0 lo)
theorem dpa_cut {G : Hp} {vs : List V} {ds : List PyData} (h : DpAll K G vs ds) (lo hi : Option Int) : DpAll K G (cutV vs lo hi) (cutD ds lo hi) := by
  unfold cutV cutD
  rw [dpa_len h]
  exact dpa_take _ (dpa_drop _ h)
theorem r_slT {ds : List PyData} {lo hi : Option Int} (p : P (.tuple (cutD ds lo hi))) : RSd K pen (rSlA K) (.tuple ds) lo hi P := fun x G H v hx Q q => by
  cases hx with
  | tup hs ha =>
    rename_i a xs
    refine ⟨a, xs, rfl, sqT_mono v.vw hs, fun ⟨w1, w2⟩ => ?_, fun _ p' hp => ?_⟩
    · have e : cutD ds lo hi = ds := by
        unfold cutD
        rw [← dpa_len ha, w1, w2, dpa_len ha]
        show ds.take (ds.length - 0) = ds
        rw [Nat.sub_zero, List.take_length]
      rw [e] at p
      exact q _ _ G H (.refl v) (.tup hs ha) p
    · have g := Go.new v (o := .tup (cutV xs lo hi)) hp
      exact q _ _ _ _ g (.tup (.inl (.inl upd_same)) (dpa_mono g.gg _ _ (dpa_cut ha lo hi))) p
theorem r_slL {ds : List PyData} {lo hi : Option Int} (p : P (.list (cutD ds lo hi))) : RSd K pen (rSlL K) (.list ds) lo hi P := fun x G H v hx Q q => by
  cases hx with
  | lst hs ha =>
    rename_i a xs
    refine ⟨a, xs, rfl, sqL_mono v.vw hs, fun p' hp => ?_⟩
    have g := Go.new v (o := .lst (cutV xs lo hi)) hp
    exact q _ _ _ _ g (.lst (.inl (.inl upd_same)) (dpa_mono g.gg _ _ (dpa_cut ha lo hi))) p
theorem r_catT {as bs : List PyData} (hl : as.length + bs.length ≤ 100000) (p : P (.tuple (as ++ bs))) : R2d K pen (rCatA K) (.tuple as) (.tuple bs) P := fun x y G H v hx hy Q q => by
  cases hx with
  | tup hs ha =>
    cases hy with
    | tup hs' ha' =>
      rename_i a xs a' ys
      refine ⟨a, a', xs, ys, rfl, rfl, sqT_mono v.vw hs, sqT_mono v.vw hs', Nat.le_trans (by rw [dpa_len ha, dpa_len ha']; exact hl) (by decide : 100000 ≤ sizeLine), fun e => ?_, fun _ e => ?_, fun _ _ p' hp => ?_⟩
      · subst e
        cases ha
        exact q _ _ G H (.refl v) (.tup hs' ha') p
      · subst e
        cases ha'
        rw [List.append_nil] at p
        exact q _ _ G H (.refl v) (.tup hs ha) p
      · have g := Go.new v (o := .tup (xs ++ ys)) hp
        exact q _ _ _ _ g (.tup (.inl (.inl upd_same)) (dpa_mono g.gg _ _ (dpa_app ha ha'))) p
/-! ### isinstance -/
def tyD : PyData → String
  | .none => "NoneType"
  | .bool _ => "bool"
  | .int _ => "int"
  | .str _ => "str"
  | .list _ => "list"
  | .tuple _ => "tuple"
  | .dict _ => "dict"
theorem tyx_of {G H : Hp} (s : Same G H) : ∀ {v : V} {d : PyData}, Dp K G v d → TyX K H v (.type (tyD d))
  | _, _, .non => .base .non
  | _, _, .bl b => .base (.bl b)
  | _, _, .int i => .base (.int i)
  | _, _, .str x => .base (.str x)
  | _, _, .lst hs _ => by
    rcases hs with (h | ⟨o, h⟩) | ⟨o, its, n, h, hc, _⟩
    · exact .base (.lst (s _ _ h))
    · exact .base (.frz (s _ _ h))
    · exact .kList h hc
  | _, _, .tup hs _ => by
    rcases hs with (h | ⟨o, h⟩) | ⟨o, its, n, h, hc, _⟩
    · exact .base (.tup (s _ _ h))
    · exact .fTuple (s _ _ h)
    · exact .kTuple h hc
def isS (a T : String) : Bool := a == T || (a == "bool" && T == "int")
def isD (d : PyData) (T : String) : Bool := isS (tyD d) T
theorem kit_isS (a T : String) (ha : a = "NoneType" ∨ a = "bool" ∨ a = "int" ∨ a = "str" ∨ a = "list" ∨ a = "tuple") (hT : T = "int" ∨ T = "bool" ∨ T = "str" ∨ T = "tuple" ∨ T = "list") : kitB a T = some (isS a T) := by
  rcases ha with rfl | rfl | rfl | rfl | rfl | rfl <;> rcases hT with rfl | rfl | rfl | rfl | rfl <;> decide +kernel
theorem kit_isD (d : PyData) (T : String) (hT : T = "int" ∨ T = "bool" ∨ T = "str" ∨ T = "tuple" ∨ T = "list") (hd : ∀ x, d ≠ .dict x) : kitB (tyD d) T = some (isD d T) := by
  refine kit_isS _ _ ?_ hT
  cases d with
  | dict x => exact absurd rfl (hd x)
  | none => exact .inl rfl
  | bool _ => exact .inr (.inl rfl)
  | int _ => exact .inr (.inr (.inl rfl))
  | str _ => exact .inr (.inr (.inr (.inl rfl)))
  | list _ => exact .inr (.inr (.inr (.inr (.inl rfl))))
  | tuple _ => exact .inr (.inr (.inr (.inr (.inr rfl))))
theorem e_isi {T : String} (hT : T = "int" ∨ T = "bool" ∨ T = "str" ∨ T = "tuple" ∨ T = "list") (h : E K pen H0 ta L fun d => P (.bool (isD d T))) : E K pen H0 (tCB (rIsi K) (tCons ta (tCons (tC (.ty T)) tNil))) L P := fun σ G H e Q q =>
  h σ G H e _ fun v d G1 H1 go hd p => by
    refine ⟨v, .ty T, .type (tyD d), .type T, isD d T, rfl, .ty T, tyx_of go.vw.vw hd, kit_ty (kit_isD d T hT fun x z => ?_), q _ _ G1 H1 go (.bl _) p⟩
    subst z
    cases hd
end
end Dl
set_option Elab.async false
set_option linter.all false
set_option maxRecDepth 100000
namespace Dl
open PySem PySem.Spec PyProof.Rows L2
section
variable {K : PySem.W.Frag} {pen : Option Pn} {H0 : Hp} {L : Lv} {P P' : PyData → Prop} {ta tb tc te ti : TE} {tl tr : TA} {tt : TT} {t u : TS} {Pb : Bool → Prop} {D : Dn} {g : TG} {gs : TGs}
/-! ### lists of one's own, that change -/
theorem Ev.setOwn {G H : Hp} {σ : L2.St} (e : Ev K pen H0 G H σ L) {i : Nat} {l : Addr} {vs : List V} {ds : List PyData} (hl : H l = none) (h : DpAll K G vs ds) : Ev K pen H0 G (upd H l (.lst vs)) (σ.set i (some (.ref l))) (L.set i (some (.own ds))) := by
  have go := Go.hid e.vw (o := .lst vs) hl
  have e1 := e.go go
  have h0l : H0 l = none := by
    cases q : H0 l with
    | none => rfl
    | some o => exact absurd hl (e.dom l (by rw [q]; exact fun z => by cases z))
  have gl : G l = none := by
    cases q : G l with
    | none => rfl
    | some o => rw [e.vw.vw _ _ q] at hl; cases hl
  have old : ∀ (j : Nat) (es : List PyData) (l' : Addr), L[j]? = some (some (.own es)) → σ[j]? = some (some (.ref l')) → l' ≠ l := fun j es l' h1 h2 z => by
    obtain ⟨v, k1, l2, ws, k2, k3, _⟩ := e.sl j _ h1
    rw [h2] at k1
    have := Option.some.inj (Option.some.inj k1)
    rw [← this] at k2
    cases k2
    rw [z, hl] at k3
    cases k3
  have here : ∀ (j : Nat) (av : AV), (L.set i (some (.own ds)))[j]? = some (some av) → i = j → av = .own ds ∧ (σ.set i (some (.ref l)))[j]? = some (some (.ref l)) := fun j av hj q => by
    subst q
    have hl : i < L.length := by
      have := (List.getElem?_eq_some_iff.mp hj).1
      rw [List.length_set] at this; exact this
    rw [List.getElem?_set_self hl] at hj
    exact ⟨(Option.some.inj (Option.some.inj hj)).symm, List.getElem?_set_self (by rw [e.len]; exact hl)⟩
  refine ⟨e1.vw, e.h0, e1.dom, by rw [List.length_set, List.length_set]; exact e.len, fun j av hj => ?_, fun j k ds' es l' h1 h2 h3 h4 => ?_⟩
  · by_cases q : i = j
    · obtain ⟨rfl, k⟩ := here j av hj q
      exact ⟨_, k, l, vs, rfl, upd_same, h0l, gl, h⟩
    · rw [List.getElem?_set_ne q] at hj
      obtain ⟨w, k1, k2⟩ := e1.sl j av hj
      exact ⟨w, by rw [List.getElem?_set_ne q]; exact k1, k2⟩
  · by_cases q1 : i = j
    · by_cases q2 : i = k
      · exact q1.symm.trans q2
      · have k1 := (here j _ h1 q1).2
        rw [h3] at k1
        have z : l' = l := V.ref.inj (Option.some.inj (Option.some.inj k1))
        rw [List.getElem?_set_ne q2] at h2 h4
        exact absurd z (old k es l' h2 h4)
    · rw [List.getElem?_set_ne q1] at h1 h3
      by_cases q2 : i = k
      · have k1 := (here k _ h2 q2).2
        rw [h4] at k1
        have z : l' = l := V.ref.inj (Option.some.inj (Option.some.inj k1))
        exact absurd z (old j ds' l' h1 h3)
      · rw [List.getElem?_set_ne q2] at h2 h4
        exact e.ow j k ds' es l' h1 h2 h3 h4
/-- the own list in slot j is written -/
theorem Ev.putOwn {G H : Hp} {σ : L2.St} (e : Ev K pen H0 G H σ L) {j : Nat} {l : Addr} {ds es : List PyData} {ws : List V} (hj : L[j]? = some (some (.own ds))) (hs : σ[j]? = some (some (.ref l))) (h : DpAll K G ws es) :
    Ev K pen H0 G (upd H l (.lst ws)) σ (L.set j (some (.own es))) ∧ Gx pen H0 G H G (upd H l (.lst ws)) := by
  obtain ⟨v, k1, l2, vs, k2, k3, k4, k5, k6⟩ := e.sl j _ hj
  rw [hs] at k1
  have := Option.some.inj (Option.some.inj k1)
  rw [← this] at k2
  cases k2
  have n0 : ∀ a, H0 a ≠ none → a ≠ l := fun a h z => h (by rw [z]; exact k4)
  have ng : ∀ a o, G a = some o → a ≠ l := fun a o q z => by rw [z, k5] at q; cases q
  have vw : Vw pen G (upd H l (.lst ws)) := by
    refine ⟨fun a o q => by rw [upd_ne (ng a o q)]; exact e.vw.vw a o q, e.vw.no, ?_⟩
    cases pen with
    | none => trivial
    | some p =>
      obtain ⟨cells, at_, rest, m1, m2, m3⟩ := e.vw.ok
      exact ⟨cells, at_, rest, by rw [upd_ne (n0 _ (e.h0.ne2 ⟨p, rfl, .inl rfl⟩))]; exact m1, by rw [upd_ne (n0 _ (e.h0.ne2 ⟨p, rfl, .inr rfl⟩))]; exact m2, m3⟩
  have jl : j < L.length := (List.getElem?_eq_some_iff.mp hj).1
  refine ⟨⟨vw, e.h0, fun a h => ?_, by rw [List.length_set]; exact e.len, fun i av hi => ?_, fun i k ds' es' l' h1 h2 h3 h4 => ?_⟩, Same.refl _, fun _ _ => rfl, fun a o _ h q => by rw [upd_ne (n0 a h)]; exact q⟩
  · rw [upd_ne (n0 a h)]; exact e.dom a h
  · by_cases q : j = i
    · subst q
      rw [List.getElem?_set_self jl] at hi
      have := Option.some.inj (Option.some.inj hi)
      subst this
      exact ⟨_, hs, l, ws, rfl, upd_same, k4, k5, h⟩
    · rw [List.getElem?_set_ne q] at hi
      obtain ⟨w, m1, m2⟩ := e.sl i av hi
      refine ⟨w, m1, ?_⟩
      cases av with
      | d x => exact m2
      | pen => exact m2
      | own ds2 =>
        obtain ⟨l3, vs3, rfl, m3, m4, m5, m6⟩ := m2
        refine ⟨l3, vs3, rfl, ?_, m4, m5, m6⟩
        rw [upd_ne (fun z => q (e.ow j i ds ds2 l hj hi hs (by rw [← z]; exact m1)))]
        exact m3
  · have was : ∀ (i : Nat) (ds' : List PyData), (L.set j (some (.own es)))[i]? = some (some (.own ds')) → ∃ ds2, L[i]? = some (some (.own ds2)) := fun i ds' hi => by
      by_cases q : j = i
      · subst q; exact ⟨ds, hj⟩
      · rw [List.getElem?_set_ne q] at hi; exact ⟨ds', hi⟩
    obtain ⟨a1, b1⟩ := was i ds' h1
    obtain ⟨a2, b2⟩ := was k es' h2
    exact e.ow i k a1 a2 l' b1 b2 h3 h4
/-- x = list(e) -/
theorem s_ownList {i : Nat} (h : E K pen H0 te L fun d => ∃ es, (d = .tuple es ∨ d = .list es) ∧ D.nx (L.set i (some (.own es)))) :
    S K pen H0 (tAsg (tCB (fun xs H Q => ∃ p ys, xs = [.ref p] ∧ (SqL K H p ys ∨ SqT K H p ys) ∧ ∀ l, H l = none → Q (.ref l) (upd H l (.lst ys))) (tCons te tNil)) (gName i)) L D := fun σ G H N e n1 _ _ _ =>
  h σ G H e _ fun v d G1 H1 go hd ⟨es, hes, p⟩ => by
    have e1 := e.go go
    have fin : ∀ (ys : List V) (l : Addr), DpAll K G1 ys es → H1 l = none → N.nx (σ.set i (some (.ref l))) (upd H1 l (.lst ys)) := fun ys l hy hl => n1 _ G1 _ _ ((e.gx go).trans (e1.gx (Go.hid e1.vw hl))) (e1.setOwn hl hy) p
    rcases hes with rfl | rfl
    · cases hd with
      | tup hs ha => exact ⟨_, _, rfl, .inr (sqT_mono go.vw.vw hs), fun l hl => fin _ l ha hl⟩
    · cases hd with
      | lst hs ha => exact ⟨_, _, rfl, .inl (sqL_mono go.vw.vw hs), fun l hl => fin _ l ha hl⟩
/-- x = [] -/
theorem s_ownNil {i : Nat} (h : D.nx (L.set i (some (.own [])))) : S K pen H0 (tAsg (tLst tNil) (gName i)) L D := fun σ G H N e n1 _ _ _ =>
  ⟨Nat.zero_le _, fun l hl => n1 _ G _ _ (e.gx (Go.hid e.vw hl)) (e.setOwn hl .nil) h⟩
/-- x[k] = e -/
theorem s_putOwn {j : Nat} {ds : List PyData} (hj : L[j]? = some (some (.own ds))) (h : E K pen H0 te L fun d => E K pen H0 ti L fun k => ∃ m : Nat, k = .int m ∧ m < ds.length ∧ D.nx (L.set j (some (.own (ds.set m d))))) :
    S K pen H0 (tAsg te (gSub (tVar j) ti rSetL)) L D := fun σ G H N e n1 _ _ _ =>
  h σ G H e _ fun v d G1 H1 g1 d1 h1 => by
    have e1 := e.go g1
    obtain ⟨x, k1, l, vs, rfl, k3, k4, k5, k6⟩ := e1.sl j _ hj
    refine ⟨_, k1, h1 σ G1 H1 e1 _ fun w k G2 H2 g2 d2 ⟨m, hm, hl, p⟩ => ?_⟩
    subst hm
    cases d2
    have e2 := e1.go g2
    obtain ⟨x2, q1, l2, vs2, q2, q3, q4, q5, q6⟩ := e2.sl j _ hj
    rw [k1] at q1
    have := Option.some.inj (Option.some.inj q1)
    rw [← this] at q2
    cases q2
    obtain ⟨r1, r2⟩ := e2.putOwn hj k1 (dpa_set (dp_mono g2.gg _ _ d1) m q6)
    refine ⟨l, vs2, (m : Int), m, rfl, rfl, q3, ?_, n1 σ G2 _ _ (((e.gx g1).trans (e1.gx g2)).trans r2) r1 p⟩
    rw [dpa_len q6]
    unfold ixN
    rw [if_pos (by omega), if_pos (by omega)]
    simp
/-- x.append(e) -/
theorem s_appOwn {j : Nat} {ds : List PyData} (hj : L[j]? = some (some (.own ds))) (hz : ds.length < 100000) (h : E K pen H0 te L fun d => D.nx (L.set j (some (.own (ds ++ [d]))))) :
    S K pen H0 (tDrop (tBM K "list" rAppend (tVar j) (tCons te tNil))) L D := fun σ G H N e n1 _ _ _ => by
  obtain ⟨x, k1, l, vs, rfl, k3, k4, k5, k6⟩ := e.sl j _ hj
  refine ⟨_, k1, .inl ⟨rfl, vs, .inl (.inl k3)⟩, h σ G H e _ fun v d G1 H1 g1 d1 p => ?_⟩
  have e1 := e.go g1
  obtain ⟨x2, q1, l2, vs2, q2, q3, q4, q5, q6⟩ := e1.sl j _ hj
  rw [k1] at q1
  have := Option.some.inj (Option.some.inj q1)
  rw [← this] at q2
  cases q2
  obtain ⟨r1, r2⟩ := e1.putOwn hj k1 (dpa_app q6 (.cons d1 .nil))
  exact ⟨l, vs2, v, rfl, rfl, q3, Nat.lt_of_lt_of_le (by rw [dpa_len q6]; exact hz) (by decide : 100000 ≤ sizeLine), n1 σ G1 _ _ ((e.gx g1).trans r2) r1 p⟩
/-- tuple(x), x one's own list -/
theorem e_tupOwn {j : Nat} {ds : List PyData} (hj : L[j]? = some (some (.own ds))) (p : P (.tuple ds)) :
    E K pen H0 (tCB (fun xs H Q => ∃ p ys, xs = [.ref p] ∧ ((SqL K H p ys ∧ ∀ l, H l = none → Q (.ref l) (upd H l (.tup ys))) ∨ (SqT K H p ys ∧ Q (.ref p) H))) (tCons (tVar j) tNil)) L P := fun σ G H e Q q => by
  obtain ⟨x, k1, l, vs, rfl, k3, k4, k5, k6⟩ := e.sl j _ hj
  refine ⟨_, k1, l, vs, rfl, .inl ⟨.inl (.inl k3), fun l' hl => ?_⟩⟩
  have g := Go.new e.vw (o := .tup vs) hl
  exact q _ _ _ _ g (.tup (.inl (.inl upd_same)) (dpa_mono g.gg _ _ k6)) p
/-- len(x), x one's own list -/
theorem e_lenOwn {j : Nat} {ds : List PyData} (hj : L[j]? = some (some (.own ds))) (p : P (.int ds.length)) :
    E K pen H0 (tCB (fun xs H Q => ∃ p ys, xs = [.ref p] ∧ (SqL K H p ys ∨ SqT K H p ys) ∧ Q (.int ys.length) H) (tCons (tVar j) tNil)) L P := fun σ G H e Q q => by
  obtain ⟨x, k1, l, vs, rfl, k3, k4, k5, k6⟩ := e.sl j _ hj
  refine ⟨_, k1, l, vs, rfl, .inl (.inl (.inl k3)), ?_⟩
  rw [dpa_len k6]
  exact q _ _ G H (.refl e.vw) (.int _) p
theorem r_neB {i j : Bool} (p : P (.bool (!decide (i = j)))) : R2d K pen rNe (.bool i) (.bool j) P := fun x y G H v hx hy Q q => by
  cases hx
  cases hy
  refine ⟨rfl, ?_⟩
  rw [show decide (V.bl i = V.bl j) = decide (i = j) by rw [dec_bl]; exact Bool.beq_eq_decide_eq i j]
  exact q _ _ G H (.refl v) (.bl _) p
/-- False not in a list of truths -/
theorem dpa_bls {G : Hp} : ∀ {vs : List V} {bs : List Bool}, DpAll K G vs (bs.map PyData.bool) → vs = bs.map V.bl
  | _, [], h => by cases h; rfl
  | _, b :: bs, h => by
    cases h with
    | cons h1 h2 =>
      cases h1
      rw [dpa_bls h2]
      rfl
theorem inV_false (bs : List Bool) : inV (.bl false) (bs.map V.bl) = bs.any (!·) := by
  unfold inV
  rw [List.any_map]
  congr 1
  funext b
  cases b <;> rfl
theorem flat_bls (bs : List Bool) : (bs.map V.bl).all flatV = true := by
  rw [List.all_eq_true]
  intro x hx
  obtain ⟨b, _, rfl⟩ := List.mem_map.mp hx
  rfl
theorem r_notIn {bs : List Bool} (p : P (.bool (!bs.any (!·)))) : R2d K pen (rIn K true) (.bool false) (.list (bs.map PyData.bool)) P := fun x y G H v hx hy Q q => by
  cases hx
  cases hy with
  | lst hs ha =>
    have e := dpa_bls ha
    subst e
    refine ⟨_, _, rfl, .inl (sqL_mono v.vw hs), rfl, flat_bls bs, ?_⟩
    rw [if_pos rfl, inV_false]
    exact q _ _ G H (.refl v) (.bl _) p
end
/-! ### the pen's own def -/
section
variable {K : PySem.W.Frag} {p : Pn} {H0 : Hp} {L : Lv} {P P' : PyData → Prop} {ta tb tc te ti : TE} {D : Dn}
theorem Ev.pen {G H : Hp} {σ : L2.St} (e : Ev K (some p) H0 G H σ L) {i : Nat} (hi : L[i]? = some (some .pen)) : σ[i]? = some (some (.ref p.a)) := by
  obtain ⟨v, hv, q, hq, rfl⟩ := e.sl i _ hi
  cases hq
  exact hv
theorem e_pen {i : Nat} {k : Int} (hi : L[i]? = some (some .pen)) (hk : k = 1 ∨ k = 2) (h : ∀ z : Int, 0 ≤ z → P (.int z)) : E K (some p) H0 (tOp (rIxL K) (tVar i) (tC (.int k))) L P := fun σ G H e Q q => by
  obtain ⟨cells, at_, rest, m1, m2, m3, m4, m5⟩ := e.vw.ok
  refine ⟨_, e.pen hi, p.a, _, k, .int (if k = 1 then at_ else rest), rfl, rfl, .inl (.inl m1), ?_, q _ _ G H (.refl e.vw) (.int _) (h _ ?_)⟩
  · rcases hk with rfl | rfl
    · rfl
    · rfl
  · split <;> assumption
theorem e_penLen {i : Nat} (hi : L[i]? = some (some .pen)) (h : P (.int p.n)) : E K (some p) H0 (tCB (fun xs H Q => ∃ p ys, xs = [.ref p] ∧ (SqL K H p ys ∨ SqT K H p ys) ∧ Q (.int ys.length) H) (tCons (tOp (rIxL K) (tVar i) (tC (.int 0))) tNil)) L P := fun σ G H e Q q => by
  obtain ⟨cells, at_, rest, m1, m2, m3, m4, m5⟩ := e.vw.ok
  refine ⟨_, e.pen hi, p.a, _, 0, .ref p.c, rfl, rfl, .inl (.inl m1), rfl, p.c, _, rfl, .inl (.inl (.inl m2)), ?_⟩
  rw [List.length_map, m5]
  exact q _ _ G H (.refl e.vw) (.int _) h
theorem e_penIx {i : Nat} (hi : L[i]? = some (some .pen)) (h : E K (some p) H0 ti L fun k => ∃ m : Nat, k = .int m ∧ m < p.n ∧ ∀ z : Int, P (.int z)) : E K (some p) H0 (tOp (rIxL K) (tOp (rIxL K) (tVar i) (tC (.int 0))) ti) L P := fun σ G H e Q q => by
  obtain ⟨cells, at_, rest, m1, m2, m3, m4, m5⟩ := e.vw.ok
  refine ⟨_, e.pen hi, p.a, _, 0, .ref p.c, rfl, rfl, .inl (.inl m1), rfl, h σ G H e _ fun v k G1 H1 go hd ⟨m, hm, hl, hp⟩ => ?_⟩
  subst hm
  cases hd
  have m2' : H1 p.c = some (.lst (cells.map V.int)) := go.od _ _ (fun ⟨q, z, w⟩ => by cases z; exact e.vw.ok.ne w) m2
  refine ⟨p.c, _, (m : Int), .int cells[m], rfl, rfl, .inl (.inl m2'), ?_, q _ _ G1 H1 go (.int _) (hp _)⟩
  refine atI_nat ?_
  rw [List.getElem?_map, List.getElem?_eq_getElem (by rw [m5]; exact hl)]
  rfl
theorem s_pen {i : Nat} {k : Int} (hi : L[i]? = some (some .pen)) (hk : k = 1 ∨ k = 2) (h : E K (some p) H0 te L fun d => ∃ z, d = .int z ∧ 0 ≤ z ∧ D.nx L) : S K (some p) H0 (tAsg te (gSub (tVar i) (tC (.int k)) rSetL)) L D := fun σ G H N e n1 _ _ _ =>
  h σ G H e _ fun v d G1 H1 g1 d1 ⟨z, hz, z0, hp⟩ => by
    subst hz
    cases d1
    have e1 := e.go g1
    obtain ⟨cells, at_, rest, m1, m2, m3, m4, m5⟩ := e1.vw.ok
    have put : ∀ (a r : Int), 0 ≤ a → 0 ≤ r → N.nx σ (upd H1 p.a (.lst [.ref p.c, .int a, .int r])) := fun a r ha hr => by
      have h0 : H0 p.a ≠ none := e1.h0.there ⟨p, rfl, rfl⟩
      have ga : G1 p.a = none := e1.vw.no _ ⟨p, rfl, rfl⟩
      refine n1 σ G1 _ L ((e.gx g1).trans ⟨Same.refl _, fun _ _ => rfl, fun b o hb _ q => ?_⟩) ⟨⟨fun b o q => ?_, e1.vw.no, ⟨cells, a, r, upd_same, ?_, ha, hr, m5⟩⟩, e1.h0, fun b hb => ?_, e1.len, fun j av hj => ?_, e1.ow⟩ hp
      · rw [upd_ne (fun w => hb ⟨p, rfl, w⟩)]; exact q
      · rw [upd_ne (fun w => by rw [w, ga] at q; cases q)]; exact e1.vw.vw b o q
      · rw [upd_ne e1.vw.ok.ne]; exact m2
      · by_cases w : b = p.a
        · rw [w, upd_same]; exact fun z => by cases z
        · rw [upd_ne w]; exact e1.dom b hb
      · obtain ⟨x, q1, q2⟩ := e1.sl j av hj
        refine ⟨x, q1, ?_⟩
        cases av with
        | d x => exact q2
        | pen => exact q2
        | own ds =>
          obtain ⟨l, vs, rfl, k3, k4, k5⟩ := q2
          exact ⟨l, vs, rfl, by rw [upd_ne (fun w => h0 (by rw [← w]; exact k4))]; exact k3, k4, k5⟩
    rcases hk with rfl | rfl
    · exact ⟨_, e1.pen hi, p.a, _, 1, 1, rfl, rfl, m1, rfl, put z rest z0 m4⟩
    · exact ⟨_, e1.pen hi, p.a, _, 2, 2, rfl, rfl, m1, rfl, put at_ z m3 z0⟩
end
def WfTake (m : Int) : Prop := 0 < m ∧ m ≤ 10 ^ 60
def resTake (m : Int) (d : PyData) : Prop := ∃ z : Nat, d = .int (z : Int) ∧ (z : Int) < m
theorem resTake_of {z m : Int} (h0 : 0 ≤ z) (h1 : z < m) : resTake m (.int z) := ⟨z.toNat, by rw [Int.toNat_of_nonneg h0], by rw [Int.toNat_of_nonneg h0]; exact h1⟩
theorem take_all {m : Int} {P : PyData → Prop} (h : ∀ k : Nat, (k : Int) < m → P (.int (k : Int))) : ∀ d, resTake m d → P d := fun d ⟨k, e, hk⟩ => by rw [e]; exact h k hk
abbrev spTake (K : PySem.W.Frag) : Sp := SpXP (α := Int) K WfTake (fun m => [.int m]) resTake
section
variable {K : PySem.W.Frag} {pen : Option Pn} {H0 : Hp} {P P' : PyData → Prop}
theorem r_modAny {i j : Int} (hc : 0 < j) (p : ∀ z, 0 ≤ z → z < j → P (.int z)) : R2d K pen (rI (fun _ j => 0 < j) fun i j => .int (i % j)) (.int i) (.int j) P := r_mod hc (p _ (Int.emod_nonneg _ (by omega)) (Int.emod_lt_of_pos _ hc))
theorem r_fdivW {i j : Int} (hc : CDivW i j) (p : P (.int (i / j))) : R2d K pen (rI CDivW fun i j => .int (i / j)) (.int i) (.int j) P := r_I (f := fun i j => .int (i / j)) (fun _ => .int _) hc p
theorem r_pow {i j : Int} (hc : CPow i j) (p : P (.int (i ^ j.toNat))) : R2d K pen (rI CPow fun i j => .int (i ^ j.toNat)) (.int i) (.int j) P := r_I (f := fun i j => .int (i ^ j.toNat)) (fun _ => .int _) hc p
end
end Dl
namespace Dl
open PySem PySem.Spec PyProof.Rows L2
theorem nox_K {CX : CXT} {P : Program} {w : World} {K : PySem.W.Frag} {mg : Str → Option Value} {base : Heap} {N : List Str} {qual : Str} {scope : Scope} {f : Addr} {cd : Value} {A : Around} {outer : List Env} {s : Shared} {H : Hp} {E : XK} : (cxOf CX P w K mg base N qual scope f cd A outer s H E).nox.K = K := rfl
theorem cx_K {CX : CXT} {P : Program} {w : World} {K : PySem.W.Frag} {mg : Str → Option Value} {base : Heap} {N : List Str} {qual : Str} {scope : Scope} {f : Addr} {cd : Value} {A : Around} {outer : List Env} {s : Shared} {H : Hp} {E : XK} : (cxOf CX P w K mg base N qual scope f cd A outer s H E).K = K := rfl
theorem blk_K {X : Cx} {s : Shared} {H : Hp} {sc : Scope} {env : Env} {fp : List Addr} : (X.blk s H sc env fp).K = X.K := rfl
end Dl
namespace Dl
open PySem PySem.Spec PyProof.Rows L2
section
variable {X : Cx} (K : PySem.W.Frag)
theorem kx_ixT (h : X.K = K) : IxR X (rIxT K) := by subst h; exact ix_tup
theorem kx_ixL (h : X.K = K) : IxR X (rIxL K) := by subst h; exact ix_list
theorem kx_slT (h : X.K = K) : SlR X (rSlA K) := by subst h; exact sl_tupA
theorem kx_slL (h : X.K = K) : SlR X (rSlL K) := by subst h; exact sl_list
theorem kx_catT (h : X.K = K) : OpR X (binaryOp .Add) (rCatA K) := by subst h; exact op_catA
theorem kx_in (h : X.K = K) : OpR X (compareOp .In) (rIn K false) := by subst h; exact op_in_seq
theorem kx_notIn (h : X.K = K) : OpR X (compareOp .NotIn) (rIn K true) := by subst h; exact op_notIn_seq
theorem kx_eqD (h : X.K = K) (hu : X.A.units + 64 < cLine) : OpR X (compareOp .Eq) (rEqD K) := by subst h; exact op_eqD hu
theorem kx_neD (h : X.K = K) (hu : X.A.units + 64 < cLine) : OpR X (compareOp .NotEq) (rNeD K) := by subst h; exact op_neD hu
theorem kx_len (h : X.K = K) : CallR X (.builtin "len") (fun xs H Q => ∃ p ys, xs = [.ref p] ∧ (SqL K H p ys ∨ SqT K H p ys) ∧ Q (.int ys.length) H) := by subst h; exact call_len_seq
theorem kx_list (h : X.K = K) : CallR X (.type "list") (fun xs H Q => ∃ p ys, xs = [.ref p] ∧ (SqL K H p ys ∨ SqT K H p ys) ∧ ∀ l, H l = none → Q (.ref l) (upd H l (.lst ys))) := by subst h; exact call_list_of
theorem kx_tuple (h : X.K = K) : CallR X (.type "tuple") (fun xs H Q => ∃ p ys, xs = [.ref p] ∧ ((SqL K H p ys ∧ ∀ l, H l = none → Q (.ref l) (upd H l (.tup ys))) ∨ (SqT K H p ys ∧ Q (.ref p) H))) := by subst h; exact call_tuple_of
theorem kx_isi (h : X.K = K) : CallR X (.builtin "isinstance") (rIsi K) := by subst h; exact call_isi
variable {l tg : Expr} {tl : TE}
theorem kx_piL (h : X.K = K) (hl : PE X l tl) : PI X tg l (iList K tl) := by subst h; exact pi_list hl
theorem kx_piT (h : X.K = K) (hl : PE X l tl) : PI X tg l (iTup K tl) := by subst h; exact pi_tup hl
theorem kx_zip {e e2 : Expr} {ta : TA} {p pos tpos : Pos} {elts : List Expr} {kk : Nat} (h : X.K = K) (hg : Gl X "zip") (hm : X.mg "zip" = none) (ha : PA X [e, e2] ta)
    (hs : starEach [e, e2] X.env = (false, eval e X.env) :: starEach [e2] X.env := by rfl) (hpl : (backTo pos (starEach [e2] X.env)).any (·.1) = false := by rfl) :
    PI X (.Tuple elts kk tpos) (.Call (.Name "zip" p) [e, e2] [] pos) (RZ.iZipA K ta) := by subst h; exact RZ.pi_zipA hg hm ha hs hpl
theorem kx_pgT {es : List Expr} {k : Nat} {t : TGs} {n : Nat} {pos : Pos} (h : X.K = K) (hc : X.calm = true) (hp : PGs X es t)
    (hn : (assignEach es X.env).length = n := by rfl) (hst : (assignEach es X.env).findIdx? (·.1) = none := by rfl) : PG X (.Tuple es k pos) (gTup K n t) := by subst h; exact pg_tup hc hp hn hst
end
end Dl
namespace Dl
open PySem PySem.Spec PyProof.Rows L2
inductive Ty where
  | int | bool | str | tuple | list
def Ty.s : Ty → String
  | .int => "int"
  | .bool => "bool"
  | .str => "str"
  | .tuple => "tuple"
  | .list => "list"
def isT : PyData → Ty → Bool
  | .bool _, .int => true
  | .bool _, .bool => true
  | .int _, .int => true
  | .str _, .str => true
  | .tuple _, .tuple => true
  | .list _, .list => true
  | _, _ => false
theorem isT_eq (d : PyData) (t : Ty) : isD d t.s = isT d t := by
  cases d with
  | none => cases t <;> (show isS "NoneType" _ = _) <;> decide +kernel
  | bool b => cases t <;> (show isS "bool" _ = _) <;> (first | (show _ = true; decide +kernel) | (show _ = false; decide +kernel))
  | int b => cases t <;> (show isS "int" _ = _) <;> (first | (show _ = true; decide +kernel) | (show _ = false; decide +kernel))
  | str b => cases t <;> (show isS "str" _ = _) <;> (first | (show _ = true; decide +kernel) | (show _ = false; decide +kernel))
  | list b => cases t <;> (show isS "list" _ = _) <;> (first | (show _ = true; decide +kernel) | (show _ = false; decide +kernel))
  | tuple b => cases t <;> (show isS "tuple" _ = _) <;> (first | (show _ = true; decide +kernel) | (show _ = false; decide +kernel))
  | dict b => cases t <;> (show isS "dict" _ = _) <;> (first | (show _ = true; decide +kernel) | (show _ = false; decide +kernel))
section
variable {K : PySem.W.Frag} {pen : Option Pn} {H0 : Hp} {L : Lv} {P : PyData → Prop} {ta : TE}
theorem e_isT (t : Ty) (h : E K pen H0 ta L fun d => P (.bool (isT d t))) : E K pen H0 (tCB (rIsi K) (tCons ta (tCons (tC (.ty t.s)) tNil))) L P :=
  e_isi (by cases t <;> simp [Ty.s]) (h.mono fun d p => by rw [isT_eq]; exact p)
theorem e_isI (h : E K pen H0 ta L fun d => P (.bool (isT d .int))) : E K pen H0 (tCB (rIsi K) (tCons ta (tCons (tC (.ty "int")) tNil))) L P := e_isT .int h
theorem e_isB (h : E K pen H0 ta L fun d => P (.bool (isT d .bool))) : E K pen H0 (tCB (rIsi K) (tCons ta (tCons (tC (.ty "bool")) tNil))) L P := e_isT .bool h
theorem e_isS (h : E K pen H0 ta L fun d => P (.bool (isT d .str))) : E K pen H0 (tCB (rIsi K) (tCons ta (tCons (tC (.ty "str")) tNil))) L P := e_isT .str h
theorem e_isTu (h : E K pen H0 ta L fun d => P (.bool (isT d .tuple))) : E K pen H0 (tCB (rIsi K) (tCons ta (tCons (tC (.ty "tuple")) tNil))) L P := e_isT .tuple h
theorem e_isL (h : E K pen H0 ta L fun d => P (.bool (isT d .list))) : E K pen H0 (tCB (rIsi K) (tCons ta (tCons (tC (.ty "list")) tNil))) L P := e_isT .list h
def isNone : PyData → Bool
  | .none => true
  | _ => false
theorem r_isNone {a : PyData} (p : P (.bool (isNone a))) : R2d K pen (fun x y H Q => y = .non ∧ Q (.bl (decide (x = .non))) H) a .none P := r_isN (by cases a <;> exact p)
end
/-- data with a bound on its depth and its lengths -/
def Flat : Nat → PyData → Prop
  | _, .none => True
  | _, .bool _ => True
  | _, .int _ => True
  | _, .str _ => True
  | n + 1, .tuple ds => ds.length ≤ 1000 ∧ ∀ d ∈ ds, Flat n d
  | n + 1, .list ds => ds.length ≤ 1000 ∧ ∀ d ∈ ds, Flat n d
  | _, _ => False
end Dl
set_option Elab.async false
set_option linter.all false
set_option maxRecDepth 100000
namespace Dl
open PySem PySem.Spec PyProof.Rows L2
/-! ### forgetting slots -/
def Sub (L' L : Lv) : Prop := L'.length = L.length ∧ ∀ (i : Nat) av, L'[i]? = some (some av) → L[i]? = some (some av)
theorem Sub.refl (L : Lv) : Sub L L := ⟨rfl, fun _ _ h => h⟩
theorem Sub.trans {A B C : Lv} (h : Sub A B) (k : Sub B C) : Sub A C := ⟨h.1.trans k.1, fun i av q => k.2 i av (h.2 i av q)⟩
theorem Sub.nil : Sub [] [] := Sub.refl _
theorem Sub.keep {x : Option AV} {L' L : Lv} (h : Sub L' L) : Sub (x :: L') (x :: L) := by
  refine ⟨by rw [List.length_cons, List.length_cons, h.1], fun i av q => ?_⟩
  cases i with
  | zero => exact q
  | succ i => exact h.2 i av q
theorem Sub.drop {x : Option AV} {L' L : Lv} (h : Sub L' L) : Sub (none :: L') (x :: L) := by
  refine ⟨by rw [List.length_cons, List.length_cons, h.1], fun i av q => ?_⟩
  cases i with
  | zero => cases q
  | succ i => exact h.2 i av q
section
variable {K : PySem.W.Frag} {pen : Option Pn} {H0 : Hp} {L L' : Lv} {P P' : PyData → Prop} {ta tb tc te ti : TE} {tl tr : TA} {tt : TT} {t u : TS} {Pb : Bool → Prop} {D : Dn} {g : TG} {gs : TGs}
theorem Ev.sub {G H : Hp} {σ : L2.St} (e : Ev K pen H0 G H σ L) (s : Sub L' L) : Ev K pen H0 G H σ L' :=
  ⟨e.vw, e.h0, e.dom, e.len.trans s.1.symm, fun i av h => e.sl i av (s.2 i av h), fun i j ds es l h1 h2 => e.ow i j ds es l (s.2 _ _ h1) (s.2 _ _ h2)⟩
theorem S.sub (h : S K pen H0 t L' D) (s : Sub L' L) : S K pen H0 t L D := fun σ G H N e => h σ G H N (e.sub s)
theorem E.sub (h : E K pen H0 te L' P) (s : Sub L' L) : E K pen H0 te L P := fun σ G H e => h σ G H (e.sub s)
theorem GT.sub {d : PyData} {Q : Lv → Prop} (h : GT K pen H0 g d L' Q) (s : Sub L' L) : GT K pen H0 g d L Q := fun σ G H v e => h σ G H v (e.sub s)
/-- what a loop keeps, with slots forgotten -/
abbrev Wk (I : Nat → Lv → Prop) (i : Nat) (L : Lv) : Prop := ∃ L3, Sub L3 L ∧ I i L3
theorem s_forRw (h : EA K pen H0 tl L fun ds => ∃ n : Nat, ds = [.int n] ∧ n ≤ 100000 ∧ ∃ I : Nat → Lv → Prop, Wk I 0 L ∧ (∀ (i : Nat) L', i < n → I i L' → GT K pen H0 g (.int i) L' fun L2 => S K pen H0 t L2 { D with nx := Wk I (i + 1), ct := Wk I (i + 1), bk := D.nx }) ∧ (∀ L', I n L' → ∀ L4, Sub L' L4 → D.nx L4)) :
    S K pen H0 (tFor (iRng1 tl) g t) L D := s_forR fun σ G H e Q q => h σ G H e Q fun vs ds G' H' go hd ⟨n, h1, h2, I, h3, h4, h5⟩ => q vs ds G' H' go hd ⟨n, h1, h2, Wk I, h3, fun i L' hi ⟨L3, s, hI⟩ => (h4 i L3 hi hI).sub s, fun L' ⟨L3, s, hI⟩ => h5 L3 hI L' s⟩
theorem s_forTw (h : E K pen H0 te L fun d => ∃ ds, d = .tuple ds ∧ ∃ I : Nat → Lv → Prop, Wk I 0 L ∧ (∀ (i : Nat) x L', ds[i]? = some x → I i L' → GT K pen H0 g x L' fun L2 => S K pen H0 t L2 { D with nx := Wk I (i + 1), ct := Wk I (i + 1), bk := D.nx }) ∧ (∀ L', I ds.length L' → ∀ L4, Sub L' L4 → D.nx L4)) :
    S K pen H0 (tFor (iTup K te) g t) L D := s_forT fun σ G H e Q q => h σ G H e Q fun v d G' H' go hd ⟨ds, h1, I, h3, h4, h5⟩ => q v d G' H' go hd ⟨ds, h1, Wk I, h3, fun i x L' hi ⟨L3, s, hI⟩ => (h4 i x L3 hi hI).sub s, fun L' ⟨L3, s, hI⟩ => h5 L3 hI L' s⟩
theorem s_forLw (h : E K pen H0 te L fun d => ∃ ds, d = .list ds ∧ ∃ I : Nat → Lv → Prop, Wk I 0 L ∧ (∀ (i : Nat) x L', ds[i]? = some x → I i L' → GT K pen H0 g x L' fun L2 => S K pen H0 t L2 { D with nx := Wk I (i + 1), ct := Wk I (i + 1), bk := D.nx }) ∧ (∀ L', I ds.length L' → ∀ L4, Sub L' L4 → D.nx L4)) :
    S K pen H0 (tFor (iList K te) g t) L D := s_forL fun σ G H e Q q => h σ G H e Q fun v d G' H' go hd ⟨ds, h1, I, h3, h4, h5⟩ => q v d G' H' go hd ⟨ds, h1, Wk I, h3, fun i x L' hi ⟨L3, s, hI⟩ => (h4 i x L3 hi hI).sub s, fun L' ⟨L3, s, hI⟩ => h5 L3 hI L' s⟩
/-! ### the law's beginning -/
theorem pen_start {N : Ends} {σ : L2.St} {H1 : Hp} {p c : Addr} {cells : List Int} (hp : H1 p = some (.lst [.ref c, .int 0, .int 0])) (hc : H1 c = some (.lst (cells.map V.int))) (hlen : σ.length = L.length)
    (hL : ∀ (i : Nat) av, L[i]? = some (some av) → av = .pen ∧ σ[i]? = some (some (.ref p))) (h : S K (some ⟨p, c, cells.length⟩) H1 t L { nx := fun _ => False, rt := fun d => d = .bool true }) (q : ∀ H', N.rt (.bl true) H') : t N σ H1 := by
  have ok : PenOk ⟨p, c, cells.length⟩ H1 := ⟨cells, 0, 0, hp, hc, Int.le_refl _, Int.le_refl _, rfl⟩
  refine h σ (fun _ => none) H1 N ⟨⟨fun a o e => (nomatch e), fun _ _ => rfl, ok⟩, ok, fun _ h => h, hlen, fun i av hi => ?_, fun i j ds es l h1 => ?_⟩ (fun _ _ _ _ _ _ z => z.elim) (fun v d G' H' _ _ hd e => ?_) (fun _ _ _ _ _ _ z => z.elim) (fun _ _ _ _ _ _ z => z.elim)
  · obtain ⟨rfl, e⟩ := hL i av hi
    exact ⟨_, e, _, rfl, rfl⟩
  · cases (hL i _ h1).1
  · subst e
    cases hd
    exact q H'
def spPen (K : PySem.W.Frag) : Sp := fun vs H Q _ => ∃ (a : Addr) (ns : List Int), vs = [.ref a] ∧ SqL K H a (ns.map V.int) ∧
  ∀ (p c : Addr) (cells : List Int) H', H' p = some (.lst [.ref c, .int 0, .int 0]) → H' c = some (.lst (cells.map V.int)) → Q (.ref p) H'
def spLaw (K : PySem.W.Frag) : Sp := fun vs H Q _ => ∃ (a : Addr) (ns : List Int), vs = [.ref a] ∧ SqL K H a (ns.map V.int) ∧ ns.length ≤ 63 ∧ ∀ H', Q (.bl true) H'
theorem cut_ints (ns : List Int) (lo hi : Option Int) : ∃ ms : List Int, cutV (ns.map V.int) lo hi = ms.map V.int := by
  unfold cutV
  exact ⟨_, by rw [← List.map_drop, ← List.map_take]⟩
end
section
variable {P : Program} {w : World} {K : PySem.W.Frag} {mg : Str → Option Value} {base : Heap}
theorem fn_never {α : Type} {k : Nat} {f : Addr} {fd : FuncData} {ps : List Str} {enc : α → List PyData} {res : α → PyData → Prop} : FnOk P w K mg base CX0 k f fd ps (SpX K (fun _ : α => False) enc res) :=
  ⟨fun _ _ _ _ ⟨_, _, _, _, z, _⟩ => z.elim, fun _ _ _ _ _ _ _ _ _ _ _ _ _ ⟨_, _, _, _, z, _⟩ => z.elim⟩
end
end Dl
set_option Elab.async false
set_option linter.all false
set_option maxRecDepth 100000
/-! programs, stands, ticks as plain data -/
namespace Wm
open PySem Dl
inductive Row where
  | set (p v : Nat) | add (p q : Nat) | jump (p k : Nat) | say (p : Nat) | take (p : Nat) | fin
def Row.D : Row → PyData
  | .set p v => .tuple [.str "set", .int p, .int v]
  | .add p q => .tuple [.str "add", .int p, .int q]
  | .jump p k => .tuple [.str "jump", .int p, .int k]
  | .say p => .tuple [.str "say", .int p]
  | .take p => .tuple [.str "take", .int p]
  | .fin => .tuple [.str "end"]
def Row.Ok (n w many : Nat) : Row → Prop
  | .set p v => p < n ∧ v < w
  | .add p q => p < n ∧ q < n
  | .jump p k => p < n ∧ k < many
  | .say p => p < n
  | .take p => p < n
  | .fin => True
structure Prog where
  n : Nat
  w : Nat
  rows : List Row
structure Prog.Ok (x : Prog) : Prop where
  n1 : 1 ≤ x.n
  n2 : x.n ≤ 12
  w1 : 2 ≤ x.w
  w2 : x.w ≤ 100
  r1 : 1 ≤ x.rows.length
  r2 : x.rows.length ≤ 20
  rs : ∀ r ∈ x.rows, r.Ok x.n x.w x.rows.length
abbrev Prog.D (x : Prog) : PyData := .tuple [.int x.n, .int x.w, .tuple (x.rows.map Row.D)]
structure Stand where
  at_ : Nat
  sh : List Nat
structure Stand.Ok (x : Prog) (s : Stand) : Prop where
  a1 : s.at_ ≤ x.rows.length
  s1 : s.sh.length = x.n
  s2 : ∀ v ∈ s.sh, v < x.w
abbrev natD (v : Nat) : PyData := .int (v : Int)
def natsD (l : List Nat) : List PyData := l.map natD
abbrev Stand.D (s : Stand) : PyData := .tuple [.int s.at_, .tuple (natsD s.sh)]
structure Told where
  st : Stand
  word : Str
  num : Option Nat
  reads : List Nat
  writes : List Nat
def numD : Option Nat → PyData
  | none => .none
  | some v => .int v
abbrev Told.D (t : Told) : PyData := .tuple [t.st.D, .str t.word, numD t.num, .tuple (natsD t.reads), .tuple (natsD t.writes)]
def rowAt (x : Prog) (a : Nat) : Row := x.rows.getD a .fin
def rise (p q : Nat) : List Nat := if p = q then [p] else [min p q, max p q]
def tickF (x : Prog) (s : Stand) (ls : List Nat) : Told := match rowAt x s.at_ with
  | .set p v => ⟨⟨s.at_ + 1, s.sh.set p v⟩, "did", none, [], [p]⟩
  | .add p q => ⟨⟨s.at_ + 1, s.sh.set p ((s.sh.getD p 0 + s.sh.getD q 0) % x.w)⟩, "did", none, rise p q, [p]⟩
  | .jump p k => ⟨⟨if s.sh.getD p 0 = 0 then k else s.at_ + 1, s.sh⟩, "did", none, [p], []⟩
  | .say p => ⟨⟨s.at_ + 1, s.sh⟩, "said", some (s.sh.getD p 0), [p], []⟩
  | .take p => (match ls with
    | [] => ⟨s, "waits", none, [], []⟩
    | l :: _ => ⟨⟨s.at_ + 1, s.sh.set p l⟩, "took", some l, [], [p]⟩)
  | .fin => ⟨s, "ended", none, [], []⟩
theorem natsD_len (l : List Nat) : (natsD l).length = l.length := List.length_map _
theorem natsD_get {l : List Nat} {p : Nat} (h : p < l.length) : (natsD l)[p]? = some (natD (l.getD p 0)) := by
  unfold natsD
  rw [List.getElem?_map, List.getElem?_eq_getElem h, List.getD_eq_getElem?_getD, List.getElem?_eq_getElem h]
  rfl
theorem natsD_at {l : List Nat} {p : Nat} (h : p < l.length) : L2.atI (natsD l) (p : Int) = some (.int ((l.getD p 0 : Nat) : Int)) := L2.atI_nat (natsD_get h)
theorem cut_to (xs : List PyData) (p : Nat) : cutD xs none (some (p : Int)) = xs.take p := by
  unfold cutD
  rw [HT.sIx_none, HT.sIx_nat]
  show (xs.drop 0).take (min p xs.length - 0) = xs.take p
  rw [Nat.sub_zero, List.drop_zero]
  by_cases h : p ≤ xs.length
  · rw [Nat.min_eq_left h]
  · rw [Nat.min_eq_right (by omega), List.take_length, List.take_of_length_le (by omega)]
theorem cut_from (xs : List PyData) (p : Nat) : cutD xs (some (p : Int)) none = xs.drop p := by
  unfold cutD
  rw [HT.sIx_none, HT.sIx_nat]
  by_cases h : p ≤ xs.length
  · rw [Nat.min_eq_left h, List.take_of_length_le]
    rw [List.length_drop]; omega
  · rw [Nat.min_eq_right (by omega), Nat.sub_self, List.take_zero, List.drop_eq_nil_of_le (by omega)]
theorem set_parts {l : List Nat} {p v : Nat} (h : p < l.length) : (natsD l).take p ++ [natD v] ++ (natsD l).drop (p + 1) = natsD (l.set p v) := by
  unfold natsD
  rw [← List.map_take, ← List.map_drop, List.set_eq_take_append_cons_drop, if_pos h, List.map_append, List.map_cons, List.append_assoc]
  rfl
theorem natsD_set (l : List Nat) (p v : Nat) : (natsD l).set p (natD v) = natsD (l.set p v) := by
  unfold natsD
  rw [List.map_set]
end Wm
set_option Elab.async false
set_option linter.all false
set_option maxRecDepth 100000
namespace K3
open PySem PySem.Spec PyProof.Rows L2 Dl
def topS (i : Nat) : Stmt := PySem.Challenge.pw_warmove_k03_ticks.main.body.getD i (.Pass ⟨0, 0, 0, 0⟩)
abbrev s_row_at : Stmt := topS 1
theorem sc_row_at : FnScope ["program", "at", "rows"] ["program", "at"] (defScope s_row_at) := ⟨rfl, rfl, rfl, by decide +kernel, rfl, by decide +kernel, by decide +kernel⟩
abbrev s_rising : Stmt := topS 2
theorem sc_rising : FnScope ["p", "q"] ["p", "q"] (defScope s_rising) := ⟨rfl, rfl, rfl, by decide +kernel, rfl, by decide +kernel, by decide +kernel⟩
abbrev s_stand_behind_writing : Stmt := topS 3
theorem sc_stand_behind_writing : FnScope ["stand", "p", "number", "at", "sheets"] ["stand", "p", "number"] (defScope s_stand_behind_writing) := ⟨rfl, rfl, rfl, by decide +kernel, rfl, by decide +kernel, by decide +kernel⟩
abbrev s_nothing_done : Stmt := topS 4
theorem sc_nothing_done : FnScope ["stand", "word"] ["stand", "word"] (defScope s_nothing_done) := ⟨rfl, rfl, rfl, by decide +kernel, rfl, by decide +kernel, by decide +kernel⟩
abbrev s_do_set : Stmt := topS 5
theorem sc_do_set : FnScope ["stand", "p", "number"] ["stand", "p", "number"] (defScope s_do_set) := ⟨rfl, rfl, rfl, by decide +kernel, rfl, by decide +kernel, by decide +kernel⟩
abbrev s_do_add : Stmt := topS 6
theorem sc_do_add : FnScope ["stand", "w", "p", "q", "sheets", "total"] ["stand", "w", "p", "q"] (defScope s_do_add) := ⟨rfl, rfl, rfl, by decide +kernel, rfl, by decide +kernel, by decide +kernel⟩
abbrev s_do_jump : Stmt := topS 7
theorem sc_do_jump : FnScope ["stand", "p", "k", "at", "sheets", "to"] ["stand", "p", "k"] (defScope s_do_jump) := ⟨rfl, rfl, rfl, by decide +kernel, rfl, by decide +kernel, by decide +kernel⟩
abbrev s_do_say : Stmt := topS 8
theorem sc_do_say : FnScope ["stand", "p", "at", "sheets"] ["stand", "p"] (defScope s_do_say) := ⟨rfl, rfl, rfl, by decide +kernel, rfl, by decide +kernel, by decide +kernel⟩
abbrev s_do_take : Stmt := topS 9
theorem sc_do_take : FnScope ["stand", "p", "letters", "letter"] ["stand", "p", "letters"] (defScope s_do_take) := ⟨rfl, rfl, rfl, by decide +kernel, rfl, by decide +kernel, by decide +kernel⟩
abbrev s_tick : Stmt := topS 10
theorem sc_tick : FnScope ["program", "stand", "letters", "row", "word"] ["program", "stand", "letters"] (defScope s_tick) := ⟨rfl, rfl, rfl, by decide +kernel, rfl, by decide +kernel, by decide +kernel⟩
abbrev s_law_pen : Stmt := topS 12
theorem sc_law_pen : FnScope ["script"] ["script"] (defScope s_law_pen) := ⟨rfl, rfl, rfl, by decide +kernel, rfl, by decide +kernel, by decide +kernel⟩
abbrev s_law_take : Stmt := topS 13
theorem sc_law_take : FnScope ["pen", "many", "at", "cell", "one", "two", "three", "found"] ["pen", "many"] (defScope s_law_take) := ⟨rfl, rfl, rfl, by decide +kernel, rfl, by decide +kernel, by decide +kernel⟩
abbrev s_law_row : Stmt := topS 14
theorem sc_law_row : FnScope ["pen", "n", "w", "many", "takes", "way", "p"] ["pen", "n", "w", "many", "takes"] (defScope s_law_row) := ⟨rfl, rfl, rfl, by decide +kernel, rfl, by decide +kernel, by decide +kernel⟩
abbrev s_law_program : Stmt := topS 15
theorem sc_law_program : FnScope ["pen", "takes", "n", "w", "many", "k"] ["pen", "takes"] (defScope s_law_program) := ⟨rfl, rfl, rfl, by decide +kernel, rfl, by decide +kernel, by decide +kernel⟩
abbrev s_law_sheets : Stmt := topS 16
theorem sc_law_sheets : FnScope ["pen", "program", "p"] ["pen", "program"] (defScope s_law_sheets) := ⟨rfl, rfl, rfl, by decide +kernel, rfl, by decide +kernel, by decide +kernel⟩
abbrev s_law_stand : Stmt := topS 17
theorem sc_law_stand : FnScope ["pen", "program", "at"] ["pen", "program"] (defScope s_law_stand) := ⟨rfl, rfl, rfl, by decide +kernel, rfl, by decide +kernel, by decide +kernel⟩
abbrev s_law_tick : Stmt := topS 18
theorem sc_law_tick : FnScope ["program", "stand", "letters", "n", "w", "rows", "at", "sheets", "row", "p", "there", "word", "number", "reads", "writes"] ["program", "stand", "letters"] (defScope s_law_tick) := ⟨rfl, rfl, rfl, by decide +kernel, rfl, by decide +kernel, by decide +kernel⟩
abbrev s_law_same : Stmt := topS 19
theorem sc_law_same : FnScope ["found", "due", "one", "other"] ["found", "due"] (defScope s_law_same) := ⟨rfl, rfl, rfl, by decide +kernel, rfl, by decide +kernel, by decide +kernel⟩
abbrev s_law : Stmt := topS 20
theorem sc_law : FnScope ["script", "pen", "turn", "program", "stand", "k", "many", "letters", "handed", "due", "again", "one"] ["script"] (defScope s_law) := ⟨rfl, rfl, rfl, by decide +kernel, rfl, by decide +kernel, by decide +kernel⟩
structure Tx (K : PySem.W.Frag) (mg : Str → Option Value) where
  f_row_at : Addr
  d_row_at : FuncData
  F_row_at : Fun K "row_at" "row_at" s_row_at f_row_at d_row_at
  b_row_at : Binds K d_row_at ["program", "at"] []
  g_row_at : mg "row_at" = some (.ref f_row_at)
  f_rising : Addr
  d_rising : FuncData
  F_rising : Fun K "rising" "rising" s_rising f_rising d_rising
  b_rising : Binds K d_rising ["p", "q"] []
  g_rising : mg "rising" = some (.ref f_rising)
  f_stand_behind_writing : Addr
  d_stand_behind_writing : FuncData
  F_stand_behind_writing : Fun K "stand_behind_writing" "stand_behind_writing" s_stand_behind_writing f_stand_behind_writing d_stand_behind_writing
  b_stand_behind_writing : Binds K d_stand_behind_writing ["stand", "p", "number"] []
  g_stand_behind_writing : mg "stand_behind_writing" = some (.ref f_stand_behind_writing)
  f_nothing_done : Addr
  d_nothing_done : FuncData
  F_nothing_done : Fun K "nothing_done" "nothing_done" s_nothing_done f_nothing_done d_nothing_done
  b_nothing_done : Binds K d_nothing_done ["stand", "word"] []
  g_nothing_done : mg "nothing_done" = some (.ref f_nothing_done)
  f_do_set : Addr
  d_do_set : FuncData
  F_do_set : Fun K "do_set" "do_set" s_do_set f_do_set d_do_set
  b_do_set : Binds K d_do_set ["stand", "p", "number"] []
  g_do_set : mg "do_set" = some (.ref f_do_set)
  f_do_add : Addr
  d_do_add : FuncData
  F_do_add : Fun K "do_add" "do_add" s_do_add f_do_add d_do_add
  b_do_add : Binds K d_do_add ["stand", "w", "p", "q"] []
  g_do_add : mg "do_add" = some (.ref f_do_add)
  f_do_jump : Addr
  d_do_jump : FuncData
  F_do_jump : Fun K "do_jump" "do_jump" s_do_jump f_do_jump d_do_jump
  b_do_jump : Binds K d_do_jump ["stand", "p", "k"] []
  g_do_jump : mg "do_jump" = some (.ref f_do_jump)
  f_do_say : Addr
  d_do_say : FuncData
  F_do_say : Fun K "do_say" "do_say" s_do_say f_do_say d_do_say
  b_do_say : Binds K d_do_say ["stand", "p"] []
  g_do_say : mg "do_say" = some (.ref f_do_say)
  f_do_take : Addr
  d_do_take : FuncData
  F_do_take : Fun K "do_take" "do_take" s_do_take f_do_take d_do_take
  b_do_take : Binds K d_do_take ["stand", "p", "letters"] []
  g_do_take : mg "do_take" = some (.ref f_do_take)
  f_tick : Addr
  d_tick : FuncData
  F_tick : Fun K "tick" "tick" s_tick f_tick d_tick
  b_tick : Binds K d_tick ["program", "stand", "letters"] []
  g_tick : mg "tick" = some (.ref f_tick)
  f_law_pen : Addr
  d_law_pen : FuncData
  F_law_pen : Fun K "_law_pen" "_law_pen" s_law_pen f_law_pen d_law_pen
  b_law_pen : Binds K d_law_pen ["script"] []
  g_law_pen : mg "_law_pen" = some (.ref f_law_pen)
  f_law_take : Addr
  d_law_take : FuncData
  F_law_take : Fun K "_law_take" "_law_take" s_law_take f_law_take d_law_take
  b_law_take : Binds K d_law_take ["pen", "many"] []
  g_law_take : mg "_law_take" = some (.ref f_law_take)
  f_law_row : Addr
  d_law_row : FuncData
  F_law_row : Fun K "_law_row" "_law_row" s_law_row f_law_row d_law_row
  b_law_row : Binds K d_law_row ["pen", "n", "w", "many", "takes"] []
  g_law_row : mg "_law_row" = some (.ref f_law_row)
  f_law_program : Addr
  d_law_program : FuncData
  F_law_program : Fun K "_law_program" "_law_program" s_law_program f_law_program d_law_program
  b_law_program : Binds K d_law_program ["pen", "takes"] []
  g_law_program : mg "_law_program" = some (.ref f_law_program)
  f_law_sheets : Addr
  d_law_sheets : FuncData
  F_law_sheets : Fun K "_law_sheets" "_law_sheets" s_law_sheets f_law_sheets d_law_sheets
  b_law_sheets : Binds K d_law_sheets ["pen", "program"] []
  g_law_sheets : mg "_law_sheets" = some (.ref f_law_sheets)
  f_law_stand : Addr
  d_law_stand : FuncData
  F_law_stand : Fun K "_law_stand" "_law_stand" s_law_stand f_law_stand d_law_stand
  b_law_stand : Binds K d_law_stand ["pen", "program"] []
  g_law_stand : mg "_law_stand" = some (.ref f_law_stand)
  f_law_tick : Addr
  d_law_tick : FuncData
  F_law_tick : Fun K "_law_tick" "_law_tick" s_law_tick f_law_tick d_law_tick
  b_law_tick : Binds K d_law_tick ["program", "stand", "letters"] []
  g_law_tick : mg "_law_tick" = some (.ref f_law_tick)
  f_law_same : Addr
  d_law_same : FuncData
  F_law_same : Fun K "_law_same" "_law_same" s_law_same f_law_same d_law_same
  b_law_same : Binds K d_law_same ["found", "due"] []
  g_law_same : mg "_law_same" = some (.ref f_law_same)
  m_bool : mg "bool" = none
  m_int : mg "int" = none
  m_isinstance : mg "isinstance" = none
  m_len : mg "len" = none
  m_list : mg "list" = none
  m_max : mg "max" = none
  m_min : mg "min" = none
  m_range : mg "range" = none
  m_str : mg "str" = none
  m_tuple : mg "tuple" = none
  m_zip : mg "zip" = none

local macro_rules | `(tactic| walk_at "e") => `(tactic| first
  | ((with_reducible refine e_var (by with_unfolding_all exact rfl) ?_))
  | with_reducible refine e_int ?_
  | with_reducible refine e_str ?_
  | with_reducible refine e_bl ?_
  | with_reducible refine e_non ?_
  | ((with_reducible refine e_pen (by with_unfolding_all exact rfl) (Or.inr rfl) ?_); intro z hz)
  | ((with_reducible refine e_pen (by with_unfolding_all exact rfl) (Or.inl rfl) ?_); intro z hz)
  | ((with_reducible refine e_penIx (by with_unfolding_all exact rfl) ?_))
  | with_reducible refine e_op ?_
  | with_reducible refine e_tup ?_
  | with_reducible refine e_lst ?_
  | with_reducible refine ea_cons ?_
  | with_reducible refine ea_nil ?_
  | ((with_reducible refine e_penLen (by with_unfolding_all exact rfl) ?_))
  | ((with_reducible refine e_lenOwn (by with_unfolding_all exact rfl) ?_))
  | ((with_reducible refine e_tupOwn (by with_unfolding_all exact rfl) ?_))
  | with_reducible refine e_isI ?_
  | with_reducible refine e_isB ?_
  | with_reducible refine e_isS ?_
  | with_reducible refine e_isTu ?_
  | with_reducible refine e_isL ?_
  | with_reducible refine e_cb ?_
  | with_reducible refine e_sl ?_
  | with_reducible refine eo_none ?_
  | with_reducible refine eo_some ?_
  | with_reducible refine et_test ?_
  | with_reducible refine et_B ?_
  | with_reducible refine et_and ?_
  | with_reducible refine et_or ?_
  | with_reducible refine et_not ?_
  | with_reducible refine et_yes ?_
  | with_reducible refine e_andV ?_
  | with_reducible refine e_orV ?_
  | with_reducible refine e_notV ?_
  | with_reducible refine e_if ?_
  | with_reducible refine e_chain ?_
  | with_reducible refine e_callX ?_
  | ((with_reducible refine e_callXP (by with_unfolding_all exact rfl) ?_))
  | with_reducible refine s_seq ?_
  | with_reducible refine s_next ?_
  | with_reducible refine s_ret ?_
  | ((with_reducible refine s_pen (by with_unfolding_all exact rfl) (Or.inr rfl) ?_))
  | ((with_reducible refine s_pen (by with_unfolding_all exact rfl) (Or.inl rfl) ?_))
  | ((with_reducible refine s_putOwn (by with_unfolding_all exact rfl) ?_))
  | with_reducible refine s_asg ?_
  | with_reducible refine s_asgG ?_
  | with_reducible refine s_if ?_
  | with_reducible refine g_name ?_
  | with_reducible refine g_tup rfl ?_
  | with_reducible refine gs_cons ?_
  | with_reducible refine gs_nil ?_
  | with_reducible refine r_lt ?_
  | with_reducible refine r_le ?_
  | with_reducible refine r_gt ?_
  | with_reducible refine r_ge ?_
  | with_reducible refine r_add ?_
  | with_reducible refine r_sub ?_
  | with_reducible refine r_eqI ?_
  | with_reducible refine r_eqS ?_
  | with_reducible refine r_eqB ?_
  | with_reducible refine r_neI ?_
  | with_reducible refine r_neB ?_
  | with_reducible refine c_min2 ?_
  | with_reducible refine c_max2 ?_
  | with_reducible refine c_intB ?_
  | with_reducible refine c_len (Or.inl rfl) ?_
  | with_reducible refine c_len (Or.inr rfl) ?_
  | with_reducible refine c_list (Or.inl rfl) ?_
  | with_reducible refine c_list (Or.inr rfl) ?_
  | with_reducible refine c_tuple (Or.inl rfl) ?_
  | with_reducible refine c_tuple (Or.inr rfl) ?_
  | with_reducible refine r_ixT (by with_unfolding_all exact rfl) ?_
  | with_reducible refine r_ixL (by with_unfolding_all exact rfl) ?_
  | with_reducible refine r_slT ?_
  | with_reducible refine r_slL ?_
  | with_reducible refine r_isNone ?_
  | with_reducible refine ⟨_, rfl, ?_⟩
  | with_reducible refine ⟨Nat.le_of_ble_eq_true rfl, ?_⟩)
local macro_rules | `(tactic| walk_at "t") => `(tactic| first
  | walk_at "e"
  | refine r_modAny (by first | omega | decide) fun z z0 z1 => ?_
  | refine r_mul (by first | exact Or.inr ⟨by decide, by decide⟩ | exact Or.inl ⟨by decide, by decide⟩ | exact Or.inl ⟨by omega, by omega⟩) ?_
  | refine r_pow ⟨by decide, by decide, by decide⟩ ?_
  | refine r_fdivW (by first | assumption | (rename_i hw _; exact hw _) | exact wide_div (b := 200) (by decide) (by decide) (by decide) (by decide)) ?_
  | with_reducible refine ⟨by omega, ?_⟩)
local macro_rules | `(tactic| walk_at "k") => `(tactic| first
  | walk_at "e"
  | with_reducible refine ⟨fun hb => absurd hb (by decide +kernel), fun _ => ?_⟩
  | with_reducible refine ⟨fun _ => ?_, fun hb => absurd hb (by decide +kernel)⟩
  | refine ⟨fun hb => absurd hb Bool.false_ne_true, fun _ => ?_⟩
  | refine ⟨fun _ => ?_, fun hb => absurd hb.symm Bool.false_ne_true⟩)
local macro_rules | `(tactic| walk_at "d") => `(tactic| first
  | walk_at "k"
  | refine And.intro (show WfTake _ from ⟨by omega, by omega⟩) (take_all fun k hk => ?_))
local macro_rules | `(tactic| walk_at "o") => `(tactic| first
  | with_reducible refine s_ownList ?_
  | walk_at "d"
  | with_reducible refine ⟨_, Or.inl rfl, ?_⟩)

section
variable {P : Program} {w : World} {K : PySem.W.Frag} {mg : Str → Option Value} {base : Heap}
theorem ok_rising (T : Tx K mg) : FnOk P w K mg base CX0 1 T.f_rising T.d_rising ["p", "q"] (SpX (α := Int × Int) K (fun _ => True) (fun x => [.int x.1, .int x.2]) (fun x d => d = .tuple (if x.1 = x.2 then [.int x.1] else [.int (min x.1 x.2), .int (max x.1 x.2)]))) := by
  refine fnX T.F_rising sc_rising (fun _ _ => rfl) (fun cdv A outer s H E hr => ⟨_, (pss_one (ps_ret (pe_ifExp (pt_cmpR op_eq (pv 0) (pv 1) (nomark _)) (pe_tup (pa_cons (pv 0) pa_nil)) (pe_tup (pa_cons (pe_callB (call_min2 rfl) (by rfl) T.m_min (by decide +kernel) (pa_cons (pv 0) (pa_cons (pv 1) pa_nil))) (pa_cons (pe_callB (call_max2 rfl) (by rfl) T.m_max (by decide +kernel) (pa_cons (pv 0) (pa_cons (pv 1) pa_nil))) pa_nil)))))), fun x _ => ?_⟩)
  repeat walk_at "e"
  refine ⟨fun hb => ?_, fun hb => ?_⟩
  · repeat walk_at "e"
    rw [if_pos (of_decide_eq_true hb)]
  · repeat walk_at "e"
    have hne := of_decide_eq_false hb
    rw [if_neg hne]
    rcases Int.lt_or_gt_of_ne hne with h | h
    · rw [if_neg (by omega), if_pos (by omega), Int.min_eq_left (by omega), Int.max_eq_right (by omega)]
    · rw [if_pos (by omega), if_neg (by omega), Int.min_eq_right (by omega), Int.max_eq_left (by omega)]
theorem ok_law_take (T : Tx K mg) : FnOk P w K mg base CX0 1 T.f_law_take T.d_law_take ["pen", "many"] (spTake K) := by
  refine fnXP T.F_law_take sc_law_take ⟨_, _, rfl⟩ (fun _ _ => rfl) (fun cdv A outer s H E hr => ⟨_, (pss_cons (ps_if (pt_cmpR op_eq (pe_ix (kx_ixL K rfl) (pv 0) pe_int (fun _ _ => rfl)) pe_int (nomark _))
      (pss_cons (ps_set (i := 2) sc_law_take.nd rfl (.inl rfl) (pe_ix (kx_ixL K rfl) (pv 0) pe_int (fun _ _ => rfl)))
      (pss_cons (ps_asg (pe_op op_add (pv 2) pe_int) (pg_sub (pv 0) pe_int set_list))
      (pss_cons (ps_set (i := 3) sc_law_take.nd rfl (.inl rfl) pe_int)
      (pss_cons (ps_if (pt_cmpR op_lt (pv 2) (pe_callB (kx_len K rfl) (by rfl) T.m_len PySem.boot_len (pa_cons (pe_ix (kx_ixL K rfl) (pv 0) pe_int (fun _ _ => rfl)) pa_nil)) (nomark _))
      (pss_one (ps_set (i := 3) sc_law_take.nd rfl (.inl rfl) (pe_ix (kx_ixL K rfl) (pe_ix (kx_ixL K rfl) (pv 0) pe_int (fun _ _ => rfl)) (pv 2) (fun _ _ => rfl))))
      (pss_one (ps_if (pt_cmpR op_gt (pe_callB (kx_len K rfl) (by rfl) T.m_len PySem.boot_len (pa_cons (pe_ix (kx_ixL K rfl) (pv 0) pe_int (fun _ _ => rfl)) pa_nil)) pe_int (nomark _))
      (pss_one (ps_set (i := 3) sc_law_take.nd rfl (.inl rfl) (pe_op op_add (pe_op op_mod (pe_ix (kx_ixL K rfl) (pe_ix (kx_ixL K rfl) (pv 0) pe_int (fun _ _ => rfl)) (pe_op op_mod (pe_op op_mul (pv 2) pe_int) (pe_callB (kx_len K rfl) (by rfl) T.m_len PySem.boot_len (pa_cons (pe_ix (kx_ixL K rfl) (pv 0) pe_int (fun _ _ => rfl)) pa_nil))) (fun _ _ => rfl)) pe_int) (pe_op op_mul pe_int (pv 2)))))
      pss_nil)))
      (pss_cons (ps_set (i := 4) sc_law_take.nd rfl (.inl rfl) (pe_op op_mod (pe_op op_mul (pe_op op_add (pe_op op_add (pe_op op_mod (pv 3) pe_int) (pe_op op_mul pe_int (pv 2))) pe_int) pe_int) pe_int))
      (pss_cons (ps_set (i := 5) sc_law_take.nd rfl (.inl rfl) (pe_op op_mod (pe_op op_add (pe_op op_add (pe_op op_mul (pv 4) (pv 4)) (pe_op op_mul pe_int (pv 2))) pe_int) pe_int))
      (pss_cons (ps_set (i := 6) sc_law_take.nd rfl (.inl rfl) (pe_op op_mod (pe_op op_add (pe_op op_mul (pv 5) (pv 5)) (pv 4)) pe_int))
      (pss_cons (ps_asg (pe_op op_add (pe_op op_fdivW (pe_op op_add (pe_op op_mul (pv 5) pe_int) (pv 6)) pe_int) pe_int) (pg_sub (pv 0) pe_int set_list))
      (pss_one (ps_if (pt_cmpR op_ge (pv 3) (pe_op op_pow pe_int pe_int) (nomark _))
      (pss_one (ps_asg (pe_op op_fdivW (pv 3) (pe_op op_pow pe_int pe_int)) (pg_sub (pv 0) pe_int set_list)))
      pss_nil))))))))))
      pss_nil)
      (pss_cons (ps_set (i := 7) sc_law_take.nd rfl (.inl rfl) (pe_op op_mod (pe_ix (kx_ixL K rfl) (pv 0) pe_int (fun _ _ => rfl)) (pv 1)))
      (pss_cons (ps_asg (pe_op op_fdivW (pe_ix (kx_ixL K rfl) (pv 0) pe_int (fun _ _ => rfl)) (pv 1)) (pg_sub (pv 0) pe_int set_list))
      (pss_one (ps_ret (pv 7)))))), fun p m hm => ?_⟩)
  try simp only [nox_K, blk_K, cx_K]
  obtain ⟨h0, h1⟩ := hm
  have hw : ∀ i : Int, CDivW i m := fun i => wide_div (b := 200) h0 (by omega) (by decide) (by decide)
  have h18 : (10 : Int) ^ (18 : Int).toNat = 1000000000000000000 := by decide
  have hw18 : ∀ i : Int, CDivW i (10 ^ (18 : Int).toNat) := fun i => by
    rw [h18]
    exact wide_div (b := 200) (by decide) (by decide) (by decide) (by decide)
  have hd : ∀ z : Int, 0 ≤ z → 0 ≤ z / m := fun z hz => Int.ediv_nonneg hz (by omega)
  repeat walk_at "e"
  refine ⟨fun _ => ?_, fun _ => ?_⟩
  · repeat walk_at "e"
    refine ⟨by omega, ?_⟩
    repeat walk_at "e"
    refine ⟨fun hb => ?_, fun hb => ?_⟩
    · have hb := of_decide_eq_true hb
      repeat walk_at "e"
      refine ⟨Int.toNat _, by rw [Int.toNat_of_nonneg (by assumption)], by omega, fun c => ?_⟩
      repeat walk_at "t"
      refine ⟨fun hc => ?_, fun hc => ?_⟩
      · have hc := of_decide_eq_true hc
        rw [h18] at hc
        repeat walk_at "t"
        refine ⟨by rw [h18]; omega, ?_⟩
        repeat walk_at "t"
        refine r_fdivW (hw _) ?_
        refine ⟨_, rfl, hd _ (by assumption), ?_⟩
        repeat walk_at "t"
        exact resTake_of (by assumption) (by assumption)
      · repeat walk_at "t"
        refine r_fdivW (hw _) ?_
        refine ⟨_, rfl, hd _ (by assumption), ?_⟩
        repeat walk_at "t"
        exact resTake_of (by assumption) (by assumption)
    · repeat walk_at "e"
      refine ⟨fun hn => ?_, fun hn => ?_⟩
      · have hn := of_decide_eq_true hn
        repeat walk_at "t"
        refine ⟨Int.toNat _, by rw [Int.toNat_of_nonneg (by assumption)], by omega, fun c => ?_⟩
        repeat walk_at "t"
        refine ⟨fun hc => ?_, fun hc => ?_⟩
        · have hc := of_decide_eq_true hc
          rw [h18] at hc
          repeat walk_at "t"
          refine ⟨by rw [h18]; omega, ?_⟩
          repeat walk_at "t"
          refine r_fdivW (hw _) ?_
          refine ⟨_, rfl, hd _ (by assumption), ?_⟩
          repeat walk_at "t"
          exact resTake_of (by assumption) (by assumption)
        · repeat walk_at "t"
          refine r_fdivW (hw _) ?_
          refine ⟨_, rfl, hd _ (by assumption), ?_⟩
          repeat walk_at "t"
          exact resTake_of (by assumption) (by assumption)
      · repeat walk_at "t"
        refine ⟨fun hc => ?_, fun hc => ?_⟩
        · have hc := of_decide_eq_true hc
          rw [h18] at hc
          omega
        · repeat walk_at "t"
          refine r_fdivW (hw _) ?_
          refine ⟨_, rfl, hd _ (by assumption), ?_⟩
          repeat walk_at "t"
          exact resTake_of (by assumption) (by assumption)
  · repeat walk_at "t"
    refine r_fdivW (hw _) ?_
    refine ⟨_, rfl, hd _ (by assumption), ?_⟩
    repeat walk_at "t"
    exact resTake_of (by assumption) (by assumption)
end
end K3
set_option Elab.async false
set_option linter.all false
set_option maxRecDepth 100000
namespace K3
open PySem PySem.Spec PyProof.Rows L2 Dl Wm
local macro_rules | `(tactic| walk_at "e") => `(tactic| first
  | ((with_reducible refine e_var (by with_unfolding_all exact rfl) ?_))
  | with_reducible refine e_int ?_
  | with_reducible refine e_str ?_
  | with_reducible refine e_bl ?_
  | with_reducible refine e_non ?_
  | ((with_reducible refine e_pen (by with_unfolding_all exact rfl) (Or.inr rfl) ?_); intro z hz)
  | ((with_reducible refine e_pen (by with_unfolding_all exact rfl) (Or.inl rfl) ?_); intro z hz)
  | ((with_reducible refine e_penIx (by with_unfolding_all exact rfl) ?_))
  | with_reducible refine e_op ?_
  | with_reducible refine e_tup ?_
  | with_reducible refine e_lst ?_
  | with_reducible refine ea_cons ?_
  | with_reducible refine ea_nil ?_
  | ((with_reducible refine e_penLen (by with_unfolding_all exact rfl) ?_))
  | ((with_reducible refine e_lenOwn (by with_unfolding_all exact rfl) ?_))
  | ((with_reducible refine e_tupOwn (by with_unfolding_all exact rfl) ?_))
  | with_reducible refine e_isI ?_
  | with_reducible refine e_isB ?_
  | with_reducible refine e_isS ?_
  | with_reducible refine e_isTu ?_
  | with_reducible refine e_isL ?_
  | with_reducible refine e_cb ?_
  | with_reducible refine e_sl ?_
  | with_reducible refine eo_none ?_
  | with_reducible refine eo_some ?_
  | with_reducible refine et_test ?_
  | with_reducible refine et_B ?_
  | with_reducible refine et_and ?_
  | with_reducible refine et_or ?_
  | with_reducible refine et_not ?_
  | with_reducible refine et_yes ?_
  | with_reducible refine e_andV ?_
  | with_reducible refine e_orV ?_
  | with_reducible refine e_notV ?_
  | with_reducible refine e_if ?_
  | with_reducible refine e_chain ?_
  | with_reducible refine e_callX ?_
  | ((with_reducible refine e_callXP (by with_unfolding_all exact rfl) ?_))
  | with_reducible refine s_seq ?_
  | with_reducible refine s_next ?_
  | with_reducible refine s_ret ?_
  | ((with_reducible refine s_pen (by with_unfolding_all exact rfl) (Or.inr rfl) ?_))
  | ((with_reducible refine s_pen (by with_unfolding_all exact rfl) (Or.inl rfl) ?_))
  | ((with_reducible refine s_putOwn (by with_unfolding_all exact rfl) ?_))
  | with_reducible refine s_asg ?_
  | with_reducible refine s_asgG ?_
  | with_reducible refine s_if ?_
  | with_reducible refine g_name ?_
  | with_reducible refine g_tup rfl ?_
  | with_reducible refine gs_cons ?_
  | with_reducible refine gs_nil ?_
  | with_reducible refine r_lt ?_
  | with_reducible refine r_le ?_
  | with_reducible refine r_gt ?_
  | with_reducible refine r_ge ?_
  | with_reducible refine r_add ?_
  | with_reducible refine r_sub ?_
  | with_reducible refine r_eqI ?_
  | with_reducible refine r_eqS ?_
  | with_reducible refine r_eqB ?_
  | with_reducible refine r_neI ?_
  | with_reducible refine r_neB ?_
  | with_reducible refine c_min2 ?_
  | with_reducible refine c_max2 ?_
  | with_reducible refine c_intB ?_
  | with_reducible refine c_len (Or.inl rfl) ?_
  | with_reducible refine c_len (Or.inr rfl) ?_
  | with_reducible refine c_list (Or.inl rfl) ?_
  | with_reducible refine c_list (Or.inr rfl) ?_
  | with_reducible refine c_tuple (Or.inl rfl) ?_
  | with_reducible refine c_tuple (Or.inr rfl) ?_
  | with_reducible refine r_ixT (by with_unfolding_all exact rfl) ?_
  | with_reducible refine r_ixL (by with_unfolding_all exact rfl) ?_
  | with_reducible refine r_slT ?_
  | with_reducible refine r_slL ?_
  | with_reducible refine r_isNone ?_
  | with_reducible refine ⟨_, rfl, ?_⟩
  | with_reducible refine ⟨Nat.le_of_ble_eq_true rfl, ?_⟩)
local macro_rules | `(tactic| walk_at "t") => `(tactic| first
  | walk_at "e"
  | refine r_modAny (by first | omega | decide) fun z z0 z1 => ?_
  | refine r_mul (by first | exact Or.inr ⟨by decide, by decide⟩ | exact Or.inl ⟨by decide, by decide⟩ | exact Or.inl ⟨by omega, by omega⟩) ?_
  | refine r_pow ⟨by decide, by decide, by decide⟩ ?_
  | refine r_fdivW (by first | assumption | (rename_i hw _; exact hw _) | exact wide_div (b := 200) (by decide) (by decide) (by decide) (by decide)) ?_
  | with_reducible refine ⟨by omega, ?_⟩)
local macro_rules | `(tactic| walk_at "k") => `(tactic| first
  | walk_at "e"
  | with_reducible refine ⟨fun hb => absurd hb (by decide +kernel), fun _ => ?_⟩
  | with_reducible refine ⟨fun _ => ?_, fun hb => absurd hb (by decide +kernel)⟩
  | refine ⟨fun hb => absurd hb Bool.false_ne_true, fun _ => ?_⟩
  | refine ⟨fun _ => ?_, fun hb => absurd hb.symm Bool.false_ne_true⟩)
local macro_rules | `(tactic| walk_at "d") => `(tactic| first
  | walk_at "k"
  | refine And.intro (show WfTake _ from ⟨by omega, by omega⟩) (take_all fun k hk => ?_))
local macro_rules | `(tactic| walk_at "o") => `(tactic| first
  | with_reducible refine s_ownList ?_
  | walk_at "d"
  | with_reducible refine ⟨_, Or.inl rfl, ?_⟩)

section
variable {P : Program} {w : World} {K : PySem.W.Frag} {mg : Str → Option Value} {base : Heap}
theorem ok_row_at (T : Tx K mg) : FnOk P w K mg base CX0 1 T.f_row_at T.d_row_at ["program", "at"] (SpX (α := Prog × Nat) K (fun _ => True) (fun x => [x.1.D, .int x.2]) (fun x d => d = (rowAt x.1 x.2).D)) := by
  refine fnX T.F_row_at sc_row_at (fun _ _ => rfl) (fun cdv A outer s H E hr => ⟨_, (pss_cons (ps_set (i := 2) sc_row_at.nd rfl (.inl rfl) (pe_ix (kx_ixT K rfl) (pv 0) pe_int (fun _ _ => rfl)))
      (pss_one (ps_ret (pe_ifExp (pt_cmpR op_lt (pv 1) (pe_callB (kx_len K rfl) (by rfl) T.m_len PySem.boot_len (pa_cons (pv 2) pa_nil)) (nomark _)) (pe_ix (kx_ixT K rfl) (pv 2) (pv 1) (fun _ _ => rfl)) (pe_tup (pa_cons pe_str pa_nil)))))), fun x _ => ?_⟩)
  obtain ⟨x, a⟩ := x
  try simp only [nox_K, blk_K, cx_K]
  repeat walk_at "e"
  rw [List.length_map]
  refine ⟨fun hb => ?_, fun hb => ?_⟩
  · have hb : a < x.rows.length := by have := of_decide_eq_true hb; omega
    repeat walk_at "e"
    refine r_ixT (atI_nat (v := (rowAt x a).D) ?_) rfl
    unfold rowAt
    rw [List.getElem?_map, List.getElem?_eq_getElem hb, List.getD_eq_getElem?_getD, List.getElem?_eq_getElem hb]
    rfl
  · have hb : ¬ a < x.rows.length := by have := of_decide_eq_false hb; omega
    repeat walk_at "e"
    unfold rowAt
    rw [List.getD_eq_getElem?_getD, List.getElem?_eq_none (by omega)]
    rfl
theorem ok_stand_behind_writing (T : Tx K mg) : FnOk P w K mg base CX0 1 T.f_stand_behind_writing T.d_stand_behind_writing ["stand", "p", "number"] (SpX (α := Stand × Nat × Nat) K (fun x => x.2.1 < x.1.sh.length ∧ x.1.sh.length ≤ 100) (fun x => [x.1.D, .int x.2.1, .int x.2.2]) (fun x d => d = (Stand.mk (x.1.at_ + 1) (x.1.sh.set x.2.1 x.2.2)).D)) := by
  refine fnX T.F_stand_behind_writing sc_stand_behind_writing (fun _ _ => rfl) (fun cdv A outer s H E hr => ⟨_, (pss_cons (ps_asg (pv 0) (kx_pgT K (n := 2) rfl rfl (pgs_cons (pg_name (i := 3) sc_stand_behind_writing.nd rfl (.inl rfl)) (pgs_cons (pg_name (i := 4) sc_stand_behind_writing.nd rfl (.inl rfl)) pgs_nil))))
      (pss_one (ps_ret (pe_tup (pa_cons (pe_op op_add (pv 3) pe_int) (pa_cons (pe_op (kx_catT K rfl) (pe_op (kx_catT K rfl) (pe_slice (kx_slT K rfl) (pv 4) po_none (po_some (pv 1))) (pe_tup (pa_cons (pv 2) pa_nil))) (pe_slice (kx_slT K rfl) (pv 4) (po_some (pe_op op_add (pv 1) pe_int)) po_none)) pa_nil)))))), fun x hx => ?_⟩)
  obtain ⟨s, p, v⟩ := x
  obtain ⟨h1, h2⟩ := hx
  dsimp only at h1 h2
  try simp only [nox_K, blk_K, cx_K]
  repeat walk_at "e"
  have l0 := natsD_len s.sh
  rw [cut_to]
  refine r_catT (by rw [List.length_take]; show _ + 1 ≤ _; omega) ?_
  repeat walk_at "e"
  rw [show ((p : Int) + 1) = ((p + 1 : Nat) : Int) from rfl, cut_from]
  refine r_catT (by rw [List.length_append, List.length_take, List.length_drop]; show _ + 1 + _ ≤ _; omega) ?_
  repeat walk_at "e"
  rw [set_parts h1]
  rfl
theorem ok_nothing_done (T : Tx K mg) : FnOk P w K mg base CX0 1 T.f_nothing_done T.d_nothing_done ["stand", "word"] (SpX (α := Stand × Str) K (fun _ => True) (fun x => [x.1.D, .str x.2]) (fun x d => d = (Told.mk x.1 x.2 none [] []).D)) := by
  refine fnX T.F_nothing_done sc_nothing_done (fun _ _ => rfl) (fun cdv A outer s H E hr => ⟨_, (pss_one (ps_ret (pe_tup (pa_cons (pv 0) (pa_cons (pv 1) (pa_cons pe_non (pa_cons (pe_tup pa_nil) (pa_cons (pe_tup pa_nil) pa_nil)))))))), fun x hx => ?_⟩)
  obtain ⟨s, word⟩ := x
  try simp only [nox_K, blk_K, cx_K]
  repeat walk_at "e"
  rfl
theorem ok_do_set (T : Tx K mg) : FnOk P w K mg base CX0 2 T.f_do_set T.d_do_set ["stand", "p", "number"] (SpX (α := Stand × Nat × Nat) K (fun x => x.2.1 < x.1.sh.length ∧ x.1.sh.length ≤ 100) (fun x => [x.1.D, .int x.2.1, .int x.2.2]) (fun x d => d = (Told.mk (Stand.mk (x.1.at_ + 1) (x.1.sh.set x.2.1 x.2.2)) "did" none [] [x.2.1]).D)) := by
  refine fnX T.F_do_set sc_do_set (fun _ _ => rfl) (fun cdv A outer s H E hr => ⟨_, (pss_one (ps_ret (pe_tup (pa_cons (pe_call (ok_stand_behind_writing T) (hr.mono (by decide)) (by rfl) T.g_stand_behind_writing T.F_stand_behind_writing.kp T.b_stand_behind_writing .nil pass0 (pa_cons (pv 0) (pa_cons (pv 1) (pa_cons (pv 2) pa_nil)))) (pa_cons pe_str (pa_cons pe_non (pa_cons (pe_tup pa_nil) (pa_cons (pe_tup (pa_cons (pv 1) pa_nil)) pa_nil)))))))), fun x hx => ?_⟩)
  obtain ⟨s, p, v⟩ := x
  try simp only [nox_K, blk_K, cx_K]
  repeat walk_at "e"
  refine ⟨⟨s, p, v⟩, rfl, hx, ?_⟩
  rintro d rfl
  repeat walk_at "e"
  rfl
theorem ok_do_add (T : Tx K mg) : FnOk P w K mg base CX0 2 T.f_do_add T.d_do_add ["stand", "w", "p", "q"] (SpX (α := Stand × Nat × Nat × Nat) K (fun x => 0 < x.2.1 ∧ x.2.2.1 < x.1.sh.length ∧ x.2.2.2 < x.1.sh.length ∧ x.1.sh.length ≤ 100) (fun x => [x.1.D, .int x.2.1, .int x.2.2.1, .int x.2.2.2])
    (fun x d => d = (Told.mk (Stand.mk (x.1.at_ + 1) (x.1.sh.set x.2.2.1 ((x.1.sh.getD x.2.2.1 0 + x.1.sh.getD x.2.2.2 0) % x.2.1))) "did" none (rise x.2.2.1 x.2.2.2) [x.2.2.1]).D)) := by
  refine fnX T.F_do_add sc_do_add (fun _ _ => rfl) (fun cdv A outer s H E hr => ⟨_, (pss_cons (ps_set (i := 4) sc_do_add.nd rfl (.inl rfl) (pe_ix (kx_ixT K rfl) (pv 0) pe_int (fun _ _ => rfl)))
      (pss_cons (ps_set (i := 5) sc_do_add.nd rfl (.inl rfl) (pe_op op_mod (pe_op op_add (pe_ix (kx_ixT K rfl) (pv 4) (pv 2) (fun _ _ => rfl)) (pe_ix (kx_ixT K rfl) (pv 4) (pv 3) (fun _ _ => rfl))) (pv 1)))
      (pss_one (ps_ret (pe_tup (pa_cons (pe_call (ok_stand_behind_writing T) (hr.mono (by decide)) (by rfl) T.g_stand_behind_writing T.F_stand_behind_writing.kp T.b_stand_behind_writing .nil pass0 (pa_cons (pv 0) (pa_cons (pv 2) (pa_cons (pv 5) pa_nil)))) (pa_cons pe_str (pa_cons pe_non (pa_cons (pe_call (ok_rising T) (hr.mono (by decide)) (by rfl) T.g_rising T.F_rising.kp T.b_rising .nil pass0 (pa_cons (pv 2) (pa_cons (pv 3) pa_nil))) (pa_cons (pe_tup (pa_cons (pv 2) pa_nil)) pa_nil)))))))))), fun x hx => ?_⟩)
  obtain ⟨s, w', p, q⟩ := x
  obtain ⟨h0, h1, h2, h3⟩ := hx
  dsimp only at h0 h1 h2 h3
  try simp only [nox_K, blk_K, cx_K]
  repeat walk_at "e"
  refine r_ixT (natsD_at h1) ?_
  repeat walk_at "e"
  refine r_ixT (natsD_at h2) ?_
  repeat walk_at "e"
  refine r_mod (by omega) ?_
  repeat walk_at "e"
  refine ⟨⟨s, p, (s.sh.getD p 0 + s.sh.getD q 0) % w'⟩, rfl, ⟨h1, h3⟩, ?_⟩
  rintro d rfl
  repeat walk_at "e"
  refine ⟨⟨(p : Int), (q : Int)⟩, rfl, trivial, ?_⟩
  rintro d rfl
  repeat walk_at "e"
  unfold rise
  show _ = PyData.tuple [_, _, _, _, _]
  congr 5
  by_cases h : p = q
  · rw [if_pos (by omega), if_pos h]
    rfl
  · rw [if_neg (by omega), if_neg h]
    show PyData.tuple [PyData.int (min (p : Int) (q : Int)), PyData.int (max (p : Int) (q : Int))] = PyData.tuple [PyData.int ((min p q : Nat) : Int), PyData.int ((max p q : Nat) : Int)]
    rcases Nat.le_total p q with h2 | h2
    · rw [Int.min_eq_left (by omega), Int.max_eq_right (by omega), Nat.min_eq_left h2, Nat.max_eq_right h2]
    · rw [Int.min_eq_right (by omega), Int.max_eq_left (by omega), Nat.min_eq_right h2, Nat.max_eq_left h2]
theorem ok_do_jump (T : Tx K mg) : FnOk P w K mg base CX0 1 T.f_do_jump T.d_do_jump ["stand", "p", "k"] (SpX (α := Stand × Nat × Nat) K (fun x => x.2.1 < x.1.sh.length) (fun x => [x.1.D, .int x.2.1, .int x.2.2]) (fun x d => d = (Told.mk (Stand.mk (if x.1.sh.getD x.2.1 0 = 0 then x.2.2 else x.1.at_ + 1) x.1.sh) "did" none [x.2.1] []).D)) := by
  refine fnX T.F_do_jump sc_do_jump (fun _ _ => rfl) (fun cdv A outer s H E hr => ⟨_, (pss_cons (ps_asg (pv 0) (kx_pgT K (n := 2) rfl rfl (pgs_cons (pg_name (i := 3) sc_do_jump.nd rfl (.inl rfl)) (pgs_cons (pg_name (i := 4) sc_do_jump.nd rfl (.inl rfl)) pgs_nil))))
      (pss_cons (ps_set (i := 5) sc_do_jump.nd rfl (.inl rfl) (pe_ifExp (pt_cmpR op_eq (pe_ix (kx_ixT K rfl) (pv 4) (pv 1) (fun _ _ => rfl)) pe_int (nomark _)) (pv 2) (pe_op op_add (pv 3) pe_int)))
      (pss_one (ps_ret (pe_tup (pa_cons (pe_tup (pa_cons (pv 5) (pa_cons (pv 4) pa_nil))) (pa_cons pe_str (pa_cons pe_non (pa_cons (pe_tup (pa_cons (pv 1) pa_nil)) (pa_cons (pe_tup pa_nil) pa_nil)))))))))), fun x hx => ?_⟩)
  obtain ⟨s, p, k⟩ := x
  dsimp only at hx
  try simp only [nox_K, blk_K, cx_K]
  repeat walk_at "e"
  refine r_ixT (natsD_at hx) ?_
  repeat walk_at "e"
  refine ⟨fun hb => ?_, fun hb => ?_⟩
  · have hb := of_decide_eq_true hb
    repeat walk_at "e"
    rw [if_pos (by omega)]
    rfl
  · have hb := of_decide_eq_false hb
    repeat walk_at "e"
    rw [if_neg (by omega)]
    rfl
theorem ok_do_say (T : Tx K mg) : FnOk P w K mg base CX0 1 T.f_do_say T.d_do_say ["stand", "p"] (SpX (α := Stand × Nat) K (fun x => x.2 < x.1.sh.length) (fun x => [x.1.D, .int x.2]) (fun x d => d = (Told.mk (Stand.mk (x.1.at_ + 1) x.1.sh) "said" (some (x.1.sh.getD x.2 0)) [x.2] []).D)) := by
  refine fnX T.F_do_say sc_do_say (fun _ _ => rfl) (fun cdv A outer s H E hr => ⟨_, (pss_cons (ps_asg (pv 0) (kx_pgT K (n := 2) rfl rfl (pgs_cons (pg_name (i := 2) sc_do_say.nd rfl (.inl rfl)) (pgs_cons (pg_name (i := 3) sc_do_say.nd rfl (.inl rfl)) pgs_nil))))
      (pss_one (ps_ret (pe_tup (pa_cons (pe_tup (pa_cons (pe_op op_add (pv 2) pe_int) (pa_cons (pv 3) pa_nil))) (pa_cons pe_str (pa_cons (pe_ix (kx_ixT K rfl) (pv 3) (pv 1) (fun _ _ => rfl)) (pa_cons (pe_tup (pa_cons (pv 1) pa_nil)) (pa_cons (pe_tup pa_nil) pa_nil))))))))), fun x hx => ?_⟩)
  obtain ⟨s, p⟩ := x
  dsimp only at hx
  try simp only [nox_K, blk_K, cx_K]
  repeat walk_at "e"
  refine r_ixT (natsD_at hx) ?_
  repeat walk_at "e"
  rfl
theorem ok_do_take (T : Tx K mg) : FnOk P w K mg base CX0 2 T.f_do_take T.d_do_take ["stand", "p", "letters"] (SpX (α := Stand × Nat × List Nat) K (fun x => x.2.1 < x.1.sh.length ∧ x.1.sh.length ≤ 100) (fun x => [x.1.D, .int x.2.1, .list (natsD x.2.2)])
    (fun x d => d = (match x.2.2 with | [] => Told.mk x.1 "waits" none [] [] | l :: _ => Told.mk (Stand.mk (x.1.at_ + 1) (x.1.sh.set x.2.1 l)) "took" (some l) [] [x.2.1]).D)) := by
  refine fnX T.F_do_take sc_do_take (fun _ _ => rfl) (fun cdv A outer s H E hr => ⟨_, (pss_cons (ps_if (pt_cmpR op_eq (pe_callB (kx_len K rfl) (by rfl) T.m_len PySem.boot_len (pa_cons (pv 2) pa_nil)) pe_int (nomark _))
      (pss_one (ps_ret (pe_call (ok_nothing_done T) (hr.mono (by decide)) (by rfl) T.g_nothing_done T.F_nothing_done.kp T.b_nothing_done .nil pass0 (pa_cons (pv 0) (pa_cons pe_str pa_nil)))))
      pss_nil)
      (pss_cons (ps_set (i := 3) sc_do_take.nd rfl (.inl rfl) (pe_ix (kx_ixL K rfl) (pv 2) pe_int (fun _ _ => rfl)))
      (pss_one (ps_ret (pe_tup (pa_cons (pe_call (ok_stand_behind_writing T) (hr.mono (by decide)) (by rfl) T.g_stand_behind_writing T.F_stand_behind_writing.kp T.b_stand_behind_writing .nil pass0 (pa_cons (pv 0) (pa_cons (pv 1) (pa_cons (pv 3) pa_nil)))) (pa_cons pe_str (pa_cons (pv 3) (pa_cons (pe_tup pa_nil) (pa_cons (pe_tup (pa_cons (pv 1) pa_nil)) pa_nil)))))))))), fun x hx => ?_⟩)
  obtain ⟨s, p, ls⟩ := x
  try simp only [nox_K, blk_K, cx_K]
  repeat walk_at "e"
  rw [natsD_len]
  cases ls with
  | nil =>
    refine ⟨fun _ => ?_, fun hb => absurd hb (by decide)⟩
    repeat walk_at "e"
    refine ⟨⟨s, "waits"⟩, rfl, trivial, ?_⟩
    rintro d rfl
    rfl
  | cons l r =>
    refine ⟨fun hb => ?_, fun hb => ?_⟩
    · have hb := of_decide_eq_true hb
      rw [List.length_cons] at hb
      omega
    · repeat walk_at "e"
      refine r_ixL (natsD_at (l := l :: r) (p := 0) (Nat.succ_pos _)) ?_
      repeat walk_at "e"
      refine ⟨⟨s, p, l⟩, rfl, hx, ?_⟩
      rintro d rfl
      repeat walk_at "e"
      rfl
end
end K3
set_option Elab.async false
set_option linter.all false
set_option maxRecDepth 100000
namespace K3
open PySem PySem.Spec PyProof.Rows L2 Dl Wm
local macro_rules | `(tactic| walk_at "e") => `(tactic| first
  | ((with_reducible refine e_var (by with_unfolding_all exact rfl) ?_))
  | with_reducible refine e_int ?_
  | with_reducible refine e_str ?_
  | with_reducible refine e_bl ?_
  | with_reducible refine e_non ?_
  | ((with_reducible refine e_pen (by with_unfolding_all exact rfl) (Or.inr rfl) ?_); intro z hz)
  | ((with_reducible refine e_pen (by with_unfolding_all exact rfl) (Or.inl rfl) ?_); intro z hz)
  | ((with_reducible refine e_penIx (by with_unfolding_all exact rfl) ?_))
  | with_reducible refine e_op ?_
  | with_reducible refine e_tup ?_
  | with_reducible refine e_lst ?_
  | with_reducible refine ea_cons ?_
  | with_reducible refine ea_nil ?_
  | ((with_reducible refine e_penLen (by with_unfolding_all exact rfl) ?_))
  | ((with_reducible refine e_lenOwn (by with_unfolding_all exact rfl) ?_))
  | ((with_reducible refine e_tupOwn (by with_unfolding_all exact rfl) ?_))
  | with_reducible refine e_isI ?_
  | with_reducible refine e_isB ?_
  | with_reducible refine e_isS ?_
  | with_reducible refine e_isTu ?_
  | with_reducible refine e_isL ?_
  | with_reducible refine e_cb ?_
  | with_reducible refine e_sl ?_
  | with_reducible refine eo_none ?_
  | with_reducible refine eo_some ?_
  | with_reducible refine et_test ?_
  | with_reducible refine et_B ?_
  | with_reducible refine et_and ?_
  | with_reducible refine et_or ?_
  | with_reducible refine et_not ?_
  | with_reducible refine et_yes ?_
  | with_reducible refine e_andV ?_
  | with_reducible refine e_orV ?_
  | with_reducible refine e_notV ?_
  | with_reducible refine e_if ?_
  | with_reducible refine e_chain ?_
  | with_reducible refine e_callX ?_
  | ((with_reducible refine e_callXP (by with_unfolding_all exact rfl) ?_))
  | with_reducible refine s_seq ?_
  | with_reducible refine s_next ?_
  | with_reducible refine s_ret ?_
  | ((with_reducible refine s_pen (by with_unfolding_all exact rfl) (Or.inr rfl) ?_))
  | ((with_reducible refine s_pen (by with_unfolding_all exact rfl) (Or.inl rfl) ?_))
  | ((with_reducible refine s_putOwn (by with_unfolding_all exact rfl) ?_))
  | with_reducible refine s_asg ?_
  | with_reducible refine s_asgG ?_
  | with_reducible refine s_if ?_
  | with_reducible refine g_name ?_
  | with_reducible refine g_tup rfl ?_
  | with_reducible refine gs_cons ?_
  | with_reducible refine gs_nil ?_
  | with_reducible refine r_lt ?_
  | with_reducible refine r_le ?_
  | with_reducible refine r_gt ?_
  | with_reducible refine r_ge ?_
  | with_reducible refine r_add ?_
  | with_reducible refine r_sub ?_
  | with_reducible refine r_eqI ?_
  | with_reducible refine r_eqS ?_
  | with_reducible refine r_eqB ?_
  | with_reducible refine r_neI ?_
  | with_reducible refine r_neB ?_
  | with_reducible refine c_min2 ?_
  | with_reducible refine c_max2 ?_
  | with_reducible refine c_intB ?_
  | with_reducible refine c_len (Or.inl rfl) ?_
  | with_reducible refine c_len (Or.inr rfl) ?_
  | with_reducible refine c_list (Or.inl rfl) ?_
  | with_reducible refine c_list (Or.inr rfl) ?_
  | with_reducible refine c_tuple (Or.inl rfl) ?_
  | with_reducible refine c_tuple (Or.inr rfl) ?_
  | with_reducible refine r_ixT (by with_unfolding_all exact rfl) ?_
  | with_reducible refine r_ixL (by with_unfolding_all exact rfl) ?_
  | with_reducible refine r_slT ?_
  | with_reducible refine r_slL ?_
  | with_reducible refine r_isNone ?_
  | with_reducible refine ⟨_, rfl, ?_⟩
  | with_reducible refine ⟨Nat.le_of_ble_eq_true rfl, ?_⟩)
local macro_rules | `(tactic| walk_at "t") => `(tactic| first
  | walk_at "e"
  | refine r_modAny (by first | omega | decide) fun z z0 z1 => ?_
  | refine r_mul (by first | exact Or.inr ⟨by decide, by decide⟩ | exact Or.inl ⟨by decide, by decide⟩ | exact Or.inl ⟨by omega, by omega⟩) ?_
  | refine r_pow ⟨by decide, by decide, by decide⟩ ?_
  | refine r_fdivW (by first | assumption | (rename_i hw _; exact hw _) | exact wide_div (b := 200) (by decide) (by decide) (by decide) (by decide)) ?_
  | with_reducible refine ⟨by omega, ?_⟩)
local macro_rules | `(tactic| walk_at "k") => `(tactic| first
  | walk_at "e"
  | with_reducible refine ⟨fun hb => absurd hb (by decide +kernel), fun _ => ?_⟩
  | with_reducible refine ⟨fun _ => ?_, fun hb => absurd hb (by decide +kernel)⟩
  | refine ⟨fun hb => absurd hb Bool.false_ne_true, fun _ => ?_⟩
  | refine ⟨fun _ => ?_, fun hb => absurd hb.symm Bool.false_ne_true⟩)
local macro_rules | `(tactic| walk_at "d") => `(tactic| first
  | walk_at "k"
  | refine And.intro (show WfTake _ from ⟨by omega, by omega⟩) (take_all fun k hk => ?_))
local macro_rules | `(tactic| walk_at "o") => `(tactic| first
  | with_reducible refine s_ownList ?_
  | walk_at "d"
  | with_reducible refine ⟨_, Or.inl rfl, ?_⟩)

theorem row_ok {x : Prog} (hx : x.Ok) (a : Nat) : (rowAt x a).Ok x.n x.w x.rows.length := by
  unfold rowAt
  rw [List.getD_eq_getElem?_getD]
  cases h : x.rows[a]? with
  | none => trivial
  | some r => exact hx.rs r (List.mem_of_getElem? h)
section
variable {P : Program} {w : World} {K : PySem.W.Frag} {mg : Str → Option Value} {base : Heap}
abbrev tickA := Prog × Stand × List Nat
abbrev tickW (x : tickA) : Prop := x.1.Ok ∧ x.2.1.Ok x.1
abbrev tickE (x : tickA) : List PyData := [x.1.D, x.2.1.D, .list (natsD x.2.2)]
theorem ok_tick (T : Tx K mg) : FnOk P w K mg base CX0 3 T.f_tick T.d_tick ["program", "stand", "letters"] (SpX (α := tickA) K tickW tickE (fun x d => d = (tickF x.1 x.2.1 x.2.2).D)) := by
  refine fnX T.F_tick sc_tick (fun _ _ => rfl) (fun cdv A outer s H E hr => ⟨_, (pss_cons (ps_set (i := 3) sc_tick.nd rfl (.inl rfl) (pe_call (ok_row_at T) (hr.mono (by decide)) (by rfl) T.g_row_at T.F_row_at.kp T.b_row_at .nil pass0 (pa_cons (pv 0) (pa_cons (pe_ix (kx_ixT K rfl) (pv 1) pe_int (fun _ _ => rfl)) pa_nil))))
      (pss_cons (ps_set (i := 4) sc_tick.nd rfl (.inl rfl) (pe_ix (kx_ixT K rfl) (pv 3) pe_int (fun _ _ => rfl)))
      (pss_cons (ps_if (pt_cmpR op_eq (pv 4) pe_str (nomark _))
      (pss_one (ps_ret (pe_call (ok_do_set T) (hr.mono (by decide)) (by rfl) T.g_do_set T.F_do_set.kp T.b_do_set .nil pass0 (pa_cons (pv 1) (pa_cons (pe_ix (kx_ixT K rfl) (pv 3) pe_int (fun _ _ => rfl)) (pa_cons (pe_ix (kx_ixT K rfl) (pv 3) pe_int (fun _ _ => rfl)) pa_nil))))))
      pss_nil)
      (pss_cons (ps_if (pt_cmpR op_eq (pv 4) pe_str (nomark _))
      (pss_one (ps_ret (pe_call (ok_do_add T) (hr.mono (by decide)) (by rfl) T.g_do_add T.F_do_add.kp T.b_do_add .nil pass0 (pa_cons (pv 1) (pa_cons (pe_ix (kx_ixT K rfl) (pv 0) pe_int (fun _ _ => rfl)) (pa_cons (pe_ix (kx_ixT K rfl) (pv 3) pe_int (fun _ _ => rfl)) (pa_cons (pe_ix (kx_ixT K rfl) (pv 3) pe_int (fun _ _ => rfl)) pa_nil)))))))
      pss_nil)
      (pss_cons (ps_if (pt_cmpR op_eq (pv 4) pe_str (nomark _))
      (pss_one (ps_ret (pe_call (ok_do_jump T) (hr.mono (by decide)) (by rfl) T.g_do_jump T.F_do_jump.kp T.b_do_jump .nil pass0 (pa_cons (pv 1) (pa_cons (pe_ix (kx_ixT K rfl) (pv 3) pe_int (fun _ _ => rfl)) (pa_cons (pe_ix (kx_ixT K rfl) (pv 3) pe_int (fun _ _ => rfl)) pa_nil))))))
      pss_nil)
      (pss_cons (ps_if (pt_cmpR op_eq (pv 4) pe_str (nomark _))
      (pss_one (ps_ret (pe_call (ok_do_say T) (hr.mono (by decide)) (by rfl) T.g_do_say T.F_do_say.kp T.b_do_say .nil pass0 (pa_cons (pv 1) (pa_cons (pe_ix (kx_ixT K rfl) (pv 3) pe_int (fun _ _ => rfl)) pa_nil)))))
      pss_nil)
      (pss_cons (ps_if (pt_cmpR op_eq (pv 4) pe_str (nomark _))
      (pss_one (ps_ret (pe_call (ok_do_take T) (hr.mono (by decide)) (by rfl) T.g_do_take T.F_do_take.kp T.b_do_take .nil pass0 (pa_cons (pv 1) (pa_cons (pe_ix (kx_ixT K rfl) (pv 3) pe_int (fun _ _ => rfl)) (pa_cons (pv 2) pa_nil))))))
      pss_nil)
      (pss_one (ps_ret (pe_call (ok_nothing_done T) (hr.mono (by decide)) (by rfl) T.g_nothing_done T.F_nothing_done.kp T.b_nothing_done .nil pass0 (pa_cons (pv 1) (pa_cons pe_str pa_nil)))))))))))), fun x hx => ?_⟩)
  obtain ⟨x, s, ls⟩ := x
  obtain ⟨hx, hs⟩ := hx
  dsimp only at hx hs
  try simp only [nox_K, blk_K, cx_K]
  have hr := row_ok hx s.at_
  have hl : s.sh.length ≤ 100 := by have := hs.s1; have := hx.n2; omega
  have hsl := hs.s1
  have hw := hx.w1
  repeat walk_at "e"
  refine ⟨⟨x, s.at_⟩, rfl, trivial, ?_⟩
  rintro d rfl
  unfold tickF
  dsimp only
  cases e : rowAt x s.at_ with
  | set p v =>
    rw [e] at hr
    dsimp only [Row.D, Row.Ok] at hr ⊢
    repeat walk_at "k"
    refine ⟨⟨s, p, v⟩, rfl, ⟨by show p < s.sh.length; omega, hl⟩, ?_⟩
    rintro d rfl
    rfl
  | add p q =>
    rw [e] at hr
    dsimp only [Row.D, Row.Ok] at hr ⊢
    repeat walk_at "k"
    refine ⟨⟨s, x.w, p, q⟩, rfl, ⟨by show 0 < x.w; omega, by show p < s.sh.length; omega, by show q < s.sh.length; omega, hl⟩, ?_⟩
    rintro d rfl
    rfl
  | jump p k =>
    rw [e] at hr
    dsimp only [Row.D, Row.Ok] at hr ⊢
    repeat walk_at "k"
    refine ⟨⟨s, p, k⟩, rfl, by show p < s.sh.length; omega, ?_⟩
    rintro d rfl
    rfl
  | say p =>
    rw [e] at hr
    dsimp only [Row.D, Row.Ok] at hr ⊢
    repeat walk_at "k"
    refine ⟨⟨s, p⟩, rfl, by show p < s.sh.length; omega, ?_⟩
    rintro d rfl
    rfl
  | take p =>
    rw [e] at hr
    dsimp only [Row.D, Row.Ok] at hr ⊢
    repeat walk_at "k"
    refine ⟨⟨s, p, ls⟩, rfl, ⟨by show p < s.sh.length; omega, hl⟩, ?_⟩
    rintro d rfl
    rfl
  | fin =>
    dsimp only [Row.D]
    repeat walk_at "k"
    refine ⟨⟨s, "ended"⟩, rfl, trivial, ?_⟩
    rintro d rfl
    rfl
end
end K3
set_option Elab.async false
set_option linter.all false
set_option maxRecDepth 100000
namespace K3
open PySem PySem.Spec PyProof.Rows L2 Dl Wm
local macro_rules | `(tactic| walk_at "e") => `(tactic| first
  | ((with_reducible refine e_var (by with_unfolding_all exact rfl) ?_))
  | with_reducible refine e_int ?_
  | with_reducible refine e_str ?_
  | with_reducible refine e_bl ?_
  | with_reducible refine e_non ?_
  | ((with_reducible refine e_pen (by with_unfolding_all exact rfl) (Or.inr rfl) ?_); intro z hz)
  | ((with_reducible refine e_pen (by with_unfolding_all exact rfl) (Or.inl rfl) ?_); intro z hz)
  | ((with_reducible refine e_penIx (by with_unfolding_all exact rfl) ?_))
  | with_reducible refine e_op ?_
  | with_reducible refine e_tup ?_
  | with_reducible refine e_lst ?_
  | with_reducible refine ea_cons ?_
  | with_reducible refine ea_nil ?_
  | ((with_reducible refine e_penLen (by with_unfolding_all exact rfl) ?_))
  | ((with_reducible refine e_lenOwn (by with_unfolding_all exact rfl) ?_))
  | ((with_reducible refine e_tupOwn (by with_unfolding_all exact rfl) ?_))
  | with_reducible refine e_isI ?_
  | with_reducible refine e_isB ?_
  | with_reducible refine e_isS ?_
  | with_reducible refine e_isTu ?_
  | with_reducible refine e_isL ?_
  | with_reducible refine e_cb ?_
  | with_reducible refine e_sl ?_
  | with_reducible refine eo_none ?_
  | with_reducible refine eo_some ?_
  | with_reducible refine et_test ?_
  | with_reducible refine et_B ?_
  | with_reducible refine et_and ?_
  | with_reducible refine et_or ?_
  | with_reducible refine et_not ?_
  | with_reducible refine et_yes ?_
  | with_reducible refine e_andV ?_
  | with_reducible refine e_orV ?_
  | with_reducible refine e_notV ?_
  | with_reducible refine e_if ?_
  | with_reducible refine e_chain ?_
  | with_reducible refine e_callX ?_
  | ((with_reducible refine e_callXP (by with_unfolding_all exact rfl) ?_))
  | with_reducible refine s_seq ?_
  | with_reducible refine s_next ?_
  | with_reducible refine s_ret ?_
  | ((with_reducible refine s_pen (by with_unfolding_all exact rfl) (Or.inr rfl) ?_))
  | ((with_reducible refine s_pen (by with_unfolding_all exact rfl) (Or.inl rfl) ?_))
  | ((with_reducible refine s_putOwn (by with_unfolding_all exact rfl) ?_))
  | with_reducible refine s_asg ?_
  | with_reducible refine s_asgG ?_
  | with_reducible refine s_if ?_
  | with_reducible refine g_name ?_
  | with_reducible refine g_tup rfl ?_
  | with_reducible refine gs_cons ?_
  | with_reducible refine gs_nil ?_
  | with_reducible refine r_lt ?_
  | with_reducible refine r_le ?_
  | with_reducible refine r_gt ?_
  | with_reducible refine r_ge ?_
  | with_reducible refine r_add ?_
  | with_reducible refine r_sub ?_
  | with_reducible refine r_eqI ?_
  | with_reducible refine r_eqS ?_
  | with_reducible refine r_eqB ?_
  | with_reducible refine r_neI ?_
  | with_reducible refine r_neB ?_
  | with_reducible refine c_min2 ?_
  | with_reducible refine c_max2 ?_
  | with_reducible refine c_intB ?_
  | with_reducible refine c_len (Or.inl rfl) ?_
  | with_reducible refine c_len (Or.inr rfl) ?_
  | with_reducible refine c_list (Or.inl rfl) ?_
  | with_reducible refine c_list (Or.inr rfl) ?_
  | with_reducible refine c_tuple (Or.inl rfl) ?_
  | with_reducible refine c_tuple (Or.inr rfl) ?_
  | with_reducible refine r_ixT (by with_unfolding_all exact rfl) ?_
  | with_reducible refine r_ixL (by with_unfolding_all exact rfl) ?_
  | with_reducible refine r_slT ?_
  | with_reducible refine r_slL ?_
  | with_reducible refine r_isNone ?_
  | with_reducible refine ⟨_, rfl, ?_⟩
  | with_reducible refine ⟨Nat.le_of_ble_eq_true rfl, ?_⟩)
local macro_rules | `(tactic| walk_at "t") => `(tactic| first
  | walk_at "e"
  | refine r_modAny (by first | omega | decide) fun z z0 z1 => ?_
  | refine r_mul (by first | exact Or.inr ⟨by decide, by decide⟩ | exact Or.inl ⟨by decide, by decide⟩ | exact Or.inl ⟨by omega, by omega⟩) ?_
  | refine r_pow ⟨by decide, by decide, by decide⟩ ?_
  | refine r_fdivW (by first | assumption | (rename_i hw _; exact hw _) | exact wide_div (b := 200) (by decide) (by decide) (by decide) (by decide)) ?_
  | with_reducible refine ⟨by omega, ?_⟩)
local macro_rules | `(tactic| walk_at "k") => `(tactic| first
  | walk_at "e"
  | with_reducible refine ⟨fun hb => absurd hb (by decide +kernel), fun _ => ?_⟩
  | with_reducible refine ⟨fun _ => ?_, fun hb => absurd hb (by decide +kernel)⟩
  | refine ⟨fun hb => absurd hb Bool.false_ne_true, fun _ => ?_⟩
  | refine ⟨fun _ => ?_, fun hb => absurd hb.symm Bool.false_ne_true⟩)
local macro_rules | `(tactic| walk_at "d") => `(tactic| first
  | walk_at "k"
  | refine And.intro (show WfTake _ from ⟨by omega, by omega⟩) (take_all fun k hk => ?_))
local macro_rules | `(tactic| walk_at "o") => `(tactic| first
  | with_reducible refine s_ownList ?_
  | walk_at "d"
  | with_reducible refine ⟨_, Or.inl rfl, ?_⟩)

section
variable {P : Program} {w : World} {K : PySem.W.Frag} {mg : Str → Option Value} {base : Heap}
structure RowA where
  n : Nat
  w : Nat
  many : Nat
  takes : Bool
def noTake : Wm.Row → Prop
  | .take _ => False
  | _ => True
abbrev spRow (K : PySem.W.Frag) : Sp := SpXP (α := RowA) K (fun x => 1 ≤ x.n ∧ x.n ≤ 1000 ∧ 1 ≤ x.w ∧ x.w ≤ 1000 ∧ 1 ≤ x.many ∧ x.many ≤ 1000) (fun x => [.int x.n, .int x.w, .int x.many, .bool x.takes]) (fun x d => ∃ r : Wm.Row, d = r.D ∧ r.Ok x.n x.w x.many ∧ (x.takes = false → noTake r))
theorem ok_law_row (T : Tx K mg) : FnOk P w K mg base CX0 2 T.f_law_row T.d_law_row ["pen", "n", "w", "many", "takes"] (spRow K) := by
  refine fnXP T.F_law_row sc_law_row ⟨_, _, rfl⟩ (fun _ _ => rfl) (fun cdv A outer s H E hr => ⟨_, (pss_cons (ps_set (i := 5) sc_law_row.nd rfl (.inl rfl) (pe_call (ok_law_take T) (hr.mono (by decide)) (by rfl) T.g_law_take T.F_law_take.kp T.b_law_take .nil pass0 (pa_cons (pv 0) (pa_cons pe_int pa_nil))))
      (pss_cons (ps_set (i := 6) sc_law_row.nd rfl (.inl rfl) (pe_call (ok_law_take T) (hr.mono (by decide)) (by rfl) T.g_law_take T.F_law_take.kp T.b_law_take .nil pass0 (pa_cons (pv 0) (pa_cons (pv 1) pa_nil))))
      (pss_cons (ps_if (pt_cmpR op_lt (pv 5) pe_int (nomark _))
      (pss_one (ps_ret (pe_tup (pa_cons pe_str (pa_cons (pv 6) (pa_cons (pe_call (ok_law_take T) (hr.mono (by decide)) (by rfl) T.g_law_take T.F_law_take.kp T.b_law_take .nil pass0 (pa_cons (pv 0) (pa_cons (pv 2) pa_nil))) pa_nil))))))
      pss_nil)
      (pss_cons (ps_if (pt_cmpR op_lt (pv 5) pe_int (nomark _))
      (pss_one (ps_ret (pe_tup (pa_cons pe_str (pa_cons (pv 6) (pa_cons (pe_call (ok_law_take T) (hr.mono (by decide)) (by rfl) T.g_law_take T.F_law_take.kp T.b_law_take .nil pass0 (pa_cons (pv 0) (pa_cons (pv 1) pa_nil))) pa_nil))))))
      pss_nil)
      (pss_cons (ps_if (pt_cmpR op_lt (pv 5) pe_int (nomark _))
      (pss_one (ps_ret (pe_tup (pa_cons pe_str (pa_cons (pv 6) (pa_cons (pe_call (ok_law_take T) (hr.mono (by decide)) (by rfl) T.g_law_take T.F_law_take.kp T.b_law_take .nil pass0 (pa_cons (pv 0) (pa_cons (pv 3) pa_nil))) pa_nil))))))
      pss_nil)
      (pss_cons (ps_if (pt_cmpR op_lt (pv 5) pe_int (nomark _))
      (pss_one (ps_ret (pe_tup (pa_cons pe_str (pa_cons (pv 6) pa_nil)))))
      pss_nil)
      (pss_cons (ps_if (PW.pt (pw_and (pt_cmpR op_lt (pv 5) pe_int (nomark _)) (pw_and1 (pt_val (pv 4)))))
      (pss_one (ps_ret (pe_tup (pa_cons pe_str (pa_cons (pv 6) pa_nil)))))
      pss_nil)
      (pss_cons (ps_if (pt_cmpR op_lt (pv 5) pe_int (nomark _))
      (pss_one (ps_ret (pe_tup (pa_cons pe_str (pa_cons (pv 6) (pa_cons (pv 6) pa_nil))))))
      pss_nil)
      (pss_one (ps_ret (pe_ix (kx_ixL K rfl) (pe_lst (pa_cons (pe_tup (pa_cons pe_str pa_nil)) (pa_cons (pe_tup (pa_cons pe_str (pa_cons (pv 6) (pa_cons (pe_call (ok_law_take T) (hr.mono (by decide)) (by rfl) T.g_law_take T.F_law_take.kp T.b_law_take .nil pass0 (pa_cons (pv 0) (pa_cons (pv 3) pa_nil))) pa_nil)))) (pa_cons (pe_tup (pa_cons pe_str (pa_cons (pv 6) pa_nil))) pa_nil)))) (pe_call (ok_law_take T) (hr.mono (by decide)) (by rfl) T.g_law_take T.F_law_take.kp T.b_law_take .nil pass0 (pa_cons (pv 0) (pa_cons pe_int pa_nil))) (fun _ _ => rfl)))))))))))), fun p x hx => ?_⟩)
  obtain ⟨n, w', many, takes⟩ := x
  dsimp only at hx
  obtain ⟨h1, h2, h3, h4, h5, h6⟩ := hx
  try simp only [nox_K, blk_K, cx_K]
  repeat walk_at "d"
  rename_i way hway p' hp
  have hp' : p' < n := by omega
  refine ⟨fun hb => ?_, fun hb => ?_⟩
  · repeat walk_at "d"
    rename_i v hv
    exact ⟨.set p' v, rfl, ⟨hp', by omega⟩, fun _ => trivial⟩
  repeat walk_at "d"
  refine ⟨fun hb => ?_, fun hb => ?_⟩
  · repeat walk_at "d"
    rename_i v hv
    exact ⟨.add p' v, rfl, ⟨hp', by omega⟩, fun _ => trivial⟩
  repeat walk_at "d"
  refine ⟨fun hb => ?_, fun hb => ?_⟩
  · repeat walk_at "d"
    rename_i v hv
    exact ⟨.jump p' v, rfl, ⟨hp', by omega⟩, fun _ => trivial⟩
  repeat walk_at "d"
  refine ⟨fun hb => ?_, fun hb => ?_⟩
  · repeat walk_at "d"
    exact ⟨.say p', rfl, hp', fun _ => trivial⟩
  repeat walk_at "d"
  refine ⟨fun hb => ?_, fun hb => ?_⟩
  · repeat walk_at "d"
    refine ⟨fun ht => ?_, fun ht => ?_⟩
    · repeat walk_at "d"
      exact ⟨.take p', rfl, hp', fun h => by rw [ht] at h; cases h⟩
    · repeat walk_at "d"
      refine ⟨fun _ => ?_, fun hb2 => by rw [hb] at hb2; cases hb2⟩
      repeat walk_at "d"
      exact ⟨.add p' p', rfl, ⟨hp', hp'⟩, fun _ => trivial⟩
  · repeat walk_at "d"
    refine ⟨fun hb2 => absurd (hb.symm.trans hb2) (by decide), fun _ => ?_⟩
    repeat walk_at "d"
    rename_i v hv k hk
    rcases (by omega : k = 0 ∨ k = 1 ∨ k = 2) with rfl | rfl | rfl
    · exact r_ixL rfl ⟨.fin, rfl, trivial, fun _ => trivial⟩
    · exact r_ixL rfl ⟨.jump p' v, rfl, ⟨hp', by omega⟩, fun _ => trivial⟩
    · exact r_ixL rfl ⟨.say p', rfl, hp', fun _ => trivial⟩
structure ProgR (takes : Bool) (x : Prog) : Prop where
  ok : x.Ok
  nt : takes = false → ∀ r ∈ x.rows, noTake r
abbrev spProgram (K : PySem.W.Frag) : Sp := SpXP (α := Bool) K (fun _ => True) (fun b => [.bool b]) (fun b d => ∃ x : Prog, d = x.D ∧ ProgR b x)
theorem ok_law_program (T : Tx K mg) : FnOk P w K mg base CX0 3 T.f_law_program T.d_law_program ["pen", "takes"] (spProgram K) := by
  refine fnXP T.F_law_program sc_law_program ⟨_, _, rfl⟩ (fun _ _ => rfl) (fun cdv A outer s H E hr => ⟨_, (pss_cons (ps_set (i := 2) sc_law_program.nd rfl (.inr rfl) (pe_op op_add pe_int (pe_call (ok_law_take T) (hr.mono (by decide)) (by rfl) T.g_law_take T.F_law_take.kp T.b_law_take .nil pass0 (pa_cons (pv 0) (pa_cons (pe_ix (kx_ixL K rfl) (pe_lst (pa_cons pe_int (pa_cons pe_int pa_nil))) (pe_call (ok_law_take T) (hr.mono (by decide)) (by rfl) T.g_law_take T.F_law_take.kp T.b_law_take .nil pass0 (pa_cons (pv 0) (pa_cons pe_int pa_nil))) (fun _ _ => rfl)) pa_nil)))))
      (pss_cons (ps_set (i := 3) sc_law_program.nd rfl (.inr rfl) (pe_ix (kx_ixL K rfl) (pe_lst (pa_cons pe_int (pa_cons pe_int (pa_cons pe_int (pa_cons pe_int (pa_cons (pe_op op_add pe_int (pe_call (ok_law_take T) (hr.mono (by decide)) (by rfl) T.g_law_take T.F_law_take.kp T.b_law_take .nil pass0 (pa_cons (pv 0) (pa_cons pe_int pa_nil)))) pa_nil)))))) (pe_call (ok_law_take T) (hr.mono (by decide)) (by rfl) T.g_law_take T.F_law_take.kp T.b_law_take .nil pass0 (pa_cons (pv 0) (pa_cons pe_int pa_nil))) (fun _ _ => rfl)))
      (pss_cons (ps_set (i := 4) sc_law_program.nd rfl (.inr rfl) (pe_op op_add pe_int (pe_call (ok_law_take T) (hr.mono (by decide)) (by rfl) T.g_law_take T.F_law_take.kp T.b_law_take .nil pass0 (pa_cons (pv 0) (pa_cons (pe_ix (kx_ixL K rfl) (pe_lst (pa_cons pe_int (pa_cons pe_int (pa_cons pe_int pa_nil)))) (pe_call (ok_law_take T) (hr.mono (by decide)) (by rfl) T.g_law_take T.F_law_take.kp T.b_law_take .nil pass0 (pa_cons (pv 0) (pa_cons pe_int pa_nil))) (fun _ _ => rfl)) pa_nil)))))
      (pss_one (ps_ret (pe_tup (pa_cons (pv 2) (pa_cons (pv 3) (pa_cons (pe_callTy (kx_tuple K rfl) (by rfl) T.m_tuple (by decide +kernel) (pa_cons (pe_lc (own := [("k", 5)]) (g := gName 5) (tt := tYes) rfl sc_law_program.nd (pi_range1 rfl T.m_range (pa_cons (pv 4) pa_nil)) (blkOk_by (own := [("k", 5)]) (N := ["pen", "takes", "n", "w", "many", "k"]) (sc := defScope s_law_program) (by decide +kernel)) (fun _ _ _ _ _ => (pg_name (i := 5) sc_law_program.nd rfl (.inl rfl))) (fun _ _ _ _ _ => pts_nil) (fun _ _ _ _ _ => (pe_call (ok_law_row T) (hr.mono (by decide)) (by rfl) T.g_law_row T.F_law_row.kp T.b_law_row .nil pass0 (pa_cons (pv 0) (pa_cons (pv 2) (pa_cons (pv 3) (pa_cons (pv 4) (pa_cons (pv 1) pa_nil)))))))) pa_nil)) pa_nil))))))))), fun p takes hx => ?_⟩)
  try simp only [nox_K, blk_K, cx_K]
  repeat walk_at "d"
  rename_i k0 hk0
  have hn : ∃ m : Nat, atI [PyData.int 3, .int 12] (k0 : Int) = some (.int m) ∧ 1 ≤ m ∧ m ≤ 12 := by
    rcases (by omega : k0 = 0 ∨ k0 = 1) with rfl | rfl
    · exact ⟨3, rfl, by decide, by decide⟩
    · exact ⟨12, rfl, by decide, by decide⟩
  obtain ⟨m0, e0, hm1, hm2⟩ := hn
  refine r_ixL e0 ?_
  repeat walk_at "d"
  rename_i n0 hn0 k1 hk1 k2 hk2
  have hw : ∃ m : Nat, atI [PyData.int 2, .int 3, .int 10, .int 100, .int (2 + (k1 : Int))] (k2 : Int) = some (.int m) ∧ 2 ≤ m ∧ m ≤ 100 := by
    rcases (by omega : k2 = 0 ∨ k2 = 1 ∨ k2 = 2 ∨ k2 = 3 ∨ k2 = 4) with rfl | rfl | rfl | rfl | rfl
    · exact ⟨2, rfl, by decide, by decide⟩
    · exact ⟨3, rfl, by decide, by decide⟩
    · exact ⟨10, rfl, by decide, by decide⟩
    · exact ⟨100, rfl, by decide, by decide⟩
    · exact ⟨2 + k1, rfl, by omega, by omega⟩
  obtain ⟨w', e1, hw1, hw2⟩ := hw
  refine r_ixL e1 ?_
  repeat walk_at "d"
  rename_i k3 hk3
  have hm : ∃ m : Nat, atI [PyData.int 6, .int 12, .int 20] (k3 : Int) = some (.int m) ∧ 1 ≤ m ∧ m ≤ 20 := by
    rcases (by omega : k3 = 0 ∨ k3 = 1 ∨ k3 = 2) with rfl | rfl | rfl
    · exact ⟨6, rfl, by decide, by decide⟩
    · exact ⟨12, rfl, by decide, by decide⟩
    · exact ⟨20, rfl, by decide, by decide⟩
  obtain ⟨m3, e3, hm3, hm4⟩ := hm
  refine r_ixL e3 ?_
  repeat walk_at "d"
  rename_i k4 hk4
  refine e_lcR (j := 5) (ea_cons (e_var rfl (ea_nil ?_)))
  refine ⟨1 + k4, rfl, by omega, fun i acc => ∃ rows : List Wm.Row, acc = rows.map Row.D ∧ rows.length = i ∧ (∀ r ∈ rows, r.Ok (1 + n0) w' (1 + k4)) ∧ (takes = false → ∀ r ∈ rows, noTake r), ⟨[], rfl, rfl, fun r hr => (nomatch hr), fun _ r hr => (nomatch hr)⟩, fun i acc hi ⟨rows, ea, el, eo, en⟩ => ?_, fun acc ⟨rows, ea, el, eo, en⟩ => ?_⟩
  · repeat walk_at "d"
    refine ⟨⟨1 + n0, w', 1 + k4, takes⟩, rfl, ⟨by show 1 ≤ 1 + n0; omega, by show 1 + n0 ≤ 1000; omega, by show 1 ≤ w'; omega, by show w' ≤ 1000; omega, by show 1 ≤ 1 + k4; omega, by show 1 + k4 ≤ 1000; omega⟩, ?_⟩
    rintro d ⟨r, rfl, hr1, hr2⟩
    subst ea
    refine ⟨rows ++ [r], by rw [List.map_append]; rfl, by rw [List.length_append, el]; rfl, fun r' h' => ?_, fun ht r' h' => ?_⟩
    · rcases List.mem_append.mp h' with h' | h'
      · exact eo r' h'
      · rw [List.mem_singleton.mp h']; exact hr1
    · rcases List.mem_append.mp h' with h' | h'
      · exact en ht r' h'
      · rw [List.mem_singleton.mp h']; exact hr2 ht
  · subst ea
    repeat walk_at "d"
    refine ⟨⟨1 + n0, w', rows⟩, rfl, ⟨by show 1 ≤ 1 + n0; omega, by show 1 + n0 ≤ 12; omega, hw1, hw2, by show 1 ≤ rows.length; omega, by show rows.length ≤ 20; omega, ?_⟩, en⟩
    rw [show (Prog.mk (1 + n0) w' rows).rows.length = 1 + k4 from el]
    exact eo
abbrev spSheets (K : PySem.W.Frag) : Sp := SpXP (α := Prog) K Prog.Ok (fun x => [x.D]) (fun x d => ∃ sh : List Nat, d = .tuple (natsD sh) ∧ sh.length = x.n ∧ ∀ v ∈ sh, v < x.w)
theorem ok_law_sheets (T : Tx K mg) : FnOk P w K mg base CX0 2 T.f_law_sheets T.d_law_sheets ["pen", "program"] (spSheets K) := by
  refine fnXP T.F_law_sheets sc_law_sheets ⟨_, _, rfl⟩ (fun _ _ => rfl) (fun cdv A outer s H E hr => ⟨_, (pss_one (ps_ret (pe_callTy (kx_tuple K rfl) (by rfl) T.m_tuple (by decide +kernel) (pa_cons (pe_lc (own := [("p", 2)]) (g := gName 2) (tt := tYes) rfl sc_law_sheets.nd (pi_range1 rfl T.m_range (pa_cons (pe_ix (kx_ixT K rfl) (pv 1) pe_int (fun _ _ => rfl)) pa_nil)) (blkOk_by (own := [("p", 2)]) (N := ["pen", "program", "p"]) (sc := defScope s_law_sheets) (by decide +kernel)) (fun _ _ _ _ _ => (pg_name (i := 2) sc_law_sheets.nd rfl (.inl rfl))) (fun _ _ _ _ _ => pts_nil) (fun _ _ _ _ _ => (pe_call (ok_law_take T) (hr.mono (by decide)) (by rfl) T.g_law_take T.F_law_take.kp T.b_law_take .nil pass0 (pa_cons (pv 0) (pa_cons (pe_ix (kx_ixL K rfl) (pe_lst (pa_cons (pe_ix (kx_ixT K rfl) (pv 1) pe_int (fun _ _ => rfl)) (pa_cons pe_int pa_nil))) (pe_callTy call_int1 (by rfl) T.m_int (by decide +kernel) (pa_cons (pe_cmpR op_eq (pe_call (ok_law_take T) (hr.mono (by decide)) (by rfl) T.g_law_take T.F_law_take.kp T.b_law_take .nil pass0 (pa_cons (pv 0) (pa_cons pe_int pa_nil))) pe_int (nomark _)) pa_nil)) (fun _ _ => rfl)) pa_nil))))) pa_nil)))), fun p x hx => ?_⟩)
  have hn1 := hx.n1
  have hn2 := hx.n2
  have hw1 := hx.w1
  have hw2 := hx.w2
  try simp only [nox_K, blk_K, cx_K]
  repeat walk_at "d"
  refine e_lcR (j := 2) ?_
  repeat walk_at "d"
  refine ⟨by omega, fun i acc => ∃ sh : List Nat, acc = natsD sh ∧ sh.length = i ∧ ∀ v ∈ sh, v < x.w, ⟨[], rfl, rfl, fun r hr => (nomatch hr)⟩, fun i acc hi ⟨sh, ea, el, eo⟩ => ?_, fun acc ⟨sh, ea, el, eo⟩ => ?_⟩
  · repeat walk_at "d"
    rename_i k hk
    have hm : ∃ m : Nat, atI [PyData.int x.w, .int 1] (if decide ((k : Int) = 0) = true then (1 : Int) else 0) = some (.int m) ∧ 1 ≤ m ∧ m ≤ x.w := by
      by_cases h : (k : Int) = 0
      · rw [if_pos (decide_eq_true h)]
        exact ⟨1, rfl, by decide, by omega⟩
      · rw [if_neg (by rw [decide_eq_true_eq]; exact h)]
        exact ⟨x.w, rfl, by omega, by omega⟩
    obtain ⟨m, e1, hm1, hm2⟩ := hm
    refine r_ixL e1 ?_
    repeat walk_at "d"
    rename_i v hv
    subst ea
    refine ⟨sh ++ [v], by unfold natsD; rw [List.map_append]; rfl, by rw [List.length_append, el]; rfl, fun r' h' => ?_⟩
    rcases List.mem_append.mp h' with h' | h'
    · exact eo r' h'
    · rw [List.mem_singleton.mp h']; omega
  · subst ea
    repeat walk_at "d"
    exact ⟨el, eo⟩
abbrev spStand (K : PySem.W.Frag) : Sp := SpXP (α := Prog) K Prog.Ok (fun x => [x.D]) (fun x d => ∃ s : Stand, d = s.D ∧ s.Ok x)
theorem ok_law_stand (T : Tx K mg) : FnOk P w K mg base CX0 3 T.f_law_stand T.d_law_stand ["pen", "program"] (spStand K) := by
  refine fnXP T.F_law_stand sc_law_stand ⟨_, _, rfl⟩ (fun _ _ => rfl) (fun cdv A outer s H E hr => ⟨_, (pss_cons (ps_set (i := 2) sc_law_stand.nd rfl (.inl rfl) (pe_op op_mul (pe_call (ok_law_take T) (hr.mono (by decide)) (by rfl) T.g_law_take T.F_law_take.kp T.b_law_take .nil pass0 (pa_cons (pv 0) (pa_cons (pe_op op_add (pe_callB (kx_len K rfl) (by rfl) T.m_len PySem.boot_len (pa_cons (pe_ix (kx_ixT K rfl) (pv 1) pe_int (fun _ _ => rfl)) pa_nil)) pe_int) pa_nil))) (pe_callTy call_int1 (by rfl) T.m_int (by decide +kernel) (pa_cons (pe_cmpR op_eq (pe_call (ok_law_take T) (hr.mono (by decide)) (by rfl) T.g_law_take T.F_law_take.kp T.b_law_take .nil pass0 (pa_cons (pv 0) (pa_cons pe_int pa_nil))) pe_int (nomark _)) pa_nil))))
      (pss_one (ps_ret (pe_tup (pa_cons (pv 2) (pa_cons (pe_call (ok_law_sheets T) (hr.mono (by decide)) (by rfl) T.g_law_sheets T.F_law_sheets.kp T.b_law_sheets .nil pass0 (pa_cons (pv 0) (pa_cons (pv 1) pa_nil))) pa_nil)))))), fun p x hx => ?_⟩)
  have hr1 := hx.r1
  have hr2 := hx.r2
  try simp only [nox_K, blk_K, cx_K]
  repeat walk_at "d"
  rw [List.length_map]
  repeat walk_at "d"
  rename_i a ha k hk
  refine r_mul (.inr ⟨by split <;> decide, by split <;> decide⟩) ?_
  have e1 : ∃ m : Nat, (a : Int) * (if decide ((k : Int) = 0) = true then (1 : Int) else 0) = m ∧ m ≤ x.rows.length := by
    split
    · exact ⟨a, by rw [Int.mul_one], by omega⟩
    · exact ⟨0, by rw [Int.mul_zero]; rfl, by omega⟩
  obtain ⟨m, e1, hm⟩ := e1
  rw [e1]
  repeat walk_at "d"
  refine ⟨hx, ?_⟩
  rintro d ⟨sh, rfl, hl, ho⟩
  repeat walk_at "d"
  exact ⟨⟨m, sh⟩, rfl, hm, hl, ho⟩
end
end K3
set_option Elab.async false
set_option linter.all false
set_option maxRecDepth 100000
namespace K3
open PySem PySem.Spec PyProof.Rows L2 Dl Wm
local macro_rules | `(tactic| walk_at "e") => `(tactic| first
  | ((with_reducible refine e_var (by with_unfolding_all exact rfl) ?_))
  | with_reducible refine e_int ?_
  | with_reducible refine e_str ?_
  | with_reducible refine e_bl ?_
  | with_reducible refine e_non ?_
  | ((with_reducible refine e_pen (by with_unfolding_all exact rfl) (Or.inr rfl) ?_); intro z hz)
  | ((with_reducible refine e_pen (by with_unfolding_all exact rfl) (Or.inl rfl) ?_); intro z hz)
  | ((with_reducible refine e_penIx (by with_unfolding_all exact rfl) ?_))
  | with_reducible refine e_op ?_
  | with_reducible refine e_tup ?_
  | with_reducible refine e_lst ?_
  | with_reducible refine ea_cons ?_
  | with_reducible refine ea_nil ?_
  | ((with_reducible refine e_penLen (by with_unfolding_all exact rfl) ?_))
  | ((with_reducible refine e_lenOwn (by with_unfolding_all exact rfl) ?_))
  | ((with_reducible refine e_tupOwn (by with_unfolding_all exact rfl) ?_))
  | with_reducible refine e_isI ?_
  | with_reducible refine e_isB ?_
  | with_reducible refine e_isS ?_
  | with_reducible refine e_isTu ?_
  | with_reducible refine e_isL ?_
  | with_reducible refine e_cb ?_
  | with_reducible refine e_sl ?_
  | with_reducible refine eo_none ?_
  | with_reducible refine eo_some ?_
  | with_reducible refine et_test ?_
  | with_reducible refine et_B ?_
  | with_reducible refine et_and ?_
  | with_reducible refine et_or ?_
  | with_reducible refine et_not ?_
  | with_reducible refine et_yes ?_
  | with_reducible refine e_andV ?_
  | with_reducible refine e_orV ?_
  | with_reducible refine e_notV ?_
  | with_reducible refine e_if ?_
  | with_reducible refine e_chain ?_
  | with_reducible refine e_callX ?_
  | ((with_reducible refine e_callXP (by with_unfolding_all exact rfl) ?_))
  | ((with_reducible refine s_seq ?_); (try dsimp only [List.set]))
  | with_reducible refine s_next ?_
  | with_reducible refine s_ret ?_
  | ((with_reducible refine s_pen (by with_unfolding_all exact rfl) (Or.inr rfl) ?_))
  | ((with_reducible refine s_pen (by with_unfolding_all exact rfl) (Or.inl rfl) ?_))
  | ((with_reducible refine s_putOwn (by with_unfolding_all exact rfl) ?_))
  | with_reducible refine s_asg ?_
  | with_reducible refine s_asgG ?_
  | with_reducible refine s_if ?_
  | with_reducible refine g_name ?_
  | with_reducible refine g_tup rfl ?_
  | with_reducible refine gs_cons ?_
  | with_reducible refine gs_nil ?_
  | with_reducible refine r_lt ?_
  | with_reducible refine r_le ?_
  | with_reducible refine r_gt ?_
  | with_reducible refine r_ge ?_
  | with_reducible refine r_add ?_
  | with_reducible refine r_sub ?_
  | with_reducible refine r_eqI ?_
  | with_reducible refine r_eqS ?_
  | with_reducible refine r_eqB ?_
  | with_reducible refine r_neI ?_
  | with_reducible refine r_neB ?_
  | with_reducible refine c_min2 ?_
  | with_reducible refine c_max2 ?_
  | with_reducible refine c_intB ?_
  | with_reducible refine c_len (Or.inl rfl) ?_
  | with_reducible refine c_len (Or.inr rfl) ?_
  | with_reducible refine c_list (Or.inl rfl) ?_
  | with_reducible refine c_list (Or.inr rfl) ?_
  | with_reducible refine c_tuple (Or.inl rfl) ?_
  | with_reducible refine c_tuple (Or.inr rfl) ?_
  | with_reducible refine r_ixT (by with_unfolding_all exact rfl) ?_
  | with_reducible refine r_ixL (by with_unfolding_all exact rfl) ?_
  | with_reducible refine r_slT ?_
  | with_reducible refine r_slL ?_
  | with_reducible refine r_isNone ?_
  | with_reducible refine ⟨_, rfl, ?_⟩
  | with_reducible refine ⟨Nat.le_of_ble_eq_true rfl, ?_⟩)
local macro_rules | `(tactic| walk_at "t") => `(tactic| first
  | walk_at "e"
  | refine r_modAny (by first | omega | decide) fun z z0 z1 => ?_
  | refine r_mul (by first | exact Or.inr ⟨by decide, by decide⟩ | exact Or.inl ⟨by decide, by decide⟩ | exact Or.inl ⟨by omega, by omega⟩) ?_
  | refine r_pow ⟨by decide, by decide, by decide⟩ ?_
  | refine r_fdivW (by first | assumption | (rename_i hw _; exact hw _) | exact wide_div (b := 200) (by decide) (by decide) (by decide) (by decide)) ?_
  | with_reducible refine ⟨by omega, ?_⟩)
local macro_rules | `(tactic| walk_at "k") => `(tactic| first
  | walk_at "e"
  | with_reducible refine ⟨fun hb => absurd hb (by decide +kernel), fun _ => ?_⟩
  | with_reducible refine ⟨fun _ => ?_, fun hb => absurd hb (by decide +kernel)⟩
  | refine ⟨fun hb => absurd hb Bool.false_ne_true, fun _ => ?_⟩
  | refine ⟨fun _ => ?_, fun hb => absurd hb.symm Bool.false_ne_true⟩)
local macro_rules | `(tactic| walk_at "d") => `(tactic| first
  | walk_at "k"
  | refine And.intro (show WfTake _ from ⟨by omega, by omega⟩) (take_all fun k hk => ?_))
local macro_rules | `(tactic| walk_at "o") => `(tactic| first
  | with_reducible refine s_ownList ?_
  | walk_at "d"
  | with_reducible refine ⟨_, Or.inl rfl, ?_⟩)

section
variable {P : Program} {w : World} {K : PySem.W.Frag} {mg : Str → Option Value} {base : Heap}
theorem row_get {x : Prog} {a : Nat} (h : a < x.rows.length) : atI (x.rows.map Row.D) (a : Int) = some (rowAt x a).D := by
  refine atI_nat ?_
  unfold rowAt
  rw [List.getElem?_map, List.getElem?_eq_getElem h, List.getD_eq_getElem?_getD, List.getElem?_eq_getElem h]
  rfl
theorem lay_nats : ∀ l : List Nat, PyData.canLayAll0 (natsD l) = true
  | [] => rfl
  | a :: r => by
    show PyData.canLayAll0 (natD a :: natsD r) = true
    rw [PyData.canLayAll0, lay_nats r]
    rfl
theorem depth_nats : ∀ l : List Nat, PyData.depthAll (natsD l) = 0
  | [] => rfl
  | a :: r => by
    show PyData.depthAll (natD a :: natsD r) = 0
    rw [PyData.depthAll, depth_nats r]
    rfl
theorem shaped_nats (l : List Nat) : SeqAt.shaped (.list (natsD l)) = true := by
  unfold SeqAt.shaped
  rw [PyData.canLay0, lay_nats, PyData.depth, depth_nats]
  rfl
theorem rise_cut (p q : Nat) : cutD [PyData.int (if (q : Int) < p then (q : Int) else p), .int (if (q : Int) > p then (q : Int) else p)] (some (if decide ((p : Int) = q) = true then (1 : Int) else 0)) none = natsD (rise p q) := by
  unfold rise
  by_cases h : p = q
  · subst h
    have e1 : (if decide ((p : Int) = p) = true then (1 : Int) else 0) = 1 := if_pos (decide_eq_true rfl)
    rw [e1, if_neg (show ¬ (p : Int) < p by omega), if_pos rfl]
    rfl
  · have e1 : (if decide ((p : Int) = q) = true then (1 : Int) else 0) = 0 := if_neg (by rw [decide_eq_true_eq]; omega)
    rw [e1, if_neg h]
    show [PyData.int (if (q : Int) < p then (q : Int) else p), .int (if (q : Int) > p then (q : Int) else p)] = [.int ((min p q : Nat) : Int), .int ((max p q : Nat) : Int)]
    rcases Nat.le_total p q with h2 | h2
    · rw [if_neg (show ¬ (q : Int) < p by omega), if_pos (show (q : Int) > p by omega), Nat.min_eq_left h2, Nat.max_eq_right h2]
    · rw [if_pos (show (q : Int) < p by omega), if_neg (show ¬ (q : Int) > p by omega), Nat.min_eq_right h2, Nat.max_eq_left h2]
set_option maxHeartbeats 4000000 in
theorem ok_law_tick (T : Tx K mg) : FnOk P w K mg base CX0 1 T.f_law_tick T.d_law_tick ["program", "stand", "letters"] (SpX (α := tickA) K tickW tickE (fun x d => d = (tickF x.1 x.2.1 x.2.2).D)) := by
  refine fnX T.F_law_tick sc_law_tick (fun _ _ => rfl) (fun cdv A outer s H E hr => ⟨_, (pss_cons (ps_asg (pv 0) (kx_pgT K (n := 3) rfl rfl (pgs_cons (pg_name (i := 3) sc_law_tick.nd rfl (.inl rfl)) (pgs_cons (pg_name (i := 4) sc_law_tick.nd rfl (.inl rfl)) (pgs_cons (pg_name (i := 5) sc_law_tick.nd rfl (.inl rfl)) pgs_nil)))))
      (pss_cons (ps_asg (pv 1) (kx_pgT K (n := 2) rfl rfl (pgs_cons (pg_name (i := 6) sc_law_tick.nd rfl (.inl rfl)) (pgs_cons (pg_name (i := 7) sc_law_tick.nd rfl (.inl rfl)) pgs_nil))))
      (pss_cons (ps_if (PW.pt (pw_or (pt_cmpR op_ge (pv 6) (pe_callB (kx_len K rfl) (by rfl) T.m_len PySem.boot_len (pa_cons (pv 5) pa_nil)) (nomark _)) (pw_or1 (pt_cmpR op_eq (pe_ix (kx_ixT K rfl) (pe_ix (kx_ixT K rfl) (pv 5) (pv 6) (fun _ _ => rfl)) pe_int (fun _ _ => rfl)) pe_str (nomark _)))))
      (pss_one (ps_ret (pe_tup (pa_cons (pv 1) (pa_cons pe_str (pa_cons pe_non (pa_cons (pe_tup pa_nil) (pa_cons (pe_tup pa_nil) pa_nil))))))))
      pss_nil)
      (pss_cons (ps_set (i := 8) sc_law_tick.nd rfl (.inl rfl) (pe_ix (kx_ixT K rfl) (pv 5) (pv 6) (fun _ _ => rfl)))
      (pss_cons (ps_set (i := 9) sc_law_tick.nd rfl (.inl rfl) (pe_ix (kx_ixT K rfl) (pv 8) pe_int (fun _ _ => rfl)))
      (pss_cons (ps_set (i := 10) sc_law_tick.nd rfl (.inl rfl) (pe_callTy (kx_list K rfl) (by rfl) T.m_list (by decide +kernel) (pa_cons (pv 7) pa_nil)))
      (pss_cons (ps_set (i := 11) sc_law_tick.nd rfl (.inl rfl) pe_str)
      (pss_cons (ps_set (i := 12) sc_law_tick.nd rfl (.inl rfl) pe_non)
      (pss_cons (ps_set (i := 13) sc_law_tick.nd rfl (.inl rfl) (pe_tup pa_nil))
      (pss_cons (ps_set (i := 14) sc_law_tick.nd rfl (.inl rfl) (pe_tup (pa_cons (pv 9) pa_nil)))
      (pss_cons (ps_set (i := 6) sc_law_tick.nd rfl (.inl rfl) (pe_op op_add (pv 6) pe_int))
      (pss_cons (ps_if (pt_cmpR op_eq (pe_ix (kx_ixT K rfl) (pv 8) pe_int (fun _ _ => rfl)) pe_str (nomark _))
      (pss_one (ps_asg (pe_ix (kx_ixT K rfl) (pv 8) pe_int (fun _ _ => rfl)) (pg_sub (pv 10) (pv 9) set_list)))
      (pss_one (ps_if (pt_cmpR op_eq (pe_ix (kx_ixT K rfl) (pv 8) pe_int (fun _ _ => rfl)) pe_str (nomark _))
      (pss_cons (ps_asg (pe_op op_mod (pe_op op_add (pe_ix (kx_ixT K rfl) (pv 7) (pv 9) (fun _ _ => rfl)) (pe_ix (kx_ixT K rfl) (pv 7) (pe_ix (kx_ixT K rfl) (pv 8) pe_int (fun _ _ => rfl)) (fun _ _ => rfl))) (pv 4)) (pg_sub (pv 10) (pv 9) set_list))
      (pss_one (ps_set (i := 13) sc_law_tick.nd rfl (.inl rfl) (pe_slice (kx_slT K rfl) (pe_tup (pa_cons (pe_callB (call_min2 rfl) (by rfl) T.m_min (by decide +kernel) (pa_cons (pv 9) (pa_cons (pe_ix (kx_ixT K rfl) (pv 8) pe_int (fun _ _ => rfl)) pa_nil))) (pa_cons (pe_callB (call_max2 rfl) (by rfl) T.m_max (by decide +kernel) (pa_cons (pv 9) (pa_cons (pe_ix (kx_ixT K rfl) (pv 8) pe_int (fun _ _ => rfl)) pa_nil))) pa_nil))) (po_some (pe_callTy call_int1 (by rfl) T.m_int (by decide +kernel) (pa_cons (pe_cmpR op_eq (pv 9) (pe_ix (kx_ixT K rfl) (pv 8) pe_int (fun _ _ => rfl)) (nomark _)) pa_nil))) po_none))))
      (pss_one (ps_if (pt_cmpR op_eq (pe_ix (kx_ixT K rfl) (pv 8) pe_int (fun _ _ => rfl)) pe_str (nomark _))
      (pss_cons (ps_if (pt_cmpR (kx_eqD K rfl hr.units) (pv 2) (pe_lst pa_nil) (nomark _))
      (pss_one (ps_ret (pe_tup (pa_cons (pv 1) (pa_cons pe_str (pa_cons pe_non (pa_cons (pe_tup pa_nil) (pa_cons (pe_tup pa_nil) pa_nil))))))))
      pss_nil)
      (pss_cons (ps_set (i := 11) sc_law_tick.nd rfl (.inl rfl) pe_str)
      (pss_cons (ps_set (i := 12) sc_law_tick.nd rfl (.inl rfl) (pe_ix (kx_ixL K rfl) (pv 2) pe_int (fun _ _ => rfl)))
      (pss_one (ps_asg (pv 12) (pg_sub (pv 10) (pv 9) set_list))))))
      (pss_cons (ps_set (i := 13) sc_law_tick.nd rfl (.inl rfl) (pe_tup (pa_cons (pv 9) pa_nil)))
      (pss_cons (ps_set (i := 14) sc_law_tick.nd rfl (.inl rfl) (pe_tup pa_nil))
      (pss_one (ps_if (pt_cmpR op_eq (pe_ix (kx_ixT K rfl) (pv 8) pe_int (fun _ _ => rfl)) pe_str (nomark _))
      (pss_cons (ps_set (i := 11) sc_law_tick.nd rfl (.inl rfl) pe_str)
      (pss_one (ps_set (i := 12) sc_law_tick.nd rfl (.inl rfl) (pe_ix (kx_ixT K rfl) (pv 7) (pv 9) (fun _ _ => rfl)))))
      (pss_one (ps_if (pt_cmpR op_eq (pe_ix (kx_ixT K rfl) (pv 7) (pv 9) (fun _ _ => rfl)) pe_int (nomark _))
      (pss_one (ps_set (i := 6) sc_law_tick.nd rfl (.inl rfl) (pe_ix (kx_ixT K rfl) (pv 8) pe_int (fun _ _ => rfl))))
      pss_nil)))))))))))
      (pss_one (ps_ret (pe_tup (pa_cons (pe_tup (pa_cons (pv 6) (pa_cons (pe_callTy (kx_tuple K rfl) (by rfl) T.m_tuple (by decide +kernel) (pa_cons (pv 10) pa_nil)) pa_nil))) (pa_cons (pv 11) (pa_cons (pv 12) (pa_cons (pv 13) (pa_cons (pv 14) pa_nil)))))))))))))))))))), fun x hx => ?_⟩)
  obtain ⟨x, s, ls⟩ := x
  obtain ⟨hx, hs⟩ := hx
  dsimp only at hx hs
  try simp only [nox_K, blk_K, cx_K]
  have hr := row_ok hx s.at_
  have hl : s.sh.length ≤ 100 := by have := hs.s1; have := hx.n2; omega
  have hsl := hs.s1
  have hw := hx.w1
  unfold tickF
  dsimp only [tickE]
  show S K none H _ [some (.d _), some (.d _), some (.d _), none, none, none, none, none, none, none, none, none, none, none, none] _
  repeat walk_at "o"
  rw [List.length_map]
  by_cases hlt : s.at_ < x.rows.length
  · refine ⟨fun hb => absurd (of_decide_eq_true hb) (by omega), fun _ => ?_⟩
    have eg := row_get hlt
    repeat walk_at "o"
    refine r_ixT eg ?_
    have nl := natsD_len s.sh
    cases e : rowAt x s.at_ with
    | set p v =>
      rw [e] at hr eg
      dsimp only [Row.D, Row.Ok] at hr eg ⊢
      repeat walk_at "o"
      refine r_ixT eg ?_
      repeat walk_at "o"
      refine ⟨by omega, ?_⟩
      rw [natsD_set]
      repeat walk_at "o"
      rfl
    | add p q =>
      rw [e] at hr eg
      dsimp only [Row.D, Row.Ok] at hr eg ⊢
      repeat walk_at "o"
      refine r_ixT eg ?_
      repeat walk_at "o"
      refine r_ixT (natsD_at (p := p) (by omega)) ?_
      repeat walk_at "o"
      refine r_ixT (natsD_at (p := q) (by omega)) ?_
      repeat walk_at "o"
      refine r_mod (by omega) ?_
      repeat walk_at "o"
      refine ⟨by omega, ?_⟩
      rw [show PyData.int ((((s.sh.getD p 0 : Nat) : Int) + ((s.sh.getD q 0 : Nat) : Int)) % (x.w : Int)) = natD ((s.sh.getD p 0 + s.sh.getD q 0) % x.w) from rfl, natsD_set]
      repeat walk_at "o"
      rw [rise_cut]
      repeat walk_at "o"
      rfl
    | jump p k =>
      rw [e] at hr eg
      dsimp only [Row.D, Row.Ok] at hr eg ⊢
      repeat walk_at "o"
      refine r_ixT eg ?_
      repeat walk_at "o"
      refine r_ixT (natsD_at (p := p) (by omega)) ?_
      repeat walk_at "o"
      by_cases h0 : s.sh.getD p 0 = 0
      · rw [if_pos h0]
        refine ⟨fun _ => ?_, fun hb => absurd (of_decide_eq_false hb) (by omega)⟩
        repeat walk_at "o"
        rfl
      · rw [if_neg h0]
        refine ⟨fun hb => absurd (of_decide_eq_true hb) (by omega), fun _ => ?_⟩
        repeat walk_at "o"
        rfl
    | say p =>
      rw [e] at hr eg
      dsimp only [Row.D, Row.Ok] at hr eg ⊢
      repeat walk_at "o"
      refine r_ixT eg ?_
      repeat walk_at "o"
      refine r_ixT (natsD_at (p := p) (by omega)) ?_
      repeat walk_at "o"
      rfl
    | take p =>
      rw [e] at hr eg
      dsimp only [Row.D, Row.Ok] at hr eg ⊢
      repeat walk_at "o"
      refine r_ixT eg ?_
      repeat walk_at "o"
      cases ls with
      | nil =>
        refine r_eqD rfl rfl ?_
        repeat walk_at "o"
        rfl
      | cons l r =>
        refine r_eqD (shaped_nats _) rfl ?_
        repeat walk_at "o"
        refine r_ixL (natsD_at (l := l :: r) (p := 0) (Nat.succ_pos _)) ?_
        repeat walk_at "o"
        refine ⟨by omega, ?_⟩
        rw [show PyData.int (((l :: r).getD 0 0 : Nat) : Int) = natD l from rfl, natsD_set]
        repeat walk_at "o"
        rfl
    | fin =>
      rw [e] at eg
      dsimp only [Row.D] at eg ⊢
      repeat walk_at "o"
      rfl
  · have e : rowAt x s.at_ = .fin := by
      unfold rowAt
      rw [List.getD_eq_getElem?_getD, List.getElem?_eq_none (by omega)]
      rfl
    rw [e]
    refine ⟨fun _ => ?_, fun hb => absurd (of_decide_eq_false hb) (by omega)⟩
    repeat walk_at "o"
    rfl
end
end K3
set_option Elab.async false
set_option linter.all false
set_option maxRecDepth 100000
namespace K3
open PySem PySem.Spec PyProof.Rows L2 Dl Wm
local macro_rules | `(tactic| walk_at "e") => `(tactic| first
  | ((with_reducible refine e_var (by with_unfolding_all exact rfl) ?_))
  | with_reducible refine e_int ?_
  | with_reducible refine e_str ?_
  | with_reducible refine e_bl ?_
  | with_reducible refine e_non ?_
  | ((with_reducible refine e_pen (by with_unfolding_all exact rfl) (Or.inr rfl) ?_); intro z hz)
  | ((with_reducible refine e_pen (by with_unfolding_all exact rfl) (Or.inl rfl) ?_); intro z hz)
  | ((with_reducible refine e_penIx (by with_unfolding_all exact rfl) ?_))
  | with_reducible refine e_op ?_
  | with_reducible refine e_tup ?_
  | with_reducible refine e_lst ?_
  | with_reducible refine ea_cons ?_
  | with_reducible refine ea_nil ?_
  | ((with_reducible refine e_penLen (by with_unfolding_all exact rfl) ?_))
  | ((with_reducible refine e_lenOwn (by with_unfolding_all exact rfl) ?_))
  | ((with_reducible refine e_tupOwn (by with_unfolding_all exact rfl) ?_))
  | with_reducible refine e_isI ?_
  | with_reducible refine e_isB ?_
  | with_reducible refine e_isS ?_
  | with_reducible refine e_isTu ?_
  | with_reducible refine e_isL ?_
  | with_reducible refine e_cb ?_
  | with_reducible refine e_sl ?_
  | with_reducible refine eo_none ?_
  | with_reducible refine eo_some ?_
  | with_reducible refine et_test ?_
  | with_reducible refine et_B ?_
  | with_reducible refine et_and ?_
  | with_reducible refine et_or ?_
  | with_reducible refine et_not ?_
  | with_reducible refine et_yes ?_
  | with_reducible refine e_andV ?_
  | with_reducible refine e_orV ?_
  | with_reducible refine e_notV ?_
  | with_reducible refine e_if ?_
  | with_reducible refine e_chain ?_
  | with_reducible refine e_callX ?_
  | ((with_reducible refine e_callXP (by with_unfolding_all exact rfl) ?_))
  | ((with_reducible refine s_seq ?_); (try dsimp only [List.set]))
  | with_reducible refine s_next ?_
  | with_reducible refine s_ret ?_
  | ((with_reducible refine s_pen (by with_unfolding_all exact rfl) (Or.inr rfl) ?_))
  | ((with_reducible refine s_pen (by with_unfolding_all exact rfl) (Or.inl rfl) ?_))
  | ((with_reducible refine s_putOwn (by with_unfolding_all exact rfl) ?_))
  | with_reducible refine s_asg ?_
  | with_reducible refine s_asgG ?_
  | with_reducible refine s_if ?_
  | with_reducible refine g_name ?_
  | with_reducible refine g_tup rfl ?_
  | with_reducible refine gs_cons ?_
  | with_reducible refine gs_nil ?_
  | with_reducible refine r_lt ?_
  | with_reducible refine r_le ?_
  | with_reducible refine r_gt ?_
  | with_reducible refine r_ge ?_
  | with_reducible refine r_add ?_
  | with_reducible refine r_sub ?_
  | with_reducible refine r_eqI ?_
  | with_reducible refine r_eqS ?_
  | with_reducible refine r_eqB ?_
  | with_reducible refine r_neI ?_
  | with_reducible refine r_neB ?_
  | with_reducible refine c_min2 ?_
  | with_reducible refine c_max2 ?_
  | with_reducible refine c_intB ?_
  | with_reducible refine c_len (Or.inl rfl) ?_
  | with_reducible refine c_len (Or.inr rfl) ?_
  | with_reducible refine c_list (Or.inl rfl) ?_
  | with_reducible refine c_list (Or.inr rfl) ?_
  | with_reducible refine c_tuple (Or.inl rfl) ?_
  | with_reducible refine c_tuple (Or.inr rfl) ?_
  | with_reducible refine r_ixT (by with_unfolding_all exact rfl) ?_
  | with_reducible refine r_ixL (by with_unfolding_all exact rfl) ?_
  | with_reducible refine r_slT ?_
  | with_reducible refine r_slL ?_
  | with_reducible refine r_isNone ?_
  | with_reducible refine ⟨_, rfl, ?_⟩
  | with_reducible refine ⟨Nat.le_of_ble_eq_true rfl, ?_⟩)
local macro_rules | `(tactic| walk_at "t") => `(tactic| first
  | walk_at "e"
  | refine r_modAny (by first | omega | decide) fun z z0 z1 => ?_
  | refine r_mul (by first | exact Or.inr ⟨by decide, by decide⟩ | exact Or.inl ⟨by decide, by decide⟩ | exact Or.inl ⟨by omega, by omega⟩) ?_
  | refine r_pow ⟨by decide, by decide, by decide⟩ ?_
  | refine r_fdivW (by first | assumption | (rename_i hw _; exact hw _) | exact wide_div (b := 200) (by decide) (by decide) (by decide) (by decide)) ?_
  | with_reducible refine ⟨by omega, ?_⟩)
local macro_rules | `(tactic| walk_at "k") => `(tactic| first
  | walk_at "e"
  | with_reducible refine ⟨fun hb => absurd hb (by decide +kernel), fun _ => ?_⟩
  | with_reducible refine ⟨fun _ => ?_, fun hb => absurd hb (by decide +kernel)⟩
  | refine ⟨fun hb => absurd hb Bool.false_ne_true, fun _ => ?_⟩
  | refine ⟨fun _ => ?_, fun hb => absurd hb.symm Bool.false_ne_true⟩)
local macro_rules | `(tactic| walk_at "d") => `(tactic| first
  | walk_at "k"
  | refine And.intro (show WfTake _ from ⟨by omega, by omega⟩) (take_all fun k hk => ?_))
local macro_rules | `(tactic| walk_at "o") => `(tactic| first
  | with_reducible refine s_ownList ?_
  | walk_at "d"
  | with_reducible refine ⟨_, Or.inl rfl, ?_⟩)

section
variable {P : Program} {w : World} {K : PySem.W.Frag} {mg : Str → Option Value} {base : Heap}
/-- one level more -/
def Up (W : PyData → Prop) : PyData → Prop
  | .tuple ds => ds.length ≤ 1000 ∧ ∀ d ∈ ds, W d
  | .list ds => ds.length ≤ 1000 ∧ ∀ d ∈ ds, W d
  | .dict _ => False
  | _ => True
abbrev spSame (K : PySem.W.Frag) (W : PyData → Prop) : Sp := SpX (α := PyData) K W (fun a => [a, a]) (fun _ d => d = .bool true)
theorem all_true : ∀ n : Nat, (List.replicate n true).any (!·) = false
  | 0 => rfl
  | n + 1 => by
    rw [List.replicate_succ, List.any_cons, all_true n]
    rfl
set_option maxHeartbeats 4000000 in
theorem ok_same_up (T : Tx K mg) {k : Nat} {W : PyData → Prop} (IH : FnOk P w K mg base CX0 k T.f_law_same T.d_law_same ["found", "due"] (spSame K W)) : FnOk P w K mg base CX0 (k + 1) T.f_law_same T.d_law_same ["found", "due"] (spSame K (Up W)) := by
  refine fnX T.F_law_same sc_law_same (fun _ _ => rfl) (fun cdv A outer s H E hr => ⟨_, (pss_cons (ps_if (pt_cmpR op_isN (pv 1) pe_non (nomark _))
      (pss_one (ps_ret (pe_cmpR op_isN (pv 0) pe_non (nomark _))))
      pss_nil)
      (pss_cons (ps_if (pt_val (pe_callB (kx_isi K rfl) (by rfl) T.m_isinstance (by decide +kernel) (pa_cons (pv 1) (pa_cons (pe_bltn (v := .ty "str") (by rfl) T.m_str (by decide +kernel) rfl) pa_nil))))
      (pss_one (ps_ret (pe_and (pe_callB (kx_isi K rfl) (by rfl) T.m_isinstance (by decide +kernel) (pa_cons (pv 0) (pa_cons (pe_bltn (v := .ty "str") (by rfl) T.m_str (by decide +kernel) rfl) pa_nil))) (pe_one (pe_cmpR op_eq (pv 0) (pv 1) (nomark _))))))
      pss_nil)
      (pss_cons (ps_if (pt_val (pe_callB (kx_isi K rfl) (by rfl) T.m_isinstance (by decide +kernel) (pa_cons (pv 1) (pa_cons (pe_bltn (v := .ty "int") (by rfl) T.m_int (by decide +kernel) rfl) pa_nil))))
      (pss_one (ps_ret (pe_and (pe_callB (kx_isi K rfl) (by rfl) T.m_isinstance (by decide +kernel) (pa_cons (pv 0) (pa_cons (pe_bltn (v := .ty "int") (by rfl) T.m_int (by decide +kernel) rfl) pa_nil))) (pe_and (pe_cmpR op_eq (pe_callB (kx_isi K rfl) (by rfl) T.m_isinstance (by decide +kernel) (pa_cons (pv 0) (pa_cons (pe_bltn (v := .ty "bool") (by rfl) T.m_bool (by decide +kernel) rfl) pa_nil))) (pe_callB (kx_isi K rfl) (by rfl) T.m_isinstance (by decide +kernel) (pa_cons (pv 1) (pa_cons (pe_bltn (v := .ty "bool") (by rfl) T.m_bool (by decide +kernel) rfl) pa_nil))) (nomark _)) (pe_one (pe_cmpR op_eq (pv 0) (pv 1) (nomark _)))))))
      pss_nil)
      (pss_cons (ps_if (pt_cmpR op_ne (pe_callB (kx_isi K rfl) (by rfl) T.m_isinstance (by decide +kernel) (pa_cons (pv 1) (pa_cons (pe_bltn (v := .ty "tuple") (by rfl) T.m_tuple (by decide +kernel) rfl) pa_nil))) (pe_callB (kx_isi K rfl) (by rfl) T.m_isinstance (by decide +kernel) (pa_cons (pv 0) (pa_cons (pe_bltn (v := .ty "tuple") (by rfl) T.m_tuple (by decide +kernel) rfl) pa_nil))) (nomark _))
      (pss_one (ps_ret pe_bl))
      pss_nil)
      (pss_cons (ps_if (pt_cmpR op_ne (pe_callB (kx_isi K rfl) (by rfl) T.m_isinstance (by decide +kernel) (pa_cons (pv 1) (pa_cons (pe_bltn (v := .ty "list") (by rfl) T.m_list (by decide +kernel) rfl) pa_nil))) (pe_callB (kx_isi K rfl) (by rfl) T.m_isinstance (by decide +kernel) (pa_cons (pv 0) (pa_cons (pe_bltn (v := .ty "list") (by rfl) T.m_list (by decide +kernel) rfl) pa_nil))) (nomark _))
      (pss_one (ps_ret pe_bl))
      pss_nil)
      (pss_cons (ps_if (pt_cmpR op_ne (pe_callB (kx_len K rfl) (by rfl) T.m_len PySem.boot_len (pa_cons (pv 0) pa_nil)) (pe_callB (kx_len K rfl) (by rfl) T.m_len PySem.boot_len (pa_cons (pv 1) pa_nil)) (nomark _))
      (pss_one (ps_ret pe_bl))
      pss_nil)
      (pss_one (ps_ret (pe_cmpR (kx_notIn K rfl) pe_bl (pe_lc (own := [("one", 2), ("other", 3)]) (tt := tYes) rfl sc_law_same.nd (kx_zip K rfl rfl T.m_zip (pa_cons (pv 0) (pa_cons (pv 1) pa_nil))) (blkOk_by (own := [("one", 2), ("other", 3)]) (N := ["found", "due", "one", "other"]) (sc := defScope s_law_same) (by decide +kernel)) (fun _ _ _ _ _ => (kx_pgT K (n := 2) rfl rfl (pgs_cons (pg_name (i := 2) sc_law_same.nd rfl (.inl rfl)) (pgs_cons (pg_name (i := 3) sc_law_same.nd rfl (.inl rfl)) pgs_nil)))) (fun _ _ _ _ _ => pts_nil) (fun _ _ _ _ _ => (pe_call (IH) hr (by rfl) T.g_law_same T.F_law_same.kp T.b_law_same .nil pass0 (pa_cons (pv 2) (pa_cons (pv 3) pa_nil))))) (by rfl)))))))))), fun x hx => ?_⟩)
  try simp only [nox_K, blk_K, cx_K]
  show S K none H _ [some (.d _), some (.d _), none, none] _
  cases x with
  | dict _ => exact hx.elim
  | none =>
    repeat walk_at "k"
    rfl
  | bool b =>
    repeat walk_at "k"
    show PyData.bool (decide (b = b)) = .bool true
    rw [decide_eq_true rfl]
  | int b =>
    repeat walk_at "k"
    show PyData.bool (decide (b = b)) = .bool true
    rw [decide_eq_true rfl]
  | str b =>
    repeat walk_at "k"
    show PyData.bool (decide (b = b)) = .bool true
    rw [decide_eq_true rfl]
  | list ds =>
    obtain ⟨h1, h2⟩ := hx
    repeat walk_at "k"
    refine ⟨fun hb => absurd hb (by rw [decide_eq_true rfl]; decide), fun _ => ?_⟩
    refine s_next (s_ret (e_op (e_bl ?_)))
    refine e_lcZ (j := 2) (k := 3) (ea_cons (e_var rfl (ea_cons (e_var rfl (ea_nil ?_)))))
    refine ⟨ds, ds, .inr rfl, rfl, by omega, fun i acc => acc = (List.replicate i true).map PyData.bool, rfl, fun i x y acc hx hy ha => ?_, fun acc ha => ?_⟩
    · have e : y = x := Option.some.inj (hy.symm.trans hx)
      subst e
      repeat walk_at "k"
      refine ⟨h2 y (List.mem_of_getElem? hx), ?_⟩
      rintro d rfl
      rw [ha, List.replicate_succ', List.map_append]
      rfl
    · subst ha
      refine r_notIn ?_
      rw [all_true]
      rfl
  | tuple ds =>
    obtain ⟨h1, h2⟩ := hx
    repeat walk_at "k"
    refine ⟨fun hb => absurd hb (by rw [decide_eq_true rfl]; decide), fun _ => ?_⟩
    refine s_next (s_ret (e_op (e_bl ?_)))
    refine e_lcZ (j := 2) (k := 3) (ea_cons (e_var rfl (ea_cons (e_var rfl (ea_nil ?_)))))
    refine ⟨ds, ds, .inl rfl, rfl, by omega, fun i acc => acc = (List.replicate i true).map PyData.bool, rfl, fun i x y acc hx hy ha => ?_, fun acc ha => ?_⟩
    · have e : y = x := Option.some.inj (hy.symm.trans hx)
      subst e
      repeat walk_at "k"
      refine ⟨h2 y (List.mem_of_getElem? hx), ?_⟩
      rintro d rfl
      rw [ha, List.replicate_succ', List.map_append]
      rfl
    · subst ha
      refine r_notIn ?_
      rw [all_true]
      rfl
theorem ok_law_same (T : Tx K mg) : FnOk P w K mg base CX0 4 T.f_law_same T.d_law_same ["found", "due"] (spSame K (Up (Up (Up (Up fun _ => False))))) := ok_same_up T (ok_same_up T (ok_same_up T (ok_same_up T fn_never)))
theorem ok_law_pen (T : Tx K mg) : FnOk P w K mg base CX0 1 T.f_law_pen T.d_law_pen ["script"] (spPen K) := by
  refine T.F_law_pen.ok sc_law_pen (fun vs H Q E h => ?_) (fun cdv A outer s H vs Q E hr h => ?_)
  · obtain ⟨a, ns, rfl, _⟩ := h
    rfl
  · obtain ⟨a, ns, rfl, hS, q⟩ := h
    obtain ⟨ms, hms⟩ := cut_ints ns none (some 63)
    refine ⟨_, (pss_one (ps_ret (pe_lst (pa_cons (pe_callTy (kx_list K rfl) (by rfl) T.m_list (by decide +kernel) (pa_cons (pe_slice (kx_slL K rfl) (pv 0) po_none (po_some pe_int)) pa_nil)) (pa_cons pe_int (pa_cons pe_int pa_nil)))))), ?_⟩
    refine ⟨.ref a, rfl, 63, rfl, a, _, rfl, hS, fun l hl => ⟨l, _, rfl, .inl (.inl (.inl upd_same)), fun c hc => ⟨by show 3 ≤ sizeLine; decide, fun p hp => ?_⟩⟩⟩
    refine q p c ms _ upd_same ?_
    rw [upd_ne (fun z => by rw [z, upd_same] at hp; cases hp), upd_same, hms]
theorem told_flat (x : Prog) (s : Stand) (ls : List Nat) (hs : s.sh.length ≤ 100) : Up (Up (Up (Up fun _ => False))) (tickF x s ls).D := by
  have nats : ∀ (l : List Nat), l.length ≤ 100 → Up (Up (Up fun _ => False)) (.tuple (natsD l)) := fun l hl => by
    refine ⟨by rw [natsD_len]; omega, fun d hd => ?_⟩
    obtain ⟨v, _, rfl⟩ := List.mem_map.mp hd
    trivial
  have nats2 : ∀ (l : List Nat), l.length ≤ 100 → Up (Up fun _ => False) (.tuple (natsD l)) := fun l hl => by
    refine ⟨by rw [natsD_len]; omega, fun d hd => ?_⟩
    obtain ⟨v, _, rfl⟩ := List.mem_map.mp hd
    trivial
  have stand : ∀ s : Stand, s.sh.length ≤ 100 → Up (Up (Up fun _ => False)) s.D := fun s hs => by
    refine ⟨Nat.le_of_ble_eq_true rfl, fun d hd => ?_⟩
    rcases List.mem_cons.mp hd with rfl | hd
    · trivial
    rcases List.mem_cons.mp hd with rfl | hd
    · exact nats2 _ hs
    · cases hd
  have told : ∀ t : Told, t.st.sh.length ≤ 100 → t.reads.length ≤ 100 → t.writes.length ≤ 100 → Up (Up (Up (Up fun _ => False))) t.D := fun t h1 h2 h3 => by
    refine ⟨Nat.le_of_ble_eq_true rfl, fun d hd => ?_⟩
    rcases List.mem_cons.mp hd with rfl | hd
    · exact stand _ h1
    rcases List.mem_cons.mp hd with rfl | hd
    · trivial
    rcases List.mem_cons.mp hd with rfl | hd
    · cases t.num <;> trivial
    rcases List.mem_cons.mp hd with rfl | hd
    · exact nats _ h2
    rcases List.mem_cons.mp hd with rfl | hd
    · exact nats _ h3
    · cases hd
  have rl : ∀ p q, (rise p q).length ≤ 100 := fun p q => by
    unfold rise
    split <;> exact Nat.le_of_ble_eq_true rfl
  unfold tickF
  split
  · exact told _ (by rw [List.length_set]; exact hs) (Nat.le_of_ble_eq_true rfl) (Nat.le_of_ble_eq_true rfl)
  · exact told _ (by rw [List.length_set]; exact hs) (rl _ _) (Nat.le_of_ble_eq_true rfl)
  · exact told _ hs (Nat.le_of_ble_eq_true rfl) (Nat.le_of_ble_eq_true rfl)
  · exact told _ hs (Nat.le_of_ble_eq_true rfl) (Nat.le_of_ble_eq_true rfl)
  · split
    · exact told _ hs (Nat.le_of_ble_eq_true rfl) (Nat.le_of_ble_eq_true rfl)
    · exact told _ (by rw [List.length_set]; exact hs) (Nat.le_of_ble_eq_true rfl) (Nat.le_of_ble_eq_true rfl)
  · exact told _ hs (Nat.le_of_ble_eq_true rfl) (Nat.le_of_ble_eq_true rfl)
end
end K3
set_option Elab.async false
set_option linter.all false
set_option maxRecDepth 100000
namespace K3
open PySem PySem.Spec PyProof.Rows L2 Dl Wm
local macro_rules | `(tactic| walk_at "e") => `(tactic| first
  | ((with_reducible refine e_var (by with_unfolding_all exact rfl) ?_))
  | with_reducible refine e_int ?_
  | with_reducible refine e_str ?_
  | with_reducible refine e_bl ?_
  | with_reducible refine e_non ?_
  | ((with_reducible refine e_pen (by with_unfolding_all exact rfl) (Or.inr rfl) ?_); intro z hz)
  | ((with_reducible refine e_pen (by with_unfolding_all exact rfl) (Or.inl rfl) ?_); intro z hz)
  | ((with_reducible refine e_penIx (by with_unfolding_all exact rfl) ?_))
  | with_reducible refine e_op ?_
  | with_reducible refine e_tup ?_
  | with_reducible refine e_lst ?_
  | with_reducible refine ea_cons ?_
  | with_reducible refine ea_nil ?_
  | ((with_reducible refine e_penLen (by with_unfolding_all exact rfl) ?_))
  | ((with_reducible refine e_lenOwn (by with_unfolding_all exact rfl) ?_))
  | ((with_reducible refine e_tupOwn (by with_unfolding_all exact rfl) ?_))
  | with_reducible refine e_isI ?_
  | with_reducible refine e_isB ?_
  | with_reducible refine e_isS ?_
  | with_reducible refine e_isTu ?_
  | with_reducible refine e_isL ?_
  | with_reducible refine e_cb ?_
  | with_reducible refine e_sl ?_
  | with_reducible refine eo_none ?_
  | with_reducible refine eo_some ?_
  | with_reducible refine et_test ?_
  | with_reducible refine et_B ?_
  | with_reducible refine et_and ?_
  | with_reducible refine et_or ?_
  | with_reducible refine et_not ?_
  | with_reducible refine et_yes ?_
  | with_reducible refine e_andV ?_
  | with_reducible refine e_orV ?_
  | with_reducible refine e_notV ?_
  | with_reducible refine e_if ?_
  | with_reducible refine e_chain ?_
  | with_reducible refine e_callX ?_
  | ((with_reducible refine e_callXP (by with_unfolding_all exact rfl) ?_))
  | ((with_reducible refine s_seq ?_); (try dsimp only [List.set]))
  | with_reducible refine s_next ?_
  | with_reducible refine s_ret ?_
  | ((with_reducible refine s_pen (by with_unfolding_all exact rfl) (Or.inr rfl) ?_))
  | ((with_reducible refine s_pen (by with_unfolding_all exact rfl) (Or.inl rfl) ?_))
  | ((with_reducible refine s_putOwn (by with_unfolding_all exact rfl) ?_))
  | with_reducible refine s_asg ?_
  | with_reducible refine s_asgG ?_
  | with_reducible refine s_if ?_
  | with_reducible refine g_name ?_
  | with_reducible refine g_tup rfl ?_
  | with_reducible refine gs_cons ?_
  | with_reducible refine gs_nil ?_
  | with_reducible refine r_lt ?_
  | with_reducible refine r_le ?_
  | with_reducible refine r_gt ?_
  | with_reducible refine r_ge ?_
  | with_reducible refine r_add ?_
  | with_reducible refine r_sub ?_
  | with_reducible refine r_eqI ?_
  | with_reducible refine r_eqS ?_
  | with_reducible refine r_eqB ?_
  | with_reducible refine r_neI ?_
  | with_reducible refine r_neB ?_
  | with_reducible refine c_min2 ?_
  | with_reducible refine c_max2 ?_
  | with_reducible refine c_intB ?_
  | with_reducible refine c_len (Or.inl rfl) ?_
  | with_reducible refine c_len (Or.inr rfl) ?_
  | with_reducible refine c_list (Or.inl rfl) ?_
  | with_reducible refine c_list (Or.inr rfl) ?_
  | with_reducible refine c_tuple (Or.inl rfl) ?_
  | with_reducible refine c_tuple (Or.inr rfl) ?_
  | with_reducible refine r_ixT (by with_unfolding_all exact rfl) ?_
  | with_reducible refine r_ixL (by with_unfolding_all exact rfl) ?_
  | with_reducible refine r_slT ?_
  | with_reducible refine r_slL ?_
  | with_reducible refine r_isNone ?_
  | with_reducible refine ⟨_, rfl, ?_⟩
  | with_reducible refine ⟨Nat.le_of_ble_eq_true rfl, ?_⟩)
local macro_rules | `(tactic| walk_at "t") => `(tactic| first
  | walk_at "e"
  | refine r_modAny (by first | omega | decide) fun z z0 z1 => ?_
  | refine r_mul (by first | exact Or.inr ⟨by decide, by decide⟩ | exact Or.inl ⟨by decide, by decide⟩ | exact Or.inl ⟨by omega, by omega⟩) ?_
  | refine r_pow ⟨by decide, by decide, by decide⟩ ?_
  | refine r_fdivW (by first | assumption | (rename_i hw _; exact hw _) | exact wide_div (b := 200) (by decide) (by decide) (by decide) (by decide)) ?_
  | with_reducible refine ⟨by omega, ?_⟩)
local macro_rules | `(tactic| walk_at "k") => `(tactic| first
  | walk_at "e"
  | with_reducible refine ⟨fun hb => absurd hb (by decide +kernel), fun _ => ?_⟩
  | with_reducible refine ⟨fun _ => ?_, fun hb => absurd hb (by decide +kernel)⟩
  | refine ⟨fun hb => absurd hb Bool.false_ne_true, fun _ => ?_⟩
  | refine ⟨fun _ => ?_, fun hb => absurd hb.symm Bool.false_ne_true⟩)
local macro_rules | `(tactic| walk_at "d") => `(tactic| first
  | walk_at "k"
  | refine And.intro (show WfTake _ from ⟨by omega, by omega⟩) (take_all fun k hk => ?_))
local macro_rules | `(tactic| walk_at "o") => `(tactic| first
  | with_reducible refine s_ownList ?_
  | walk_at "d"
  | with_reducible refine ⟨_, Or.inl rfl, ?_⟩)

theorem set_lt {l : List Nat} {m p v : Nat} (h : ∀ x ∈ l, x < m) (hv : v < m) : ∀ x ∈ l.set p v, x < m := fun x hx => by
  rcases List.mem_or_eq_of_mem_set hx with hx | rfl
  · exact h x hx
  · exact hv
theorem tick_ok {x : Prog} {s : Stand} {ls : List Nat} (hx : x.Ok) (hs : s.Ok x) (hl : ∀ v ∈ ls, v < x.w) : (tickF x s ls).st.Ok x := by
  have hr := row_ok hx s.at_
  have hw := hx.w1
  have at1 : ∀ r, rowAt x s.at_ = r → r ≠ .fin → s.at_ + 1 ≤ x.rows.length := fun r e h => by
    by_cases hlt : s.at_ < x.rows.length
    · omega
    · exfalso
      apply h
      rw [← e]
      unfold rowAt
      rw [List.getD_eq_getElem?_getD, List.getElem?_eq_none (by omega)]
      rfl
  unfold tickF
  cases e : rowAt x s.at_ with
  | set p v =>
    rw [e] at hr
    exact ⟨at1 _ e (fun z => by cases z), by show (s.sh.set p v).length = _; rw [List.length_set]; exact hs.s1, set_lt hs.s2 hr.2⟩
  | add p q =>
    exact ⟨at1 _ e (fun z => by cases z), by show (s.sh.set p _).length = _; rw [List.length_set]; exact hs.s1, set_lt hs.s2 (Nat.mod_lt _ (by omega))⟩
  | jump p k =>
    rw [e] at hr
    refine ⟨?_, hs.s1, hs.s2⟩
    show (if s.sh.getD p 0 = 0 then k else s.at_ + 1) ≤ x.rows.length
    split
    · exact Nat.le_of_lt hr.2
    · exact at1 _ e (fun z => by cases z)
  | say p => exact ⟨at1 _ e (fun z => by cases z), hs.s1, hs.s2⟩
  | take p =>
    cases ls with
    | nil => exact hs
    | cons l r => exact ⟨at1 _ e (fun z => by cases z), by show (s.sh.set p l).length = _; rw [List.length_set]; exact hs.s1, set_lt hs.s2 (hl l (List.mem_cons_self ..))⟩
  | fin => exact hs
section
variable {P : Program} {w : World} {K : PySem.W.Frag} {mg : Str → Option Value} {base : Heap}
abbrev L0 : Lv := [none, some .pen, none, none, none, none, none, none, none, none, none, none]
abbrev L1 (x : Prog) (s : Stand) : Lv := [none, some .pen, none, some (.d x.D), some (.d s.D), none, none, none, none, none, none, none]
abbrev L2' (x : Prog) (s : Stand) (ls : List Nat) : Lv := [none, some .pen, none, some (.d x.D), some (.d s.D), none, none, some (.d (.list (natsD ls))), some (.d (.list (natsD ls))), some (.d (tickF x s ls).D), none, none]
set_option maxHeartbeats 4000000 in
theorem ok_law {f : Addr} {fd : FuncData} (F : Fun K "law" "law" s_law f fd) (T : Tx K mg) : FnOk P w K mg base CX0 5 f fd ["script"] (spLaw K) := by
  refine F.ok sc_law (fun vs H Q E h => ?_) (fun cdv A outer s H vs Q E hr h => ?_)
  · obtain ⟨a, ns, rfl, _⟩ := h
    rfl
  · obtain ⟨a, ns, rfl, hS, hlen, q⟩ := h
    refine ⟨_, (pss_cons (ps_set (i := 1) sc_law.nd rfl (.inr rfl) (pe_call (ok_law_pen T) (hr.mono (by decide)) (by rfl) T.g_law_pen T.F_law_pen.kp T.b_law_pen .nil pass0 (pa_cons (pv 0) pa_nil)))
      (pss_cons (ps_for PassesOwn.never rfl (pi_range1 rfl T.m_range (pa_cons pe_int pa_nil)) (pg_name (i := 2) sc_law.nd rfl (.inl rfl))
      (pss_cons (ps_set (i := 3) sc_law.nd rfl (.inr rfl) (pe_call (ok_law_program T) (hr.mono (by decide)) (by rfl) T.g_law_program T.F_law_program.kp T.b_law_program .nil pass0 (pa_cons (pv 1) (pa_cons pe_bl pa_nil))))
      (pss_cons (ps_set (i := 4) sc_law.nd rfl (.inl rfl) (pe_call (ok_law_stand T) (hr.mono (by decide)) (by rfl) T.g_law_stand T.F_law_stand.kp T.b_law_stand .nil pass0 (pa_cons (pv 1) (pa_cons (pv 3) pa_nil))))
      (pss_one (ps_for PassesOwn.never rfl (pi_range1 rfl T.m_range (pa_cons pe_int pa_nil)) (pg_name (i := 5) sc_law.nd rfl (.inl rfl))
      (pss_cons (ps_set (i := 6) sc_law.nd rfl (.inl rfl) (pe_call (ok_law_take T) (hr.mono (by decide)) (by rfl) T.g_law_take T.F_law_take.kp T.b_law_take .nil pass0 (pa_cons (pv 1) (pa_cons (pe_ix (kx_ixL K rfl) (pe_lst (pa_cons pe_int (pa_cons pe_int (pa_cons pe_int (pa_cons pe_int pa_nil))))) (pe_call (ok_law_take T) (hr.mono (by decide)) (by rfl) T.g_law_take T.F_law_take.kp T.b_law_take .nil pass0 (pa_cons (pv 1) (pa_cons pe_int pa_nil))) (fun _ _ => rfl)) pa_nil))))
      (pss_cons (ps_setLc (i := 7) (own := [("one", 11)]) (g := gName 11) (tt := tYes) rfl sc_law.nd rfl rfl (sw_true rfl rfl rfl (by decide +kernel)) (pi_range1 rfl T.m_range (pa_cons (pv 6) pa_nil)) (blkOk_by (own := [("one", 11)]) (N := ["script", "pen", "turn", "program", "stand", "k", "many", "letters", "handed", "due", "again", "one"]) (sc := defScope s_law) (by decide +kernel)) (fun _ _ _ _ _ => (pg_name (i := 11) sc_law.nd rfl (.inl rfl))) (fun _ _ _ _ _ => pts_nil) (fun _ _ _ _ _ => (pe_call (ok_law_take T) (hr.mono (by decide)) (by rfl) T.g_law_take T.F_law_take.kp T.b_law_take .nil pass0 (pa_cons (pv 1) (pa_cons (pe_ix (kx_ixT K rfl) (pv 3) pe_int (fun _ _ => rfl)) pa_nil)))))
      (pss_cons (ps_set (i := 8) sc_law.nd rfl (.inl rfl) (pe_callTy (kx_list K rfl) (by rfl) T.m_list (by decide +kernel) (pa_cons (pv 7) pa_nil)))
      (pss_cons (ps_set (i := 9) sc_law.nd rfl (.inl rfl) (pe_call (ok_law_tick T) (hr.mono (by decide)) (by rfl) T.g_law_tick T.F_law_tick.kp T.b_law_tick .nil pass0 (pa_cons (pv 3) (pa_cons (pv 4) (pa_cons (pv 7) pa_nil)))))
      (pss_cons (ps_for PassesOwn.never rfl (pi_range1 rfl T.m_range (pa_cons pe_int pa_nil)) (pg_name (i := 10) sc_law.nd rfl (.inl rfl))
      (pss_one (ps_if (PW.pt (pw_or (pt_not (pt_val (pe_call (ok_law_same T) (hr.mono (by decide)) (by rfl) T.g_law_same T.F_law_same.kp T.b_law_same .nil pass0 (pa_cons (pe_call (ok_tick T) (hr.mono (by decide)) (by rfl) T.g_tick T.F_tick.kp T.b_tick .nil pass0 (pa_cons (pv 3) (pa_cons (pv 4) (pa_cons (pv 8) pa_nil)))) (pa_cons (pv 9) pa_nil))))) (pw_or1 (pt_cmpR (kx_neD K rfl hr.units) (pv 8) (pv 7) (nomark _)))))
      (pss_one (ps_ret pe_bl))
      pss_nil)))
      (pss_one (ps_set (i := 4) sc_law.nd rfl (.inl rfl) (pe_ix (kx_ixT K rfl) (pv 9) pe_int (fun _ _ => rfl))))))))))))))
      (pss_one (ps_ret pe_bl)))), ?_⟩
    refine ⟨.ref a, rfl, a, ns, rfl, hS, fun p c cells H1 hp hc => ?_⟩
    dsimp only [gName]
    refine pen_start (K := K) (L := L0) hp hc rfl (fun i av hi => ?_) ?_ q
    · rcases i with _ | _ | i
      · cases hi
      · cases hi
        exact ⟨rfl, rfl⟩
      · iterate 10 (rcases i with _ | i; (· cases hi))
        cases hi
    · refine s_seq (s_forRw (ea_cons (e_int (ea_nil ⟨3, rfl, by decide, fun _ L => L = L0, ⟨L0, Sub.refl _, rfl⟩, fun i L' hi e => ?_, fun L' e L4 s4 => ?_⟩))))
      · subst e
        refine g_name ?_
        dsimp only [List.set]
        repeat walk_at "d"
        refine ⟨trivial, ?_⟩
        rintro d ⟨x, rfl, hx⟩
        have hxo := hx.ok
        have hw1 := hxo.w1
        have hw2 := hxo.w2
        repeat walk_at "d"
        refine ⟨hxo, ?_⟩
        rintro d ⟨s0, rfl, hs0⟩
        dsimp only [List.set]
        refine s_forRw (ea_cons (e_int (ea_nil ⟨12, rfl, by decide, fun _ L => ∃ s : Stand, s.Ok x ∧ L = L1 x s, ⟨L1 x s0, by repeat (first | exact Sub.nil | apply Sub.keep | apply Sub.drop), s0, hs0, rfl⟩, fun k L' hk ⟨s, hs, e⟩ => ?_, fun L' ⟨s, hs, e⟩ L4 s4 => ?_⟩)))
        · subst e
          refine g_name ?_
          dsimp only [List.set]
          repeat walk_at "d"
          rename_i k0 hk0
          have hm : ∃ m : Nat, atI [PyData.int 4, .int 4, .int 4, .int 80] (k0 : Int) = some (.int m) ∧ 1 ≤ m ∧ m ≤ 80 := by
            rcases (by omega : k0 = 0 ∨ k0 = 1 ∨ k0 = 2 ∨ k0 = 3) with rfl | rfl | rfl | rfl
            · exact ⟨4, rfl, by decide, by decide⟩
            · exact ⟨4, rfl, by decide, by decide⟩
            · exact ⟨4, rfl, by decide, by decide⟩
            · exact ⟨80, rfl, by decide, by decide⟩
          obtain ⟨m0, e0, hm1, hm2⟩ := hm
          refine r_ixL e0 ?_
          repeat walk_at "d"
          rename_i many hmany
          refine e_lcR (j := 11) (ea_cons (e_var rfl (ea_nil ?_)))
          refine ⟨many, rfl, by omega, fun i acc => ∃ ls : List Nat, acc = natsD ls ∧ ls.length = i ∧ ∀ v ∈ ls, v < x.w, ⟨[], rfl, rfl, fun r hr => (nomatch hr)⟩, fun i acc hi ⟨ls, ea, el, eo⟩ => ?_, fun acc ⟨ls, ea, el, eo⟩ => ?_⟩
          · dsimp only [List.set]
            repeat walk_at "d"
            rename_i v hv
            subst ea
            refine ⟨ls ++ [v], by unfold natsD; rw [List.map_append]; rfl, by rw [List.length_append, el]; rfl, fun r' h' => ?_⟩
            rcases List.mem_append.mp h' with h' | h'
            · exact eo r' h'
            · rw [List.mem_singleton.mp h']; omega
          · subst ea
            have hsl : s.sh.length ≤ 100 := by have := hs.s1; have := hxo.n2; omega
            repeat walk_at "d"
            refine ⟨⟨x, s, ls⟩, rfl, ⟨hxo, hs⟩, ?_⟩
            rintro d rfl
            dsimp only
            repeat walk_at "d"
            refine s_forRw (ea_cons (e_int (ea_nil ⟨2, rfl, by decide, fun _ L => L = L2' x s ls, ⟨L2' x s ls, by repeat (first | exact Sub.nil | apply Sub.keep | apply Sub.drop), rfl⟩, fun k L' hk e => ?_, fun L' e L4 s4 => ?_⟩)))
            · subst e
              refine g_name ?_
              dsimp only [List.set]
              repeat walk_at "d"
              refine ⟨⟨x, s, ls⟩, rfl, ⟨hxo, hs⟩, ?_⟩
              rintro d rfl
              dsimp only
              repeat walk_at "d"
              refine ⟨told_flat x s ls hsl, ?_⟩
              rintro d rfl
              repeat walk_at "d"
              refine r_neD (shaped_nats _) (shaped_nats _) ?_
              rw [SeqAt.eqv_refl _ (by rw [PyData.canLay0]; exact lay_nats ls)]
              repeat walk_at "d"
              exact ⟨L2' x s ls, by repeat (first | exact Sub.nil | apply Sub.keep | apply Sub.drop), rfl⟩
            · subst e
              refine S.sub ?_ s4
              repeat walk_at "d"
              dsimp only [List.set]
              exact ⟨L1 x (tickF x s ls).st, by repeat (first | exact Sub.nil | apply Sub.keep | apply Sub.drop), (tickF x s ls).st, tick_ok hxo hs eo, rfl⟩
        · exact ⟨L0, Sub.trans (by repeat (first | exact Sub.nil | apply Sub.keep | apply Sub.drop)) (e ▸ s4), rfl⟩
      · subst e
        refine S.sub ?_ s4
        repeat walk_at "d"
        rfl
end
end K3
set_option Elab.async false
set_option linter.all false
set_option maxRecDepth 100000
namespace K3
open PySem PySem.Spec PyProof.Rows L2 Dl Wm
set_option maxHeartbeats 0 in
theorem all_mk {l : PySem.W.OpenLaw} {w : World} {K : PySem.W.Frag} {h : Heap} {mg : Str → Option Value} {fa f1 f2 f3 f4 f5 f6 f7 f8 f9 f10 f11 f12 f13 f14 f15 f16 f17 f18 f19 : Addr} (X : K.In h) (G : h.Ns mainGlobals mg) (hfa : mg "law" = some (.ref fa))
    {od1 an1 od2 an2 od3 an3 od4 an4 od5 an5 od6 an6 od7 an7 od8 an8 od9 an9 od10 an10 od11 an11 od12 an12 od13 an13 od14 an14 od15 an15 od16 an16 od17 an17 od18 an18 od19 an19 : Option Addr} {sl1 sl2 sl3 sl4 sl5 sl6 sl7 sl8 sl9 sl10 sl11 sl12 sl13 sl14 sl15 sl16 sl17 sl18 sl19 : Array (Option Value)} {oc1 kV1 dc1 pm1 cd1 ct1 oc2 kV2 dc2 pm2 cd2 ct2 oc3 kV3 dc3 pm3 cd3 ct3 oc4 kV4 dc4 pm4 cd4 ct4 oc5 kV5 dc5 pm5 cd5 ct5 oc6 kV6 dc6 pm6 cd6 ct6 oc7 kV7 dc7 pm7 cd7 ct7 oc8 kV8 dc8 pm8 cd8 ct8 oc9 kV9 dc9 pm9 cd9 ct9 oc10 kV10 dc10 pm10 cd10 ct10 oc11 kV11 dc11 pm11 cd11 ct11 oc12 kV12 dc12 pm12 cd12 ct12 oc13 kV13 dc13 pm13 cd13 ct13 oc14 kV14 dc14 pm14 cd14 ct14 oc15 kV15 dc15 pm15 cd15 ct15 oc16 kV16 dc16 pm16 cd16 ct16 oc17 kV17 dc17 pm17 cd17 ct17 oc18 kV18 dc18 pm18 cd18 ct18 oc19 kV19 dc19 pm19 cd19 ct19 : Value}
    (a1 : PySem.W.nsIn K mainGlobals "row_at" = some (some (.ref f1))) (l1 : K.lookup f1 = some ⟨oc1, od1, .func (PySem.W.fnOf "row_at" "row_at" (defArgs s_row_at) (defBody s_row_at) (defScope s_row_at) .none kV1 dc1 pm1 an1 cd1 ct1), sl1⟩) (c1 : PySem.W.codeIn K cd1 "row_at" = true) (k1 : PySem.W.keepIn K (.ref f1) = true)
    (a2 : PySem.W.nsIn K mainGlobals "rising" = some (some (.ref f2))) (l2 : K.lookup f2 = some ⟨oc2, od2, .func (PySem.W.fnOf "rising" "rising" (defArgs s_rising) (defBody s_rising) (defScope s_rising) .none kV2 dc2 pm2 an2 cd2 ct2), sl2⟩) (c2 : PySem.W.codeIn K cd2 "rising" = true) (k2 : PySem.W.keepIn K (.ref f2) = true)
    (a3 : PySem.W.nsIn K mainGlobals "stand_behind_writing" = some (some (.ref f3))) (l3 : K.lookup f3 = some ⟨oc3, od3, .func (PySem.W.fnOf "stand_behind_writing" "stand_behind_writing" (defArgs s_stand_behind_writing) (defBody s_stand_behind_writing) (defScope s_stand_behind_writing) .none kV3 dc3 pm3 an3 cd3 ct3), sl3⟩) (c3 : PySem.W.codeIn K cd3 "stand_behind_writing" = true) (k3 : PySem.W.keepIn K (.ref f3) = true)
    (a4 : PySem.W.nsIn K mainGlobals "nothing_done" = some (some (.ref f4))) (l4 : K.lookup f4 = some ⟨oc4, od4, .func (PySem.W.fnOf "nothing_done" "nothing_done" (defArgs s_nothing_done) (defBody s_nothing_done) (defScope s_nothing_done) .none kV4 dc4 pm4 an4 cd4 ct4), sl4⟩) (c4 : PySem.W.codeIn K cd4 "nothing_done" = true) (k4 : PySem.W.keepIn K (.ref f4) = true)
    (a5 : PySem.W.nsIn K mainGlobals "do_set" = some (some (.ref f5))) (l5 : K.lookup f5 = some ⟨oc5, od5, .func (PySem.W.fnOf "do_set" "do_set" (defArgs s_do_set) (defBody s_do_set) (defScope s_do_set) .none kV5 dc5 pm5 an5 cd5 ct5), sl5⟩) (c5 : PySem.W.codeIn K cd5 "do_set" = true) (k5 : PySem.W.keepIn K (.ref f5) = true)
    (a6 : PySem.W.nsIn K mainGlobals "do_add" = some (some (.ref f6))) (l6 : K.lookup f6 = some ⟨oc6, od6, .func (PySem.W.fnOf "do_add" "do_add" (defArgs s_do_add) (defBody s_do_add) (defScope s_do_add) .none kV6 dc6 pm6 an6 cd6 ct6), sl6⟩) (c6 : PySem.W.codeIn K cd6 "do_add" = true) (k6 : PySem.W.keepIn K (.ref f6) = true)
    (a7 : PySem.W.nsIn K mainGlobals "do_jump" = some (some (.ref f7))) (l7 : K.lookup f7 = some ⟨oc7, od7, .func (PySem.W.fnOf "do_jump" "do_jump" (defArgs s_do_jump) (defBody s_do_jump) (defScope s_do_jump) .none kV7 dc7 pm7 an7 cd7 ct7), sl7⟩) (c7 : PySem.W.codeIn K cd7 "do_jump" = true) (k7 : PySem.W.keepIn K (.ref f7) = true)
    (a8 : PySem.W.nsIn K mainGlobals "do_say" = some (some (.ref f8))) (l8 : K.lookup f8 = some ⟨oc8, od8, .func (PySem.W.fnOf "do_say" "do_say" (defArgs s_do_say) (defBody s_do_say) (defScope s_do_say) .none kV8 dc8 pm8 an8 cd8 ct8), sl8⟩) (c8 : PySem.W.codeIn K cd8 "do_say" = true) (k8 : PySem.W.keepIn K (.ref f8) = true)
    (a9 : PySem.W.nsIn K mainGlobals "do_take" = some (some (.ref f9))) (l9 : K.lookup f9 = some ⟨oc9, od9, .func (PySem.W.fnOf "do_take" "do_take" (defArgs s_do_take) (defBody s_do_take) (defScope s_do_take) .none kV9 dc9 pm9 an9 cd9 ct9), sl9⟩) (c9 : PySem.W.codeIn K cd9 "do_take" = true) (k9 : PySem.W.keepIn K (.ref f9) = true)
    (a10 : PySem.W.nsIn K mainGlobals "tick" = some (some (.ref f10))) (l10 : K.lookup f10 = some ⟨oc10, od10, .func (PySem.W.fnOf "tick" "tick" (defArgs s_tick) (defBody s_tick) (defScope s_tick) .none kV10 dc10 pm10 an10 cd10 ct10), sl10⟩) (c10 : PySem.W.codeIn K cd10 "tick" = true) (k10 : PySem.W.keepIn K (.ref f10) = true)
    (a11 : PySem.W.nsIn K mainGlobals "_law_pen" = some (some (.ref f11))) (l11 : K.lookup f11 = some ⟨oc11, od11, .func (PySem.W.fnOf "_law_pen" "_law_pen" (defArgs s_law_pen) (defBody s_law_pen) (defScope s_law_pen) .none kV11 dc11 pm11 an11 cd11 ct11), sl11⟩) (c11 : PySem.W.codeIn K cd11 "_law_pen" = true) (k11 : PySem.W.keepIn K (.ref f11) = true)
    (a12 : PySem.W.nsIn K mainGlobals "_law_take" = some (some (.ref f12))) (l12 : K.lookup f12 = some ⟨oc12, od12, .func (PySem.W.fnOf "_law_take" "_law_take" (defArgs s_law_take) (defBody s_law_take) (defScope s_law_take) .none kV12 dc12 pm12 an12 cd12 ct12), sl12⟩) (c12 : PySem.W.codeIn K cd12 "_law_take" = true) (k12 : PySem.W.keepIn K (.ref f12) = true)
    (a13 : PySem.W.nsIn K mainGlobals "_law_row" = some (some (.ref f13))) (l13 : K.lookup f13 = some ⟨oc13, od13, .func (PySem.W.fnOf "_law_row" "_law_row" (defArgs s_law_row) (defBody s_law_row) (defScope s_law_row) .none kV13 dc13 pm13 an13 cd13 ct13), sl13⟩) (c13 : PySem.W.codeIn K cd13 "_law_row" = true) (k13 : PySem.W.keepIn K (.ref f13) = true)
    (a14 : PySem.W.nsIn K mainGlobals "_law_program" = some (some (.ref f14))) (l14 : K.lookup f14 = some ⟨oc14, od14, .func (PySem.W.fnOf "_law_program" "_law_program" (defArgs s_law_program) (defBody s_law_program) (defScope s_law_program) .none kV14 dc14 pm14 an14 cd14 ct14), sl14⟩) (c14 : PySem.W.codeIn K cd14 "_law_program" = true) (k14 : PySem.W.keepIn K (.ref f14) = true)
    (a15 : PySem.W.nsIn K mainGlobals "_law_sheets" = some (some (.ref f15))) (l15 : K.lookup f15 = some ⟨oc15, od15, .func (PySem.W.fnOf "_law_sheets" "_law_sheets" (defArgs s_law_sheets) (defBody s_law_sheets) (defScope s_law_sheets) .none kV15 dc15 pm15 an15 cd15 ct15), sl15⟩) (c15 : PySem.W.codeIn K cd15 "_law_sheets" = true) (k15 : PySem.W.keepIn K (.ref f15) = true)
    (a16 : PySem.W.nsIn K mainGlobals "_law_stand" = some (some (.ref f16))) (l16 : K.lookup f16 = some ⟨oc16, od16, .func (PySem.W.fnOf "_law_stand" "_law_stand" (defArgs s_law_stand) (defBody s_law_stand) (defScope s_law_stand) .none kV16 dc16 pm16 an16 cd16 ct16), sl16⟩) (c16 : PySem.W.codeIn K cd16 "_law_stand" = true) (k16 : PySem.W.keepIn K (.ref f16) = true)
    (a17 : PySem.W.nsIn K mainGlobals "_law_tick" = some (some (.ref f17))) (l17 : K.lookup f17 = some ⟨oc17, od17, .func (PySem.W.fnOf "_law_tick" "_law_tick" (defArgs s_law_tick) (defBody s_law_tick) (defScope s_law_tick) .none kV17 dc17 pm17 an17 cd17 ct17), sl17⟩) (c17 : PySem.W.codeIn K cd17 "_law_tick" = true) (k17 : PySem.W.keepIn K (.ref f17) = true)
    (a18 : PySem.W.nsIn K mainGlobals "_law_same" = some (some (.ref f18))) (l18 : K.lookup f18 = some ⟨oc18, od18, .func (PySem.W.fnOf "_law_same" "_law_same" (defArgs s_law_same) (defBody s_law_same) (defScope s_law_same) .none kV18 dc18 pm18 an18 cd18 ct18), sl18⟩) (c18 : PySem.W.codeIn K cd18 "_law_same" = true) (k18 : PySem.W.keepIn K (.ref f18) = true)
    (a19 : PySem.W.nsIn K mainGlobals "law" = some (some (.ref f19))) (l19 : K.lookup f19 = some ⟨oc19, od19, .func (PySem.W.fnOf "law" "law" (defArgs s_law) (defBody s_law) (defScope s_law) .none kV19 dc19 pm19 an19 cd19 ct19), sl19⟩) (c19 : PySem.W.codeIn K cd19 "law" = true) (k19 : PySem.W.keepIn K (.ref f19) = true)
    (z_bool : PySem.W.nsIn K mainGlobals "bool" = some none)
    (z_int : PySem.W.nsIn K mainGlobals "int" = some none)
    (z_isinstance : PySem.W.nsIn K mainGlobals "isinstance" = some none)
    (z_len : PySem.W.nsIn K mainGlobals "len" = some none)
    (z_list : PySem.W.nsIn K mainGlobals "list" = some none)
    (z_max : PySem.W.nsIn K mainGlobals "max" = some none)
    (z_min : PySem.W.nsIn K mainGlobals "min" = some none)
    (z_range : PySem.W.nsIn K mainGlobals "range" = some none)
    (z_str : PySem.W.nsIn K mainGlobals "str" = some none)
    (z_tuple : PySem.W.nsIn K mainGlobals "tuple" = some none)
    (z_zip : PySem.W.nsIn K mainGlobals "zip" = some none)
    : ∃ fd : FuncData, (∀ (s : Shared) (v : Value), BindsTo s fd ⟨[v], []⟩ [("script", v)]) ∧ ∀ base : Heap, K.In base → base.Ns mainGlobals mg → FnOk l.prog w K mg base CX0 5 fa fd ["script"] (Dl.spLaw K) := by
  have e := hfa.symm.trans (PySem.W.mg_of X G a19)
  cases e
  have F1 := fun_mk (st := s_row_at) l1 c1 k1
  have F2 := fun_mk (st := s_rising) l2 c2 k2
  have F3 := fun_mk (st := s_stand_behind_writing) l3 c3 k3
  have F4 := fun_mk (st := s_nothing_done) l4 c4 k4
  have F5 := fun_mk (st := s_do_set) l5 c5 k5
  have F6 := fun_mk (st := s_do_add) l6 c6 k6
  have F7 := fun_mk (st := s_do_jump) l7 c7 k7
  have F8 := fun_mk (st := s_do_say) l8 c8 k8
  have F9 := fun_mk (st := s_do_take) l9 c9 k9
  have F10 := fun_mk (st := s_tick) l10 c10 k10
  have F11 := fun_mk (st := s_law_pen) l11 c11 k11
  have F12 := fun_mk (st := s_law_take) l12 c12 k12
  have F13 := fun_mk (st := s_law_row) l13 c13 k13
  have F14 := fun_mk (st := s_law_program) l14 c14 k14
  have F15 := fun_mk (st := s_law_sheets) l15 c15 k15
  have F16 := fun_mk (st := s_law_stand) l16 c16 k16
  have F17 := fun_mk (st := s_law_tick) l17 c17 k17
  have F18 := fun_mk (st := s_law_same) l18 c18 k18
  have F19 := fun_mk (st := s_law) l19 c19 k19
  have b1 := F1.binds (ps := ["program", "at"]) fun _ _ _ _ _ _ us hl => match us, hl with | [_, _], _ => rfl
  have b2 := F2.binds (ps := ["p", "q"]) fun _ _ _ _ _ _ us hl => match us, hl with | [_, _], _ => rfl
  have b3 := F3.binds (ps := ["stand", "p", "number"]) fun _ _ _ _ _ _ us hl => match us, hl with | [_, _, _], _ => rfl
  have b4 := F4.binds (ps := ["stand", "word"]) fun _ _ _ _ _ _ us hl => match us, hl with | [_, _], _ => rfl
  have b5 := F5.binds (ps := ["stand", "p", "number"]) fun _ _ _ _ _ _ us hl => match us, hl with | [_, _, _], _ => rfl
  have b6 := F6.binds (ps := ["stand", "w", "p", "q"]) fun _ _ _ _ _ _ us hl => match us, hl with | [_, _, _, _], _ => rfl
  have b7 := F7.binds (ps := ["stand", "p", "k"]) fun _ _ _ _ _ _ us hl => match us, hl with | [_, _, _], _ => rfl
  have b8 := F8.binds (ps := ["stand", "p"]) fun _ _ _ _ _ _ us hl => match us, hl with | [_, _], _ => rfl
  have b9 := F9.binds (ps := ["stand", "p", "letters"]) fun _ _ _ _ _ _ us hl => match us, hl with | [_, _, _], _ => rfl
  have b10 := F10.binds (ps := ["program", "stand", "letters"]) fun _ _ _ _ _ _ us hl => match us, hl with | [_, _, _], _ => rfl
  have b11 := F11.binds (ps := ["script"]) fun _ _ _ _ _ _ us hl => match us, hl with | [_], _ => rfl
  have b12 := F12.binds (ps := ["pen", "many"]) fun _ _ _ _ _ _ us hl => match us, hl with | [_, _], _ => rfl
  have b13 := F13.binds (ps := ["pen", "n", "w", "many", "takes"]) fun _ _ _ _ _ _ us hl => match us, hl with | [_, _, _, _, _], _ => rfl
  have b14 := F14.binds (ps := ["pen", "takes"]) fun _ _ _ _ _ _ us hl => match us, hl with | [_, _], _ => rfl
  have b15 := F15.binds (ps := ["pen", "program"]) fun _ _ _ _ _ _ us hl => match us, hl with | [_, _], _ => rfl
  have b16 := F16.binds (ps := ["pen", "program"]) fun _ _ _ _ _ _ us hl => match us, hl with | [_, _], _ => rfl
  have b17 := F17.binds (ps := ["program", "stand", "letters"]) fun _ _ _ _ _ _ us hl => match us, hl with | [_, _, _], _ => rfl
  have b18 := F18.binds (ps := ["found", "due"]) fun _ _ _ _ _ _ us hl => match us, hl with | [_, _], _ => rfl
  have T : Tx K mg := { f_row_at := f1, d_row_at := _, F_row_at := F1, b_row_at := b1, g_row_at := PySem.W.mg_of X G a1, f_rising := f2, d_rising := _, F_rising := F2, b_rising := b2, g_rising := PySem.W.mg_of X G a2, f_stand_behind_writing := f3, d_stand_behind_writing := _, F_stand_behind_writing := F3, b_stand_behind_writing := b3, g_stand_behind_writing := PySem.W.mg_of X G a3, f_nothing_done := f4, d_nothing_done := _, F_nothing_done := F4, b_nothing_done := b4, g_nothing_done := PySem.W.mg_of X G a4, f_do_set := f5, d_do_set := _, F_do_set := F5, b_do_set := b5, g_do_set := PySem.W.mg_of X G a5, f_do_add := f6, d_do_add := _, F_do_add := F6, b_do_add := b6, g_do_add := PySem.W.mg_of X G a6, f_do_jump := f7, d_do_jump := _, F_do_jump := F7, b_do_jump := b7, g_do_jump := PySem.W.mg_of X G a7, f_do_say := f8, d_do_say := _, F_do_say := F8, b_do_say := b8, g_do_say := PySem.W.mg_of X G a8, f_do_take := f9, d_do_take := _, F_do_take := F9, b_do_take := b9, g_do_take := PySem.W.mg_of X G a9, f_tick := f10, d_tick := _, F_tick := F10, b_tick := b10, g_tick := PySem.W.mg_of X G a10, f_law_pen := f11, d_law_pen := _, F_law_pen := F11, b_law_pen := b11, g_law_pen := PySem.W.mg_of X G a11, f_law_take := f12, d_law_take := _, F_law_take := F12, b_law_take := b12, g_law_take := PySem.W.mg_of X G a12, f_law_row := f13, d_law_row := _, F_law_row := F13, b_law_row := b13, g_law_row := PySem.W.mg_of X G a13, f_law_program := f14, d_law_program := _, F_law_program := F14, b_law_program := b14, g_law_program := PySem.W.mg_of X G a14, f_law_sheets := f15, d_law_sheets := _, F_law_sheets := F15, b_law_sheets := b15, g_law_sheets := PySem.W.mg_of X G a15, f_law_stand := f16, d_law_stand := _, F_law_stand := F16, b_law_stand := b16, g_law_stand := PySem.W.mg_of X G a16, f_law_tick := f17, d_law_tick := _, F_law_tick := F17, b_law_tick := b17, g_law_tick := PySem.W.mg_of X G a17, f_law_same := f18, d_law_same := _, F_law_same := F18, b_law_same := b18, g_law_same := PySem.W.mg_of X G a18, m_bool := PySem.W.mg_none_of X G z_bool, m_int := PySem.W.mg_none_of X G z_int, m_isinstance := PySem.W.mg_none_of X G z_isinstance, m_len := PySem.W.mg_none_of X G z_len, m_list := PySem.W.mg_none_of X G z_list, m_max := PySem.W.mg_none_of X G z_max, m_min := PySem.W.mg_none_of X G z_min, m_range := PySem.W.mg_none_of X G z_range, m_str := PySem.W.mg_none_of X G z_str, m_tuple := PySem.W.mg_none_of X G z_tuple, m_zip := PySem.W.mg_none_of X G z_zip }
  exact ⟨PySem.W.fnOf "law" "law" (defArgs s_law) (defBody s_law) (defScope s_law) .none kV19 dc19 pm19 an19 cd19 ct19, fun s v => .of_eq rfl, fun base _ _ => ok_law F19 T⟩
end K3
open PySem PySem.W PyProof.Rows
set_option maxHeartbeats 0 in
theorem PySem.Challenge.cw_warmove_k03_ticks_holds : PySem.Challenge.rw_warmove_k03_ticks.Holds := by
  w_on; o_law; k_head; (case hw => w_witness2)
  k_fill
  refine L2.walk_ofK (l := PySem.Challenge.rw_warmove_k03_ticks) (n := 63) (k := 5) (x := "script") (CX := L2.CX0) (sp := Dl.spLaw) rfl (by decide) rfl ⟨rfl, by decide, by decide⟩ (fun w h Y => PySem.W.kIn_of Y) ?F (fun K H a ns hl _ hS => ⟨a, ns, rfl, hS, hl, fun _ => rfl⟩) (fun _ _ _ _ h => h)
  case F =>
    intro w mg fa h KX G hmg
    refine' K3.all_mk KX G hmg ?a1 ?l1 ?c1 ?k1 ?a2 ?l2 ?c2 ?k2 ?a3 ?l3 ?c3 ?k3 ?a4 ?l4 ?c4 ?k4 ?a5 ?l5 ?c5 ?k5 ?a6 ?l6 ?c6 ?k6 ?a7 ?l7 ?c7 ?k7 ?a8 ?l8 ?c8 ?k8 ?a9 ?l9 ?c9 ?k9 ?a10 ?l10 ?c10 ?k10 ?a11 ?l11 ?c11 ?k11 ?a12 ?l12 ?c12 ?k12 ?a13 ?l13 ?c13 ?k13 ?a14 ?l14 ?c14 ?k14 ?a15 ?l15 ?c15 ?k15 ?a16 ?l16 ?c16 ?k16 ?a17 ?l17 ?c17 ?k17 ?a18 ?l18 ?c18 ?k18 ?a19 ?l19 ?c19 ?k19 ?z_bool ?z_int ?z_isinstance ?z_len ?z_list ?z_max ?z_min ?z_range ?z_str ?z_tuple ?z_zip
    (case a1 => k_is); (case l1 => k_is); (case c1 => k_is); (case k1 => k_is); (case a2 => k_is); (case l2 => k_is); (case c2 => k_is); (case k2 => k_is); (case a3 => k_is); (case l3 => k_is); (case c3 => k_is); (case k3 => k_is); (case a4 => k_is); (case l4 => k_is); (case c4 => k_is); (case k4 => k_is); (case a5 => k_is); (case l5 => k_is); (case c5 => k_is); (case k5 => k_is); (case a6 => k_is); (case l6 => k_is); (case c6 => k_is); (case k6 => k_is); (case a7 => k_is); (case l7 => k_is); (case c7 => k_is); (case k7 => k_is); (case a8 => k_is); (case l8 => k_is); (case c8 => k_is); (case k8 => k_is); (case a9 => k_is); (case l9 => k_is); (case c9 => k_is); (case k9 => k_is); (case a10 => k_is); (case l10 => k_is); (case c10 => k_is); (case k10 => k_is); (case a11 => k_is); (case l11 => k_is); (case c11 => k_is); (case k11 => k_is); (case a12 => k_is); (case l12 => k_is); (case c12 => k_is); (case k12 => k_is); (case a13 => k_is); (case l13 => k_is); (case c13 => k_is); (case k13 => k_is); (case a14 => k_is); (case l14 => k_is); (case c14 => k_is); (case k14 => k_is); (case a15 => k_is); (case l15 => k_is); (case c15 => k_is); (case k15 => k_is); (case a16 => k_is); (case l16 => k_is); (case c16 => k_is); (case k16 => k_is); (case a17 => k_is); (case l17 => k_is); (case c17 => k_is); (case k17 => k_is); (case a18 => k_is); (case l18 => k_is); (case c18 => k_is); (case k18 => k_is); (case a19 => k_is); (case l19 => k_is); (case c19 => k_is); (case k19 => k_is); (case z_bool => k_is); (case z_int => k_is); (case z_isinstance => k_is); (case z_len => k_is); (case z_list => k_is); (case z_max => k_is); (case z_min => k_is); (case z_range => k_is); (case z_str => k_is); (case z_tuple => k_is); (case z_zip => k_is)
