import PyProof.Rows.All
import Wide.All
import OpenK.AllK
import Wide.FinOn
import HandS.Base
import HandS.Call
import HandS.List
import HandS.Comp
import HandS.Ends
import HandS.Dict
import HandS.Iter
import HandS.Text
import HandS.Words
import HandS.WordsList
import HandS.Walk
import HandS.Zip
import HandS.IsInst
import HandS.Lambda
import HandS.TupAny
import HandS.Style
import HandS.FStr
import HandS.RaiseMore
import HandS.Rev
import HandS.Conv
import HandS.Star
import HandS.More
import HandS.ReplaceDef
import KE.KTypeName
import HandS.Exc
import HandS.ExcOwn
import HandS.TryMany
import HandS.ExcInit
import HandS.ExcIs
import HandS.ExcField
import KE.KTryMore
import PyProof.TupleIter
import HandS.HotCalls
import HandS.WordsExc
import HandS.EndTab
import HandS.ReplaceList
import PySem.Challenge.RW_lookedrows_k07_whole_broken_texts_of_con
set_option Elab.async false
set_option linter.all false
set_option maxRecDepth 100000
namespace DL
open PySem PySem.Spec PyProof.Rows L2

/-- the tables of code objects that may grow, each with the name that its own bear -/
class Tabs where
  ts : List (Addr × Str)
  uq : ∀ p ∈ ts, ∀ r ∈ ts, p.1 = r.1 → p.2 = r.2
/-- none -/
abbrev noTabs : Tabs := ⟨[], fun _ h => nomatch h⟩
variable [Tabs]

/-! ### data without addresses -/
inductive Dt where
  | non | bl (b : Bool) | int (i : Int) | str (x : Str) | tup (l : List Dt) | lst (l : List Dt) | bag
  /-- a dict that never changes: its keys, its values -/
  | dic (ks : List Key) (l : List Dt)

abbrev Ext (G G' : Hp) : Prop := ∀ a o, G a = some o → G' a = some o
theorem Ext.refl (G : Hp) : Ext G G := fun _ _ h => h
theorem Ext.trans {G G1 G2 : Hp} (a : Ext G G1) (b : Ext G1 G2) : Ext G G2 := fun x o h => b x o (a x o h)
theorem Ext.new {G : Hp} {p : Addr} {o : HO} (h : G p = none) : Ext G (upd G p o) := fun a u e => by
  rw [upd_ne (ne_of_none e h)]
  exact e
theorem ext_t {K : PySem.W.Frag} {H H' : Hp} {a : Addr} {xs : List V} (e : Ext H H') (h : SqT K H a xs) : SqT K H' a xs := by
  rcases h with (h | ⟨o, h⟩) | h
  · exact .inl (.inl (e _ _ h))
  · exact .inl (.inr ⟨o, e _ _ h⟩)
  · exact .inr h

section
variable (K : PySem.W.Frag) (β : Addr)
mutual
def IsD (G : Hp) : Dt → V → Prop
  | .non, v => v = .non
  | .bl b, v => v = .bl b
  | .int i, v => v = .int i
  | .str x, v => v = .str x
  | .bag, v => v = .ref β
  | .tup l, v => ∃ a vs, v = .ref a ∧ SqT K G a vs ∧ IsL G l vs
  | .lst l, v => ∃ a vs, v = .ref a ∧ G a = some (.lst vs) ∧ IsL G l vs
  | .dic ks l, v => ∃ a vs, v = .ref a ∧ G a = some (.dK (ks.zip vs)) ∧ ks.length = l.length ∧ IsL G l vs
def IsL (G : Hp) : List Dt → List V → Prop
  | [], vs => vs = []
  | d :: l, vs => ∃ v r, vs = v :: r ∧ IsD G d v ∧ IsL G l r
end
end
section
variable {K : PySem.W.Frag} {β : Addr}
mutual
theorem IsD.mono {G G' : Hp} (e : Ext G G') : ∀ (d : Dt) (v : V), IsD K β G d v → IsD K β G' d v
  | .non, _, h => h
  | .bl _, _, h => h
  | .int _, _, h => h
  | .str _, _, h => h
  | .bag, _, h => h
  | .tup l, v, h => by
    unfold IsD at h ⊢
    obtain ⟨a, vs, rfl, h1, h2⟩ := h
    exact ⟨a, vs, rfl, ext_t e h1, IsL.mono e l vs h2⟩
  | .lst l, v, h => by
    unfold IsD at h ⊢
    obtain ⟨a, vs, rfl, h1, h2⟩ := h
    exact ⟨a, vs, rfl, e _ _ h1, IsL.mono e l vs h2⟩
  | .dic ks l, v, h => by
    unfold IsD at h ⊢
    obtain ⟨a, vs, rfl, h1, h3, h2⟩ := h
    exact ⟨a, vs, rfl, e _ _ h1, h3, IsL.mono e l vs h2⟩
theorem IsL.mono {G G' : Hp} (e : Ext G G') : ∀ (l : List Dt) (vs : List V), IsL K β G l vs → IsL K β G' l vs
  | [], _, h => h
  | d :: l, vs, h => by
    unfold IsL at h ⊢
    obtain ⟨v, r, rfl, h1, h2⟩ := h
    exact ⟨v, r, rfl, IsD.mono e d v h1, IsL.mono e l r h2⟩
end
variable {G : Hp}
theorem is_non {v : V} : IsD K β G .non v ↔ v = .non := by unfold IsD; rfl
theorem is_bl {v : V} {b : Bool} : IsD K β G (.bl b) v ↔ v = .bl b := by unfold IsD; rfl
theorem is_int {v : V} {b : Int} : IsD K β G (.int b) v ↔ v = .int b := by unfold IsD; rfl
theorem is_str {v : V} {b : Str} : IsD K β G (.str b) v ↔ v = .str b := by unfold IsD; rfl
theorem is_bag {v : V} : IsD K β G .bag v ↔ v = .ref β := by unfold IsD; rfl
theorem is_tup {v : V} {l : List Dt} : IsD K β G (.tup l) v ↔ ∃ a vs, v = .ref a ∧ SqT K G a vs ∧ IsL K β G l vs := by conv => lhs; unfold IsD
theorem is_lst {v : V} {l : List Dt} : IsD K β G (.lst l) v ↔ ∃ a vs, v = .ref a ∧ G a = some (.lst vs) ∧ IsL K β G l vs := by conv => lhs; unfold IsD
theorem is_dic {v : V} {ks : List Key} {l : List Dt} : IsD K β G (.dic ks l) v ↔ ∃ a vs, v = .ref a ∧ G a = some (.dK (ks.zip vs)) ∧ ks.length = l.length ∧ IsL K β G l vs := by conv => lhs; unfold IsD
theorem isl_nil {vs : List V} : IsL K β G [] vs ↔ vs = [] := by unfold IsL; rfl
theorem isl_cons {vs : List V} {d : Dt} {l : List Dt} : IsL K β G (d :: l) vs ↔ ∃ v r, vs = v :: r ∧ IsD K β G d v ∧ IsL K β G l r := by conv => lhs; unfold IsL
theorem IsL.len : ∀ {l : List Dt} {vs : List V}, IsL K β G l vs → vs.length = l.length
  | [], vs, h => by rw [isl_nil] at h; rw [h]; rfl
  | d :: l, vs, h => by
    obtain ⟨v, r, rfl, _, h2⟩ := isl_cons.mp h
    simp [IsL.len h2]
theorem IsL.get : ∀ {l : List Dt} {vs : List V} {i : Nat} {d : Dt}, IsL K β G l vs → l[i]? = some d → ∃ v, vs[i]? = some v ∧ IsD K β G d v
  | [], _, _, _, _, e => by simp at e
  | d :: l, vs, 0, d', h, e => by
    obtain ⟨v, r, rfl, h1, h2⟩ := isl_cons.mp h
    simp at e; subst e
    exact ⟨v, rfl, h1⟩
  | d :: l, vs, i + 1, d', h, e => by
    obtain ⟨v, r, rfl, h1, h2⟩ := isl_cons.mp h
    obtain ⟨u, e1, e2⟩ := IsL.get (i := i) h2 (by simpa using e)
    exact ⟨u, by simpa using e1, e2⟩
theorem IsL.set : ∀ {l : List Dt} {vs : List V} (i : Nat) {d : Dt} {v : V}, IsL K β G l vs → IsD K β G d v → IsL K β G (l.set i d) (vs.set i v)
  | [], vs, i, d, v, h, _ => by rw [isl_nil] at h; subst h; simp [isl_nil]
  | e :: l, vs, 0, d, v, h, q => by
    obtain ⟨u, r, rfl, h1, h2⟩ := isl_cons.mp h
    exact isl_cons.mpr ⟨v, r, rfl, q, h2⟩
  | e :: l, vs, i + 1, d, v, h, q => by
    obtain ⟨u, r, rfl, h1, h2⟩ := isl_cons.mp h
    exact isl_cons.mpr ⟨u, r.set i v, rfl, h1, IsL.set i h2 q⟩
theorem IsL.append : ∀ {l m : List Dt} {vs us : List V}, IsL K β G l vs → IsL K β G m us → IsL K β G (l ++ m) (vs ++ us)
  | [], m, vs, us, h, q => by rw [isl_nil] at h; subst h; exact q
  | d :: l, m, vs, us, h, q => by
    obtain ⟨u, r, rfl, h1, h2⟩ := isl_cons.mp h
    exact isl_cons.mpr ⟨u, r ++ us, rfl, h1, IsL.append h2 q⟩
theorem IsL.take : ∀ {l : List Dt} {vs : List V} (n : Nat), IsL K β G l vs → IsL K β G (l.take n) (vs.take n)
  | l, vs, 0, h => by simp [isl_nil]
  | [], vs, n + 1, h => by rw [isl_nil] at h; subst h; simp [isl_nil]
  | d :: l, vs, n + 1, h => by
    obtain ⟨u, r, rfl, h1, h2⟩ := isl_cons.mp h
    exact isl_cons.mpr ⟨u, r.take n, rfl, h1, IsL.take n h2⟩
theorem IsL.drop : ∀ {l : List Dt} {vs : List V} (n : Nat), IsL K β G l vs → IsL K β G (l.drop n) (vs.drop n)
  | l, vs, 0, h => h
  | [], vs, n + 1, h => by rw [isl_nil] at h; subst h; simp [isl_nil]
  | d :: l, vs, n + 1, h => by
    obtain ⟨u, r, rfl, h1, h2⟩ := isl_cons.mp h
    exact IsL.drop n h2
theorem IsL.snoc {l : List Dt} {vs : List V} {d : Dt} {v : V} (h : IsL K β G l vs) (q : IsD K β G d v) : IsL K β G (l ++ [d]) (vs ++ [v]) :=
  h.append (isl_cons.mpr ⟨v, [], rfl, q, isl_nil.mpr rfl⟩)
theorem IsL.txts : ∀ {ss : List Str}, IsL K β G (ss.map Dt.str) (ss.map V.str)
  | [] => isl_nil.mpr rfl
  | s :: r => isl_cons.mpr ⟨_, _, rfl, is_str.mpr rfl, IsL.txts⟩
theorem IsL.ints : ∀ {ss : List Int}, IsL K β G (ss.map Dt.int) (ss.map V.int)
  | [] => isl_nil.mpr rfl
  | s :: r => isl_cons.mpr ⟨_, _, rfl, is_int.mpr rfl, IsL.ints⟩
end

/-! ### what is known between two steps -/
/-- no table, no code object -/
def Nx (p : Addr) (o : HO) : Prop := (∀ ps, o ≠ .tbl ps) ∧ ∀ q, o ≠ LamX.CodeO p q
theorem nx_lst {p : Addr} {vs : List V} : Nx p (.lst vs) := by
  refine ⟨(fun ps z => by cases z), fun q z => ?_⟩
  have z' : HO.lst vs = HO.ext _ := z
  cases z'
inductive Slo where
  | dat (d : Dt) | own (l : List Dt)
structure Sta where
  sl : List (Option Slo)
  bag : List Dt

def TabG (H G : Hp) (a : Addr) (q : Str) : Prop := ∃ ps : Array Value, H a = some (.tbl ps) ∧ TriplesOk ps.toList ∧ ∀ (pos : Pos) (cv : Value), codeAmong pos ps.toList = some cv → ∃ c, cv = .ref c ∧ G c = some (LamX.CodeO c q)
theorem TabG.of {H G H' G' : Hp} {a : Addr} {q : Str} (t : TabG H G a q) (h : H' a = H a) (e : Ext G G') : TabG H' G' a q := by
  obtain ⟨ps, h1, h2, h3⟩ := t
  refine ⟨ps, h.trans h1, h2, fun pos cv z => ?_⟩
  obtain ⟨c, e1, e2⟩ := h3 pos cv z
  exact ⟨c, e1, e _ _ e2⟩
theorem TabG.ne {H G : Hp} {a p : Addr} {q : Str} (t : TabG H G a q) (h : H p = none) : a ≠ p := by
  obtain ⟨ps, h1, _⟩ := t
  exact ne_of_none h1 h
theorem TabG.neL {H G : Hp} {a p : Addr} {q : Str} {vs : List V} (t : TabG H G a q) (h : H p = some (.lst vs)) : a ≠ p := fun z => by
  obtain ⟨ps, h1, _⟩ := t
  rw [z, h] at h1
  cases h1
structure Rel (K : PySem.W.Frag) (β : Addr) (P : Hp) (σ : L2.St) (H G : Hp) (s : Sta) : Prop where
  len : σ.length = s.sl.length
  gh : Ext G H
  pr : ∀ p o, P p = some o → H p = some o ∧ G p = none
  pb : P β = none
  bag : ∃ vs, H β = some (.lst vs) ∧ G β = none ∧ IsL K β G s.bag vs
  dat : ∀ (i : Nat) (d : Dt), s.sl[i]? = some (some (.dat d)) → ∃ v, σ[i]? = some (some v) ∧ IsD K β G d v
  own : ∀ (i : Nat) (l : List Dt), s.sl[i]? = some (some (.own l)) → ∃ p vs, σ[i]? = some (some (.ref p)) ∧ H p = some (.lst vs) ∧ G p = none ∧ P p = none ∧ p ≠ β ∧ IsL K β G l vs
  dj : ∀ (i j : Nat) (l m : List Dt) (p : Addr), s.sl[i]? = some (some (.own l)) → s.sl[j]? = some (some (.own m)) → σ[i]? = some (some (.ref p)) → σ[j]? = some (some (.ref p)) → i = j
  tabs : ∀ p ∈ Tabs.ts, TabG H G p.1 p.2 ∧ G p.1 = none ∧ P p.1 = none
  nt : ∀ (p : Addr) (ps : Array Value), G p ≠ some (.tbl ps)
  pt : ∀ p o, P p = some o → Nx p o

section
variable {K : PySem.W.Frag} {β : Addr} {P : Hp} {σ : L2.St} {H G : Hp} {s : Sta}
theorem Rel.free (R : Rel K β P σ H G s) {p : Addr} (h : H p = none) : G p = none := by
  cases e : G p with
  | none => rfl
  | some o => rw [R.gh p o e] at h; cases h
/-- a new object that never changes -/
theorem Rel.new (R : Rel K β P σ H G s) {p : Addr} {o : HO} (h : H p = none) (ho : ∀ ps, o ≠ .tbl ps := by intro _ z; cases z) : Rel K β P σ (upd H p o) (upd G p o) s where
  len := R.len
  gh := fun a u e => by
    by_cases q : a = p
    · subst q; rw [upd_same] at e ⊢; exact e
    · rw [upd_ne q] at e ⊢; exact R.gh a u e
  pr := fun a u e => by
    have h1 := R.pr a u e
    have q : a ≠ p := ne_of_none h1.1 h
    rw [upd_ne q, upd_ne q]; exact h1
  pb := R.pb
  bag := by
    obtain ⟨vs, h1, h2, h3⟩ := R.bag
    have q : β ≠ p := ne_of_none h1 h
    exact ⟨vs, by rw [upd_ne q]; exact h1, by rw [upd_ne q]; exact h2, IsL.mono (Ext.new (R.free h)) _ _ h3⟩
  dat := fun i d e => by
    obtain ⟨v, h1, h2⟩ := R.dat i d e
    exact ⟨v, h1, IsD.mono (Ext.new (R.free h)) _ _ h2⟩
  own := fun i l e => by
    obtain ⟨q, vs, h1, h2, h3, h4, h5, h6⟩ := R.own i l e
    have n : q ≠ p := ne_of_none h2 h
    exact ⟨q, vs, h1, by rw [upd_ne n]; exact h2, by rw [upd_ne n]; exact h3, h4, h5, IsL.mono (Ext.new (R.free h)) _ _ h6⟩
  dj := R.dj
  tabs := fun q hq => by
    obtain ⟨t, g, n⟩ := R.tabs q hq
    have z := t.ne h
    exact ⟨t.of (upd_ne z) (Ext.new (R.free h)), by rw [upd_ne z]; exact g, n⟩
  pt := R.pt
  nt := fun a ps e => by
    by_cases c : a = p
    · subst c; rw [upd_same] at e; exact ho ps (Option.some.inj e)
    · rw [upd_ne c] at e; exact R.nt a ps e
/-- the caller's part, for a callee -/
noncomputable def shut (β : Addr) (H G : Hp) : Hp := fun p => open Classical in if G p = none ∧ p ≠ β ∧ (∀ t ∈ Tabs.ts, t.1 ≠ p) ∧ (∀ o, H p = some o → Nx p o) then H p else none
theorem shut_some {β p : Addr} {H G : Hp} {o : HO} (h : H p = some o) (g : G p = none) (n : p ≠ β) (m : ∀ t ∈ Tabs.ts, t.1 ≠ p) (x : Nx p o) : shut β H G p = some o := by
  unfold shut; rw [if_pos ⟨g, n, m, fun o' h' => by rw [h] at h'; cases h'; exact x⟩]; exact h
theorem shut_nx {β p : Addr} {H G : Hp} {o : HO} (h : shut β H G p = some o) : Nx p o := by
  unfold shut at h
  split at h
  · rename_i q; exact q.2.2.2 o h
  · cases h
theorem shut_tab {β : Addr} {H G : Hp} {t : Addr × Str} (h : t ∈ Tabs.ts) : shut β H G t.1 = none := by
  unfold shut; rw [if_neg (fun q => q.2.2.1 t h rfl)]
theorem Rel.callee (R : Rel K β P σ H G s) : Rel K β (shut β H G) [] H G ⟨[], s.bag⟩ where
  len := rfl
  gh := R.gh
  pr := fun p o e => by
    unfold shut at e
    split at e
    · rename_i q; exact ⟨e, q.1⟩
    · cases e
  pb := by unfold shut; rw [if_neg (fun q => q.2.1 rfl)]
  bag := R.bag
  dat := fun i d e => by simp at e
  own := fun i d e => by simp at e
  dj := fun i j l m p e => by simp at e
  tabs := fun q hq => ⟨(R.tabs q hq).1, (R.tabs q hq).2.1, shut_tab hq⟩
  pt := fun p o h => shut_nx h
  nt := R.nt
theorem Rel.back (R : Rel K β P σ H G s) {H' G' : Hp} {bg : List Dt} (e : Ext G G') (C : Rel K β (shut β H G) [] H' G' ⟨[], bg⟩) : Rel K β P σ H' G' { s with bag := bg } where
  len := R.len
  gh := C.gh
  pr := fun p o q => by
    have h1 := R.pr p o q
    have n : p ≠ β := fun z => by subst z; rw [R.pb] at q; cases q
    exact C.pr p o (shut_some h1.1 h1.2 n (fun t ht z => by rw [← z, (R.tabs t ht).2.2] at q; cases q) (R.pt p o q))
  pb := R.pb
  bag := C.bag
  dat := fun i d q => by
    obtain ⟨v, h1, h2⟩ := R.dat i d q
    exact ⟨v, h1, IsD.mono e _ _ h2⟩
  own := fun i l q => by
    obtain ⟨p, vs, h1, h2, h3, h4, h5, h6⟩ := R.own i l q
    have h7 := C.pr p _ (shut_some h2 h3 h5 (fun t ht z => (R.tabs t ht).1.neL h2 z) nx_lst)
    exact ⟨p, vs, h1, h7.1, h7.2, h4, h5, IsL.mono e _ _ h6⟩
  dj := R.dj
  tabs := fun q hq => ⟨(C.tabs q hq).1, (C.tabs q hq).2.1, (R.tabs q hq).2.2⟩
  pt := R.pt
  nt := C.nt
/-- a slot is given data -/
theorem get_set {α : Type} {l : List α} {i j : Nat} {x : α} : (l.set i x)[j]? = if i = j ∧ i < l.length then some x else l[j]? := by
  rw [List.getElem?_set]
  by_cases h : i = j
  · subst h
    by_cases q : i < l.length
    · simp [q]
    · simp [q]
  · simp [h]
theorem Rel.set (R : Rel K β P σ H G s) {i : Nat} {d : Dt} {v : V} (h : IsD K β G d v) : Rel K β P (σ.set i (some v)) H G { s with sl := s.sl.set i (some (.dat d)) } where
  len := by simp [R.len]
  gh := R.gh
  pr := R.pr
  pb := R.pb
  bag := R.bag
  dat := fun j e q => by
    rw [get_set] at q ⊢
    rw [R.len]
    by_cases c : i = j ∧ i < s.sl.length
    · rw [if_pos c] at q ⊢
      cases q
      exact ⟨v, rfl, h⟩
    · rw [if_neg c] at q ⊢
      exact R.dat j e q
  own := fun j e q => by
    rw [get_set] at q ⊢
    rw [R.len]
    by_cases c : i = j ∧ i < s.sl.length
    · rw [if_pos c] at q
      cases q
    · rw [if_neg c] at q ⊢
      exact R.own j e q
  dj := fun j k l m p q1 q2 r1 r2 => by
    simp only [get_set] at q1 q2 r1 r2
    rw [R.len] at r1 r2
    by_cases c : i = j ∧ i < s.sl.length
    · rw [if_pos c] at q1; cases q1
    by_cases c' : i = k ∧ i < s.sl.length
    · rw [if_pos c'] at q2; cases q2
    rw [if_neg c] at q1 r1
    rw [if_neg c'] at q2 r2
    exact R.dj j k l m p q1 q2 r1 r2
  tabs := R.tabs
  pt := R.pt
  nt := R.nt
end

/-! ### the judgements -/
abbrev DM (α : Type) := Sta → Option (α × Sta)
def TEok (K : PySem.W.Frag) (t : TE) (f : DM Dt) : Prop := ∀ (β : Addr) (P : Hp) (σ : L2.St) (H G : Hp) (s : Sta) (d : Dt) (s' : Sta), Rel K β P σ H G s → f s = some (d, s') →
  ∀ Q : VK, (∀ v H' G', Ext G G' → Rel K β P σ H' G' s' → IsD K β G' d v → Q v H') → t σ H Q
def TTok (K : PySem.W.Frag) (t : TT) (f : DM Bool) : Prop := ∀ (β : Addr) (P : Hp) (σ : L2.St) (H G : Hp) (s : Sta) (b : Bool) (s' : Sta), Rel K β P σ H G s → f s = some (b, s') →
  ∀ Q : Bool → Hp → Prop, (∀ H' G', Ext G G' → Rel K β P σ H' G' s' → Q b H') → t σ H Q
def TAok (K : PySem.W.Frag) (t : TA) (f : DM (List Dt)) : Prop := ∀ (β : Addr) (P : Hp) (σ : L2.St) (H G : Hp) (s : Sta) (ds : List Dt) (s' : Sta), Rel K β P σ H G s → f s = some (ds, s') →
  ∀ Q : List V → Hp → Prop, (∀ vs H' G', Ext G G' → Rel K β P σ H' G' s' → IsL K β G' ds vs → Q vs H') → t σ H Q
def TOok (K : PySem.W.Frag) (t : TO) (f : DM (Option Int)) : Prop := ∀ (β : Addr) (P : Hp) (σ : L2.St) (H G : Hp) (s : Sta) (o : Option Int) (s' : Sta), Rel K β P σ H G s → f s = some (o, s') →
  ∀ Q : Option Int → Hp → Prop, (∀ H' G', Ext G G' → Rel K β P σ H' G' s' → Q o H') → t σ H Q
def DE (X : Cx) (e : Expr) (f : DM Dt) : Prop := ∃ t, PE X e t ∧ TEok X.K t f
def DT (X : Cx) (e : Expr) (f : DM Bool) : Prop := ∃ t, PT X e t ∧ TTok X.K t f
def DW (X : Cx) (e : Expr) (f : DM Bool) : Prop := ∃ t, PW X e t ∧ TTok X.K t f
def DA (X : Cx) (es : List Expr) (f : DM (List Dt)) : Prop := ∃ t, PA X es t ∧ TAok X.K t f
def DO (X : Cx) (e : Option Expr) (f : DM (Option Int)) : Prop := ∃ t, PO X e t ∧ TOok X.K t f

/-! ### names and constants -/
def mC (d : Dt) : DM Dt := fun s => some (d, s)
def mVar (i : Nat) : DM Dt := fun s => match s.sl[i]? with
  | some (some (.dat d)) => some (d, s)
  | _ => none
section
variable {X : Cx}
theorem de_int {i j pos} : DE X (.Constant (.int i) j pos) (mC (.int i)) := ⟨_, pe_int, fun β P σ H G s d s' R h Q q => by cases h; exact q _ _ _ (Ext.refl G) R (is_int.mpr rfl)⟩
theorem de_str {i j pos} : DE X (.Constant (.str i) j pos) (mC (.str i)) := ⟨_, pe_str, fun β P σ H G s d s' R h Q q => by cases h; exact q _ _ _ (Ext.refl G) R (is_str.mpr rfl)⟩
theorem de_bl {i j pos} : DE X (.Constant (.bool i) j pos) (mC (.bl i)) := ⟨_, pe_bl, fun β P σ H G s d s' R h Q q => by cases h; exact q _ _ _ (Ext.refl G) R (is_bl.mpr rfl)⟩
theorem de_non {j pos} : DE X (.Constant .none j pos) (mC .non) := ⟨_, pe_non, fun β P σ H G s d s' R h Q q => by cases h; exact q _ _ _ (Ext.refl G) R (is_non.mpr rfl)⟩
theorem de_var {e : Expr} (i : Nat) (h : PE X e (tVar i)) : DE X e (mVar i) := ⟨_, h, fun β P σ H G s d s' R h Q q => by
  unfold mVar at h
  split at h
  · rename_i d' e
    cases h
    obtain ⟨v, h1, h2⟩ := R.dat i d e
    exact ⟨v, h1, q _ _ _ (Ext.refl G) R h2⟩
  · cases h⟩
/-- a name of the module that holds a plain thing -/
theorem de_cst {e : Expr} {v : V} {d : Dt} (h : PE X e (tC v)) (hd : ∀ β G, IsD X.K β G d v) : DE X e (mC d) := ⟨_, h, fun β P σ H G s d s' R h Q q => by
  cases h; exact q _ _ _ (Ext.refl G) R (hd _ _)⟩
end

/-! ### operators -/
def m2 (g : Dt → Dt → Option Dt) (f1 f2 : DM Dt) : DM Dt := fun s => (f1 s).bind fun p => (f2 p.2).bind fun q => (g p.1 q.1).bind fun d => some (d, q.2)
def R2ok (K : PySem.W.Frag) (r : R2) (g : Dt → Dt → Option Dt) : Prop := ∀ (β : Addr) (P : Hp) (σ : L2.St) (H G : Hp) (s : Sta) (x y : V) (dx dy d : Dt), Rel K β P σ H G s → IsD K β G dx x → IsD K β G dy y → g dx dy = some d →
  ∀ Q : VK, (∀ v H' G', Ext G G' → Rel K β P σ H' G' s → IsD K β G' d v → Q v H') → r x y H Q
theorem te_op {K : PySem.W.Frag} {r : R2} {g : Dt → Dt → Option Dt} {ta tb : TE} {fa fb : DM Dt} (hr : R2ok K r g) (ha : TEok K ta fa) (hb : TEok K tb fb) : TEok K (tOp r ta tb) (m2 g fa fb) := by
  intro β P σ H G s d s' R h Q q
  unfold m2 at h
  obtain ⟨⟨x, s1⟩, e1, h⟩ := Option.bind_eq_some_iff.mp h
  obtain ⟨⟨y, s2⟩, e2, h⟩ := Option.bind_eq_some_iff.mp h
  obtain ⟨z, e3, h⟩ := Option.bind_eq_some_iff.mp h
  cases h
  refine ha β P σ H G s x s1 R e1 _ fun v H1 G1 x1 R1 i1 => ?_
  refine hb β P σ H1 G1 s1 y s2 R1 e2 _ fun u H2 G2 x2 R2 i2 => ?_
  exact hr β P σ H2 G2 s2 v u x y d R2 (IsD.mono x2 _ _ i1) i2 e3 Q fun w H3 G3 x3 R3 i3 => q w H3 G3 ((x1.trans x2).trans x3) R3 i3
section
variable {X : Cx}
theorem de_op {op : Operator} {r : R2} {g : Dt → Dt → Option Dt} {a b : Expr} {fa fb : DM Dt} {pos : Pos} (ho : OpR X (binaryOp op) r) (hr : R2ok X.K r g) (ha : DE X a fa) (hb : DE X b fb) : DE X (.BinOp a op b pos) (m2 g fa fb) := by
  obtain ⟨ta, pa, oa⟩ := ha
  obtain ⟨tb, pb, ob⟩ := hb
  exact ⟨_, pe_op ho pa pb, te_op hr oa ob⟩
theorem de_cmp {op : CmpOp} {r : R2} {g : Dt → Dt → Option Dt} {a b : Expr} {fa fb : DM Dt} {pos : Pos} (ho : OpR X (compareOp op) r) (hr : R2ok X.K r g) (ha : DE X a fa) (hb : DE X b fb) (hm : behindInMarks op b = false) : DE X (.Compare a [op] [b] pos) (m2 g fa fb) := by
  obtain ⟨ta, pa, oa⟩ := ha
  obtain ⟨tb, pb, ob⟩ := hb
  exact ⟨_, pe_cmpR ho pa pb hm, te_op hr oa ob⟩
end
def mB (f : DM Dt) : DM Bool := fun s => (f s).bind fun p => match p.1 with
  | .bl b => some (b, p.2)
  | _ => none
theorem tt_of {K : PySem.W.Frag} {t : TE} {f : DM Dt} (h : TEok K t f) : TTok K (tTest t) (mB f) := by
  intro β P σ H G s b s' R e Q q
  unfold mB at e
  obtain ⟨⟨x, s1⟩, e1, e⟩ := Option.bind_eq_some_iff.mp e
  refine h β P σ H G s x s1 R e1 _ fun v H1 G1 x1 R1 i1 => ?_
  cases x with
  | bl k => cases e; exact ⟨b, is_bl.mp i1, q H1 G1 x1 R1⟩
  | _ => cases e
theorem tt_B {K : PySem.W.Frag} {t : TE} {f : DM Dt} (h : TEok K t f) : TTok K (tB t) (mB f) := by
  intro β P σ H G s b s' R e Q q
  unfold mB at e
  obtain ⟨⟨x, s1⟩, e1, e⟩ := Option.bind_eq_some_iff.mp e
  refine h β P σ H G s x s1 R e1 _ fun v H1 G1 x1 R1 i1 => ?_
  cases x with
  | bl k => cases e; exact ⟨b, is_bl.mp i1, q H1 G1 x1 R1⟩
  | _ => cases e
section
variable {X : Cx}
theorem dt_cmp {op : CmpOp} {r : R2} {g : Dt → Dt → Option Dt} {a b : Expr} {fa fb : DM Dt} {pos : Pos} (ho : OpR X (compareOp op) r) (hr : R2ok X.K r g) (ha : DE X a fa) (hb : DE X b fb) (hm : behindInMarks op b = false) : DT X (.Compare a [op] [b] pos) (mB (m2 g fa fb)) := by
  obtain ⟨ta, pa, oa⟩ := ha
  obtain ⟨tb, pb, ob⟩ := hb
  exact ⟨_, pt_cmpR ho pa pb hm, tt_of (te_op hr oa ob)⟩
/-- an expression that gives a truth value, as a test -/
theorem dt_val {e : Expr} {f : DM Dt} (h : DE X e f) (he : ∀ whole, isTrue e X.env whole = (do let v ← whole; standAt e.pos; holding [v] (truthy v)) := by intro _; rfl) : DT X e (mB f) := by
  obtain ⟨t, p, o⟩ := h
  exact ⟨_, pt_val p he, tt_B o⟩
/-- by truth -/
def truD : Dt → Option Bool
  | .non => some false
  | .bl b => some b
  | .int i => some (i != 0)
  | .str y => if y.length ≤ sizeLine then some ((y.length : Int) != 0) else none
  | .tup l => some !l.isEmpty
  | .lst l => some !l.isEmpty
  | .dic _ _ => none
  | .bag => none
def mTru (f : DM Dt) : DM Bool := fun s => (f s).bind fun p => (truD p.1).bind fun b => some (b, p.2)
theorem len_empty {K : PySem.W.Frag} {β : Addr} {G : Hp} {l : List Dt} {vs : List V} (h : IsL K β G l vs) : (!l.isEmpty) = !vs.isEmpty := by
  cases l with
  | nil => rw [isl_nil.mp h]; rfl
  | cons d l => obtain ⟨v, r, rfl, _⟩ := isl_cons.mp h; rfl
theorem dt_tru {e : Expr} {f : DM Dt} (h : DE X e f) (he : ∀ whole, isTrue e X.env whole = (do let v ← whole; standAt e.pos; holding [v] (truthy v)) := by intro _; rfl) : DT X e (mTru f) := by
  obtain ⟨t, p, o⟩ := h
  refine ⟨_, pt_truth p he, fun β P σ H G s b s' R e Q q => ?_⟩
  unfold mTru at e
  obtain ⟨⟨x, s1⟩, e1, e⟩ := Option.bind_eq_some_iff.mp e
  obtain ⟨c, e2, e⟩ := Option.bind_eq_some_iff.mp e
  cases e
  refine o β P σ H G s x s1 R e1 _ fun v H1 G1 x1 R1 i1 => ⟨b, ?_, q H1 G1 x1 R1⟩
  cases x with
  | non => rw [is_non.mp i1]; cases e2; rfl
  | bl k => rw [is_bl.mp i1]; cases e2; rfl
  | int k => rw [is_int.mp i1]; cases e2; rfl
  | str y =>
    rw [is_str.mp i1]
    have e3 : (if y.length ≤ sizeLine then some ((y.length : Int) != 0) else none) = some b := e2
    by_cases hl : y.length ≤ sizeLine
    · rw [if_pos hl] at e3; cases e3; exact ⟨hl, rfl⟩
    · rw [if_neg hl] at e3; cases e3
  | tup l =>
    obtain ⟨a, vs, rfl, h1, h2⟩ := is_tup.mp i1
    cases e2
    exact .inr (.inl ⟨vs, ext_t R1.gh h1, len_empty h2⟩)
  | lst l =>
    obtain ⟨a, vs, rfl, h1, h2⟩ := is_lst.mp i1
    cases e2
    exact .inl ⟨vs, .inl (.inl (R1.gh _ _ h1)), len_empty h2⟩
  | dic ks l => cases e2
  | bag => cases e2
/-! not, and, or, if else -/
def mNotB (f : DM Bool) : DM Bool := fun s => (f s).bind fun p => some (!p.1, p.2)
def mAndB (f g : DM Bool) : DM Bool := fun s => (f s).bind fun p => if p.1 = true then g p.2 else some (false, p.2)
def mOrB (f g : DM Bool) : DM Bool := fun s => (f s).bind fun p => if p.1 = true then some (true, p.2) else g p.2
def mIf (c : DM Bool) (f g : DM Dt) : DM Dt := fun s => (c s).bind fun p => if p.1 = true then f p.2 else g p.2
theorem dt_not {a : Expr} {f : DM Bool} {pos : Pos} (h : DT X a f) : DT X (.UnaryOp .Not a pos) (mNotB f) := by
  obtain ⟨t, p, o⟩ := h
  refine ⟨_, pt_not p, fun β P σ H G s b s' R e Q q => ?_⟩
  unfold mNotB at e
  obtain ⟨⟨x, s1⟩, e1, e⟩ := Option.bind_eq_some_iff.mp e
  cases e
  exact o β P σ H G s x s1 R e1 _ fun H1 G1 x1 R1 => q H1 G1 x1 R1
theorem dw_and {a b : Expr} {rest : List Expr} {f g : DM Bool} {pos : Pos} (ha : DT X a f) (hb : DW X (.BoolOp .And (b :: rest) pos) g) : DW X (.BoolOp .And (a :: b :: rest) pos) (mAndB f g) := by
  obtain ⟨t, p, o⟩ := ha
  obtain ⟨u, p2, o2⟩ := hb
  refine ⟨_, pw_and p p2, fun β P σ H G s b s' R e Q q => ?_⟩
  unfold mAndB at e
  obtain ⟨⟨x, s1⟩, e1, e⟩ := Option.bind_eq_some_iff.mp e
  refine o β P σ H G s x s1 R e1 _ fun H1 G1 x1 R1 => ?_
  cases x with
  | true =>
    rw [if_pos rfl] at e ⊢
    exact o2 β P σ H1 G1 s1 b s' R1 e Q fun H2 G2 x2 R2 => q H2 G2 (x1.trans x2) R2
  | false =>
    rw [if_neg Bool.false_ne_true] at e ⊢
    cases e
    exact q H1 G1 x1 R1
theorem dw_or {a b : Expr} {rest : List Expr} {f g : DM Bool} {pos : Pos} (ha : DT X a f) (hb : DW X (.BoolOp .Or (b :: rest) pos) g) : DW X (.BoolOp .Or (a :: b :: rest) pos) (mOrB f g) := by
  obtain ⟨t, p, o⟩ := ha
  obtain ⟨u, p2, o2⟩ := hb
  refine ⟨_, pw_or p p2, fun β P σ H G s b s' R e Q q => ?_⟩
  unfold mOrB at e
  obtain ⟨⟨x, s1⟩, e1, e⟩ := Option.bind_eq_some_iff.mp e
  refine o β P σ H G s x s1 R e1 _ fun H1 G1 x1 R1 => ?_
  cases x with
  | true =>
    rw [if_pos rfl] at e ⊢
    cases e
    exact q H1 G1 x1 R1
  | false =>
    rw [if_neg Bool.false_ne_true] at e ⊢
    exact o2 β P σ H1 G1 s1 b s' R1 e Q fun H2 G2 x2 R2 => q H2 G2 (x1.trans x2) R2
theorem dw_and1 {a : Expr} {f : DM Bool} {pos : Pos} (h : DT X a f) : DW X (.BoolOp .And [a] pos) f := by
  obtain ⟨t, p, o⟩ := h
  exact ⟨_, pw_and1 p, o⟩
theorem dw_or1 {a : Expr} {f : DM Bool} {pos : Pos} (h : DT X a f) : DW X (.BoolOp .Or [a] pos) f := by
  obtain ⟨t, p, o⟩ := h
  exact ⟨_, pw_or1 p, o⟩
theorem DW.dt {e : Expr} {f : DM Bool} (h : DW X e f) : DT X e f := by
  obtain ⟨t, p, o⟩ := h
  exact ⟨_, p.pt, o⟩
theorem de_ifx {c a b : Expr} {f : DM Bool} {g h : DM Dt} {pos : Pos} (hc : DT X c f) (ha : DE X a g) (hb : DE X b h) : DE X (.IfExp c a b pos) (mIf f g h) := by
  obtain ⟨t, p, o⟩ := hc
  obtain ⟨u, p2, o2⟩ := ha
  obtain ⟨w, p3, o3⟩ := hb
  refine ⟨_, pe_ifExp p p2 p3, fun β P σ H G s b s' R e Q q => ?_⟩
  unfold mIf at e
  obtain ⟨⟨x, s1⟩, e1, e⟩ := Option.bind_eq_some_iff.mp e
  refine o β P σ H G s x s1 R e1 _ fun H1 G1 x1 R1 => ?_
  cases x with
  | true =>
    rw [if_pos rfl] at e ⊢
    exact o2 β P σ H1 G1 s1 b s' R1 e Q fun v H2 G2 x2 R2 i => q v H2 G2 (x1.trans x2) R2 i
  | false =>
    rw [if_neg Bool.false_ne_true] at e ⊢
    exact o3 β P σ H1 G1 s1 b s' R1 e Q fun v H2 G2 x2 R2 i => q v H2 G2 (x1.trans x2) R2 i
/-! as values: all but the last give truth values -/
def mAndV (f g : DM Dt) : DM Dt := fun s => (f s).bind fun p => match p.1 with
  | .bl true => g p.2
  | .bl false => some (.bl false, p.2)
  | _ => none
def mOrV (f g : DM Dt) : DM Dt := fun s => (f s).bind fun p => match p.1 with
  | .bl false => g p.2
  | .bl true => some (.bl true, p.2)
  | _ => none
def mNotV (f : DM Dt) : DM Dt := fun s => (f s).bind fun p => match p.1 with
  | .bl b => some (.bl !b, p.2)
  | _ => none
theorem de_one {op} {a : Expr} {f : DM Dt} {pos : Pos} (h : DE X a f) : DE X (.BoolOp op [a] pos) f := by
  obtain ⟨t, p, o⟩ := h
  exact ⟨_, pe_one p, o⟩
theorem de_and {a b : Expr} {rest : List Expr} {f g : DM Dt} {pos : Pos} (ha : DE X a f) (hb : DE X (.BoolOp .And (b :: rest) pos) g) : DE X (.BoolOp .And (a :: b :: rest) pos) (mAndV f g) := by
  obtain ⟨t, p, o⟩ := ha
  obtain ⟨u, p2, o2⟩ := hb
  refine ⟨_, pe_and p p2, fun β P σ H G s b s' R e Q q => ?_⟩
  unfold mAndV at e
  obtain ⟨⟨x, s1⟩, e1, e⟩ := Option.bind_eq_some_iff.mp e
  refine o β P σ H G s x s1 R e1 _ fun v H1 G1 x1 R1 i1 => ?_
  split at e
  · rename_i k
    rw [show x = Dt.bl true from k] at i1
    rw [is_bl.mp i1]
    exact ⟨true, rfl, iteT (o2 β P σ H1 G1 s1 b s' R1 e Q fun v H2 G2 x2 R2 i => q v H2 G2 (x1.trans x2) R2 i)⟩
  · rename_i k
    rw [show x = Dt.bl false from k] at i1
    cases e
    rw [is_bl.mp i1]
    exact ⟨false, rfl, iteF (q _ H1 G1 x1 R1 (is_bl.mpr rfl))⟩
  · cases e
theorem de_or {a b : Expr} {rest : List Expr} {f g : DM Dt} {pos : Pos} (ha : DE X a f) (hb : DE X (.BoolOp .Or (b :: rest) pos) g) : DE X (.BoolOp .Or (a :: b :: rest) pos) (mOrV f g) := by
  obtain ⟨t, p, o⟩ := ha
  obtain ⟨u, p2, o2⟩ := hb
  refine ⟨_, pe_or p p2, fun β P σ H G s b s' R e Q q => ?_⟩
  unfold mOrV at e
  obtain ⟨⟨x, s1⟩, e1, e⟩ := Option.bind_eq_some_iff.mp e
  refine o β P σ H G s x s1 R e1 _ fun v H1 G1 x1 R1 i1 => ?_
  split at e
  · rename_i k
    rw [show x = Dt.bl false from k] at i1
    rw [is_bl.mp i1]
    exact ⟨false, rfl, iteF (o2 β P σ H1 G1 s1 b s' R1 e Q fun v H2 G2 x2 R2 i => q v H2 G2 (x1.trans x2) R2 i)⟩
  · rename_i k
    cases e
    rw [show x = Dt.bl true from k] at i1
    rw [is_bl.mp i1]
    exact ⟨true, rfl, iteT (q _ H1 G1 x1 R1 (is_bl.mpr rfl))⟩
  · cases e
theorem de_not {a : Expr} {f : DM Dt} {pos : Pos} (ha : DE X a f) : DE X (.UnaryOp .Not a pos) (mNotV f) := by
  obtain ⟨t, p, o⟩ := ha
  refine ⟨_, pe_not p, fun β P σ H G s b s' R e Q q => ?_⟩
  unfold mNotV at e
  obtain ⟨⟨x, s1⟩, e1, e⟩ := Option.bind_eq_some_iff.mp e
  refine o β P σ H G s x s1 R e1 _ fun v H1 G1 x1 R1 i1 => ?_
  split at e
  · rename_i k c
    rw [show x = Dt.bl k from c] at i1
    cases e
    rw [is_bl.mp i1]
    exact ⟨k, rfl, q _ H1 G1 x1 R1 (is_bl.mpr rfl)⟩
  · cases e
/-! ### lists, tuples, arguments -/
def mNil : DM (List Dt) := fun s => some ([], s)
def mCons (f : DM Dt) (g : DM (List Dt)) : DM (List Dt) := fun s => (f s).bind fun p => (g p.2).bind fun q => some (p.1 :: q.1, q.2)
def mTup (f : DM (List Dt)) : DM Dt := fun s => (f s).bind fun p => if p.1.length ≤ 1000 then some (.tup p.1, p.2) else none
def mLst (f : DM (List Dt)) : DM Dt := fun s => (f s).bind fun p => if p.1.length ≤ 1000 then some (.lst p.1, p.2) else none
theorem da_nil : DA X [] mNil := ⟨_, pa_nil, fun β P σ H G s b s' R e Q q => by cases e; exact q _ H G (Ext.refl G) R (isl_nil.mpr rfl)⟩
theorem da_cons {e : Expr} {es : List Expr} {f : DM Dt} {g : DM (List Dt)} (ha : DE X e f) (hb : DA X es g) (hs : starEach (e :: es) X.env = (false, eval e X.env) :: starEach es X.env := by rfl) : DA X (e :: es) (mCons f g) := by
  obtain ⟨t, p, o⟩ := ha
  obtain ⟨u, p2, o2⟩ := hb
  refine ⟨_, pa_cons p p2 hs, fun β P σ H G s b s' R e Q q => ?_⟩
  unfold mCons at e
  obtain ⟨⟨x, s1⟩, e1, e⟩ := Option.bind_eq_some_iff.mp e
  obtain ⟨⟨y, s2⟩, e2, e⟩ := Option.bind_eq_some_iff.mp e
  cases e
  refine o β P σ H G s x s1 R e1 _ fun v H1 G1 x1 R1 i1 => ?_
  refine o2 β P σ H1 G1 s1 y s2 R1 e2 _ fun vs H2 G2 x2 R2 i2 => ?_
  exact q _ H2 G2 (x1.trans x2) R2 (isl_cons.mpr ⟨v, vs, rfl, IsD.mono x2 _ _ i1, i2⟩)
theorem le_line {n : Nat} (h : n ≤ 1000) : n ≤ sizeLine := Nat.le_trans h (by decide)
theorem de_tup {es : List Expr} {f : DM (List Dt)} {x1 pos} (h : DA X es f) : DE X (.Tuple es x1 pos) (mTup f) := by
  obtain ⟨t, p, o⟩ := h
  refine ⟨_, pe_tup p, fun β P σ H G s b s' R e Q q => ?_⟩
  unfold mTup at e
  obtain ⟨⟨x, s1⟩, e1, e⟩ := Option.bind_eq_some_iff.mp e
  refine o β P σ H G s x s1 R e1 _ fun vs H1 G1 x1 R1 i1 => ?_
  by_cases hl : x.length ≤ 1000
  · simp only [if_pos hl] at e
    cases e
    refine ⟨le_line (by rw [i1.len]; exact hl), fun p hp => ?_⟩
    exact q _ _ _ (x1.trans (Ext.new (R1.free hp))) (R1.new hp) (is_tup.mpr ⟨p, vs, rfl, .inl (.inl upd_same), IsL.mono (Ext.new (R1.free hp)) _ _ i1⟩)
  · simp only [if_neg hl] at e
    cases e
theorem de_lst {es : List Expr} {f : DM (List Dt)} {pos} (h : DA X es f) : DE X (.List es pos) (mLst f) := by
  obtain ⟨t, p, o⟩ := h
  refine ⟨_, pe_lst p, fun β P σ H G s b s' R e Q q => ?_⟩
  unfold mLst at e
  obtain ⟨⟨x, s1⟩, e1, e⟩ := Option.bind_eq_some_iff.mp e
  refine o β P σ H G s x s1 R e1 _ fun vs H1 G1 x1 R1 i1 => ?_
  by_cases hl : x.length ≤ 1000
  · simp only [if_pos hl] at e
    cases e
    refine ⟨le_line (by rw [i1.len]; exact hl), fun p hp => ?_⟩
    exact q _ _ _ (x1.trans (Ext.new (R1.free hp))) (R1.new hp) (is_lst.mpr ⟨p, vs, rfl, upd_same, IsL.mono (Ext.new (R1.free hp)) _ _ i1⟩)
  · simp only [if_neg hl] at e
    cases e
end
end DL

namespace DL
open PySem PySem.Spec PyProof.Rows L2
variable [Tabs]

section
variable {K : PySem.W.Frag}
/-! ### integers -/
def i2 (C : Int → Int → Bool) (g : Int → Int → Dt) : Dt → Dt → Option Dt
  | .int i, .int j => if C i j = true then some (g i j) else none
  | _, _ => none
theorem i2_some {C : Int → Int → Bool} {g : Int → Int → Dt} {x y d : Dt} (h : i2 C g x y = some d) : ∃ i j, x = .int i ∧ y = .int j ∧ C i j = true ∧ d = g i j := by
  unfold i2 at h
  split at h
  · rename_i i j
    split at h
    · rename_i c; cases h; exact ⟨i, j, rfl, rfl, c, rfl⟩
    · cases h
  · cases h
def cTrue (_ _ : Int) : Bool := true
theorem r2_int0 {g : Int → Int → Int} : R2ok K (rI0 fun i j => .int (g i j)) (i2 cTrue fun i j => .int (g i j)) := by
  intro β P σ H G s x y dx dy d R ix iy h Q q
  obtain ⟨i, j, rfl, rfl, _, rfl⟩ := i2_some h
  exact ⟨i, j, is_int.mp ix, is_int.mp iy, q _ H G (Ext.refl G) R (is_int.mpr rfl)⟩
theorem r2_intB {g : Int → Int → Bool} : R2ok K (rI0 fun i j => .bl (g i j)) (i2 cTrue fun i j => .bl (g i j)) := by
  intro β P σ H G s x y dx dy d R ix iy h Q q
  obtain ⟨i, j, rfl, rfl, _, rfl⟩ := i2_some h
  exact ⟨i, j, is_int.mp ix, is_int.mp iy, q _ H G (Ext.refl G) R (is_bl.mpr rfl)⟩
theorem r2_int {C : Int → Int → Prop} {B : Int → Int → Bool} {g : Int → Int → Int} (hB : ∀ i j, B i j = true → C i j) : R2ok K (rI C fun i j => .int (g i j)) (i2 B fun i j => .int (g i j)) := by
  intro β P σ H G s x y dx dy d R ix iy h Q q
  obtain ⟨i, j, rfl, rfl, c, rfl⟩ := i2_some h
  exact ⟨i, j, is_int.mp ix, is_int.mp iy, hB i j c, q _ H G (Ext.refl G) R (is_int.mpr rfl)⟩
def bMul (i j : Int) : Bool := (decide (-18446744073709551616 < j) && decide (j < 18446744073709551616)) || (decide (-18446744073709551616 < i) && decide (i < 18446744073709551616))
theorem bMul_ok (i j : Int) (h : bMul i j = true) : CMul i j := by
  unfold bMul at h
  rw [Bool.or_eq_true] at h
  rcases h with h | h
  · rw [Bool.and_eq_true] at h; exact .inr ⟨of_decide_eq_true h.1, of_decide_eq_true h.2⟩
  · rw [Bool.and_eq_true] at h; exact .inl ⟨of_decide_eq_true h.1, of_decide_eq_true h.2⟩
def bDiv (_ j : Int) : Bool := decide (0 < j) && decide (j < 1073741824)
theorem bDiv_ok (i j : Int) (h : bDiv i j = true) : CDivN i j := by
  unfold bDiv at h
  rw [Bool.and_eq_true] at h
  have h1 := of_decide_eq_true h.1
  have h2 := of_decide_eq_true h.2
  exact ⟨by omega, by omega⟩
def bMod (_ j : Int) : Bool := decide (0 < j)
theorem bMod_ok (i j : Int) (h : bMod i j = true) : 0 < j := of_decide_eq_true h
def bPow (i j : Int) : Bool := decide (0 ≤ j) && decide (j ≤ 1000000) && decide (i.natAbs < 2 ^ 64)
theorem bPow_ok (i j : Int) (h : bPow i j = true) : CPow i j := by
  unfold bPow at h
  rw [Bool.and_eq_true, Bool.and_eq_true] at h
  exact ⟨of_decide_eq_true h.1.1, of_decide_eq_true h.1.2, of_decide_eq_true h.2⟩
def gSub0 : Dt → Dt → Option Dt := i2 cTrue fun i j => .int (i - j)
def gMul : Dt → Dt → Option Dt := i2 bMul fun i j => .int (i * j)
def gDiv : Dt → Dt → Option Dt := i2 bDiv fun i j => .int (i.fdiv j)
def gMod : Dt → Dt → Option Dt := i2 bMod fun i j => .int (i % j)
def gPow : Dt → Dt → Option Dt := i2 bPow fun i j => .int (i ^ j.toNat)
def gLt : Dt → Dt → Option Dt := i2 cTrue fun i j => .bl (decide (i < j))
def gLe : Dt → Dt → Option Dt := i2 cTrue fun i j => .bl (decide (i ≤ j))
def gGt : Dt → Dt → Option Dt := i2 cTrue fun i j => .bl (decide (j < i))
def gGe : Dt → Dt → Option Dt := i2 cTrue fun i j => .bl (decide (j ≤ i))
theorem R2ok.or {r r' : R2} {g g' : Dt → Dt → Option Dt} (h : R2ok K r g) (h' : R2ok K r' g') : R2ok K (fun x y H Q => r x y H Q ∨ r' x y H Q) (fun x y => match g x y with | some d => some d | none => g' x y) := by
  intro β P σ H G s x y dx dy d R ix iy e Q q
  dsimp only at e
  split at e
  · rename_i d' k
    cases e
    exact .inl (h β P σ H G s x y dx dy d R ix iy k Q q)
  · exact .inr (h' β P σ H G s x y dx dy d R ix iy e Q q)
theorem R2ok.imp {r : R2} {g g' : Dt → Dt → Option Dt} (h : R2ok K r g) (hg : ∀ x y d, g' x y = some d → g x y = some d) : R2ok K r g' :=
  fun β P σ H G s x y dx dy d R ix iy e => h β P σ H G s x y dx dy d R ix iy (hg _ _ _ e)
/-! ### texts, lists, tuples -/
def gAddS : Dt → Dt → Option Dt
  | .str a, .str b => if a.length + b.length ≤ sizeLine then some (.str (a ++ b)) else none
  | _, _ => none
theorem r2_addS : R2ok K (fun x y H Q => ∃ i j, x = .str i ∧ y = .str j ∧ i.length + j.length ≤ sizeLine ∧ Q (.str (i ++ j)) H) gAddS := by
  intro β P σ H G s x y dx dy d R ix iy h Q q
  unfold gAddS at h
  split at h
  · rename_i a b
    split at h
    · rename_i c; cases h; exact ⟨a, b, is_str.mp ix, is_str.mp iy, c, q _ H G (Ext.refl G) R (is_str.mpr rfl)⟩
    · cases h
  · cases h
def gAddL : Dt → Dt → Option Dt
  | .lst a, .lst b => if a.length + b.length ≤ sizeLine then some (.lst (a ++ b)) else none
  | _, _ => none
theorem r2_addL : R2ok K rCat gAddL := by
  intro β P σ H G s x y dx dy d R ix iy h Q q
  unfold gAddL at h
  split at h
  · rename_i a b
    split at h
    · rename_i c
      cases h
      obtain ⟨p, vs, rfl, h1, h2⟩ := is_lst.mp ix
      obtain ⟨p', us, rfl, h3, h4⟩ := is_lst.mp iy
      refine ⟨p, p', vs, us, rfl, rfl, R.gh _ _ h1, R.gh _ _ h3, by rw [h2.len, h4.len]; exact c, fun l hl => ?_⟩
      exact q _ _ _ (Ext.new (R.free hl)) (R.new hl) (is_lst.mpr ⟨l, _, rfl, upd_same, IsL.mono (Ext.new (R.free hl)) _ _ (h2.append h4)⟩)
    · cases h
  · cases h
def gAddT : Dt → Dt → Option Dt
  | .tup a, .tup b => if a.length + b.length ≤ sizeLine then some (.tup (a ++ b)) else none
  | _, _ => none
theorem r2_addT : R2ok K (rCatA K) gAddT := by
  intro β P σ H G s x y dx dy d R ix iy h Q q
  unfold gAddT at h
  split at h
  · rename_i a b
    split at h
    · rename_i c
      cases h
      obtain ⟨p, vs, rfl, h1, h2⟩ := is_tup.mp ix
      obtain ⟨p', us, rfl, h3, h4⟩ := is_tup.mp iy
      refine ⟨p, p', vs, us, rfl, rfl, ext_t R.gh h1, ext_t R.gh h3, by rw [h2.len, h4.len]; exact c, fun e => ?_, fun e e' => ?_, fun e e' l hl => ?_⟩
      · refine q _ H G (Ext.refl G) R ?_
        have z : a = [] := by
          have := h2.len; rw [e] at this; exact List.eq_nil_of_length_eq_zero this.symm
        rw [z]; exact iy
      · refine q _ H G (Ext.refl G) R ?_
        have z : b = [] := by
          have := h4.len; rw [e'] at this; exact List.eq_nil_of_length_eq_zero this.symm
        rw [z, List.append_nil]; exact ix
      · exact q _ _ _ (Ext.new (R.free hl)) (R.new hl) (is_tup.mpr ⟨l, _, rfl, .inl (.inl upd_same), IsL.mono (Ext.new (R.free hl)) _ _ (h2.append h4)⟩)
    · cases h
  · cases h
/-- + of ints, texts, lists, tuples -/
def gAdd : Dt → Dt → Option Dt
  | .int i, .int j => some (.int (i + j))
  | .str a, .str b => if a.length + b.length ≤ sizeLine then some (.str (a ++ b)) else none
  | .lst a, .lst b => if a.length + b.length ≤ sizeLine then some (.lst (a ++ b)) else none
  | .tup a, .tup b => if a.length + b.length ≤ sizeLine then some (.tup (a ++ b)) else none
  | _, _ => none
section
variable {X : Cx}
theorem de_add {a b : Expr} {fa fb : DM Dt} {pos : Pos} (ha : DE X a fa) (hb : DE X b fb) : DE X (.BinOp a .Add b pos) (m2 gAdd fa fb) := by
  refine de_op (op_add.or (op_add_str.or (op_cat.or op_catA))) ((r2_int0.or (r2_addS.or (r2_addL.or r2_addT))).imp fun x y d h => ?_) ha hb
  unfold gAdd at h
  split at h
  · exact h
  · exact (show (match gAddS _ _ with | some d => some d | none => _) = _ by simp only [gAddS]; split at h <;> simp_all)
  · simp only [i2, gAddS, gAddL]; split at h <;> simp_all
  · simp only [i2, gAddS, gAddL, gAddT]; split at h <;> simp_all
  · cases h
theorem de_sub {a b : Expr} {fa fb : DM Dt} {pos : Pos} (ha : DE X a fa) (hb : DE X b fb) : DE X (.BinOp a .Sub b pos) (m2 gSub0 fa fb) := de_op op_sub r2_int0 ha hb
theorem de_mul {a b : Expr} {fa fb : DM Dt} {pos : Pos} (ha : DE X a fa) (hb : DE X b fb) : DE X (.BinOp a .Mult b pos) (m2 gMul fa fb) := de_op op_mul (r2_int bMul_ok) ha hb
theorem de_fdiv {a b : Expr} {fa fb : DM Dt} {pos : Pos} (ha : DE X a fa) (hb : DE X b fb) : DE X (.BinOp a .FloorDiv b pos) (m2 gDiv fa fb) := de_op op_fdivN (r2_int bDiv_ok) ha hb
theorem de_mod {a b : Expr} {fa fb : DM Dt} {pos : Pos} (ha : DE X a fa) (hb : DE X b fb) : DE X (.BinOp a .Mod b pos) (m2 gMod fa fb) := de_op op_mod (r2_int bMod_ok) ha hb
theorem de_pow {a b : Expr} {fa fb : DM Dt} {pos : Pos} (ha : DE X a fa) (hb : DE X b fb) : DE X (.BinOp a .Pow b pos) (m2 gPow fa fb) := de_op op_pow (r2_int bPow_ok) ha hb
end
/-! ### the comparisons -/
def strLt (a b : Str) : Bool := decide (a.cps.toList < b.cps.toList)
def s2 (g : Str → Str → Bool) : Dt → Dt → Option Dt
  | .str a, .str b => some (.bl (g a b))
  | _, _ => none
theorem r2_s2 {g : Str → Str → Bool} : R2ok K (fun x y H Q => ∃ i j, x = .str i ∧ y = .str j ∧ Q (.bl (g i j)) H) (s2 g) := by
  intro β P σ H G s x y dx dy d R ix iy h Q q
  unfold s2 at h
  split at h
  · rename_i a b; cases h; exact ⟨a, b, is_str.mp ix, is_str.mp iy, q _ H G (Ext.refl G) R (is_bl.mpr rfl)⟩
  · cases h
def oLt : Dt → Dt → Option Dt
  | .int i, .int j => some (.bl (decide (i < j)))
  | .str a, .str b => some (.bl (strLt a b))
  | _, _ => none
def oLe : Dt → Dt → Option Dt
  | .int i, .int j => some (.bl (decide (i ≤ j)))
  | .str a, .str b => some (.bl !(strLt b a))
  | _, _ => none
def oGt : Dt → Dt → Option Dt
  | .int i, .int j => some (.bl (decide (j < i)))
  | .str a, .str b => some (.bl (strLt b a))
  | _, _ => none
def oGe : Dt → Dt → Option Dt
  | .int i, .int j => some (.bl (decide (j ≤ i)))
  | .str a, .str b => some (.bl !(strLt a b))
  | _, _ => none
theorem r2_lt : R2ok K (fun x y H Q => rI0 (fun i j => .bl (decide (i < j))) x y H Q ∨ ∃ i j, x = .str i ∧ y = .str j ∧ Q (.bl (decide (i.cps.toList < j.cps.toList))) H) oLt :=
  (r2_intB.or (r2_s2 (g := strLt))).imp fun x y d h => by unfold oLt at h; split at h <;> first | exact h | cases h
theorem r2_le : R2ok K (fun x y H Q => rI0 (fun i j => .bl (decide (i ≤ j))) x y H Q ∨ ∃ i j, x = .str i ∧ y = .str j ∧ Q (.bl (!decide (j.cps.toList < i.cps.toList))) H) oLe :=
  (r2_intB.or (r2_s2 (g := fun a b => !strLt b a))).imp fun x y d h => by unfold oLe at h; split at h <;> first | exact h | cases h
theorem r2_gt : R2ok K (fun x y H Q => rI0 (fun i j => .bl (decide (j < i))) x y H Q ∨ ∃ i j, x = .str i ∧ y = .str j ∧ Q (.bl (decide (j.cps.toList < i.cps.toList))) H) oGt :=
  (r2_intB.or (r2_s2 (g := fun a b => strLt b a))).imp fun x y d h => by unfold oGt at h; split at h <;> first | exact h | cases h
theorem r2_ge : R2ok K (fun x y H Q => rI0 (fun i j => .bl (decide (j ≤ i))) x y H Q ∨ ∃ i j, x = .str i ∧ y = .str j ∧ Q (.bl (!decide (i.cps.toList < j.cps.toList))) H) oGe :=
  (r2_intB.or (r2_s2 (g := fun a b => !strLt a b))).imp fun x y d h => by unfold oGe at h; split at h <;> first | exact h | cases h
/-! == of data -/
mutual
def toPy : Dt → PyData
  | .non => .none
  | .bl b => .bool b
  | .int i => .int i
  | .str x => .str x
  | .tup l => .tuple (toPys l)
  | .lst l => .list (toPys l)
  | .bag => .none
  | .dic _ _ => .none
def toPys : List Dt → List PyData
  | [] => []
  | d :: l => toPy d :: toPys l
end
mutual
def plain : Dt → Bool
  | .bag => false
  | .dic _ _ => false
  | .tup l => plains l
  | .lst l => plains l
  | _ => true
def plains : List Dt → Bool
  | [] => true
  | d :: l => plain d && plains l
end
mutual
theorem dp_of {β : Addr} {G H : Hp} (e : Ext G H) : ∀ (d : Dt) (v : V), plain d = true → IsD K β G d v → Dp K H v (toPy d)
  | .non, v, _, h => by rw [is_non.mp h]; exact .non
  | .bl b, v, _, h => by rw [is_bl.mp h]; exact .bl b
  | .int b, v, _, h => by rw [is_int.mp h]; exact .int b
  | .str b, v, _, h => by rw [is_str.mp h]; exact .str b
  | .bag, _, p, _ => by cases p
  | .dic _ _, _, p, _ => by cases p
  | .tup l, v, p, h => by
    obtain ⟨a, vs, rfl, h1, h2⟩ := is_tup.mp h
    unfold toPy
    exact .tup (ext_t e h1) (dps_of e l vs (by unfold plain at p; exact p) h2)
  | .lst l, v, p, h => by
    obtain ⟨a, vs, rfl, h1, h2⟩ := is_lst.mp h
    unfold toPy
    exact .lst (.inl (.inl (e _ _ h1))) (dps_of e l vs (by unfold plain at p; exact p) h2)
theorem dps_of {β : Addr} {G H : Hp} (e : Ext G H) : ∀ (l : List Dt) (vs : List V), plains l = true → IsL K β G l vs → DpAll K H vs (toPys l)
  | [], vs, _, h => by rw [isl_nil.mp h]; unfold toPys; exact .nil
  | d :: l, vs, p, h => by
    obtain ⟨v, r, rfl, h1, h2⟩ := isl_cons.mp h
    unfold plains at p
    rw [Bool.and_eq_true] at p
    unfold toPys
    exact .cons (dp_of e d v p.1 h1) (dps_of e l r p.2 h2)
end
def eqOk (d : Dt) : Bool := plain d && SeqAt.shaped (toPy d)
def eqD (d e : Dt) : Bool := PyData.eqv (toPy d) (toPy e)
def gEq (d e : Dt) : Option Dt := if (eqOk d && eqOk e) = true then some (.bl (eqD d e)) else none
def gNe (d e : Dt) : Option Dt := if (eqOk d && eqOk e) = true then some (.bl !(eqD d e)) else none
theorem r2_eq : R2ok K (rEqD K) gEq := by
  intro β P σ H G s x y dx dy d R ix iy h Q q
  unfold gEq at h
  split at h
  · rename_i c
    cases h
    unfold eqOk at c
    simp only [Bool.and_eq_true] at c
    exact ⟨_, _, dp_of R.gh _ _ c.1.1 ix, dp_of R.gh _ _ c.2.1 iy, c.1.2, c.2.2, q _ H G (Ext.refl G) R (is_bl.mpr rfl)⟩
  · cases h
theorem r2_ne : R2ok K (rNeD K) gNe := by
  intro β P σ H G s x y dx dy d R ix iy h Q q
  unfold gNe at h
  split at h
  · rename_i c
    cases h
    unfold eqOk at c
    simp only [Bool.and_eq_true] at c
    exact ⟨_, _, dp_of R.gh _ _ c.1.1 ix, dp_of R.gh _ _ c.2.1 iy, c.1.2, c.2.2, q _ H G (Ext.refl G) R (is_bl.mpr rfl)⟩
  · cases h
/-! is None -/
def isNon : Dt → Bool
  | .non => true
  | _ => false
theorem non_iff {β : Addr} {G : Hp} {d : Dt} {v : V} (h : IsD K β G d v) : decide (v = .non) = isNon d := by
  cases d with
  | non => rw [is_non.mp h]; rfl
  | bl b => rw [is_bl.mp h]; rfl
  | int b => rw [is_int.mp h]; rfl
  | str b => rw [is_str.mp h]; rfl
  | bag => rw [is_bag.mp h]; rfl
  | tup l => obtain ⟨a, vs, rfl, _⟩ := is_tup.mp h; rfl
  | lst l => obtain ⟨a, vs, rfl, _⟩ := is_lst.mp h; rfl
  | dic ks l => obtain ⟨a, vs, rfl, _⟩ := is_dic.mp h; rfl
def gIsN (x y : Dt) : Option Dt := if isNon y = true then some (.bl (isNon x)) else none
def gNotN (x y : Dt) : Option Dt := if isNon y = true then some (.bl !(isNon x)) else none
theorem r2_isN : R2ok K (fun x y H Q => y = .non ∧ Q (.bl (decide (x = .non))) H) gIsN := by
  intro β P σ H G s x y dx dy d R ix iy h Q q
  unfold gIsN at h
  split at h
  · rename_i c
    cases h
    have e := non_iff iy
    rw [c] at e
    exact ⟨of_decide_eq_true e, by rw [non_iff ix]; exact q _ H G (Ext.refl G) R (is_bl.mpr rfl)⟩
  · cases h
theorem r2_notN : R2ok K (fun x y H Q => y = .non ∧ Q (.bl (!decide (x = .non))) H) gNotN := by
  intro β P σ H G s x y dx dy d R ix iy h Q q
  unfold gNotN at h
  split at h
  · rename_i c
    cases h
    have e := non_iff iy
    rw [c] at e
    exact ⟨of_decide_eq_true e, by rw [non_iff ix]; exact q _ H G (Ext.refl G) R (is_bl.mpr rfl)⟩
  · cases h
/-! in -/
def flatD : Dt → Bool
  | .non => true
  | .bl _ => true
  | .int _ => true
  | .str _ => true
  | _ => false
def sameD : Dt → Dt → Bool
  | .non, .non => true
  | .bl a, .bl b => a == b
  | .bl a, .int b => (if a then 1 else 0) == b
  | .int a, .bl b => a == (if b then 1 else 0)
  | .int a, .int b => a == b
  | .str a, .str b => a == b
  | _, _ => false
theorem flat_ok {β : Addr} {G : Hp} {d : Dt} {v : V} (h : IsD K β G d v) (f : flatD d = true) : flatV v = true := by
  cases d with
  | non => rw [is_non.mp h]; rfl
  | bl b => rw [is_bl.mp h]; rfl
  | int b => rw [is_int.mp h]; rfl
  | str b => rw [is_str.mp h]; rfl
  | _ => cases f
theorem same_ok {β : Addr} {G : Hp} {d e : Dt} {v u : V} (h : IsD K β G d v) (f : flatD d = true) (h' : IsD K β G e u) (f' : flatD e = true) : eqV v u = sameD d e := by
  cases d with
  | non => rw [is_non.mp h]; cases e with
    | non => rw [is_non.mp h']; rfl
    | bl b => rw [is_bl.mp h']; rfl
    | int b => rw [is_int.mp h']; rfl
    | str b => rw [is_str.mp h']; rfl
    | _ => cases f'
  | bl b => rw [is_bl.mp h]; cases e with
    | non => rw [is_non.mp h']; rfl
    | bl b => rw [is_bl.mp h']; rfl
    | int b => rw [is_int.mp h']; rfl
    | str b => rw [is_str.mp h']; rfl
    | _ => cases f'
  | int b => rw [is_int.mp h]; cases e with
    | non => rw [is_non.mp h']; rfl
    | bl b => rw [is_bl.mp h']; rfl
    | int b => rw [is_int.mp h']; rfl
    | str b => rw [is_str.mp h']; rfl
    | _ => cases f'
  | str b => rw [is_str.mp h]; cases e with
    | non => rw [is_non.mp h']; rfl
    | bl b => rw [is_bl.mp h']; rfl
    | int b => rw [is_int.mp h']; rfl
    | str b => rw [is_str.mp h']; rfl
    | _ => cases f'
  | _ => cases f
theorem flats_ok {β : Addr} {G : Hp} : ∀ {l : List Dt} {vs : List V}, IsL K β G l vs → l.all flatD = true → vs.all flatV = true
  | [], vs, h, _ => by rw [isl_nil.mp h]; rfl
  | d :: l, vs, h, f => by
    obtain ⟨v, r, rfl, h1, h2⟩ := isl_cons.mp h
    simp only [List.all_cons, Bool.and_eq_true] at f ⊢
    exact ⟨flat_ok h1 f.1, flats_ok h2 f.2⟩
theorem ins_ok {β : Addr} {G : Hp} {e : Dt} {u : V} (hu : IsD K β G e u) (f' : flatD e = true) : ∀ {l : List Dt} {vs : List V}, IsL K β G l vs → l.all flatD = true → inV u vs = l.any fun d => sameD d e
  | [], vs, h, _ => by rw [isl_nil.mp h]; rfl
  | d :: l, vs, h, f => by
    obtain ⟨v, r, rfl, h1, h2⟩ := isl_cons.mp h
    simp only [List.all_cons, Bool.and_eq_true] at f
    show (eqV v u || inV u r) = _
    rw [same_ok h1 f.1 hu f', ins_ok hu f' h2 f.2]
    rfl
def inS (a b : Str) : Bool := !(Builtin.Str.occurrences b a 0 b.length 1).isEmpty
def gIn : Dt → Dt → Option Dt
  | .str a, .str b => some (.bl (inS a b))
  | x, .tup l => if (flatD x && l.all flatD) = true then some (.bl (l.any fun d => sameD d x)) else none
  | x, .lst l => if (flatD x && l.all flatD) = true then some (.bl (l.any fun d => sameD d x)) else none
  | _, _ => none
def gNin : Dt → Dt → Option Dt
  | .str a, .str b => some (.bl !(inS a b))
  | x, .tup l => if (flatD x && l.all flatD) = true then some (.bl !(l.any fun d => sameD d x)) else none
  | x, .lst l => if (flatD x && l.all flatD) = true then some (.bl !(l.any fun d => sameD d x)) else none
  | _, _ => none
theorem r2_in : R2ok K (fun x y H Q => (∃ i j, x = .str i ∧ y = .str j ∧ Q (.bl (!(Builtin.Str.occurrences j i 0 j.length 1).isEmpty)) H) ∨ rIn K false x y H Q) gIn := by
  intro β P σ H G s x y dx dy d R ix iy h Q q
  unfold gIn at h
  split at h
  · rename_i a b
    cases h
    exact .inl ⟨a, b, is_str.mp ix, is_str.mp iy, q _ H G (Ext.refl G) R (is_bl.mpr rfl)⟩
  · rename_i l
    split at h
    · rename_i c
      cases h
      rw [Bool.and_eq_true] at c
      obtain ⟨a, vs, rfl, h1, h2⟩ := is_tup.mp iy
      exact .inr ⟨a, vs, rfl, .inr (ext_t R.gh h1), flat_ok ix c.1, flats_ok h2 c.2, q _ H G (Ext.refl G) R (is_bl.mpr (by rw [ins_ok ix c.1 h2 c.2]; rfl))⟩
    · cases h
  · rename_i l
    split at h
    · rename_i c
      cases h
      rw [Bool.and_eq_true] at c
      obtain ⟨a, vs, rfl, h1, h2⟩ := is_lst.mp iy
      exact .inr ⟨a, vs, rfl, .inl (.inl (.inl (R.gh _ _ h1))), flat_ok ix c.1, flats_ok h2 c.2, q _ H G (Ext.refl G) R (is_bl.mpr (by rw [ins_ok ix c.1 h2 c.2]; rfl))⟩
    · cases h
  · cases h
theorem r2_nin : R2ok K (fun x y H Q => (∃ i j, x = .str i ∧ y = .str j ∧ Q (.bl (!(!(Builtin.Str.occurrences j i 0 j.length 1).isEmpty))) H) ∨ rIn K true x y H Q) gNin := by
  intro β P σ H G s x y dx dy d R ix iy h Q q
  unfold gNin at h
  split at h
  · rename_i a b
    cases h
    exact .inl ⟨a, b, is_str.mp ix, is_str.mp iy, q _ H G (Ext.refl G) R (is_bl.mpr rfl)⟩
  · rename_i l
    split at h
    · rename_i c
      cases h
      rw [Bool.and_eq_true] at c
      obtain ⟨a, vs, rfl, h1, h2⟩ := is_tup.mp iy
      exact .inr ⟨a, vs, rfl, .inr (ext_t R.gh h1), flat_ok ix c.1, flats_ok h2 c.2, q _ H G (Ext.refl G) R (is_bl.mpr (by rw [ins_ok ix c.1 h2 c.2]; rfl))⟩
    · cases h
  · rename_i l
    split at h
    · rename_i c
      cases h
      rw [Bool.and_eq_true] at c
      obtain ⟨a, vs, rfl, h1, h2⟩ := is_lst.mp iy
      exact .inr ⟨a, vs, rfl, .inl (.inl (.inl (R.gh _ _ h1))), flat_ok ix c.1, flats_ok h2 c.2, q _ H G (Ext.refl G) R (is_bl.mpr (by rw [ins_ok ix c.1 h2 c.2]; rfl))⟩
    · cases h
  · cases h
/-! ### an item, a slice -/
def gIx : Dt → Dt → Option Dt
  | .tup l, .int i => atI l i
  | .lst l, .int i => atI l i
  | .str z, .int i => if z.length ≤ sizeLine then (atI z.cps.toList i).bind fun c => some (.str ⟨#[c]⟩) else none
  | _, _ => none
theorem ati_ok {β : Addr} {G : Hp} {l : List Dt} {vs : List V} {i : Int} {d : Dt} (h : IsL K β G l vs) (e : atI l i = some d) : ∃ v, atI vs i = some v ∧ IsD K β G d v := by
  unfold atI at e ⊢
  obtain ⟨j, e1, e2⟩ := Option.bind_eq_some_iff.mp e
  obtain ⟨v, e3, e4⟩ := h.get e2
  exact ⟨v, by rw [h.len, e1]; exact e3, e4⟩
theorem r2_ix : R2ok K (rIx K) gIx := by
  intro β P σ H G s x y dx dy d R ix iy h Q q
  unfold gIx at h
  split at h
  · rename_i l i
    obtain ⟨a, vs, rfl, h1, h2⟩ := is_tup.mp ix
    obtain ⟨v, e1, e2⟩ := ati_ok h2 h
    exact .inr (.inl ⟨a, vs, i, v, rfl, is_int.mp iy, ext_t R.gh h1, e1, q _ H G (Ext.refl G) R e2⟩)
  · rename_i l i
    obtain ⟨a, vs, rfl, h1, h2⟩ := is_lst.mp ix
    obtain ⟨v, e1, e2⟩ := ati_ok h2 h
    exact .inl ⟨a, vs, i, v, rfl, is_int.mp iy, .inl (.inl (R.gh _ _ h1)), e1, q _ H G (Ext.refl G) R e2⟩
  · rename_i z i
    split at h
    · rename_i c
      obtain ⟨k, e1, e2⟩ := Option.bind_eq_some_iff.mp h
      cases e2
      exact .inr (.inr ⟨z, i, k, is_str.mp ix, is_int.mp iy, c, e1, q _ H G (Ext.refl G) R (is_str.mpr rfl)⟩)
    · cases h
  · cases h
end
section
variable {X : Cx}
theorem de_ix {a b : Expr} {fa fb : DM Dt} {pos : Pos} (ha : DE X a fa) (hb : DE X b fb) (hs : PlainIx b := by exact fun _ _ => rfl) : DE X (.Subscript a b pos) (m2 gIx fa fb) := by
  obtain ⟨ta, pa, oa⟩ := ha
  obtain ⟨tb, pb, ob⟩ := hb
  exact ⟨_, pe_ix ix_seq pa pb hs, te_op r2_ix oa ob⟩
end
end DL

namespace DL
open PySem PySem.Spec PyProof.Rows L2
variable [Tabs]

/-! ### slices -/
def mNoP : DM (Option Int) := fun s => some (none, s)
def mPart (f : DM Dt) : DM (Option Int) := fun s => (f s).bind fun p => match p.1 with
  | .int i => some (some i, p.2)
  | _ => none
def cutD {α : Type} (l : List α) (lo hi : Option Int) : List α := (l.drop (HT.sIx l.length 0 lo)).take (HT.sIx l.length l.length hi - HT.sIx l.length 0 lo)
def gSl : Dt → Option Int → Option Int → Option Dt
  | .str z, lo, hi => if z.length ≤ sizeLine then some (.str (cutS z lo hi)) else none
  | .lst l, lo, hi => some (.lst (cutD l lo hi))
  | .tup l, lo, hi => some (.tup (cutD l lo hi))
  | _, _, _ => none
def mSl (f : DM Dt) (g h : DM (Option Int)) : DM Dt := fun s => (f s).bind fun p => (g p.2).bind fun q => (h q.2).bind fun r => (gSl p.1 q.1 r.1).bind fun d => some (d, r.2)
theorem cutD_ok {K : PySem.W.Frag} {β : Addr} {G : Hp} {l : List Dt} {vs : List V} (h : IsL K β G l vs) (lo hi : Option Int) : IsL K β G (cutD l lo hi) (cutV vs lo hi) := by
  unfold cutD cutV
  rw [h.len]
  exact (h.drop _).take _
section
variable {X : Cx}
theorem do_none : DO X none mNoP := ⟨_, po_none, fun β P σ H G s o s' R e Q q => by cases e; exact q H G (Ext.refl G) R⟩
theorem do_some {e : Expr} {f : DM Dt} (h : DE X e f) : DO X (some e) (mPart f) := by
  obtain ⟨t, p, o⟩ := h
  refine ⟨_, po_some p, fun β P σ H G s b s' R e Q q => ?_⟩
  unfold mPart at e
  obtain ⟨⟨x, s1⟩, e1, e⟩ := Option.bind_eq_some_iff.mp e
  refine o β P σ H G s x s1 R e1 _ fun v H1 G1 x1 R1 i1 => ?_
  cases x with
  | int k => cases e; exact ⟨k, is_int.mp i1, q H1 G1 x1 R1⟩
  | _ => cases e
theorem de_sl {e : Expr} {lo hi : Option Expr} {f : DM Dt} {g h : DM (Option Int)} {p2 pos : Pos} (he : DE X e f) (hl : DO X lo g) (hh : DO X hi h) : DE X (.Subscript e (.Slice lo hi none p2) pos) (mSl f g h) := by
  obtain ⟨t, p, o⟩ := he
  obtain ⟨t2, p2, o2⟩ := hl
  obtain ⟨t3, p3, o3⟩ := hh
  refine ⟨_, pe_slice (sl_list.or (sl_str.or sl_tupA)) p p2 p3, fun β P σ H G s b s' R e Q q => ?_⟩
  unfold mSl at e
  obtain ⟨⟨x, s1⟩, e1, e⟩ := Option.bind_eq_some_iff.mp e
  obtain ⟨⟨l, s2⟩, e2, e⟩ := Option.bind_eq_some_iff.mp e
  obtain ⟨⟨u, s3⟩, e3, e⟩ := Option.bind_eq_some_iff.mp e
  obtain ⟨d, e4, e⟩ := Option.bind_eq_some_iff.mp e
  cases e
  refine o β P σ H G s x s1 R e1 _ fun v H1 G1 x1 R1 i1 => ?_
  refine o2 β P σ H1 G1 s1 l s2 R1 e2 _ fun H2 G2 x2 R2 => ?_
  refine o3 β P σ H2 G2 s2 u s3 R2 e3 _ fun H3 G3 x3 R3 => ?_
  have i3 := IsD.mono (x2.trans x3) _ _ i1
  have xx := (x1.trans x2).trans x3
  unfold gSl at e4
  dsimp only at e4
  split at e4
  · rename_i z lo hi
    split at e4
    · rename_i c
      cases e4
      exact .inr (.inl ⟨z, is_str.mp i3, c, q _ H3 G3 xx R3 (is_str.mpr rfl)⟩)
    · cases e4
  · rename_i m lo hi
    cases e4
    obtain ⟨a, vs, rfl, h1, h2⟩ := is_lst.mp i3
    refine .inl ⟨a, vs, rfl, .inl (.inl (R3.gh _ _ h1)), fun l hl => ?_⟩
    exact q _ _ _ (xx.trans (Ext.new (R3.free hl))) (R3.new hl) (is_lst.mpr ⟨l, _, rfl, upd_same, IsL.mono (Ext.new (R3.free hl)) _ _ (cutD_ok h2 _ _)⟩)
  · rename_i m lo hi
    cases e4
    obtain ⟨a, vs, rfl, h1, h2⟩ := is_tup.mp i3
    refine .inr (.inr ⟨a, vs, rfl, ext_t R3.gh h1, fun c => ?_, fun _ l hl => ?_⟩)
    · refine q _ H3 G3 xx R3 ?_
      have z : cutD m l u = m := by
        rw [h2.len] at c
        unfold cutD
        rw [c.1, c.2]
        simp
      rw [z]; exact i3
    · exact q _ _ _ (xx.trans (Ext.new (R3.free hl))) (R3.new hl) (is_tup.mpr ⟨l, _, rfl, .inl (.inl upd_same), IsL.mono (Ext.new (R3.free hl)) _ _ (cutD_ok h2 _ _)⟩)
  · cases e4
/-- xs[::-1] of a list -/
def mRev (f : DM Dt) : DM Dt := fun s => (f s).bind fun p => match p.1 with
  | .lst l => some (.lst l.reverse, p.2)
  | _ => none
theorem isl_rev {K : PySem.W.Frag} {β : Addr} {G : Hp} : ∀ {l : List Dt} {vs : List V}, IsL K β G l vs → IsL K β G l.reverse vs.reverse
  | [], vs, h => by rw [isl_nil.mp h]; exact isl_nil.mpr rfl
  | d :: l, vs, h => by
    obtain ⟨v, r, rfl, h1, h2⟩ := isl_cons.mp h
    rw [List.reverse_cons, List.reverse_cons]
    exact (isl_rev h2).snoc h1
theorem de_rev {e : Expr} {f : DM Dt} {k : Nat} {p1 p2 p3 pos : Pos} (he : DE X e f) : DE X (.Subscript e (.Slice none none (some (.UnaryOp .USub (.Constant (.int 1) k p1) p2)) p3) pos) (mRev f) := by
  obtain ⟨t, p, o⟩ := he
  refine ⟨_, pe_revL p, fun β P σ H G s b s' R e Q q => ?_⟩
  unfold mRev at e
  obtain ⟨⟨x, s1⟩, e1, e⟩ := Option.bind_eq_some_iff.mp e
  refine o β P σ H G s x s1 R e1 _ fun v H1 G1 x1 R1 i1 => ?_
  cases x with
  | lst m =>
    cases e
    obtain ⟨a, vs, rfl, h1, h2⟩ := is_lst.mp i1
    refine ⟨a, vs, rfl, .inl (.inl (R1.gh _ _ h1)), fun l hl => ?_⟩
    exact q _ _ _ (x1.trans (Ext.new (R1.free hl))) (R1.new hl) (is_lst.mpr ⟨l, _, rfl, upd_same, IsL.mono (Ext.new (R1.free hl)) _ _ (isl_rev h2)⟩)
  | _ => cases e
/-! ### a chain of two comparisons; is a truth value -/
def mChain (g g' : Dt → Dt → Option Dt) (f1 f2 f3 : DM Dt) : DM Dt := fun s => (f1 s).bind fun p => (f2 p.2).bind fun q => (g p.1 q.1).bind fun d => match d with
  | .bl true => (f3 q.2).bind fun r => (g' q.1 r.1).bind fun d' => some (d', r.2)
  | .bl false => some (.bl false, q.2)
  | _ => none
theorem te_chain {K : PySem.W.Frag} {r r' : R2} {g g' : Dt → Dt → Option Dt} {ta tb tc : TE} {fa fb fc : DM Dt} (hr : R2ok K r g) (hr' : R2ok K r' g') (ha : TEok K ta fa) (hb : TEok K tb fb) (hc : TEok K tc fc) : TEok K (tChain r r' ta tb tc) (mChain g g' fa fb fc) := by
  intro β P σ H G s d s' R h Q q
  unfold mChain at h
  obtain ⟨⟨x, s1⟩, e1, h⟩ := Option.bind_eq_some_iff.mp h
  obtain ⟨⟨y, s2⟩, e2, h⟩ := Option.bind_eq_some_iff.mp h
  obtain ⟨z, e3, h⟩ := Option.bind_eq_some_iff.mp h
  refine ha β P σ H G s x s1 R e1 _ fun v H1 G1 x1 R1 i1 => ?_
  refine hb β P σ H1 G1 s1 y s2 R1 e2 _ fun u H2 G2 x2 R2 i2 => ?_
  refine hr β P σ H2 G2 s2 v u x y z R2 (IsD.mono x2 _ _ i1) i2 e3 _ fun w H3 G3 x3 R3 i3 => ?_
  split at h
  · rw [is_bl.mp i3]
    obtain ⟨⟨z', s4⟩, e4, h⟩ := Option.bind_eq_some_iff.mp h
    obtain ⟨d', e5, h⟩ := Option.bind_eq_some_iff.mp h
    cases h
    refine ⟨true, rfl, iteT ?_⟩
    refine hc β P σ H3 G3 s2 z' s4 R3 e4 _ fun w' H4 G4 x4 R4 i4 => ?_
    exact hr' β P σ H4 G4 s4 u w' y z' d R4 (IsD.mono (x3.trans x4) _ _ i2) i4 e5 Q fun w5 H5 G5 x5 R5 i5 => q w5 H5 G5 ((((x1.trans x2).trans x3).trans x4).trans x5) R5 i5
  · rw [is_bl.mp i3]
    cases h
    exact ⟨false, rfl, iteF (q _ H3 G3 ((x1.trans x2).trans x3) R3 (is_bl.mpr rfl))⟩
  · cases h
theorem de_chain {op op' : CmpOp} {r r' : R2} {g g' : Dt → Dt → Option Dt} {a b c : Expr} {fa fb fc : DM Dt} {pos : Pos} (ho : OpR X (compareOp op) r) (hr : R2ok X.K r g) (ho' : OpR X (compareOp op') r') (hr' : R2ok X.K r' g') (ha : DE X a fa) (hb : DE X b fb) (hc : DE X c fc)
    (hm : lastMarks [op, op'] [b, c] = false := by with_unfolding_all rfl) : DE X (.Compare a [op, op'] [b, c] pos) (mChain g g' fa fb fc) := by
  obtain ⟨ta, pa, oa⟩ := ha
  obtain ⟨tb, pb, ob⟩ := hb
  obtain ⟨tc, pc, oc⟩ := hc
  exact ⟨_, pe_chain ho ho' pa pb pc hm, te_chain hr hr' oa ob oc⟩
theorem dt_chain {op op' : CmpOp} {r r' : R2} {g g' : Dt → Dt → Option Dt} {a b c : Expr} {fa fb fc : DM Dt} {pos : Pos} (ho : OpR X (compareOp op) r) (hr : R2ok X.K r g) (ho' : OpR X (compareOp op') r') (hr' : R2ok X.K r' g') (ha : DE X a fa) (hb : DE X b fb) (hc : DE X c fc)
    (hm : lastMarks [op, op'] [b, c] = false := by with_unfolding_all rfl) : DT X (.Compare a [op, op'] [b, c] pos) (mB (mChain g g' fa fb fc)) := by
  obtain ⟨ta, pa, oa⟩ := ha
  obtain ⟨tb, pb, ob⟩ := hb
  obtain ⟨tc, pc, oc⟩ := hc
  exact ⟨_, pt_chain ho ho' pa pb pc hm, tt_of (te_chain hr hr' oa ob oc)⟩
def gIsB : Dt → Dt → Option Dt
  | .bl a, .bl b => some (.bl (decide (a = b)))
  | _, _ => none
def gNotB : Dt → Dt → Option Dt
  | .bl a, .bl b => some (.bl !(decide (a = b)))
  | _, _ => none
theorem r2_isB {K : PySem.W.Frag} : R2ok K L2.rIsB gIsB := by
  intro β P σ H G s x y dx dy d R ix iy h Q q
  unfold gIsB at h
  split at h
  · rename_i a b; cases h; exact ⟨a, b, is_bl.mp ix, is_bl.mp iy, q _ H G (Ext.refl G) R (is_bl.mpr rfl)⟩
  · cases h
theorem r2_notB {K : PySem.W.Frag} : R2ok K L2.rNotB gNotB := by
  intro β P σ H G s x y dx dy d R ix iy h Q q
  unfold gNotB at h
  split at h
  · rename_i a b; cases h; exact ⟨a, b, is_bl.mp ix, is_bl.mp iy, q _ H G (Ext.refl G) R (is_bl.mpr rfl)⟩
  · cases h
end

/-! ### calls of what Python brings -/
def mCall (g : List Dt → Option Dt) (f : DM (List Dt)) : DM Dt := fun s => (f s).bind fun p => (g p.1).bind fun d => some (d, p.2)
def Rok (K : PySem.W.Frag) (r : List V → Hp → VK → Prop) (g : List Dt → Option Dt) : Prop := ∀ (β : Addr) (P : Hp) (σ : L2.St) (H G : Hp) (s : Sta) (vs : List V) (ds : List Dt) (d : Dt), Rel K β P σ H G s → IsL K β G ds vs → g ds = some d →
  ∀ Q : VK, (∀ v H' G', Ext G G' → Rel K β P σ H' G' s → IsD K β G' d v → Q v H') → r vs H Q
theorem te_call {K : PySem.W.Frag} {r : List V → Hp → VK → Prop} {g : List Dt → Option Dt} {t : TA} {f : DM (List Dt)} (hr : Rok K r g) (h : TAok K t f) : TEok K (tCB r t) (mCall g f) := by
  intro β P σ H G s d s' R e Q q
  unfold mCall at e
  obtain ⟨⟨x, s1⟩, e1, e⟩ := Option.bind_eq_some_iff.mp e
  obtain ⟨z, e2, e⟩ := Option.bind_eq_some_iff.mp e
  cases e
  refine h β P σ H G s x s1 R e1 _ fun vs H1 G1 x1 R1 i1 => ?_
  exact hr β P σ H1 G1 s1 vs x d R1 i1 e2 Q fun w H3 G3 x3 R3 i3 => q w H3 G3 (x1.trans x3) R3 i3
section
variable {X : Cx} {x : Str} {p pos : Pos} {e : Expr} {es : List Expr} {f : DM (List Dt)} {r : List V → Hp → VK → Prop} {g : List Dt → Option Dt} {id T : String}
theorem de_callB (hc : CallR X (.builtin id) r) (hr : Rok X.K r g) (hg : Gl X x) (hm : X.mg x = none) (hv : bootBuiltins x = some (.builtin id)) (ha : DA X (e :: es) f) (hn : x ≠ "__name__" := by decide) (hdb : (x == ("__debug__" : Str)) = false := by decide)
    (he : starEach (e :: es) X.env = (false, eval e X.env) :: starEach es X.env := by rfl) (hpl : (backTo pos (starEach es X.env)).any (·.1) = false := by rfl) : DE X (.Call (.Name x p) (e :: es) [] pos) (mCall g f) := by
  obtain ⟨t, p, o⟩ := ha
  exact ⟨_, pe_callB hc hg hm hv p hn hdb he hpl, te_call hr o⟩
theorem de_callT (hc : CallR X (.type T) r) (hr : Rok X.K r g) (hg : Gl X x) (hm : X.mg x = none) (hv : bootBuiltins x = some (.type T)) (ha : DA X (e :: es) f) (hn : x ≠ "__name__" := by decide) (hdb : (x == ("__debug__" : Str)) = false := by decide)
    (he : starEach (e :: es) X.env = (false, eval e X.env) :: starEach es X.env := by rfl) (hpl : (backTo pos (starEach es X.env)).any (·.1) = false := by rfl) : DE X (.Call (.Name x p) (e :: es) [] pos) (mCall g f) := by
  obtain ⟨t, p, o⟩ := ha
  exact ⟨_, pe_callTy hc hg hm hv p hn hdb he hpl, te_call hr o⟩
end
section
variable {K : PySem.W.Frag}
theorem one_of {β : Addr} {G : Hp} {d : Dt} {vs : List V} (h : IsL K β G [d] vs) : ∃ v, vs = [v] ∧ IsD K β G d v := by
  obtain ⟨v, r, rfl, h1, h2⟩ := isl_cons.mp h
  rw [isl_nil.mp h2]
  exact ⟨v, rfl, h1⟩
def gLen : List Dt → Option Dt
  | [.str y] => if y.length ≤ sizeLine then some (.int (y.length : Nat)) else none
  | [.tup l] => some (.int (l.length : Nat))
  | [.lst l] => some (.int (l.length : Nat))
  | _ => none
theorem ok_len : Rok K (fun xs H Q => ∃ x n, xs = [x] ∧ LenV K x H n ∧ Q (.int n) H) gLen := by
  intro β P σ H G s vs ds d R i e Q q
  unfold gLen at e
  split at e
  · rename_i y
    split at e
    · rename_i c
      cases e
      obtain ⟨v, rfl, h⟩ := one_of i
      rw [is_str.mp h]
      exact ⟨_, y.length, rfl, ⟨c, rfl⟩, q _ H G (Ext.refl G) R (is_int.mpr rfl)⟩
    · cases e
  · rename_i l
    cases e
    obtain ⟨v, rfl, h⟩ := one_of i
    obtain ⟨a, us, rfl, h1, h2⟩ := is_tup.mp h
    exact ⟨_, l.length, rfl, .inr ⟨us, ext_t R.gh h1, h2.len.symm⟩, q _ H G (Ext.refl G) R (is_int.mpr rfl)⟩
  · rename_i l
    cases e
    obtain ⟨v, rfl, h⟩ := one_of i
    obtain ⟨a, us, rfl, h1, h2⟩ := is_lst.mp h
    exact ⟨_, l.length, rfl, .inl ⟨us, .inl (.inl (R.gh _ _ h1)), h2.len.symm⟩, q _ H G (Ext.refl G) R (is_int.mpr rfl)⟩
  · cases e
def gInt1 : List Dt → Option Dt
  | [.int i] => some (.int i)
  | _ => none
theorem ok_int1 : Rok K (fun xs H Q => (∃ i, xs = [.int i] ∧ Q (.int i) H) ∨ ∃ k, xs = [.bl k] ∧ Q (.int (if k then 1 else 0)) H) gInt1 := by
  intro β P σ H G s vs ds d R i e Q q
  unfold gInt1 at e
  split at e
  · cases e
    obtain ⟨v, rfl, h⟩ := one_of i
    exact .inl ⟨_, by rw [is_int.mp h], q _ H G (Ext.refl G) R (is_int.mpr rfl)⟩
  · cases e
def gAbs : List Dt → Option Dt
  | [.int i] => some (.int (if i < 0 then -i else i))
  | _ => none
theorem ok_abs : Rok K (fun xs H Q => ∃ i, xs = [.int i] ∧ Q (.int (if i < 0 then -i else i)) H) gAbs := by
  intro β P σ H G s vs ds d R i e Q q
  unfold gAbs at e
  split at e
  · cases e
    obtain ⟨v, rfl, h⟩ := one_of i
    exact ⟨_, by rw [is_int.mp h], q _ H G (Ext.refl G) R (is_int.mpr rfl)⟩
  · cases e
/-- str of an int; of a text -/
def gStrI : List Dt → Option Dt
  | [.int i] => if i.natAbs.log2 < 1920 then some (.str (toString i)) else none
  | _ => none
theorem ok_strI : Rok K (fun xs H Q => ∃ i, xs = [.int i] ∧ i.natAbs.log2 < 1920 ∧ Q (.str (toString i)) H) gStrI := by
  intro β P σ H G s vs ds d R i e Q q
  unfold gStrI at e
  split at e
  · split at e
    · rename_i c
      cases e
      obtain ⟨v, rfl, h⟩ := one_of i
      exact ⟨_, by rw [is_int.mp h], c, q _ H G (Ext.refl G) R (is_str.mpr rfl)⟩
    · cases e
  · cases e
def bools : List Dt → Option (List Bool)
  | [] => some []
  | .bl b :: r => (bools r).bind fun bs => some (b :: bs)
  | _ => none
theorem bools_ok {β : Addr} {G : Hp} : ∀ {l : List Dt} {vs : List V} {bs : List Bool}, IsL K β G l vs → bools l = some bs → vs = bs.map V.bl
  | [], vs, bs, h, e => by cases e; exact isl_nil.mp h
  | .bl b :: r, vs, bs, h, e => by
    obtain ⟨v, us, rfl, h1, h2⟩ := isl_cons.mp h
    unfold bools at e
    obtain ⟨cs, e1, e⟩ := Option.bind_eq_some_iff.mp e
    cases e
    rw [is_bl.mp h1, bools_ok h2 e1]
    rfl
  | .non :: _, _, _, _, e => by cases e
  | .int _ :: _, _, _, _, e => by cases e
  | .str _ :: _, _, _, _, e => by cases e
  | .tup _ :: _, _, _, _, e => by cases e
  | .lst _ :: _, _, _, _, e => by cases e
  | .bag :: _, _, _, _, e => by cases e
def gAll : List Dt → Option Dt
  | [.lst l] => (bools l).bind fun bs => some (.bl (bs.all id))
  | _ => none
def gAny : List Dt → Option Dt
  | [.lst l] => (bools l).bind fun bs => some (.bl (bs.any id))
  | _ => none
theorem ok_all : Rok K (rAll K) gAll := by
  intro β P σ H G s vs ds d R i e Q q
  unfold gAll at e
  split at e
  · obtain ⟨bs, e1, e⟩ := Option.bind_eq_some_iff.mp e
    cases e
    obtain ⟨v, rfl, h⟩ := one_of i
    obtain ⟨a, us, rfl, h1, h2⟩ := is_lst.mp h
    exact ⟨a, bs, rfl, .inl (.inl (by rw [← bools_ok h2 e1]; exact R.gh _ _ h1)), q _ H G (Ext.refl G) R (is_bl.mpr rfl)⟩
  · cases e
theorem ok_any : Rok K (rAny K) gAny := by
  intro β P σ H G s vs ds d R i e Q q
  unfold gAny at e
  split at e
  · obtain ⟨bs, e1, e⟩ := Option.bind_eq_some_iff.mp e
    cases e
    obtain ⟨v, rfl, h⟩ := one_of i
    obtain ⟨a, us, rfl, h1, h2⟩ := is_lst.mp h
    exact ⟨a, bs, rfl, .inl (.inl (by rw [← bools_ok h2 e1]; exact R.gh _ _ h1)), q _ H G (Ext.refl G) R (is_bl.mpr rfl)⟩
  · cases e
def gListOf : List Dt → Option Dt
  | [.lst l] => some (.lst l)
  | [.tup l] => some (.lst l)
  | _ => none
theorem ok_listOf : Rok K (fun xs H Q => ∃ p ys, xs = [.ref p] ∧ (SqL K H p ys ∨ SqT K H p ys) ∧ ∀ l, H l = none → Q (.ref l) (upd H l (.lst ys))) gListOf := by
  intro β P σ H G s vs ds d R i e Q q
  unfold gListOf at e
  split at e
  · cases e
    obtain ⟨v, rfl, h⟩ := one_of i
    obtain ⟨a, us, rfl, h1, h2⟩ := is_lst.mp h
    refine ⟨a, us, rfl, .inl (.inl (.inl (R.gh _ _ h1))), fun l hl => ?_⟩
    exact q _ _ _ (Ext.new (R.free hl)) (R.new hl) (is_lst.mpr ⟨l, _, rfl, upd_same, IsL.mono (Ext.new (R.free hl)) _ _ h2⟩)
  · cases e
    obtain ⟨v, rfl, h⟩ := one_of i
    obtain ⟨a, us, rfl, h1, h2⟩ := is_tup.mp h
    refine ⟨a, us, rfl, .inr (ext_t R.gh h1), fun l hl => ?_⟩
    exact q _ _ _ (Ext.new (R.free hl)) (R.new hl) (is_lst.mpr ⟨l, _, rfl, upd_same, IsL.mono (Ext.new (R.free hl)) _ _ h2⟩)
  · cases e
end

/-! ### isinstance with a built-in class, or two -/
def tyN : Dt → String
  | .non => "NoneType"
  | .bl _ => "bool"
  | .int _ => "int"
  | .str _ => "str"
  | .tup _ => "tuple"
  | .lst _ => "list"
  | .bag => "list"
  | .dic _ _ => "dict"
theorem ty_ok {K : PySem.W.Frag} {β : Addr} {P : Hp} {σ : L2.St} {H G : Hp} {s : Sta} {d : Dt} {v : V} (R : Rel K β P σ H G s) (h : IsD K β G d v) : TyX K H v (.type (tyN d)) := by
  cases d with
  | non => rw [is_non.mp h]; exact .base .non
  | bl b => rw [is_bl.mp h]; exact .base (.bl b)
  | int b => rw [is_int.mp h]; exact .base (.int b)
  | str b => rw [is_str.mp h]; exact .base (.str b)
  | bag =>
    obtain ⟨vs, h1, _, _⟩ := R.bag
    rw [is_bag.mp h]; exact .base (.lst h1)
  | lst l =>
    obtain ⟨a, us, rfl, h1, h2⟩ := is_lst.mp h
    exact .base (.lst (R.gh _ _ h1))
  | dic ks l =>
    obtain ⟨a, us, rfl, h1, h2⟩ := is_dic.mp h
    exact .base (.dK (R.gh _ _ h1))
  | tup l =>
    obtain ⟨a, us, rfl, h1, h2⟩ := is_tup.mp h
    rcases ext_t R.gh h1 with (h | ⟨o, h⟩) | ⟨o, its, n, h, c, _⟩
    · exact .base (.tup h)
    · exact .fTuple h
    · exact .kTuple h c
def mIsi (B : Dt → Bool) (f : DM Dt) : DM Dt := fun s => (f s).bind fun p => some (.bl (B p.1), p.2)
def isInt : Dt → Bool
  | .bl _ => true
  | .int _ => true
  | _ => false
def isStr : Dt → Bool
  | .str _ => true
  | _ => false
def isBl : Dt → Bool
  | .bl _ => true
  | _ => false
def isTup : Dt → Bool
  | .tup _ => true
  | _ => false
def isLst : Dt → Bool
  | .lst _ => true
  | .bag => true
  | _ => false
theorem kit_int (d : Dt) : L2.kitB (tyN d) "int" = some (isInt d) := by cases d <;> simp only [tyN, isInt] <;> decide +kernel
theorem kit_str (d : Dt) : L2.kitB (tyN d) "str" = some (isStr d) := by cases d <;> simp only [tyN, isStr] <;> decide +kernel
theorem kit_bl (d : Dt) : L2.kitB (tyN d) "bool" = some (isBl d) := by cases d <;> simp only [tyN, isBl] <;> decide +kernel
theorem kit_tup (d : Dt) : L2.kitB (tyN d) "tuple" = some (isTup d) := by cases d <;> simp only [tyN, isTup] <;> decide +kernel
theorem kit_lst (d : Dt) : L2.kitB (tyN d) "list" = some (isLst d) := by cases d <;> simp only [tyN, isLst] <;> decide +kernel
section
variable {X : Cx} {p pos p2 : Pos} {e : Expr} {f : DM Dt} {T T2 : String} {x x2 : Str} {B B2 : Dt → Bool}
theorem de_isi (hB : ∀ d, L2.kitB (tyN d) T = some (B d)) (hg : Gl X "isinstance") (hm : X.mg "isinstance" = none) (hv : bootBuiltins "isinstance" = some (.builtin "isinstance")) (he : DE X e f)
    (hx : Gl X x) (hxm : X.mg x = none) (hxv : bootBuiltins x = some (.type T)) (hn : x ≠ "__name__" := by decide) (hd : (x == ("__debug__" : Str)) = false := by decide)
    (hs : starEach [e, .Name x p2] X.env = (false, eval e X.env) :: starEach [.Name x p2] X.env := by rfl) (hpl : (backTo pos (starEach [.Name x p2] X.env)).any (·.1) = false := by rfl) :
    DE X (.Call (.Name "isinstance" p) [e, .Name x p2] [] pos) (mIsi B f) := by
  obtain ⟨t, pp, o⟩ := he
  refine ⟨_, pe_callB call_isi hg hm hv (pa_cons pp (pa_cons (pe_bltn (v := .ty T) hx hxm hxv rfl hn hd) pa_nil) hs) (by decide) (by decide) hs hpl, fun β P σ H G s b s' R e Q q => ?_⟩
  unfold mIsi at e
  obtain ⟨⟨y, s1⟩, e1, e⟩ := Option.bind_eq_some_iff.mp e
  cases e
  refine o β P σ H G s y s1 R e1 _ fun v H1 G1 x1 R1 i1 => ?_
  exact ⟨v, .ty T, .type (tyN y), .type T, B y, rfl, .ty T, ty_ok R1 i1, L2.kit_ty (hB y), q _ H1 G1 x1 R1 (is_bl.mpr rfl)⟩
theorem de_isi2 (hB : ∀ d, L2.kitB (tyN d) T = some (B d)) (hB2 : ∀ d, L2.kitB (tyN d) T2 = some (B2 d)) (hg : Gl X "isinstance") (hm : X.mg "isinstance" = none) (hv : bootBuiltins "isinstance" = some (.builtin "isinstance")) (he : DE X e f)
    (hx : Gl X x) (hxm : X.mg x = none) (hxv : bootBuiltins x = some (.type T)) (hx2 : Gl X x2) (hxm2 : X.mg x2 = none) (hxv2 : bootBuiltins x2 = some (.type T2)) {k : Nat} {p3 pt : Pos}
    (hn : x ≠ "__name__" := by decide) (hd : (x == ("__debug__" : Str)) = false := by decide) (hn2 : x2 ≠ "__name__" := by decide) (hd2 : (x2 == ("__debug__" : Str)) = false := by decide)
    (hs : starEach [e, .Tuple [.Name x p2, .Name x2 p3] k pt] X.env = (false, eval e X.env) :: starEach [.Tuple [.Name x p2, .Name x2 p3] k pt] X.env := by rfl) (hpl : (backTo pos (starEach [.Tuple [.Name x p2, .Name x2 p3] k pt] X.env)).any (·.1) = false := by rfl) :
    DE X (.Call (.Name "isinstance" p) [e, .Tuple [.Name x p2, .Name x2 p3] k pt] [] pos) (mIsi (fun d => B d || B2 d) f) := by
  obtain ⟨t, pp, o⟩ := he
  refine ⟨_, pe_callB call_isiT hg hm hv (pa_cons pp (pa_cons (pe_tup (pa_cons (pe_bltn (v := .ty T) hx hxm hxv rfl hn hd) (pa_cons (pe_bltn (v := .ty T2) hx2 hxm2 hxv2 rfl hn2 hd2) pa_nil))) pa_nil) hs) (by decide) (by decide) hs hpl, fun β P σ H G s b s' R e Q q => ?_⟩
  unfold mIsi at e
  obtain ⟨⟨y, s1⟩, e1, e⟩ := Option.bind_eq_some_iff.mp e
  cases e
  refine o β P σ H G s y s1 R e1 _ fun v H1 G1 x1 R1 i1 => ?_
  refine ⟨by show 2 ≤ sizeLine; decide, fun l hl => ?_⟩
  have R2 := R1.new (o := .tup [.ty T, .ty T2]) hl
  have x2 := Ext.new (o := .tup [.ty T, .ty T2]) (R1.free hl)
  refine ⟨v, l, [.ty T, .ty T2], .type (tyN y), [.type T, .type T2], B y || B2 y, rfl, upd_same, .cons (.ty T) (.cons (.ty T2) .nil), ty_ok R2 (IsD.mono x2 _ _ i1), ?_, q _ _ _ (x1.trans x2) R2 (is_bl.mpr rfl)⟩
  refine L2.kitAny_cons (b := B y) (L2.kit_ty (hB y)) (fun h => ?_) (fun h => by rw [h]; rfl)
  rw [h, Bool.false_or]
  exact L2.kitAny_cons (b := B2 y) (L2.kit_ty (hB2 y)) (fun h => by rw [h]; exact L2.kitAny_nil) (fun h => h)
end

/-! ### methods of texts -/
def mM1 (g : Str → Dt → Option Dt) (f1 f2 : DM Dt) : DM Dt := fun s => (f1 s).bind fun p => match p.1 with
  | .str a => (f2 p.2).bind fun q => (g a q.1).bind fun d => some (d, q.2)
  | _ => none
def gJoin (a : Str) : Dt → Option Dt
  | .lst l => (txts l).bind fun ys => if (ys.map (·.length)).sum + ys.length * a.length ≤ 16777216 then some (.str (Txt.join a ys)) else none
  | _ => none
where txts : List Dt → Option (List Str)
  | [] => some []
  | .str b :: r => (txts r).bind fun bs => some (b :: bs)
  | _ => none
theorem strs_ok {K : PySem.W.Frag} {β : Addr} {G : Hp} : ∀ {l : List Dt} {vs : List V} {bs : List Str}, IsL K β G l vs → gJoin.txts l = some bs → vs = bs.map V.str
  | [], vs, bs, h, e => by cases e; exact isl_nil.mp h
  | .str b :: r, vs, bs, h, e => by
    obtain ⟨v, us, rfl, h1, h2⟩ := isl_cons.mp h
    unfold gJoin.txts at e
    obtain ⟨cs, e1, e⟩ := Option.bind_eq_some_iff.mp e
    cases e
    rw [is_str.mp h1, strs_ok h2 e1]
    rfl
  | .non :: _, _, _, _, e => by cases e
  | .int _ :: _, _, _, _, e => by cases e
  | .bl _ :: _, _, _, _, e => by cases e
  | .tup _ :: _, _, _, _, e => by cases e
  | .lst _ :: _, _, _, _, e => by cases e
  | .bag :: _, _, _, _, e => by cases e
def gSplit (a : Str) : Dt → Option Dt
  | .str b => if (b.length == 0) = false ∧ a.length + 2 ≤ sizeLine then some (.lst ((Txt.split a b).map Dt.str)) else none
  | _ => none
def gPartition (a : Str) : Dt → Option Dt
  | .str b => if (b.length == 0) = false ∧ a.length ≤ sizeLine then some (.tup [.str (Txt.partition a b).1, .str (Txt.partition a b).2.1, .str (Txt.partition a b).2.2]) else none
  | _ => none
def gStarts (a : Str) : Dt → Option Dt
  | .str b => some (.bl (Txt.startswith a b))
  | _ => none
def gFind (a : Str) : Dt → Option Dt
  | .str b => some (.int (Txt.find a b))
  | _ => none
section
variable {X : Cx} {o e : Expr} {f1 f2 : DM Dt} {apos pos : Pos}
def M1ok (K : PySem.W.Frag) (r : V → List V → Hp → VK → Prop) (g : Str → Dt → Option Dt) : Prop := ∀ (β : Addr) (P : Hp) (σ : L2.St) (H G : Hp) (s : Sta) (a : Str) (y : V) (dy d : Dt), Rel K β P σ H G s → IsD K β G dy y → g a dy = some d →
  ∀ Q : VK, (∀ v H' G', Ext G G' → Rel K β P σ H' G' s → IsD K β G' d v → Q v H') → r (.str a) [y] H Q
theorem te_m1 {K : PySem.W.Frag} {r : V → List V → Hp → VK → Prop} {g : Str → Dt → Option Dt} {to te : TE} (hr : M1ok K r g) (ho : TEok K to f1) (he : TEok K te f2) : TEok K (tM1 r to te) (mM1 g f1 f2) := by
  intro β P σ H G s d s' R h Q q
  unfold mM1 at h
  obtain ⟨⟨x, s1⟩, e1, h⟩ := Option.bind_eq_some_iff.mp h
  cases x with
  | str a =>
    obtain ⟨⟨y, s2⟩, e2, h⟩ := Option.bind_eq_some_iff.mp h
    obtain ⟨z, e3, h⟩ := Option.bind_eq_some_iff.mp h
    cases h
    refine ho β P σ H G s _ s1 R e1 _ fun v H1 G1 x1 R1 i1 => ?_
    rw [is_str.mp i1]
    refine ⟨⟨a, rfl⟩, he β P σ H1 G1 s1 y s2 R1 e2 _ fun u H2 G2 x2 R2 i2 => ?_⟩
    exact hr β P σ H2 G2 s2 a u y d R2 i2 e3 Q fun w H3 G3 x3 R3 i3 => q w H3 G3 ((x1.trans x2).trans x3) R3 i3
  | _ => cases h
theorem ok_join {K : PySem.W.Frag} : M1ok K (fun x xs H Q => ∃ a p, ∃ ys : List Str, x = .str a ∧ xs = [.ref p] ∧ (SqL K H p (ys.map V.str) ∨ SqT K H p (ys.map V.str)) ∧
    (ys.map (·.length)).sum + ys.length * a.length ≤ 16777216 ∧ Q (.str (Txt.join a ys)) H) gJoin := by
  intro β P σ H G s a y dy d R i e Q q
  unfold gJoin at e
  split at e
  · obtain ⟨ys, e1, e⟩ := Option.bind_eq_some_iff.mp e
    split at e
    · rename_i c
      cases e
      obtain ⟨b, us, rfl, h1, h2⟩ := is_lst.mp i
      exact ⟨a, b, ys, rfl, rfl, .inl (.inl (.inl (by rw [← strs_ok h2 e1]; exact R.gh _ _ h1))), c, q _ H G (Ext.refl G) R (is_str.mpr rfl)⟩
    · cases e
  · cases e
theorem new_strs {K : PySem.W.Frag} {β : Addr} {P : Hp} {σ : L2.St} {H G : Hp} {s : Sta} (R : Rel K β P σ H G s) {ys : List Str} {Q : VK} (q : ∀ v H' G', Ext G G' → Rel K β P σ H' G' s → IsD K β G' (.lst (ys.map Dt.str)) v → Q v H') : rNewStrs ys H Q :=
  fun l hl => q _ _ _ (Ext.new (R.free hl)) (R.new hl) (is_lst.mpr ⟨l, _, rfl, upd_same, IsL.txts⟩)
theorem ok_split {K : PySem.W.Frag} : M1ok K (fun x xs H Q => ∃ a b, x = .str a ∧ xs = [.str b] ∧ (b.length == 0) = false ∧ a.length + 2 ≤ sizeLine ∧ rNewStrs (Txt.split a b) H Q) gSplit := by
  intro β P σ H G s a y dy d R i e Q q
  unfold gSplit at e
  split at e
  · rename_i b
    split at e
    · rename_i c
      cases e
      rw [is_str.mp i]
      exact ⟨a, b, rfl, rfl, c.1, c.2, new_strs R q⟩
    · cases e
  · cases e
theorem ok_partition {K : PySem.W.Frag} : M1ok K (fun x xs H Q => ∃ a b, x = .str a ∧ xs = [.str b] ∧ (b.length == 0) = false ∧ a.length ≤ sizeLine ∧
    ∀ p, H p = none → Q (.ref p) (upd H p (.tup [.str (Txt.partition a b).1, .str (Txt.partition a b).2.1, .str (Txt.partition a b).2.2]))) gPartition := by
  intro β P σ H G s a y dy d R i e Q q
  unfold gPartition at e
  split at e
  · rename_i b
    split at e
    · rename_i c
      cases e
      rw [is_str.mp i]
      refine ⟨a, b, rfl, rfl, c.1, c.2, fun l hl => ?_⟩
      exact q _ _ _ (Ext.new (R.free hl)) (R.new hl) (is_tup.mpr ⟨l, _, rfl, .inl (.inl upd_same), isl_cons.mpr ⟨_, _, rfl, is_str.mpr rfl, isl_cons.mpr ⟨_, _, rfl, is_str.mpr rfl, isl_cons.mpr ⟨_, _, rfl, is_str.mpr rfl, isl_nil.mpr rfl⟩⟩⟩⟩)
    · cases e
  · cases e
theorem ok_starts {K : PySem.W.Frag} : M1ok K (fun x xs H Q => ∃ a b, x = .str a ∧ xs = [.str b] ∧ Q (.bl (Txt.startswith a b)) H) gStarts := by
  intro β P σ H G s a y dy d R i e Q q
  unfold gStarts at e
  split at e
  · rename_i b
    cases e
    rw [is_str.mp i]
    exact ⟨a, b, rfl, rfl, q _ H G (Ext.refl G) R (is_bl.mpr rfl)⟩
  · cases e
theorem ok_find {K : PySem.W.Frag} : M1ok K (fun x xs H Q => ∃ a b, x = .str a ∧ xs = [.str b] ∧ Q (.int (Txt.find a b)) H) gFind := by
  intro β P σ H G s a y dy d R i e Q q
  unfold gFind at e
  split at e
  · rename_i b
    cases e
    rw [is_str.mp i]
    exact ⟨a, b, rfl, rfl, q _ H G (Ext.refl G) R (is_int.mpr rfl)⟩
  · cases e
theorem de_m1 {id : String} {name : Str} {r : V → List V → Hp → VK → Prop} {g : Str → Dt → Option Dt} (slot : Slot "str" name id) (ty : typeOf (.builtin id) = pure (.type "method_descriptor")) (rule : MtR X id r) (hr : M1ok X.K r g) (ho : DE X o f1) (he : DE X e f2)
    (hs : starEach [e] X.env = [(false, eval e X.env)] := by rfl) (hbase : attributeBase o name X.env (eval o X.env) = eval o X.env := by rfl) (hline : (apos.endLine == pos.line) = true := by rfl) :
    DE X (.Call (.Attribute o name apos) [e] [] pos) (mM1 g f1 f2) := by
  obtain ⟨t, p1, o1⟩ := ho
  obtain ⟨u, p2, o2⟩ := he
  exact ⟨_, pe_m1 slot ty rule p1 p2 hs hbase hline, te_m1 hr o1 o2⟩
theorem de_join (ho : DE X o f1) (he : DE X e f2) (hs : starEach [e] X.env = [(false, eval e X.env)] := by rfl) (hbase : attributeBase o "join" X.env (eval o X.env) = eval o X.env := by rfl) (hline : (apos.endLine == pos.line) = true := by rfl) :
    DE X (.Call (.Attribute o "join" apos) [e] [] pos) (mM1 gJoin f1 f2) := by
  obtain ⟨t, p1, o1⟩ := ho
  obtain ⟨u, p2, o2⟩ := he
  exact ⟨_, pe_join p1 p2 hs hbase hline, te_m1 ok_join o1 o2⟩
theorem de_split (ho : DE X o f1) (he : DE X e f2) (hs : starEach [e] X.env = [(false, eval e X.env)] := by rfl) (hbase : attributeBase o "split" X.env (eval o X.env) = eval o X.env := by rfl) (hline : (apos.endLine == pos.line) = true := by rfl) :
    DE X (.Call (.Attribute o "split" apos) [e] [] pos) (mM1 gSplit f1 f2) := by
  obtain ⟨t, p1, o1⟩ := ho
  obtain ⟨u, p2, o2⟩ := he
  exact ⟨_, pe_split p1 p2 hs hbase hline, te_m1 ok_split o1 o2⟩
end
end DL

namespace DL
open PySem PySem.Spec PyProof.Rows L2
variable [Tabs]

/-! ### defs -/
abbrev FD := List Dt → List Dt → Option (Dt × List Dt)
def spD (K : PySem.W.Frag) (n : Nat) (F : FD) : Sp := fun vs H Q _ => ∃ (β : Addr) (P G : Hp) (ds bg : List Dt) (r : Dt) (bg' : List Dt), vs.length = n ∧ IsL K β G ds vs ∧ Rel K β P [] H G ⟨[], bg⟩ ∧ F ds bg = some (r, bg') ∧
  ∀ v H' G', Ext G G' → Rel K β P [] H' G' ⟨[], bg'⟩ → IsD K β G' r v → Q v H'
def mApp (F : FD) (f : DM (List Dt)) : DM Dt := fun s => (f s).bind fun p => (F p.1 p.2.bag).bind fun q => some (q.1, { p.2 with bag := q.2 })
section
variable {X : Cx}
theorem te_app {n : Nat} {K : PySem.W.Frag} {F : FD} {t : TA} {f : DM (List Dt)} (ho : TAok K t f) (hn : ∀ s ds s', f s = some (ds, s') → ds.length = n) : TEok K (tCall (spD K n F) [] E0 t) (mApp F f) := by
  intro β P σ H G s d s' R e Q q
  unfold mApp at e
  obtain ⟨⟨x, s1⟩, e1, e⟩ := Option.bind_eq_some_iff.mp e
  obtain ⟨⟨y, bg'⟩, e2, e⟩ := Option.bind_eq_some_iff.mp e
  cases e
  refine ho β P σ H G s x s1 R e1 _ fun vs H1 G1 x1 R1 i1 => ?_
  rw [List.append_nil]
  exact ⟨β, shut β H1 G1, G1, x, s1.bag, y, bg', by rw [i1.len]; exact hn _ _ _ e1, i1, R1.callee, e2, fun v H' G' x2 C i => q v H' G' (x1.trans x2) (R1.back x2 C) i⟩
theorem len_nil {n : Nat} (h : n = 0 := by rfl) : ∀ s ds s', mNil s = some (ds, s') → ds.length = n := fun s ds s' e => by cases e; exact h.symm
theorem len_cons {f : DM Dt} {g : DM (List Dt)} {n m : Nat} (hg : ∀ s ds s', g s = some (ds, s') → ds.length = n) (h : m = n + 1 := by rfl) : ∀ s ds s', mCons f g s = some (ds, s') → ds.length = m := fun s ds s' e => by
  unfold mCons at e
  obtain ⟨⟨x, s1⟩, e1, e⟩ := Option.bind_eq_some_iff.mp e
  obtain ⟨⟨y, s2⟩, e2, e⟩ := Option.bind_eq_some_iff.mp e
  cases e
  simp [hg _ _ _ e2, h]
theorem de_call {k : Nat} {f : Addr} {fd : FuncData} {ps : List Str} {n : Nat} {F : FD} {x : Str} {e : Expr} {es : List Expr} {p pos : Pos} {g : DM (List Dt)} (FF : FnOk X.prog X.w X.K X.mg X.base CX0 k f fd ps (spD X.K n F)) (hr : Room k X.A) (hg : Gl X x) (hm : X.mg x = some (.ref f)) (hk : PySem.W.keepIn X.K (.ref f) = true) (hb : Binds X.K fd ps [])
    (ha : DA X (e :: es) g) (hn : ∀ s ds s', g s = some (ds, s') → ds.length = n) (hdb : (x == ("__debug__" : Str)) = false := by decide) (he : starEach (e :: es) X.env = (false, eval e X.env) :: starEach es X.env := by rfl) (hpl : (backTo pos (starEach es X.env)).any (·.1) = false := by rfl) :
    DE X (.Call (.Name x p) (e :: es) [] pos) (mApp F g) := by
  obtain ⟨t, p1, o1⟩ := ha
  exact ⟨_, pe_call FF hr hg hm hk hb .nil pass0 p1 hdb he hpl, te_app o1 hn⟩
theorem de_call0 {k : Nat} {f : Addr} {fd : FuncData} {ps : List Str} {F : FD} {x : Str} {p pos : Pos} (FF : FnOk X.prog X.w X.K X.mg X.base CX0 k f fd ps (spD X.K 0 F)) (hr : Room k X.A) (hg : Gl X x) (hm : X.mg x = some (.ref f)) (hk : PySem.W.keepIn X.K (.ref f) = true) (hb : Binds X.K fd ps [])
    (hdb : (x == ("__debug__" : Str)) = false := by decide) : DE X (.Call (.Name x p) [] [] pos) (mApp F mNil) := by
  refine ⟨_, pe_call0 FF hr hg hm hk hb .nil pass0 hdb, ?_⟩
  exact te_app (t := tNil) (fun β P σ H G s b s' R e Q q => by cases e; exact q _ H G (Ext.refl G) R (isl_nil.mpr rfl)) len_nil
end

/-! ### targets -/
def DG (X : Cx) (tg : Expr) (is : List Nat) (h : Dt → Sta → Option Sta) : Prop := ∃ g, PG X tg g ∧ ∀ (β : Addr) (P : Hp) (σ : L2.St) (H G : Hp) (s : Sta) (d : Dt) (v : V) (s' : Sta), Rel X.K β P σ H G s → IsD X.K β G d v → h d s = some s' →
  ∀ Q : L2.St → Hp → Prop, (∀ σ' H' G', Ext G G' → Rel X.K β P σ' H' G' s' → (∀ j, j ∉ is → σ'[j]? = σ[j]?) → σ'.length = σ.length → Q σ' H') → g v σ H Q
def DGs (X : Cx) (tgs : List Expr) (is : List Nat) (h : List Dt → Sta → Option Sta) : Prop := ∃ g, PGs X tgs g ∧ ∀ (β : Addr) (P : Hp) (σ : L2.St) (H G : Hp) (s : Sta) (ds : List Dt) (vs : List V) (s' : Sta), Rel X.K β P σ H G s → IsL X.K β G ds vs → h ds s = some s' →
  ∀ Q : L2.St → Hp → Prop, (∀ σ' H' G', Ext G G' → Rel X.K β P σ' H' G' s' → (∀ j, j ∉ is → σ'[j]? = σ[j]?) → σ'.length = σ.length → Q σ' H') → g vs σ H Q
def hName (i : Nat) (d : Dt) (s : Sta) : Option Sta := some { s with sl := s.sl.set i (some (.dat d)) }
def hNil : List Dt → Sta → Option Sta
  | [], s => some s
  | _, _ => none
def hCons (h : Dt → Sta → Option Sta) (k : List Dt → Sta → Option Sta) : List Dt → Sta → Option Sta
  | d :: r, s => (h d s).bind (k r)
  | [], _ => none
def hTup (n : Nat) (k : List Dt → Sta → Option Sta) : Dt → Sta → Option Sta
  | .tup l, s => if l.length = n then k l s else none
  | _, _ => none
/-- bag[i] = .. -/
def hBag (fo fi : DM Dt) : Dt → Sta → Option Sta := fun d s => (fo s).bind fun p => match p.1 with
  | .bag => (fi p.2).bind fun q => match q.1 with
    | .int k => (ixN q.2.bag.length k).bind fun j => if plain d = true then some { q.2 with bag := q.2.bag.set j d } else none
    | _ => none
  | _ => none
mutual
theorem plain_free {K : PySem.W.Frag} {β γ : Addr} {G : Hp} : ∀ (d : Dt) (v : V), plain d = true → IsD K β G d v → IsD K γ G d v
  | .non, _, _, h => h
  | .bl _, _, _, h => h
  | .int _, _, _, h => h
  | .str _, _, _, h => h
  | .bag, _, p, _ => by cases p
  | .dic _ _, _, p, _ => by cases p
  | .tup l, v, p, h => by
    obtain ⟨a, vs, rfl, h1, h2⟩ := is_tup.mp h
    exact is_tup.mpr ⟨a, vs, rfl, h1, plains_free l vs (by unfold plain at p; exact p) h2⟩
  | .lst l, v, p, h => by
    obtain ⟨a, vs, rfl, h1, h2⟩ := is_lst.mp h
    exact is_lst.mpr ⟨a, vs, rfl, h1, plains_free l vs (by unfold plain at p; exact p) h2⟩
theorem plains_free {K : PySem.W.Frag} {β γ : Addr} {G : Hp} : ∀ (l : List Dt) (vs : List V), plains l = true → IsL K β G l vs → IsL K γ G l vs
  | [], _, _, h => h
  | d :: l, vs, p, h => by
    obtain ⟨v, r, rfl, h1, h2⟩ := isl_cons.mp h
    unfold plains at p
    rw [Bool.and_eq_true] at p
    exact isl_cons.mpr ⟨v, r, rfl, plain_free d v p.1 h1, plains_free l r p.2 h2⟩
end
section
variable {X : Cx}
theorem Rel.setBag {K : PySem.W.Frag} {β : Addr} {P : Hp} {σ : L2.St} {H G : Hp} {s : Sta} (R : Rel K β P σ H G s) {bg : List Dt} {us : List V} (h : IsL K β G bg us) : Rel K β P σ (upd H β (.lst us)) G { s with bag := bg } where
  len := R.len
  gh := fun a o e => by
    obtain ⟨vs, h1, h2, _⟩ := R.bag
    rw [upd_ne (ne_of_none e h2)]; exact R.gh a o e
  pr := fun a o e => by
    have n : a ≠ β := fun z => by subst z; rw [R.pb] at e; cases e
    rw [upd_ne n]; exact R.pr a o e
  pb := R.pb
  bag := by
    obtain ⟨vs, h1, h2, _⟩ := R.bag
    exact ⟨us, upd_same, h2, h⟩
  dat := R.dat
  own := fun i l e => by
    obtain ⟨p, vs, h1, h2, h3, h4, h5, h6⟩ := R.own i l e
    exact ⟨p, vs, h1, by rw [upd_ne h5]; exact h2, h3, h4, h5, h6⟩
  dj := R.dj
  tabs := fun q hq => by
    obtain ⟨t, g, n⟩ := R.tabs q hq
    obtain ⟨ws, b1, _⟩ := R.bag
    exact ⟨t.of (upd_ne (t.neL b1)) (Ext.refl G), g, n⟩
  pt := R.pt
  nt := R.nt
theorem dg_name {i : Nat} {x : Str} {pos : Pos} (hN : X.N.Nodup) (hi : X.N[i]? = some x) (hx : Loc X.env.scope x) (hf : X.fn x = true ∨ X.env.scope.names.lookup x = some .local := by first | exact .inl rfl | exact .inr rfl | assumption) : DG X (.Name x pos) [i] (hName i) := by
  refine ⟨_, pg_name hN hi hx hf, fun β P σ H G s d v s' R h e Q q => ?_⟩
  cases e
  refine q _ H G (Ext.refl G) (R.set h) (fun j hj => ?_) (by simp)
  rw [List.getElem?_set_ne]
  intro e; apply hj; simp [e]
theorem dgs_nil : DGs X [] [] hNil := ⟨_, pgs_nil, fun β P σ H G s ds vs s' R h e Q q => by
  cases ds with
  | nil => cases e; exact ⟨isl_nil.mp h, q σ H G (Ext.refl G) R (fun _ _ => rfl) rfl⟩
  | cons d r => cases e⟩
theorem dgs_cons {e : Expr} {es : List Expr} {is js : List Nat} {h : Dt → Sta → Option Sta} {k : List Dt → Sta → Option Sta} (h1 : DG X e is h) (h2 : DGs X es js k) (hs : (assignEach (e :: es) X.env).map (·.2) = assign e X.env :: (assignEach es X.env).map (·.2) := by rfl) :
    DGs X (e :: es) (is ++ js) (hCons h k) := by
  obtain ⟨g, p1, o1⟩ := h1
  obtain ⟨g2, p2, o2⟩ := h2
  refine ⟨_, pgs_cons p1 p2 hs, fun β P σ H G s ds vs s' R hi e Q q => ?_⟩
  cases ds with
  | nil => cases e
  | cons d r =>
    obtain ⟨v, us, rfl, i1, i2⟩ := isl_cons.mp hi
    obtain ⟨s1, e1, e2⟩ := Option.bind_eq_some_iff.mp (show (h d s).bind (k r) = some s' from e)
    refine ⟨v, us, rfl, o1 β P σ H G s d v s1 R i1 e1 _ fun σ1 H1 G1 x1 R1 c1 l1 => ?_⟩
    refine o2 β P σ1 H1 G1 s1 r us s' R1 (IsL.mono x1 _ _ i2) e2 _ fun σ2 H2 G2 x2 R2 c2 l2 => ?_
    refine q σ2 H2 G2 (x1.trans x2) R2 (fun j hj => ?_) (l2.trans l1)
    rw [List.mem_append, not_or] at hj
    exact (c2 j hj.2).trans (c1 j hj.1)
theorem dg_tup {es : List Expr} {k : Nat} {pos : Pos} {n : Nat} {is : List Nat} {h : List Dt → Sta → Option Sta} (hc : X.calm = true) (hg : DGs X es is h) (hn : (assignEach es X.env).length = n := by rfl) (hst : (assignEach es X.env).findIdx? (·.1) = none := by rfl) :
    DG X (.Tuple es k pos) is (hTup n h) := by
  obtain ⟨g, p1, o1⟩ := hg
  refine ⟨_, pg_tup hc p1 hn hst, fun β P σ H G s d v s' R hi e Q q => ?_⟩
  cases d with
  | tup l =>
    obtain ⟨a, vs, rfl, h1, h2⟩ := is_tup.mp hi
    unfold hTup at e
    dsimp only at e
    split at e
    · rename_i c
      exact ⟨a, vs, rfl, ext_t R.gh h1, by rw [h2.len]; exact c, o1 β P σ H G s l vs s' R h2 e Q q⟩
    · cases e
  | _ => cases e
theorem dg_bag {o i : Expr} {fo fi : DM Dt} {pos : Pos} (ho : DE X o fo) (hi : DE X i fi)
    (ha : ∀ v, assign (.Subscript o i pos) X.env v = (do
      let ov ← holding [v] (eval o X.env)
      let iv ← holding [v, ov] (eval i X.env)
      standAt pos
      holding [v, ov, iv] (setItem ov iv v)
      release [v, ov, iv] []) := by intro _; rfl) : DG X (.Subscript o i pos) [] (hBag fo fi) := by
  obtain ⟨t, p1, o1⟩ := ho
  obtain ⟨u, p2, o2⟩ := hi
  refine ⟨_, pg_sub p1 p2 set_list ha, fun β P σ H G s d v s' R h e Q q => ?_⟩
  unfold hBag at e
  obtain ⟨⟨x, s1⟩, e1, e⟩ := Option.bind_eq_some_iff.mp e
  cases x with
  | bag =>
    obtain ⟨⟨y, s2⟩, e2, e⟩ := Option.bind_eq_some_iff.mp e
    cases y with
    | int k =>
      obtain ⟨j, e3, e⟩ := Option.bind_eq_some_iff.mp e
      split at e
      · rename_i c
        cases e
        refine o1 β P σ H G s _ s1 R e1 _ fun w H1 G1 x1 R1 i1 => ?_
        refine o2 β P σ H1 G1 s1 _ s2 R1 e2 _ fun z H2 G2 x2 R2 i2 => ?_
        rw [is_bag.mp i1, is_int.mp i2]
        obtain ⟨vs, h1, h2, h3⟩ := R2.bag
        refine ⟨β, vs, k, j, rfl, rfl, h1, by rw [h3.len]; exact e3, ?_⟩
        exact q σ _ G2 (x1.trans x2) (R2.setBag (h3.set j (IsD.mono (x1.trans x2) _ _ h))) (fun _ _ => rfl) rfl
      · cases e
    | _ => cases e
  | _ => cases e
/-- bag[i] read -/
def mBagIx (fo fi : DM Dt) : DM Dt := fun s => (fo s).bind fun p => match p.1 with
  | .bag => (fi p.2).bind fun q => match q.1 with
    | .int k => (atI q.2.bag k).bind fun d => some (d, q.2)
    | _ => none
  | _ => none
theorem de_bagIx {a b : Expr} {fo fi : DM Dt} {pos : Pos} (ho : DE X a fo) (hi : DE X b fi) (hs : PlainIx b := by exact fun _ _ => rfl) : DE X (.Subscript a b pos) (mBagIx fo fi) := by
  obtain ⟨t, p1, o1⟩ := ho
  obtain ⟨u, p2, o2⟩ := hi
  refine ⟨_, pe_ix ix_list p1 p2 hs, fun β P σ H G s d s' R e Q q => ?_⟩
  unfold mBagIx at e
  obtain ⟨⟨x, s1⟩, e1, e⟩ := Option.bind_eq_some_iff.mp e
  cases x with
  | bag =>
    obtain ⟨⟨y, s2⟩, e2, e⟩ := Option.bind_eq_some_iff.mp e
    cases y with
    | int k =>
      obtain ⟨j, e3, e⟩ := Option.bind_eq_some_iff.mp e
      cases e
      refine o1 β P σ H G s _ s1 R e1 _ fun w H1 G1 x1 R1 i1 => ?_
      refine o2 β P σ H1 G1 s1 _ s2 R1 e2 _ fun z H2 G2 x2 R2 i2 => ?_
      rw [is_bag.mp i1, is_int.mp i2]
      obtain ⟨vs, h1, h2, h3⟩ := R2.bag
      obtain ⟨v, e4, i4⟩ := ati_ok h3 e3
      exact ⟨β, vs, k, v, rfl, rfl, .inl (.inl h1), e4, q v H2 G2 (x1.trans x2) R2 i4⟩
    | _ => cases e
  | _ => cases e
end

/-! ### statements -/
inductive Res where
  | nx | bk | ct | rt (d : Dt)
abbrev DMs := Sta → Option (Res × Sta)
def endOf (K : PySem.W.Frag) (β : Addr) (P G : Hp) (D : Ends) (r : Res) (s' : Sta) : Prop := match r with
  | .nx => ∀ σ' H' G', Ext G G' → Rel K β P σ' H' G' s' → D.nx σ' H'
  | .bk => ∀ σ' H' G', Ext G G' → Rel K β P σ' H' G' s' → D.bk σ' H'
  | .ct => ∀ σ' H' G', Ext G G' → Rel K β P σ' H' G' s' → D.ct σ' H'
  | .rt d => ∀ v σ' H' G', Ext G G' → Rel K β P σ' H' G' s' → IsD K β G' d v → D.rt v H'
theorem endOf.mono {K : PySem.W.Frag} {β : Addr} {P G G1 : Hp} {D : Ends} {r : Res} {s' : Sta} (e : Ext G G1) (h : endOf K β P G D r s') : endOf K β P G1 D r s' := by
  cases r with
  | nx => exact fun σ' H' G' x R => h σ' H' G' (e.trans x) R
  | bk => exact fun σ' H' G' x R => h σ' H' G' (e.trans x) R
  | ct => exact fun σ' H' G' x R => h σ' H' G' (e.trans x) R
  | rt d => exact fun v σ' H' G' x R => h v σ' H' G' (e.trans x) R
def TSok (K : PySem.W.Frag) (t : TS) (f : DMs) : Prop := ∀ (β : Addr) (P : Hp) (σ : L2.St) (H G : Hp) (s : Sta) (r : Res) (s' : Sta), Rel K β P σ H G s → f s = some (r, s') → ∀ D : Ends, endOf K β P G D r s' → t D σ H
def DS (X : Cx) (st : Stmt) (f : DMs) : Prop := ∃ t, PS X st t ∧ TSok X.K t f
def DSs (X : Cx) (st : List Stmt) (f : DMs) : Prop := ∃ t, PSs X st t ∧ TSok X.K t f
def kSkip : DMs := fun s => some (.nx, s)
def kSeq (f g : DMs) : DMs := fun s => (f s).bind fun p => match p.1 with
  | .nx => g p.2
  | r => some (r, p.2)
def kAsg (f : DM Dt) (h : Dt → Sta → Option Sta) : DMs := fun s => (f s).bind fun p => (h p.1 p.2).bind fun s' => some (.nx, s')
def kRet (f : DM Dt) : DMs := fun s => (f s).bind fun p => some (.rt p.1, p.2)
def kDrop (f : DM Dt) : DMs := fun s => (f s).bind fun p => some (.nx, p.2)
def kIf (c : DM Bool) (f g : DMs) : DMs := fun s => (c s).bind fun p => if p.1 = true then f p.2 else g p.2
def kCt : DMs := fun s => some (.ct, s)
def kBk : DMs := fun s => some (.bk, s)
section
variable {X : Cx}
theorem dss_nil : DSs X [] kSkip := ⟨_, pss_nil, fun β P σ H G s r s' R e D h => by cases e; exact h σ H G (Ext.refl G) R⟩
theorem dss_one {st : Stmt} {f : DMs} (h : DS X st f) : DSs X [st] f := by
  obtain ⟨t, p, o⟩ := h
  exact ⟨_, pss_one p, o⟩
theorem dss_cons {st : Stmt} {rest : List Stmt} {f g : DMs} (h1 : DS X st f) (h2 : DSs X rest g) : DSs X (st :: rest) (kSeq f g) := by
  obtain ⟨t, p, o⟩ := h1
  obtain ⟨u, p2, o2⟩ := h2
  refine ⟨_, pss_cons p p2, fun β P σ H G s r s' R e D h => ?_⟩
  unfold kSeq at e
  obtain ⟨⟨x, s1⟩, e1, e⟩ := Option.bind_eq_some_iff.mp e
  cases x with
  | nx =>
    refine o β P σ H G s .nx s1 R e1 _ ?_
    exact fun σ1 H1 G1 x1 R1 => o2 β P σ1 H1 G1 s1 r s' R1 e D (h.mono x1)
  | bk => cases e; exact o β P σ H G s .bk s1 R e1 _ h
  | ct => cases e; exact o β P σ H G s .ct s1 R e1 _ h
  | rt d => cases e; exact o β P σ H G s (.rt d) s1 R e1 _ h
theorem ds_asg {tg e : Expr} {f : DM Dt} {is : List Nat} {h : Dt → Sta → Option Sta} {pos : Pos} (he : DE X e f) (hg : DG X tg is h) (hs : swapsWithSole [tg] e pos.line X.env = pure false := by rfl) (hw : swappedStores [tg] e X.env = pure none := by rfl)
    (h1 : (assignEach [tg] X.env).map (·.2) = [assign tg X.env] := by rfl) : DS X (.Assign [tg] e pos) (kAsg f h) := by
  obtain ⟨t, p, o⟩ := he
  obtain ⟨g, p2, o2⟩ := hg
  refine ⟨_, ps_asg p p2 hs hw h1, fun β P σ H G s r s' R e D k => ?_⟩
  unfold kAsg at e
  obtain ⟨⟨x, s1⟩, e1, e⟩ := Option.bind_eq_some_iff.mp e
  obtain ⟨s2, e2, e⟩ := Option.bind_eq_some_iff.mp e
  cases e
  refine o β P σ H G s x s1 R e1 _ fun v H1 G1 x1 R1 i1 => ?_
  exact o2 β P σ H1 G1 s1 x v s' R1 i1 e2 _ fun σ2 H2 G2 x2 R2 _ _ => k σ2 H2 G2 (x1.trans x2) R2
theorem ds_set {i : Nat} {x : Str} {e : Expr} {f : DM Dt} {pos' pos : Pos} (hN : X.N.Nodup) (hi : X.N[i]? = some x) (hx : Loc X.env.scope x) (he : DE X e f) (hs : swapsWith e (some (.Name x pos')) pos.line X.env = pure false := by rfl) (hf : X.fn x = true ∨ X.env.scope.names.lookup x = some .local := by first | exact .inl rfl | exact .inr rfl | assumption) :
    DS X (.Assign [.Name x pos'] e pos) (kAsg f (hName i)) := by
  obtain ⟨t, p, o⟩ := he
  refine ⟨_, ps_set hN hi hx p hs hf, fun β P σ H G s r s' R e D k => ?_⟩
  unfold kAsg at e
  obtain ⟨⟨x, s1⟩, e1, e⟩ := Option.bind_eq_some_iff.mp e
  obtain ⟨s2, e2, e⟩ := Option.bind_eq_some_iff.mp e
  cases e2
  cases e
  refine o β P σ H G s x s1 R e1 _ fun v H1 G1 x1 R1 i1 => ?_
  exact k _ H1 G1 x1 (R1.set i1)
theorem ds_ret {e : Expr} {f : DM Dt} {pos : Pos} (he : DE X e f) : DS X (.Return (some e) pos) (kRet f) := by
  obtain ⟨t, p, o⟩ := he
  refine ⟨_, ps_ret p, fun β P σ H G s r s' R e D k => ?_⟩
  unfold kRet at e
  obtain ⟨⟨x, s1⟩, e1, e⟩ := Option.bind_eq_some_iff.mp e
  cases e
  exact o β P σ H G s x s1 R e1 _ fun v H1 G1 x1 R1 i1 => k v σ H1 G1 x1 R1 i1
theorem ds_expr {e : Expr} {f : DM Dt} {pos : Pos} (he : DE X e f) (hs : swapsWith e none pos.line X.env = pure false := by rfl) : DS X (.Expr e pos) (kDrop f) := by
  obtain ⟨t, p, o⟩ := he
  refine ⟨_, ps_expr p hs, fun β P σ H G s r s' R e D k => ?_⟩
  unfold kDrop at e
  obtain ⟨⟨x, s1⟩, e1, e⟩ := Option.bind_eq_some_iff.mp e
  cases e
  exact o β P σ H G s x s1 R e1 _ fun v H1 G1 x1 R1 i1 => k σ H1 G1 x1 R1
theorem ds_if {c : Expr} {a b : List Stmt} {fc : DM Bool} {f g : DMs} {pos : Pos} (hc : DT X c fc) (ha : DSs X a f) (hb : DSs X b g) : DS X (.If c a b pos) (kIf fc f g) := by
  obtain ⟨t, p, o⟩ := hc
  obtain ⟨t2, p2, o2⟩ := ha
  obtain ⟨t3, p3, o3⟩ := hb
  refine ⟨_, ps_if p p2 p3, fun β P σ H G s r s' R e D k => ?_⟩
  unfold kIf at e
  obtain ⟨⟨x, s1⟩, e1, e⟩ := Option.bind_eq_some_iff.mp e
  refine o β P σ H G s x s1 R e1 _ fun H1 G1 x1 R1 => ?_
  cases x with
  | true => rw [if_pos rfl] at e ⊢; exact o2 β P σ H1 G1 s1 r s' R1 e D (k.mono x1)
  | false => rw [if_neg Bool.false_ne_true] at e ⊢; exact o3 β P σ H1 G1 s1 r s' R1 e D (k.mono x1)
theorem ds_cont {pos : Pos} : DS X (.Continue pos) kCt := ⟨_, ps_continue, fun β P σ H G s r s' R e D k => by cases e; exact k σ H G (Ext.refl G) R⟩
theorem ds_never {st : Stmt} : DS X st fun _ => none := ⟨_, ps_never, fun β P σ H G s r s' R e D k => by cases e⟩
end

/-! ### a def -/
def fnD (n : Nat) (f : DMs) : FD := fun ds bg => (f ⟨ds.map (fun d => some (.dat d)) ++ List.replicate (n - ds.length) none, bg⟩).bind fun p => match p.1 with
  | .rt d => some (d, p.2.bag)
  | .nx => some (.non, p.2.bag)
  | _ => none
theorem start_get {ds : List Dt} {n i : Nat} {x : Slo} (h : (ds.map (fun d => some (Slo.dat d)) ++ List.replicate (n - ds.length) none)[i]? = some (some x)) : ∃ d, ds[i]? = some d ∧ x = .dat d := by
  rw [List.getElem?_append] at h
  split at h
  · rw [List.getElem?_map] at h
    cases e : ds[i]? with
    | none => rw [e] at h; cases h
    | some d => rw [e] at h; cases h; exact ⟨d, rfl, rfl⟩
  · rw [List.getElem?_replicate] at h
    split at h <;> cases h
theorem rel_start {K : PySem.W.Frag} {β : Addr} {P H G : Hp} {N : List Str} {ds bg : List Dt} {vs : List V} (i : IsL K β G ds vs) (R : Rel K β P [] H G ⟨[], bg⟩) :
    Rel K β P (L2.start N vs) H G ⟨ds.map (fun d => some (.dat d)) ++ List.replicate (N.length - ds.length) none, bg⟩ where
  len := by unfold L2.start; simp [i.len]
  gh := R.gh
  pr := R.pr
  pb := R.pb
  bag := R.bag
  dat := fun j d e => by
    obtain ⟨d', e1, e2⟩ := start_get e
    cases e2
    obtain ⟨v, h1, h2⟩ := i.get e1
    refine ⟨v, ?_, h2⟩
    unfold L2.start
    have hl : j < vs.length := (List.getElem?_eq_some_iff.mp h1).1
    rw [List.getElem?_append_left (by simpa using hl), List.getElem?_map, h1]
    rfl
  own := fun j l e => by
    obtain ⟨d', e1, e2⟩ := start_get e
    cases e2
  dj := fun j _ l _ p e => by
    obtain ⟨d', e1, e2⟩ := start_get e
    cases e2
  tabs := R.tabs
  pt := R.pt
  nt := R.nt
theorem Rel.leave {K : PySem.W.Frag} {β : Addr} {P : Hp} {σ : L2.St} {H G : Hp} {s : Sta} (R : Rel K β P σ H G s) : Rel K β P [] H G ⟨[], s.bag⟩ where
  len := rfl
  gh := R.gh
  pr := R.pr
  pb := R.pb
  bag := R.bag
  dat := fun i d e => by simp at e
  own := fun i d e => by simp at e
  dj := fun i j l m p e => by simp at e
  tabs := R.tabs
  pt := R.pt
  nt := R.nt
section
variable {P : Program} {w : World} {K : PySem.W.Frag} {mg : Str → Option Value} {base : Heap}
theorem fn_ok {x qual : Str} {st : Stmt} {f : Addr} {fd : FuncData} {N ps : List Str} {k n : Nat} {g : DMs} (F : Fun K x qual st f fd) (S : FnScope N ps (defScope st)) (hn : ps.length = n := by rfl)
    (hb : ∀ (cdv : Value) (A : Around) (outer : List Env) (s : Shared) (H : Hp) (E : XK), Room k (A.deeper (envOfC qual (defScope st) s.heap.objs.size f cdv)) →
      DSs (cxOf CX0 P w K mg base N qual (defScope st) f cdv A outer s H E).nox (defBody st) g) : FnOk P w K mg base CX0 (k + 1) f fd ps (spD K n (fnD N.length g)) := by
  refine F.ok S (fun vs H Q E h => ?_) (fun cdv A outer s H vs Q E hr h => ?_)
  · obtain ⟨β, P, G, ds, bg, r, bg', h, _⟩ := h
    rw [hn]; exact h
  · obtain ⟨β, PP, G, ds, bg, r, bg', hl, i, R, e, q⟩ := h
    obtain ⟨t, p, o⟩ := hb cdv A outer s H E hr
    refine ⟨t, p, ?_⟩
    unfold fnD at e
    obtain ⟨⟨res, s'⟩, e1, e⟩ := Option.bind_eq_some_iff.mp e
    refine o β PP (L2.start N vs) H G _ res s' (rel_start i R) e1 _ ?_
    cases res with
    | nx =>
      cases e
      exact fun σ' H' G' x R' => q .non H' G' x R'.leave (is_non.mpr rfl)
    | rt d =>
      cases e
      exact fun v σ' H' G' x R' iv => q v H' G' x R'.leave iv
    | bk => cases e
    | ct => cases e
/-- a promise that nobody can call -/
theorem fn_none {f : Addr} {fd : FuncData} {ps : List Str} {k n : Nat} (hn : ps.length = n := by rfl) : FnOk P w K mg base CX0 k f fd ps (spD K n fun _ _ => none) :=
  ⟨fun vs H Q E h => by obtain ⟨β, P, G, ds, bg, r, bg', h, _⟩ := h; rw [hn]; exact h, fun A outer s H args us vs Q E _ _ _ _ h => by
    obtain ⟨β, P, G, ds, bg, r, bg', _, _, _, e, _⟩ := h
    cases e⟩
end
end DL

namespace DL
open PySem PySem.Spec PyProof.Rows L2
variable [Tabs]

/-! ### canonical readings -/
def tOf (K : PySem.W.Frag) (f : DM Dt) : TE := fun σ H Q => ∃ (β : Addr) (P G : Hp) (s : Sta) (d : Dt) (s' : Sta), Rel K β P σ H G s ∧ f s = some (d, s') ∧ ∀ v H' G', Ext G G' → Rel K β P σ H' G' s' → IsD K β G' d v → Q v H'
def ttOf (K : PySem.W.Frag) (f : DM Bool) : TT := fun σ H Q => ∃ (β : Addr) (P G : Hp) (s : Sta) (d : Bool) (s' : Sta), Rel K β P σ H G s ∧ f s = some (d, s') ∧ ∀ H' G', Ext G G' → Rel K β P σ H' G' s' → Q d H'
def TGok (K : PySem.W.Frag) (g : TG) (is : List Nat) (h : Dt → Sta → Option Sta) : Prop := ∀ (β : Addr) (P : Hp) (σ : L2.St) (H G : Hp) (s : Sta) (d : Dt) (v : V) (s' : Sta), Rel K β P σ H G s → IsD K β G d v → h d s = some s' →
  ∀ Q : L2.St → Hp → Prop, (∀ σ' H' G', Ext G G' → Rel K β P σ' H' G' s' → (∀ j, j ∉ is → σ'[j]? = σ[j]?) → σ'.length = σ.length → Q σ' H') → g v σ H Q
def gOf (K : PySem.W.Frag) (is : List Nat) (h : Dt → Sta → Option Sta) : TG := fun v σ H Q => ∃ (β : Addr) (P G : Hp) (s : Sta) (d : Dt) (s' : Sta), Rel K β P σ H G s ∧ IsD K β G d v ∧ h d s = some s' ∧
  ∀ σ' H' G', Ext G G' → Rel K β P σ' H' G' s' → (∀ j, j ∉ is → σ'[j]? = σ[j]?) → σ'.length = σ.length → Q σ' H'
theorem tOf_ok {K : PySem.W.Frag} {f : DM Dt} : TEok K (tOf K f) f := fun β P σ H G s d s' R e Q q => ⟨β, P, G, s, d, s', R, e, q⟩
theorem ttOf_ok {K : PySem.W.Frag} {f : DM Bool} : TTok K (ttOf K f) f := fun β P σ H G s d s' R e Q q => ⟨β, P, G, s, d, s', R, e, q⟩
theorem gOf_ok {K : PySem.W.Frag} {is : List Nat} {h : Dt → Sta → Option Sta} : TGok K (gOf K is h) is h := fun β P σ H G s d v s' R i e Q q => ⟨β, P, G, s, d, s', R, i, e, q⟩
section
variable {X : Cx}
theorem DE.pe {e : Expr} {f : DM Dt} (h : DE X e f) : PE X e (tOf X.K f) := by
  obtain ⟨t, p, o⟩ := h
  refine ⟨fun pins s σ H Q I k => ?_⟩
  obtain ⟨β, P, G, a, d, a', R, e1, q⟩ := k
  exact p.run pins s σ H Q I (o β P σ H G a d a' R e1 Q q)
theorem DT.pt {e : Expr} {f : DM Bool} (h : DT X e f) : PT X e (ttOf X.K f) := by
  obtain ⟨t, p, o⟩ := h
  refine ⟨fun pins s σ H Q I k => ?_⟩
  obtain ⟨β, P, G, a, d, a', R, e1, q⟩ := k
  exact p.run pins s σ H Q I (o β P σ H G a d a' R e1 Q q)
theorem DG.pg {e : Expr} {is : List Nat} {h : Dt → Sta → Option Sta} (k : DG X e is h) : PG X e (gOf X.K is h) := by
  obtain ⟨g, p, o⟩ := k
  refine ⟨fun pins s σ H v u Q I r k => ?_⟩
  obtain ⟨β, P, G, a, d, a', R, i, e1, q⟩ := k
  exact p.run pins s σ H v u Q I r (o β P σ H G a d _ a' R i e1 Q q)
end

/-! ### what is walked -/
def TIok (K : PySem.W.Frag) (wi : TI) (f : DM (List Dt)) : Prop := ∀ (β : Addr) (P : Hp) (σ : L2.St) (H G : Hp) (s : Sta) (l : List Dt) (s' : Sta), Rel K β P σ H G s → f s = some (l, s') →
  ∀ R : It → Hp → Prop, (∀ (J : It) (H' G' : Hp) (Gd : Hp → Prop) (Y : Nat → Hp → V → Hp → Prop), Ext G G' → Rel K β P σ H' G' s' → Walk J l.length Gd Y → (∀ H1 G1, Ext G' G1 → Ext G1 H1 → Gd H1) →
    (∀ (i : Nat) (d : Dt) (H1 : Hp) (x : V) (H2 P1 : Hp) (σ1 : L2.St) (G1 : Hp) (s1 : Sta), l[i]? = some d → Ext G' G1 → Rel K β P1 σ1 H1 G1 s1 → Y i H1 x H2 → ∃ G2, Ext G1 G2 ∧ Rel K β P1 σ1 H2 G2 s1 ∧ IsD K β G2 d x) → R J H') → wi σ H R
def DI (X : Cx) (tg iter : Expr) (f : DM (List Dt)) : Prop := ∃ wi, PI X tg iter wi ∧ TIok X.K wi f
def wLst (f : DM Dt) : DM (List Dt) := fun s => (f s).bind fun p => match p.1 with
  | .lst l => some (l, p.2)
  | _ => none
def wTup (f : DM Dt) : DM (List Dt) := fun s => (f s).bind fun p => match p.1 with
  | .tup l => some (l, p.2)
  | _ => none
def wStr (f : DM Dt) : DM (List Dt) := fun s => (f s).bind fun p => match p.1 with
  | .str z => some (z.cps.toList.map fun c => .str ⟨#[c]⟩, p.2)
  | _ => none
def bRng (j : Int) : Bool := decide (-(2 ^ 62) ≤ j) && decide (j < 2 ^ 62)
def rngD (lo : Int) (n : Nat) : List Dt := (List.range n).map fun i => .int (lo + (i : Nat))
def wRng1 (f : DM (List Dt)) : DM (List Dt) := fun s => (f s).bind fun p => match p.1 with
  | [.int j] => if bRng j = true then some (rngD 0 j.toNat, p.2) else none
  | _ => none
def wRng2 (f : DM (List Dt)) : DM (List Dt) := fun s => (f s).bind fun p => match p.1 with
  | [.int i, .int j] => if (bRng i && bRng j) = true then some (rngD i (j - i).toNat, p.2) else none
  | _ => none
def zipD : List Dt → List Dt → List Dt
  | x :: xs, y :: ys => .tup [x, y] :: zipD xs ys
  | _, _ => []
def wZip (f : DM (List Dt)) : DM (List Dt) := fun s => (f s).bind fun p => match p.1 with
  | [.lst a, .lst b] => some (zipD a b, p.2)
  | [.tup a, .tup b] => some (zipD a b, p.2)
  | _ => none
theorem zip_len : ∀ (a b : List Dt), (zipD a b).length = min a.length b.length
  | [], [] => rfl
  | [], _ :: _ => rfl
  | _ :: _, [] => rfl
  | x :: a, y :: b => by simp only [zipD, List.length_cons, zip_len a b]; omega
theorem zip_get : ∀ (a b : List Dt) (i : Nat) (d : Dt), (zipD a b)[i]? = some d → ∃ x y, a[i]? = some x ∧ b[i]? = some y ∧ d = .tup [x, y]
  | [], [], i, d, h => by simp [zipD] at h
  | [], _ :: _, i, d, h => by simp [zipD] at h
  | _ :: _, [], i, d, h => by simp [zipD] at h
  | x :: a, y :: b, 0, d, h => by simp [zipD] at h; exact ⟨x, y, rfl, rfl, h.symm⟩
  | x :: a, y :: b, i + 1, d, h => by
    simp [zipD] at h
    obtain ⟨u, v, h1, h2, h3⟩ := zip_get a b i d h
    exact ⟨u, v, by simpa using h1, by simpa using h2, h3⟩
theorem same_turn {K : PySem.W.Frag} {β : Addr} {P1 : Hp} {σ1 : L2.St} {H1 G1 : Hp} {s1 : Sta} (R : Rel K β P1 σ1 H1 G1 s1) {d : Dt} {x : V} (h : IsD K β G1 d x) : ∃ G2, Ext G1 G2 ∧ Rel K β P1 σ1 H1 G2 s1 ∧ IsD K β G2 d x := ⟨G1, Ext.refl G1, R, h⟩
section
variable {X : Cx} {tg e : Expr} {f : DM Dt}
theorem di_list (h : DE X e f) : DI X tg e (wLst f) := by
  obtain ⟨t, p, o⟩ := h
  refine ⟨_, pi_list p, fun β P σ H G s l s' R e Q q => ?_⟩
  unfold wLst at e
  obtain ⟨⟨x, s1⟩, e1, e⟩ := Option.bind_eq_some_iff.mp e
  cases x with
  | lst m =>
    cases e
    refine o β P σ H G s _ s1 R e1 _ fun v H1 G1 x1 R1 i1 => ?_
    obtain ⟨a, vs, rfl, h1, h2⟩ := is_lst.mp i1
    refine ⟨a, rfl, ⟨vs, .inl (.inl (R1.gh _ _ h1))⟩, q _ H1 G1 (fun H => SqL X.K H a vs) (YAt vs) x1 R1 (by rw [← h2.len]; exact walk_list) (fun H2 G2 x2 g => .inl (.inl (g _ _ (x2 _ _ h1)))) ?_⟩
    rintro i d H2 x H3 P1 σ1 G2 s2 hd x2 R2 ⟨rfl, hx⟩
    obtain ⟨v, e4, i4⟩ := h2.get hd
    rw [hx] at e4
    cases e4
    exact same_turn R2 (IsD.mono x2 _ _ i4)
  | _ => cases e
theorem di_tup (h : DE X e f) : DI X tg e (wTup f) := by
  obtain ⟨t, p, o⟩ := h
  refine ⟨_, pi_tup p, fun β P σ H G s l s' R e Q q => ?_⟩
  unfold wTup at e
  obtain ⟨⟨x, s1⟩, e1, e⟩ := Option.bind_eq_some_iff.mp e
  cases x with
  | tup m =>
    cases e
    refine o β P σ H G s _ s1 R e1 _ fun v H1 G1 x1 R1 i1 => ?_
    obtain ⟨a, vs, rfl, h1, h2⟩ := is_tup.mp i1
    refine ⟨a, rfl, ⟨vs, ext_t R1.gh h1⟩, q _ H1 G1 (fun H => SqT X.K H a vs) (YAt vs) x1 R1 (by rw [← h2.len]; exact walk_tup) (fun H2 G2 x2 g => ext_t (x2.trans g) h1) ?_⟩
    rintro i d H2 x H3 P1 σ1 G2 s2 hd x2 R2 ⟨rfl, hx⟩
    obtain ⟨v, e4, i4⟩ := h2.get hd
    rw [hx] at e4
    cases e4
    exact same_turn R2 (IsD.mono x2 _ _ i4)
  | _ => cases e
theorem di_str (h : DE X e f) : DI X tg e (wStr f) := by
  obtain ⟨t, p, o⟩ := h
  refine ⟨_, pi_str p, fun β P σ H G s l s' R e Q q => ?_⟩
  unfold wStr at e
  obtain ⟨⟨x, s1⟩, e1, e⟩ := Option.bind_eq_some_iff.mp e
  cases x with
  | str z =>
    cases e
    refine o β P σ H G s _ s1 R e1 _ fun v H1 G1 x1 R1 i1 => ?_
    refine ⟨z, is_str.mp i1, q _ H1 G1 (fun _ => True) _ x1 R1 (by rw [List.length_map, Array.length_toList]; exact walk_str) (fun _ _ _ _ => trivial) ?_⟩
    rintro i d H2 x H3 P1 σ1 G2 s2 hd x2 R2 ⟨rfl, c, hc, rfl⟩
    rw [List.getElem?_map, Array.getElem?_toList, hc] at hd
    cases hd
    exact same_turn R2 (is_str.mpr rfl)
  | _ => cases e
theorem bRng_ok {j : Int} (h : bRng j = true) : -(2 ^ 62) ≤ j ∧ j < 2 ^ 62 := by
  unfold bRng at h
  rw [Bool.and_eq_true] at h
  exact ⟨of_decide_eq_true h.1, of_decide_eq_true h.2⟩
theorem rng_turn {K : PySem.W.Frag} {β : Addr} {lo : Int} {n : Nat} (i : Nat) (d : Dt) (H1 : Hp) (x : V) (H2 P1 : Hp) (σ1 : L2.St) (G1 : Hp) (s1 : Sta) (hd : (rngD lo n)[i]? = some d) (R : Rel K β P1 σ1 H1 G1 s1) (y : YFn (fun i => V.int (lo + (i : Nat))) i H1 x H2) :
    ∃ G2, Ext G1 G2 ∧ Rel K β P1 σ1 H2 G2 s1 ∧ IsD K β G2 d x := by
  obtain ⟨rfl, rfl⟩ := y
  unfold rngD at hd
  rw [List.getElem?_map] at hd
  by_cases c : i < n
  · rw [List.getElem?_range c] at hd
    cases hd
    exact same_turn R (is_int.mpr rfl)
  · rw [List.getElem?_eq_none (by simpa using c)] at hd
    cases hd
theorem di_rng1 {a : Expr} {f : DM (List Dt)} {p pos : Pos} (hg : Gl X "range") (hm : X.mg "range" = none) (ha : DA X [a] f) (hs : starEach [a] X.env = [(false, eval a X.env)] := by rfl) : DI X tg (.Call (.Name "range" p) [a] [] pos) (wRng1 f) := by
  obtain ⟨t, p, o⟩ := ha
  refine ⟨_, pi_range1 hg hm p hs, fun β P σ H G s l s' R e Q q => ?_⟩
  unfold wRng1 at e
  obtain ⟨⟨x, s1⟩, e1, e⟩ := Option.bind_eq_some_iff.mp e
  split at e
  · rename_i j hx
    rw [show x = _ from hx] at e1
    split at e
    · rename_i c
      cases e
      refine o β P σ H G s _ s1 R e1 _ fun vs H1 G1 x1 R1 i1 => ?_
      obtain ⟨v, rfl, h⟩ := one_of i1
      rw [is_int.mp h]
      exact ⟨j, rfl, (bRng_ok c).1, (bRng_ok c).2, q _ H1 G1 (fun _ => True) _ x1 R1 (by rw [show (rngD 0 j.toNat).length = j.toNat by simp [rngD]]; exact walk_range) (fun _ _ _ _ => trivial) fun i d H2 x H3 P1 σ1 G2 s2 hd x2 R2 y => rng_turn i d H2 x H3 P1 σ1 G2 s2 hd R2 y⟩
    · cases e
  · cases e
theorem di_rng2 {a b : Expr} {f : DM (List Dt)} {p pos : Pos} (hg : Gl X "range") (hm : X.mg "range" = none) (ha : DA X [a, b] f) (hs : starEach [a, b] X.env = [(false, eval a X.env), (false, eval b X.env)] := by rfl) (hs2 : starEach [b] X.env = [(false, eval b X.env)] := by rfl) :
    DI X tg (.Call (.Name "range" p) [a, b] [] pos) (wRng2 f) := by
  obtain ⟨t, p, o⟩ := ha
  refine ⟨_, pi_range2 hg hm p hs hs2, fun β P σ H G s l s' R e Q q => ?_⟩
  unfold wRng2 at e
  obtain ⟨⟨x, s1⟩, e1, e⟩ := Option.bind_eq_some_iff.mp e
  split at e
  · rename_i i j hx
    rw [show x = _ from hx] at e1
    split at e
    · rename_i c
      cases e
      rw [Bool.and_eq_true] at c
      refine o β P σ H G s _ s1 R e1 _ fun vs H1 G1 x1 R1 i1 => ?_
      obtain ⟨v, r, rfl, h, h'⟩ := isl_cons.mp i1
      obtain ⟨v', rfl, h2'⟩ := one_of h'
      rw [is_int.mp h, is_int.mp h2']
      exact ⟨i, j, rfl, ⟨(bRng_ok c.1).1, (bRng_ok c.1).2, (bRng_ok c.2).1, (bRng_ok c.2).2⟩, q _ H1 G1 (fun _ => True) _ x1 R1 (by rw [show (rngD i (j - i).toNat).length = (j - i).toNat by simp [rngD]]; exact walk_range) (fun _ _ _ _ => trivial) fun i d H2 x H3 P1 σ1 G2 s2 hd x2 R2 y => rng_turn i d H2 x H3 P1 σ1 G2 s2 hd R2 y⟩
    · cases e
  · cases e
theorem pair_turn {K : PySem.W.Frag} {β : Addr} {a b : List Dt} {xs ys : List V} {G' : Hp} (h1 : IsL K β G' a xs) (h2 : IsL K β G' b ys) (i : Nat) (d : Dt) (H1 : Hp) (x : V) (H2 P1 : Hp) (σ1 : L2.St) (G1 : Hp) (s1 : Sta) (hd : (zipD a b)[i]? = some d) (e : Ext G' G1) (R : Rel K β P1 σ1 H1 G1 s1)
    (y : YPair (fun i => xs[i]?) (fun i => ys[i]?) i H1 x H2) : ∃ G2, Ext G1 G2 ∧ Rel K β P1 σ1 H2 G2 s1 ∧ IsD K β G2 d x := by
  obtain ⟨T, u, v, rfl, hT, rfl, hu, hv⟩ := y
  obtain ⟨da, db, e1, e2, rfl⟩ := zip_get a b i d hd
  obtain ⟨u', e3, i3⟩ := h1.get e1
  obtain ⟨v', e4, i4⟩ := h2.get e2
  dsimp only at hu hv
  rw [hu] at e3; cases e3
  rw [hv] at e4; cases e4
  have xx := Ext.new (o := .tup [u, v]) (R.free hT)
  exact ⟨_, xx, R.new hT, is_tup.mpr ⟨T, _, rfl, .inl (.inl upd_same), isl_cons.mpr ⟨_, _, rfl, IsD.mono (e.trans xx) _ _ i3, isl_cons.mpr ⟨_, _, rfl, IsD.mono (e.trans xx) _ _ i4, isl_nil.mpr rfl⟩⟩⟩⟩
theorem walk_zipT {K : PySem.W.Frag} {a b : Addr} {xs ys : List V} {n : Nat} (hn : n = min xs.length ys.length) : Walk (RZ.ItzT K a b) n (fun H => SqT K H a xs ∧ SqT K H b ys) (YPair (fun i => xs[i]?) (fun i => ys[i]?)) := by
  subst hn
  refine ⟨fun i _ hi q => ?_, fun _ q => ⟨xs, ys, q.1, q.2, by omega⟩, fun i H v H' _ q y => ?_⟩
  · have h1 : i < xs.length := by omega
    have h2 : i < ys.length := by omega
    exact ⟨xs, ys, xs[i], ys[i], q.1, q.2, by simp [h1], by simp [h2]⟩
  · obtain ⟨T, x, z, h1, h2, h3, h4, h5⟩ := y
    exact ⟨T, x, z, h1, h2, h3, h4 xs q.1, h5 ys q.2⟩
theorem di_zip {e e2 : Expr} {f : DM (List Dt)} {p pos tpos : Pos} {elts : List Expr} {kk : Nat} (hg : Gl X "zip") (hm : X.mg "zip" = none) (ha : DA X [e, e2] f)
    (hs : starEach [e, e2] X.env = (false, eval e X.env) :: starEach [e2] X.env := by rfl) (hpl : (backTo pos (starEach [e2] X.env)).any (·.1) = false := by rfl) :
    DI X (.Tuple elts kk tpos) (.Call (.Name "zip" p) [e, e2] [] pos) (wZip f) := by
  obtain ⟨t, p, o⟩ := ha
  refine ⟨_, RZ.pi_zipA hg hm p hs hpl, fun β P σ H G s l s' R e Q q => ?_⟩
  unfold wZip at e
  obtain ⟨⟨x, s1⟩, e1, e⟩ := Option.bind_eq_some_iff.mp e
  split at e
  · rename_i a b hx
    rw [show x = _ from hx] at e1
    cases e
    refine o β P σ H G s _ s1 R e1 _ fun vs H1 G1 x1 R1 i1 => ?_
    obtain ⟨v, r, rfl, h, h'⟩ := isl_cons.mp i1
    obtain ⟨v', rfl, h2'⟩ := one_of h'
    obtain ⟨pa, xs, rfl, g1, g2⟩ := is_lst.mp h
    obtain ⟨pb, ys, rfl, g3, g4⟩ := is_lst.mp h2'
    exact ⟨pa, pb, xs, ys, rfl, .inl ⟨.inl (.inl (R1.gh _ _ g1)), .inl (.inl (R1.gh _ _ g3)), q _ H1 G1 _ _ x1 R1 (walk_zip (xs := xs) (ys := ys) (by rw [zip_len, g2.len, g4.len]))
      (fun H2 G2 x2 g => ⟨.inl (.inl (g _ _ (x2 _ _ g1))), .inl (.inl (g _ _ (x2 _ _ g3)))⟩) fun i d H2 x H3 P1 σ1 G2 s2 hd x2 R2 y => pair_turn g2 g4 i d H2 x H3 P1 σ1 G2 s2 hd x2 R2 y⟩⟩
  · rename_i a b hx
    rw [show x = _ from hx] at e1
    cases e
    refine o β P σ H G s _ s1 R e1 _ fun vs H1 G1 x1 R1 i1 => ?_
    obtain ⟨v, r, rfl, h, h'⟩ := isl_cons.mp i1
    obtain ⟨v', rfl, h2'⟩ := one_of h'
    obtain ⟨pa, xs, rfl, g1, g2⟩ := is_tup.mp h
    obtain ⟨pb, ys, rfl, g3, g4⟩ := is_tup.mp h2'
    exact ⟨pa, pb, xs, ys, rfl, .inr ⟨ext_t R1.gh g1, ext_t R1.gh g3, q _ H1 G1 _ _ x1 R1 (walk_zipT (xs := xs) (ys := ys) (by rw [zip_len, g2.len, g4.len]))
      (fun H2 G2 x2 g => ⟨ext_t (x2.trans g) g1, ext_t (x2.trans g) g3⟩) fun i d H2 x H3 P1 σ1 G2 s2 hd x2 R2 y => pair_turn g2 g4 i d H2 x H3 P1 σ1 G2 s2 hd x2 R2 y⟩⟩
  · cases e
end

/-! ### for -/
def loopD (h : Dt → Sta → Option Sta) (b : DMs) : List Dt → DMs
  | [], s => some (.nx, s)
  | d :: r, s => (h d s).bind fun s1 => (b s1).bind fun p => match p.1 with
    | .nx => loopD h b r p.2
    | .ct => loopD h b r p.2
    | .bk => some (.nx, p.2)
    | .rt v => some (.rt v, p.2)
def kFor (f : DM (List Dt)) (h : Dt → Sta → Option Sta) (b : DMs) : DMs := fun s => (f s).bind fun p => loopD h b p.1 p.2
section
variable {X : Cx}
theorem ds_for {tg iter : Expr} {body : List Stmt} {f : DM (List Dt)} {is : List Nat} {h : Dt → Sta → Option Sta} {b : DMs} {pos : Pos} (hp : PassesOwn (model X.prog X.w) X.A X.env X.xe) (hc : X.calm = true) (hi : DI X tg iter f) (hg : DG X tg is h) (hb : DSs X body b)
    (hs : ∀ x, foldedSetIterable iter X.env x = pure x := by intro _; rfl) : DS X (.For tg iter body [] pos) (kFor f h b) := by
  obtain ⟨wi, p1, o1⟩ := hi
  obtain ⟨g, p2, o2⟩ := hg
  obtain ⟨tb, p3, o3⟩ := hb
  refine ⟨_, ps_for hp hc p1 p2 p3 hs, fun β P σ H G s r s' R e D k => ?_⟩
  unfold kFor at e
  obtain ⟨⟨l, s1⟩, e1, e⟩ := Option.bind_eq_some_iff.mp e
  refine o1 β P σ H G s l s1 R e1 _ fun J H1 G1 Gd Y x1 R1 wk hG hY => ?_
  refine for_it wk (fun i σ2 H2 => ∃ G2 s2, Ext G1 G2 ∧ Rel X.K β P σ2 H2 G2 s2 ∧ loopD h b (l.drop i) s2 = some (r, s')) ⟨G1, s1, Ext.refl G1, R1, e⟩ (fun i σ2 H2 hi ⟨G2, s2, x2, R2, _⟩ => hG H2 G2 x2 R2.gh) ?_ ?_
  · rintro i x σ2 H2 H3 hi ⟨G2, s2, x2, R2, e2⟩ y
    have hd : l[i]? = some l[i] := List.getElem?_eq_getElem hi
    obtain ⟨G3, x3, R3, i3⟩ := hY i l[i] H2 x H3 P σ2 G2 s2 hd x2 R2 y
    rw [List.drop_eq_getElem_cons hi] at e2
    unfold loopD at e2
    obtain ⟨s3, e3, e2⟩ := Option.bind_eq_some_iff.mp e2
    obtain ⟨⟨res, s4⟩, e4, e2⟩ := Option.bind_eq_some_iff.mp e2
    refine o2 β P σ2 H3 G3 s2 l[i] x s3 R3 i3 e3 _ fun σ4 H4 G4 x4 R4 _ _ => ?_
    refine o3 β P σ4 H4 G4 s3 res s4 R4 e4 _ ?_
    cases res with
    | nx => exact fun σ5 H5 G5 x5 R5 => ⟨G5, s4, ((x2.trans x3).trans x4).trans x5, R5, e2⟩
    | ct => exact fun σ5 H5 G5 x5 R5 => ⟨G5, s4, ((x2.trans x3).trans x4).trans x5, R5, e2⟩
    | bk => cases e2; exact fun σ5 H5 G5 x5 R5 => k σ5 H5 G5 ((((x1.trans x2).trans x3).trans x4).trans x5) R5
    | rt d => cases e2; exact fun v σ5 H5 G5 x5 R5 i5 => k v σ5 H5 G5 ((((x1.trans x2).trans x3).trans x4).trans x5) R5 i5
  · rintro σ2 H2 ⟨G2, s2, x2, R2, e2⟩
    rw [List.drop_length] at e2
    cases e2
    exact k σ2 H2 G2 (x1.trans x2) R2
end

/-! ### comprehensions -/
def datOnly : Option Slo → Option Slo
  | some (.dat d) => some (.dat d)
  | _ => none
def wipeS (sl : List (Option Slo)) : List Nat → List (Option Slo)
  | [] => sl
  | v :: vs => (wipeS sl vs).set v none
def compD (sl0 : List (Option Slo)) (h : Dt → Sta → Option Sta) (t : DM Bool) (e : DM Dt) : List Dt → List Dt → Option (List Dt × List Dt)
  | [], bg => some ([], bg)
  | d :: r, bg => (h d ⟨sl0, bg⟩).bind fun s1 => (t s1).bind fun p => if p.1 = true then (e p.2).bind fun q => (compD sl0 h t e r q.2.bag).bind fun z => some (q.1 :: z.1, z.2) else compD sl0 h t e r p.2.bag
def mComp (is : List Nat) (f : DM (List Dt)) (h : Dt → Sta → Option Sta) (t : DM Bool) (e : DM Dt) : DM Dt := fun s => (f s).bind fun p => if p.1.length ≤ 100000 then
  (compD (wipeS (p.2.sl.map datOnly) is) h t e p.1 p.2.bag).bind fun z => some (.lst z.1, { p.2 with bag := z.2 }) else none
theorem wipe_len : ∀ (vs : List Nat) (σ : L2.St), (wipe σ vs).length = σ.length
  | [], _ => rfl
  | v :: vs, σ => by show ((wipe σ vs).set v none).length = _; rw [List.length_set, wipe_len vs]
theorem wipeS_len : ∀ (vs : List Nat) (σ : List (Option Slo)), (wipeS σ vs).length = σ.length
  | [], _ => rfl
  | v :: vs, σ => by show ((wipeS σ vs).set v none).length = _; rw [List.length_set, wipeS_len vs]
theorem wipe_get : ∀ (vs : List Nat) (σ : L2.St) (j : Nat), (wipe σ vs)[j]? = if j ∈ vs ∧ j < σ.length then some none else σ[j]?
  | [], σ, j => by simp [wipe]
  | v :: vs, σ, j => by
    show ((wipe σ vs).set v none)[j]? = _
    rw [get_set, wipe_get vs, wipe_len]
    by_cases h : v = j
    · subst h
      by_cases q : v < σ.length
      · simp [q]
      · simp [q]
    · have h' : ¬ j = v := fun e => h e.symm
      simp [h, h']
theorem wipeS_get : ∀ (vs : List Nat) (σ : List (Option Slo)) (j : Nat), (wipeS σ vs)[j]? = if j ∈ vs ∧ j < σ.length then some none else σ[j]?
  | [], σ, j => by simp [wipeS]
  | v :: vs, σ, j => by
    show ((wipeS σ vs).set v none)[j]? = _
    rw [get_set, wipeS_get vs, wipeS_len]
    by_cases h : v = j
    · subst h
      by_cases q : v < σ.length
      · simp [q]
      · simp [q]
    · have h' : ¬ j = v := fun e => h e.symm
      simp [h, h']
theorem hid_get {sl : List (Option Slo)} {vs : List Nat} {j : Nat} {x : Slo} (h : (wipeS (sl.map datOnly) vs)[j]? = some (some x)) : j ∉ vs ∧ ∃ d, x = .dat d ∧ sl[j]? = some (some (.dat d)) := by
  rw [wipeS_get] at h
  split at h
  · cases h
  · rename_i c
    rw [List.getElem?_map] at h
    cases e : sl[j]? with
    | none => rw [e] at h; cases h
    | some y =>
      rw [e] at h
      have hl : j < sl.length := (List.getElem?_eq_some_iff.mp e).1
      have hj : j ∉ vs := fun m => c ⟨m, by simpa using hl⟩
      match y, h with
      | some (.dat d), h => cases h; exact ⟨hj, d, rfl, rfl⟩
      | some (.own l), h => cases h
      | none, h => cases h
theorem rel_hide {K : PySem.W.Frag} {β : Addr} {P : Hp} {σ : L2.St} {H G : Hp} {s : Sta} (R : Rel K β P σ H G s) {D : Addr} (hD : H D = none) (vs : List Nat) :
    Rel K β (upd (shut β H G) D (.lst [])) (wipe σ vs) (upd H D (.lst [])) G ⟨wipeS (s.sl.map datOnly) vs, s.bag⟩ where
  len := by rw [wipe_len, wipeS_len, List.length_map]; exact R.len
  gh := fun a o e => by rw [upd_ne (ne_of_none e (R.free hD))]; exact R.gh a o e
  pr := fun p o e => by
    by_cases c : p = D
    · subst c; rw [upd_same] at e ⊢; exact ⟨e, R.free hD⟩
    · rw [upd_ne c] at e ⊢; exact R.callee.pr p o e
  pb := by
    obtain ⟨us, h1, _⟩ := R.bag
    rw [upd_ne (ne_of_none h1 hD)]; exact R.callee.pb
  bag := by
    obtain ⟨us, h1, h2, h3⟩ := R.bag
    exact ⟨us, by rw [upd_ne (ne_of_none h1 hD)]; exact h1, h2, h3⟩
  dat := fun i d e => by
    obtain ⟨hi, d', e1, e2⟩ := hid_get e
    cases e1
    obtain ⟨v, h1, h2⟩ := R.dat i d e2
    refine ⟨v, ?_, h2⟩
    rw [wipe_get, if_neg (fun q => hi q.1)]
    exact h1
  own := fun i l e => by
    obtain ⟨hi, d', e1, e2⟩ := hid_get e
    cases e1
  dj := fun i j l m p e => by
    obtain ⟨hi, d', e1, e2⟩ := hid_get e
    cases e1
  tabs := fun q hq => by
    obtain ⟨t, g, n⟩ := R.tabs q hq
    have z := t.ne hD
    exact ⟨t.of (upd_ne z) (Ext.refl G), g, by rw [upd_ne z]; exact shut_tab hq⟩
  pt := fun p o h => by
    by_cases c : p = D
    · subst c; rw [upd_same] at h; cases h; exact nx_lst
    · rw [upd_ne c] at h; exact shut_nx h
  nt := R.nt
theorem rel_acc {K : PySem.W.Frag} {β : Addr} {P : Hp} {σ σ0 : L2.St} {H H0 G G0 P0 : Hp} {s : Sta} {sl0 : List (Option Slo)} {bg0 : List Dt} {D : Addr} {o o' : HO} (R : Rel K β (upd P D o) σ H G s) (R0 : Rel K β P0 σ0 H0 G0 ⟨sl0, bg0⟩) (e : Ext G0 G) (hn : ∀ (i : Nat) (x : Slo), sl0[i]? = some (some x) → ∃ d, x = .dat d) (hx : Nx D o') :
    Rel K β (upd P D o') σ0 (upd H D o') G ⟨sl0, s.bag⟩ where
  len := R0.len
  gh := fun a u h => by
    have q := (R.pr D o upd_same).2
    rw [upd_ne (ne_of_none h q)]; exact R.gh a u h
  pr := fun p u h => by
    by_cases c : p = D
    · subst c; rw [upd_same] at h ⊢; exact ⟨h, (R.pr p o upd_same).2⟩
    · rw [upd_ne c] at h ⊢; exact R.pr p u (by rw [upd_ne c]; exact h)
  pb := by
    have q := R.pb
    by_cases c : β = D
    · subst c; rw [upd_same] at q; cases q
    · rw [upd_ne c] at q ⊢; exact q
  bag := by
    obtain ⟨us, h1, h2, h3⟩ := R.bag
    have c : β ≠ D := fun c => by have q := R.pb; rw [c, upd_same] at q; cases q
    exact ⟨us, by rw [upd_ne c]; exact h1, h2, h3⟩
  dat := fun i d h => by
    obtain ⟨v, h1, h2⟩ := R0.dat i d h
    exact ⟨v, h1, IsD.mono e _ _ h2⟩
  own := fun i l h => by
    obtain ⟨d, z⟩ := hn i _ h
    cases z
  dj := fun i j l m p h => by
    obtain ⟨d, z⟩ := hn i _ h
    cases z
  tabs := fun q hq => by
    obtain ⟨t, g, n⟩ := R.tabs q hq
    have z : q.1 ≠ D := fun z => by rw [z, upd_same] at n; cases n
    exact ⟨t.of (upd_ne z) (Ext.refl G), g, by rw [upd_ne z] at n ⊢; exact n⟩
  pt := fun p u h => by
    by_cases c : p = D
    · subst c; rw [upd_same] at h; cases h; exact hx
    · rw [upd_ne c] at h; exact R.pt p u (by rw [upd_ne c]; exact h)
  nt := R.nt
theorem rel_skip {K : PySem.W.Frag} {β : Addr} {P : Hp} {σ σ0 : L2.St} {H H0 G G0 P0 : Hp} {s : Sta} {sl0 : List (Option Slo)} {bg0 : List Dt} (R : Rel K β P σ H G s) (R0 : Rel K β P0 σ0 H0 G0 ⟨sl0, bg0⟩) (e : Ext G0 G) (hn : ∀ (i : Nat) (x : Slo), sl0[i]? = some (some x) → ∃ d, x = .dat d) :
    Rel K β P σ0 H G ⟨sl0, s.bag⟩ where
  len := R0.len
  gh := R.gh
  pr := R.pr
  pb := R.pb
  bag := R.bag
  dat := fun i d h => by
    obtain ⟨v, h1, h2⟩ := R0.dat i d h
    exact ⟨v, h1, IsD.mono e _ _ h2⟩
  own := fun i l h => by
    obtain ⟨d, z⟩ := hn i _ h
    cases z
  dj := fun i j l m p h => by
    obtain ⟨d, z⟩ := hn i _ h
    cases z
  tabs := R.tabs
  pt := R.pt
  nt := R.nt
theorem rel_done {K : PySem.W.Frag} {β : Addr} {P : Hp} {σ σ0 : L2.St} {H H0 G G0 : Hp} {s s0 : Sta} {D : Addr} {acc : List V} (R0 : Rel K β P σ H0 G0 s) (hD : H0 D = none) (R : Rel K β (upd (shut β H0 G0) D (.lst acc)) σ0 H G s0) (e : Ext G0 G) :
    Rel K β P σ H (upd G D (.lst acc)) { s with bag := s0.bag } := by
  have q := R.pr D _ upd_same
  have xx : Ext G (upd G D (.lst acc)) := Ext.new q.2
  have hb : β ≠ D := fun c => by have q := R.pb; rw [c, upd_same] at q; cases q
  have keep : ∀ p o, H0 p = some o → G0 p = none → p ≠ β → (∀ t ∈ Tabs.ts, t.1 ≠ p) → Nx p o → H p = some o ∧ upd G D (.lst acc) p = none := fun p o h1 h2 h3 h4 h5 => by
    have n : p ≠ D := ne_of_none h1 hD
    have k := R.pr p o (by rw [upd_ne n]; exact shut_some h1 h2 h3 h4 h5)
    exact ⟨k.1, by rw [upd_ne n]; exact k.2⟩
  exact {
    len := R0.len
    gh := fun a u h => by
      by_cases c : a = D
      · subst c; rw [upd_same] at h; cases h; exact q.1
      · rw [upd_ne c] at h; exact R.gh a u h
    pr := fun p o h => by
      have h1 := R0.pr p o h
      exact keep p o h1.1 h1.2 (fun z => by subst z; rw [R0.pb] at h; cases h) (fun t ht z => by rw [← z, (R0.tabs t ht).2.2] at h; cases h) (R0.pt p o h)
    pb := R0.pb
    bag := by
      obtain ⟨us, h1, h2, h3⟩ := R.bag
      exact ⟨us, h1, by rw [upd_ne hb]; exact h2, IsL.mono xx _ _ h3⟩
    dat := fun i d h => by
      obtain ⟨v, h1, h2⟩ := R0.dat i d h
      exact ⟨v, h1, IsD.mono (e.trans xx) _ _ h2⟩
    own := fun i l h => by
      obtain ⟨p, vs, h1, h2, h3, h4, h5, h6⟩ := R0.own i l h
      have k := keep p _ h2 h3 h5 (fun t ht z => (R0.tabs t ht).1.neL h2 z) nx_lst
      exact ⟨p, vs, h1, k.1, k.2, h4, h5, IsL.mono (e.trans xx) _ _ h6⟩
    dj := R0.dj
    tabs := fun y hy => by
      obtain ⟨t, g, n⟩ := R.tabs y hy
      have z : y.1 ≠ D := fun z => by rw [z, upd_same] at n; cases n
      exact ⟨t.of rfl xx, by rw [upd_ne z]; exact g, (R0.tabs y hy).2.2⟩
    pt := R0.pt
    nt := fun a ps h => by
      by_cases c : a = D
      · subst c; rw [upd_same] at h; cases h
      · rw [upd_ne c] at h; exact R.nt a ps h }
theorem wipe_same {σ σ0 : L2.St} {vs : List Nat} (hl : σ0.length = (wipe σ vs).length) (h : ∀ j, j ∉ vs → σ0[j]? = (wipe σ vs)[j]?) : wipe σ0 vs = wipe σ vs := by
  apply List.ext_getElem?
  intro j
  rw [wipe_len] at hl
  by_cases c : j ∈ vs
  · rw [wipe_get, wipe_get, hl]
    by_cases q : j < σ.length
    · rw [if_pos ⟨c, q⟩, if_pos ⟨c, q⟩]
    · rw [if_neg fun z => q z.2, if_neg fun z => q z.2, List.getElem?_eq_none (by omega), List.getElem?_eq_none (by omega)]
  · rw [wipe_get, if_neg fun z => c z.1, h j c]
theorem te_comp {K : PySem.W.Frag} {wi : TI} {g : TG} {tt : TT} {te : TE} {vs is : List Nat} {f : DM (List Dt)} {h : Dt → Sta → Option Sta} {ft : DM Bool} {fe : DM Dt} (hi : TIok K wi f) (hg : TGok K g is h) (ht : TTok K tt ft) (he : TEok K te fe) (hv : ∀ j ∈ is, j ∈ vs) :
    TEok K (tLc wi g tt te vs) (mComp vs f h ft fe) := by
  intro β P σ H G s d s' R e Q q
  unfold mComp at e
  obtain ⟨⟨l, s1⟩, e1, e⟩ := Option.bind_eq_some_iff.mp e
  dsimp only at e
  split at e
  case isFalse => cases e
  rename_i hlen
  obtain ⟨⟨ys, bgF⟩, e2, e⟩ := Option.bind_eq_some_iff.mp e
  cases e
  refine hi β P σ H G s l s1 R e1 _ fun J H1 G1 Gd Y x1 R1 wk hG hY => ?_
  intro D hD
  have hn : ∀ (i : Nat) (x : Slo), (wipeS (s1.sl.map datOnly) vs)[i]? = some (some x) → ∃ d, x = .dat d := fun i x z => by
    obtain ⟨_, d', e3, _⟩ := hid_get z
    exact ⟨d', e3⟩
  have R0 := rel_hide R1 hD vs
  refine lc_it wk (fun i H2 => ∃ G2 bg acc ds rs, Ext G1 G2 ∧ Rel K β (upd (shut β H1 G1) D (.lst acc)) (wipe σ vs) H2 G2 ⟨wipeS (s1.sl.map datOnly) vs, bg⟩ ∧ IsL K β G2 ds acc ∧ acc.length ≤ i ∧
    compD (wipeS (s1.sl.map datOnly) vs) h ft fe (l.drop i) bg = some (rs, bgF) ∧ ds ++ rs = ys) ⟨G1, s1.bag, [], [], ys, Ext.refl G1, R0, isl_nil.mpr rfl, Nat.le_refl _, e2, rfl⟩ ?_ ?_ ?_
  · rintro i H2 hi' ⟨G2, bg, acc, ds, rs, x2, R2, _⟩
    exact hG H2 G2 x2 R2.gh
  · rintro i x H2 H3 hi' ⟨G2, bg, acc, ds, rs, x2, R2, ia, la, e3, e4⟩ y
    have hd : l[i]? = some l[i] := List.getElem?_eq_getElem hi'
    obtain ⟨G3, x3, R3, i3⟩ := hY i l[i] H2 x H3 _ _ G2 _ hd x2 R2 y
    rw [List.drop_eq_getElem_cons hi'] at e3
    unfold compD at e3
    obtain ⟨s3, e5, e3⟩ := Option.bind_eq_some_iff.mp e3
    obtain ⟨⟨b, s4⟩, e6, e3⟩ := Option.bind_eq_some_iff.mp e3
    refine hg β _ _ H3 G3 _ l[i] x s3 R3 i3 e5 _ fun σ4 H4 G4 x4 R4 c4 l4 => ⟨wipe_same l4 fun j hj => c4 j fun z => hj (hv j z), ?_⟩
    refine ht β _ _ H4 G4 s3 b s4 R4 e6 _ fun H5 G5 x5 R5 => ?_
    cases b with
    | true =>
      rw [if_pos rfl] at e3 ⊢
      obtain ⟨⟨dy, s5⟩, e7, e3⟩ := Option.bind_eq_some_iff.mp e3
      obtain ⟨⟨zs, bz⟩, e8, e3⟩ := Option.bind_eq_some_iff.mp e3
      cases e3
      refine he β _ _ H5 G5 s4 dy s5 R5 e7 _ fun v H6 G6 x6 R6 i6 => ?_
      have xx : Ext G2 G6 := ((x3.trans x4).trans x5).trans x6
      refine ⟨acc, (R6.pr D _ upd_same).1, Nat.lt_of_le_of_lt la (Nat.lt_of_lt_of_le hi' (Nat.le_trans hlen (by decide))), G6, s5.bag, acc ++ [v], ds ++ [dy], zs, x2.trans xx, rel_acc R6 R2 xx hn nx_lst, (IsL.mono xx _ _ ia).snoc i6, by simp; exact la, e8, ?_⟩
      rw [← e4]
      simp
    | false =>
      rw [if_neg Bool.false_ne_true] at e3 ⊢
      have xx : Ext G2 G5 := (x3.trans x4).trans x5
      exact ⟨G5, s4.bag, acc, ds, rs, x2.trans xx, rel_skip R5 R2 xx hn, IsL.mono xx _ _ ia, Nat.le_succ_of_le la, e3, e4⟩
  · rintro H2 ⟨G2, bg, acc, ds, rs, x2, R2, ia, la, e3, e4⟩
    rw [List.drop_length] at e3
    cases e3
    rw [List.append_nil] at e4
    subst e4
    have qd := R2.pr D _ upd_same
    have xx : Ext G2 (upd G2 D (.lst acc)) := Ext.new qd.2
    exact q (.ref D) H2 _ ((x1.trans x2).trans xx) (rel_done R1 hD R2 x2) (is_lst.mpr ⟨D, acc, rfl, upd_same, IsL.mono xx _ _ ia⟩)
def mYes : DM Bool := fun s => some (true, s)
def DTs (X : Cx) (ifs : List Expr) (f : DM Bool) : Prop := PTs X ifs (ttOf X.K f)
section
variable {X : Cx}
theorem dts_nil : DTs X [] mYes := by
  refine ⟨fun pins s σ H Q I k => ?_⟩
  obtain ⟨β, P, G, a, d, a', R, e1, q⟩ := k
  cases e1
  exact pts_nil.run pins s σ H Q I (q H G (Ext.refl G) R)
theorem dts_one {c : Expr} {f : DM Bool} (h : DT X c f) : DTs X [c] f := pts_one h.pt
theorem de_comp {elt tg iter : Expr} {ifs : List Expr} {scope : Scope} {own : List (Str × Nat)} {pos : Pos} {is : List Nat} {f : DM (List Dt)} {h : Dt → Sta → Option Sta} {ft : DM Bool} {fe : DM Dt} (hc : X.calm = true) (hN : X.N.Nodup) (hi : DI X tg iter f) (ok : BlkOk X.N X.env.scope scope own)
    (hg : ∀ (s : Shared) (H : Hp) (C : Addr) (cl : List (Str × Addr)) (fp : List Addr), DG (X.blk s H scope (compEnvC scope cl C X.env) fp) tg is h) (ht : ∀ (s : Shared) (H : Hp) (C : Addr) (cl : List (Str × Addr)) (fp : List Addr), DTs (X.blk s H scope (compEnvC scope cl C X.env) fp) ifs ft)
    (he : ∀ (s : Shared) (H : Hp) (C : Addr) (cl : List (Str × Addr)) (fp : List Addr), DE (X.blk s H scope (compEnvC scope cl C X.env) fp) elt fe) (hv : ∀ j ∈ is, j ∈ own.map (·.2)) (hs : ∀ x, foldedSetIterable iter X.env x = pure x := by intro _; rfl) :
    DE X (.ListComp elt [⟨tg, iter, ifs, 0⟩] scope pos) (mComp (own.map (·.2)) f h ft fe) := by
  obtain ⟨wi, p1, o1⟩ := hi
  exact ⟨_, pe_lc (g := gOf X.K is h) (tt := ttOf X.K ft) (te := tOf X.K fe) hc hN p1 ok (fun s H C cl fp => (hg s H C cl fp).pg) (fun s H C cl fp => ht s H C cl fp) (fun s H C cl fp => (he s H C cl fp).pe) hs, te_comp o1 gOf_ok ttOf_ok tOf_ok hv⟩
theorem ds_setComp {i : Nat} {y : Str} {py : Pos} {elt tg iter : Expr} {ifs : List Expr} {scope : Scope} {own : List (Str × Nat)} {pos spos : Pos} {is : List Nat} {f : DM (List Dt)} {h : Dt → Sta → Option Sta} {ft : DM Bool} {fe : DM Dt} (hc : X.calm = true) (hN : X.N.Nodup) (hy : X.N[i]? = some y) (hyl : X.env.scope.names.lookup y = some .local)
    (hsw : swapsWith (.ListComp elt [⟨tg, iter, ifs, 0⟩] scope pos) (some (.Name y py)) spos.line X.env = pure true) (hi : DI X tg iter f) (ok : BlkOk X.N X.env.scope scope own)
    (hg : ∀ (s : Shared) (H : Hp) (C : Addr) (cl : List (Str × Addr)) (fp : List Addr), DG (X.blk s H scope (compEnvC scope cl C X.env) fp) tg is h) (ht : ∀ (s : Shared) (H : Hp) (C : Addr) (cl : List (Str × Addr)) (fp : List Addr), DTs (X.blk s H scope (compEnvC scope cl C X.env) fp) ifs ft)
    (he : ∀ (s : Shared) (H : Hp) (C : Addr) (cl : List (Str × Addr)) (fp : List Addr), DE (X.blk s H scope (compEnvC scope cl C X.env) fp) elt fe) (hv : ∀ j ∈ is, j ∈ own.map (·.2)) (hs : ∀ x, foldedSetIterable iter X.env x = pure x := by intro _; rfl) :
    DS X (.Assign [.Name y py] (.ListComp elt [⟨tg, iter, ifs, 0⟩] scope pos) spos) (kAsg (mComp (own.map (·.2)) f h ft fe) (hName i)) := by
  obtain ⟨wi, p1, o1⟩ := hi
  refine ⟨_, ps_setLc (g := gOf X.K is h) (tt := ttOf X.K ft) (te := tOf X.K fe) hc hN hy hyl hsw p1 ok (fun s H C cl fp => (hg s H C cl fp).pg) (fun s H C cl fp => ht s H C cl fp) (fun s H C cl fp => (he s H C cl fp).pe) hs, fun β P σ H G s r s' R e D k => ?_⟩
  unfold kAsg at e
  obtain ⟨⟨x, s1⟩, e1, e⟩ := Option.bind_eq_some_iff.mp e
  obtain ⟨s2, e2, e⟩ := Option.bind_eq_some_iff.mp e
  cases e2
  cases e
  refine te_comp o1 gOf_ok ttOf_ok tOf_ok hv β P σ H G s x s1 R e1 _ fun v H1 G1 x1 R1 i1 => ?_
  exact k _ H1 G1 x1 (R1.set i1)
end
end DL

namespace DL
open PySem PySem.Spec PyProof.Rows L2
variable [Tabs]
/-! a, b = e1, e2 over two locals -/
def kPar (i j : Nat) (f : DM (List Dt)) : DMs := fun s => (f s).bind fun p => match p.1 with
  | [d, e] => some (.nx, { p.2 with sl := (p.2.sl.set i (some (.dat d))).set j (some (.dat e)) })
  | _ => none
section
variable {X : Cx}
theorem ds_par {i j : Nat} {x y : Str} {a b : Expr} {f : DM (List Dt)} {px py pt : Pos} {kt k2 pt2 pos} (hc : X.calm = true) (hN : X.N.Nodup) (hi : X.N[i]? = some x) (hj : X.N[j]? = some y) (hij : i ≠ j)
    (hx : X.env.scope.names.lookup x = some .local) (hy : X.env.scope.names.lookup y = some .local) (ha : DA X [a, b] f)
    (hw : swappedStores [.Tuple [.Name x px, .Name y py] kt pt] (.Tuple [a, b] k2 pt2) X.env = pure (some [x, y]))
    (hs : swapsWithSole [.Tuple [.Name x px, .Name y py] kt pt] (.Tuple [a, b] k2 pt2) pos.line X.env = pure false := by rfl) :
    DS X (.Assign [.Tuple [.Name x px, .Name y py] kt pt] (.Tuple [a, b] k2 pt2) pos) (kPar i j f) := by
  obtain ⟨t, p, o⟩ := ha
  refine ⟨_, ps_par hc hN hi hj hij hx hy p hw hs, fun β P σ H G s r s' R e D k => ?_⟩
  unfold kPar at e
  obtain ⟨⟨l, s1⟩, e1, e⟩ := Option.bind_eq_some_iff.mp e
  split at e
  · rename_i d d' hl
    rw [show l = _ from hl] at e1
    cases e
    refine o β P σ H G s _ s1 R e1 _ fun vs H1 G1 x1 R1 i1 => ?_
    obtain ⟨v, r, rfl, h1, h2⟩ := isl_cons.mp i1
    obtain ⟨v', rfl, h3⟩ := one_of h2
    exact ⟨v, v', rfl, k _ H1 G1 x1 ((R1.set h1).set h3)⟩
  · cases e
/-! -a -/
def mNeg (f : DM Dt) : DM Dt := fun s => (f s).bind fun p => match p.1 with
  | .int i => some (.int (-i), p.2)
  | _ => none
theorem de_neg {a : Expr} {f : DM Dt} {pos : Pos} (h : DE X a f) : DE X (.UnaryOp .USub a pos) (mNeg f) := by
  obtain ⟨t, p, o⟩ := h
  refine ⟨_, pe_un un_neg p, fun β P σ H G s r s' R e Q q => ?_⟩
  unfold mNeg at e
  obtain ⟨⟨x, s1⟩, e1, e⟩ := Option.bind_eq_some_iff.mp e
  refine o β P σ H G s x s1 R e1 _ fun v H1 G1 x1 R1 i1 => ?_
  cases x with
  | int i => cases e; exact ⟨i, is_int.mp i1, q _ H1 G1 x1 R1 (is_int.mpr rfl)⟩
  | _ => cases e
end
/-! ### calls by keywords alone -/
section
variable {X : Cx} {k : Nat} {f : Addr} {fd : FuncData} {ps ks : List Str} {sp : Sp} {E : XK} {CX : CXT} {x : Str} {p pos : Pos} {kws : List Keyword} {tk : TA} {g : List Value → List Value → List Value} {gV : List V → List V → List V}
theorem pe_callK0 (F : FnOk X.prog X.w X.K X.mg X.base CX k f fd ps sp) (hr : Room k X.A) (hg : Gl X x) (hm : X.mg x = some (.ref f)) (hk : PySem.W.keepIn X.K (.ref f) = true) (hb : KBinds X.K fd ps ks g gV) (hx : Passes CX X E)
    (hkw : PK X kws tk) (hall : (backToKw pos (keywordEach kws X.env)).all (·.1.isSome) = true := by rfl) (hks : (backToKw pos (keywordEach kws X.env)).filterMap (·.1) = ks := by rfl)
    (hdb : (x == ("__debug__" : Str)) = false := by decide)
    (hpl : ((backTo pos (starEach [] X.env)).any (·.1) || (backToKw pos (keywordEach kws X.env)).any (·.1.isNone)) = false := by rfl) :
    PE X (.Call (.Name x p) [] kws pos) (fun σ H Q => tk σ H fun zs H2 => sp (gV [] zs) H2 Q E) := by
  refine ⟨fun pins s σ H Q I h => ?_⟩
  refine wpAny_Call_Name_kw (ld_glob I hg hm ?_ hdb)
  refine PySem.W.callWith_KW0 (h₀ := X.base) I.ok.mod.kin hk hall ?_ hpl
  refine thn (hkw.run pos pins s σ H _ I h) fun ws s2 ⟨zs, H2, I2, rz, q2⟩ => ⟨I2.kIn, ?_⟩
  rw [hks]
  exact run_fnk F hr hb hx I2 .nil rz q2
end
def DK (X : Cx) (kws : List Keyword) (f : DM (List Dt)) : Prop := ∃ t, PK X kws t ∧ TAok X.K t f
section
variable {X : Cx}
theorem dk_nil : DK X [] mNil := ⟨_, pk_nil, fun β P σ H G s b s' R e Q q => by cases e; exact q _ H G (Ext.refl G) R (isl_nil.mpr rfl)⟩
theorem dk_cons {e : Expr} {es : List Keyword} {f : DM Dt} {g : DM (List Dt)} {nm : Option Str} {kpos : Pos} (ha : DE X e f) (hb : DK X es g) : DK X (⟨nm, e, kpos⟩ :: es) (mCons f g) := by
  obtain ⟨t, p, o⟩ := ha
  obtain ⟨u, p2, o2⟩ := hb
  refine ⟨_, pk_cons p p2, fun β P σ H G s b s' R e Q q => ?_⟩
  unfold mCons at e
  obtain ⟨⟨x, s1⟩, e1, e⟩ := Option.bind_eq_some_iff.mp e
  obtain ⟨⟨y, s2⟩, e2, e⟩ := Option.bind_eq_some_iff.mp e
  cases e
  refine o β P σ H G s x s1 R e1 _ fun v H1 G1 x1 R1 i1 => ?_
  refine o2 β P σ H1 G1 s1 y s2 R1 e2 _ fun vs H2 G2 x2 R2 i2 => ?_
  exact q _ H2 G2 (x1.trans x2) R2 (isl_cons.mpr ⟨v, vs, rfl, IsD.mono x2 _ _ i1, i2⟩)
def mAppK (pm : List Nat) (F : FD) (f : DM (List Dt)) : DM Dt := fun s => (f s).bind fun p => (F (pm.filterMap fun i => p.1[i]?) p.2.bag).bind fun q => some (q.1, { p.2 with bag := q.2 })
theorem isl_perm {K : PySem.W.Frag} {β : Addr} {G : Hp} {ds : List Dt} {vs : List V} (h : IsL K β G ds vs) : ∀ pm : List Nat, IsL K β G (pm.filterMap fun i => ds[i]?) (pm.filterMap fun i => vs[i]?)
  | [] => isl_nil.mpr rfl
  | i :: r => by
    rw [List.filterMap_cons, List.filterMap_cons]
    cases e : ds[i]? with
    | none =>
      have e' : vs[i]? = none := by
        rw [List.getElem?_eq_none_iff] at e ⊢
        rw [h.len]; exact e
      rw [e']
      exact isl_perm h r
    | some d =>
      obtain ⟨v, e1, i1⟩ := h.get e
      rw [e1]
      exact isl_cons.mpr ⟨v, _, rfl, i1, isl_perm h r⟩
theorem vals_perm {vs : List V} {us : List Value} (h : Vals vs us) : ∀ pm : List Nat, Vals (pm.filterMap fun i => vs[i]?) (pm.filterMap fun i => us[i]?)
  | [] => .nil
  | i :: r => by
    rw [List.filterMap_cons, List.filterMap_cons]
    cases e : vs[i]? with
    | none =>
      rw [h.none_of e]
      exact vals_perm h r
    | some d =>
      obtain ⟨v, e1, i1⟩ := h.get e
      rw [e1]
      exact .cons i1 (vals_perm h r)
def kwG {α : Type} (pm : List Nat) : List α → List α → List α
  | [], ws => pm.filterMap fun i => ws[i]?
  | _ :: _, _ => []
theorem de_callK0 {k : Nat} {f : Addr} {fd : FuncData} {ps ks : List Str} {n : Nat} {F : FD} {x : Str} {p pos : Pos} {kws : List Keyword} {g : DM (List Dt)} {pm : List Nat} (FF : FnOk X.prog X.w X.K X.mg X.base CX0 k f fd ps (spD X.K n F)) (hr : Room k X.A) (hg : Gl X x) (hm : X.mg x = some (.ref f)) (hk : PySem.W.keepIn X.K (.ref f) = true)
    (hb : KBinds X.K fd ps ks (kwG pm) (kwG pm)) (ha : DK X kws g) {m : Nat} (hn : ∀ s ds s', g s = some (ds, s') → ds.length = m) (hpm : ∀ ds : List Dt, ds.length = m → (pm.filterMap fun i => ds[i]?).length = n)
    (hall : (backToKw pos (keywordEach kws X.env)).all (·.1.isSome) = true := by rfl) (hks : (backToKw pos (keywordEach kws X.env)).filterMap (·.1) = ks := by rfl)
    (hdb : (x == ("__debug__" : Str)) = false := by decide)
    (hpl : ((backTo pos (starEach [] X.env)).any (·.1) || (backToKw pos (keywordEach kws X.env)).any (·.1.isNone)) = false := by rfl) : DE X (.Call (.Name x p) [] kws pos) (mAppK pm F g) := by
  obtain ⟨t, p1, o1⟩ := ha
  refine ⟨_, pe_callK0 FF hr hg hm hk hb pass0 p1 hall hks hdb hpl, fun β P σ H G s d s' R e Q q => ?_⟩
  unfold mAppK at e
  obtain ⟨⟨x, s1⟩, e1, e⟩ := Option.bind_eq_some_iff.mp e
  obtain ⟨⟨y, bg'⟩, e2, e⟩ := Option.bind_eq_some_iff.mp e
  cases e
  refine o1 β P σ H G s x s1 R e1 _ fun vs H1 G1 x1 R1 i1 => ?_
  exact ⟨β, shut β H1 G1, G1, _, s1.bag, y, bg', by show (pm.filterMap fun i => vs[i]?).length = n; rw [(isl_perm i1 pm).len]; exact hpm _ (hn _ _ _ e1), isl_perm i1 pm, R1.callee, e2, fun v H' G' x2 C i => q v H' G' (x1.trans x2) (R1.back x2 C) i⟩
theorem kb_of {K : PySem.W.Frag} {x qual : Str} {st : Stmt} {f : Addr} {fd : FuncData} {ps ks : List Str} {pm : List Nat} (F : Fun K x qual st f fd) (hp : 0 < ps.length)
    (h : ∀ (kV doc pmv : Value) (an : Option Addr) (cdv ct : Value) (ws : List Value), (pm.filterMap fun i => ws[i]?).length = ps.length → bindArgs (PySem.W.fnOf x qual (defArgs st) (defBody st) (defScope st) .none kV doc pmv an cdv ct) ⟨[], ks.zip ws⟩ = pure (ps.zip (pm.filterMap fun i => ws[i]?))) :
    KBinds K fd ps ks (kwG pm) (kwG pm) := by
  obtain ⟨oc, od, kV, doc, pmv, an, cdv, ct, osl, rfl, lk, hcd⟩ := F.ex
  refine ⟨fun s us ws _ hl => ?_, fun {vs us zs ws} r rz => ?_⟩
  · cases us with
    | nil => exact .of_eq (h kV doc pmv an cdv ct ws hl)
    | cons u us => simp [kwG] at hl; omega
  · cases r with
    | nil => exact vals_perm rz pm
    | cons _ _ => exact .nil
end
/-! ### the script, the law -/
def spLaw (K : PySem.W.Frag) : Sp := fun vs H Q _ => ∃ (a : Addr) (ns : List Int), vs = [.ref a] ∧ SqL K H a (ns.map V.int) ∧ ns.length ≤ 63 ∧ (∀ q ∈ Tabs.ts, H q.1 = some (.tbl #[])) ∧ ∀ H', Q (.bl true) H'
def bag0 (ns : List Int) (seed : Int) : List Dt := [.lst (ns.map Dt.int), .int 0, .int 0, .int seed, .int 0]
theorem law_rel {K : PySem.W.Frag} {β l : Addr} {ns : List Int} {seed : Int} {H : Hp} {a : V} {n : Nat} (hn : β ≠ l) (hl : H l = some (.lst (ns.map V.int))) (hb : H β = some (.lst [.ref l, .int 0, .int 0, .int seed, .int 0])) (ht : ∀ q ∈ Tabs.ts, H q.1 = some (.tbl #[])) :
    Rel K β (fun _ => none) ([some a, some (.ref β)] ++ List.replicate n none) H (upd (fun _ => none) l (.lst (ns.map V.int))) ⟨[none, some (.dat .bag)] ++ List.replicate n none, bag0 ns seed⟩ where
  len := by simp
  gh := fun p o e => by
    by_cases c : p = l
    · subst c; rw [upd_same] at e; cases e; exact hl
    · rw [upd_ne c] at e; cases e
  pr := fun p o e => by cases e
  pb := rfl
  bag := ⟨_, hb, by rw [upd_ne hn], isl_cons.mpr ⟨_, _, rfl, is_lst.mpr ⟨l, _, rfl, upd_same, IsL.ints⟩, isl_cons.mpr ⟨_, _, rfl, is_int.mpr rfl, isl_cons.mpr ⟨_, _, rfl, is_int.mpr rfl, isl_cons.mpr ⟨_, _, rfl, is_int.mpr rfl, isl_cons.mpr ⟨_, _, rfl, is_int.mpr rfl, isl_nil.mpr rfl⟩⟩⟩⟩⟩⟩
  dat := fun i d e => by
    match i, e with
    | 0, e => cases e
    | 1, e => cases e; exact ⟨_, rfl, is_bag.mpr rfl⟩
    | i + 2, e =>
      simp only [List.cons_append, List.nil_append, List.getElem?_cons_succ, List.getElem?_replicate] at e
      split at e <;> cases e
  own := fun i d e => by
    match i, e with
    | 0, e => cases e
    | 1, e => cases e
    | i + 2, e =>
      simp only [List.cons_append, List.nil_append, List.getElem?_cons_succ, List.getElem?_replicate] at e
      split at e <;> cases e
  dj := fun i _ d _ _ e => by
    match i, e with
    | 0, e => cases e
    | 1, e => cases e
    | i + 2, e =>
      simp only [List.cons_append, List.nil_append, List.getElem?_cons_succ, List.getElem?_replicate] at e
      split at e <;> cases e
  tabs := fun q hq => by
    have h := ht q hq
    refine ⟨⟨#[], h, trivial, fun pos cv hc => by cases hc⟩, ?_, rfl⟩
    rw [upd_ne (fun z => by rw [z, hl] at h; cases h)]
  pt := fun p o h => by cases h
  nt := fun p ps e => by
    by_cases c : p = l
    · subst c; rw [upd_same] at e; cases e
    · rw [upd_ne c] at e; cases e
end DL

namespace DL
open PySem PySem.Spec PyProof.Rows L2
variable [Tabs]
/-! ### str of ints and texts, int of texts, f-strings -/
def gStr : List Dt → Option Dt
  | [.int i] => if i.natAbs.log2 < 1920 then some (.str (toString i)) else none
  | [.str z] => some (.str z)
  | _ => none
theorem ok_str {K : PySem.W.Frag} : Rok K (fun xs H Q => (∃ i, xs = [.int i] ∧ i.natAbs.log2 < 1920 ∧ Q (.str (toString i)) H) ∨ ∃ a, xs = [.str a] ∧ Q (.str a) H) gStr := by
  intro β P σ H G s vs ds d R i e Q q
  unfold gStr at e
  split at e
  · split at e
    · rename_i c
      cases e
      obtain ⟨v, rfl, h⟩ := one_of i
      exact .inl ⟨_, by rw [is_int.mp h], c, q _ H G (Ext.refl G) R (is_str.mpr rfl)⟩
    · cases e
  · cases e
    obtain ⟨v, rfl, h⟩ := one_of i
    exact .inr ⟨_, by rw [is_str.mp h], q _ H G (Ext.refl G) R (is_str.mpr rfl)⟩
  · cases e
def gIntS : List Dt → Option Dt
  | [.str z] => if z.length ≤ 640 then (PySem.intText? z).bind fun n => some (.int n) else none
  | _ => none
theorem ok_intS {K : PySem.W.Frag} : Rok K (fun xs H Q => ∃ a n, xs = [.str a] ∧ PySem.intText? a = some n ∧ a.length ≤ 640 ∧ Q (.int n) H) gIntS := by
  intro β P σ H G s vs ds d R i e Q q
  unfold gIntS at e
  split at e
  · split at e
    · rename_i c
      obtain ⟨n, e1, e⟩ := Option.bind_eq_some_iff.mp e
      cases e
      obtain ⟨v, rfl, h⟩ := one_of i
      exact ⟨_, n, by rw [is_str.mp h], e1, c, q _ H G (Ext.refl G) R (is_int.mpr rfl)⟩
    · cases e
  · cases e
/-- a part {x} -/
def mFmt (f : DM Dt) : DM Dt := fun s => (f s).bind fun p => match p.1 with
  | .str y => if y.length ≤ sizeLine then some (.str y, p.2) else none
  | .int i => if i.natAbs.log2 < 1920 then some (.str (toString i), p.2) else none
  | _ => none
def mJs : List (DM Dt) → Str → DM Str
  | [], acc, s => some (acc, s)
  | f :: fs, acc, s => (f s).bind fun p => match p.1 with
    | .str y => if (acc ++ y).length ≤ sizeLine then mJs fs (acc ++ y) p.2 else none
    | _ => none
def mJoined (fs : List (DM Dt)) : DM Dt := fun s => (mJs fs Str.empty s).bind fun p => some (.str p.1, p.2)
inductive DJ (X : Cx) : List Expr → List (DM Dt) → Prop where
  | nil : DJ X [] []
  | cons {e : Expr} {f : DM Dt} {es : List Expr} {fs : List (DM Dt)} (h : DE X e f) (r : DJ X es fs) : DJ X (e :: es) (f :: fs)
section
variable {X : Cx}
theorem de_fmt {e : Expr} {f : DM Dt} {pos : Pos} (h : DE X e f) : DE X (.FormattedValue e (-1) none pos) (mFmt f) := by
  obtain ⟨t, p, o⟩ := h
  refine ⟨_, pe_fmt p, fun β P σ H G s d s' R e Q q => ?_⟩
  unfold mFmt at e
  obtain ⟨⟨x, s1⟩, e1, e⟩ := Option.bind_eq_some_iff.mp e
  refine o β P σ H G s x s1 R e1 _ fun v H1 G1 x1 R1 i1 => ?_
  cases x with
  | str y =>
    dsimp only at e
    split at e
    · rename_i c; cases e; exact .inl ⟨y, is_str.mp i1, c, q _ H1 G1 x1 R1 (is_str.mpr rfl)⟩
    · cases e
  | int i =>
    dsimp only at e
    split at e
    · rename_i c; cases e; exact .inr ⟨i, is_int.mp i1, c, q _ H1 G1 x1 R1 (is_str.mpr rfl)⟩
    · cases e
  | _ => cases e
theorem dj_ok {es : List Expr} {fs : List (DM Dt)} (h : DJ X es fs) : ∃ ts, PJ X es ts ∧ ∀ (β : Addr) (P : Hp) (σ : L2.St) (H G : Hp) (s : Sta) (acc out : Str) (s' : Sta), Rel X.K β P σ H G s → mJs fs acc s = some (out, s') →
    ∀ Q : Str → Hp → Prop, (∀ H' G', Ext G G' → Rel X.K β P σ H' G' s' → Q out H') → tJs ts acc σ H Q := by
  induction h with
  | nil => exact ⟨[], .nil, fun β P σ H G s acc out s' R e Q q => by cases e; exact q H G (Ext.refl G) R⟩
  | @cons e f es fs h r ih =>
    obtain ⟨t, p, o⟩ := h
    obtain ⟨ts, pj, oj⟩ := ih
    refine ⟨t :: ts, .cons p pj, fun β P σ H G s acc out s' R e Q q => ?_⟩
    unfold mJs at e
    obtain ⟨⟨x, s1⟩, e1, e⟩ := Option.bind_eq_some_iff.mp e
    refine o β P σ H G s x s1 R e1 _ fun v H1 G1 x1 R1 i1 => ?_
    cases x with
    | str y =>
      dsimp only at e
      split at e
      · rename_i c
        exact ⟨y, is_str.mp i1, c, oj β P σ H1 G1 s1 (acc ++ y) out s' R1 e Q fun H2 G2 x2 R2 => q H2 G2 (x1.trans x2) R2⟩
      · cases e
    | _ => cases e
theorem de_joined {v1 v2 : Expr} {rest : List Expr} {fs : List (DM Dt)} {pos : Pos} (h : DJ X (v1 :: v2 :: rest) fs) : DE X (.JoinedStr (v1 :: v2 :: rest) pos) (mJoined fs) := by
  obtain ⟨ts, pj, oj⟩ := dj_ok h
  refine ⟨_, pe_joined pj, fun β P σ H G s d s' R e Q q => ?_⟩
  unfold mJoined at e
  obtain ⟨⟨out, s1⟩, e1, e⟩ := Option.bind_eq_some_iff.mp e
  cases e
  exact oj β P σ H G s Str.empty out s1 R e1 _ fun H1 G1 x1 R1 => q _ H1 G1 x1 R1 (is_str.mpr rfl)
end
end DL

namespace DL
open PySem PySem.Spec PyProof.Rows L2
variable [Tabs]
/-! ### lists that one name alone holds: made, grown, popped; while -/
section
variable {K : PySem.W.Frag} {β : Addr} {P : Hp} {σ : L2.St} {H G : Hp} {s : Sta}
/-- a new list, held by slot i alone -/
theorem Rel.setOwn (R : Rel K β P σ H G s) {i : Nat} {p : Addr} {l : List Dt} {vs : List V} (hp : H p = none) (h : IsL K β G l vs) :
    Rel K β P (σ.set i (some (.ref p))) (upd H p (.lst vs)) G { s with sl := s.sl.set i (some (.own l)) } where
  len := by simp [R.len]
  gh := fun a o e => by rw [upd_ne (ne_of_none e (R.free hp))]; exact R.gh a o e
  pr := fun a o e => by
    have h1 := R.pr a o e
    rw [upd_ne (ne_of_none h1.1 hp)]; exact h1
  pb := R.pb
  bag := by
    obtain ⟨us, h1, h2, h3⟩ := R.bag
    exact ⟨us, by rw [upd_ne (ne_of_none h1 hp)]; exact h1, h2, h3⟩
  dat := fun j d q => by
    rw [get_set] at q ⊢
    rw [R.len]
    by_cases c : i = j ∧ i < s.sl.length
    · rw [if_pos c] at q; cases q
    · rw [if_neg c] at q ⊢; exact R.dat j d q
  own := fun j m q => by
    rw [get_set] at q ⊢
    rw [R.len]
    by_cases c : i = j ∧ i < s.sl.length
    · rw [if_pos c] at q ⊢
      cases q
      obtain ⟨us, b1, _, _⟩ := R.bag
      refine ⟨p, vs, rfl, upd_same, R.free hp, ?_, (ne_of_none b1 hp).symm, h⟩
      cases e : P p with
      | none => rfl
      | some o => have := (R.pr p o e).1; rw [hp] at this; cases this
    · rw [if_neg c] at q ⊢
      obtain ⟨p', us, h1, h2, h3⟩ := R.own j m q
      exact ⟨p', us, h1, by rw [upd_ne (ne_of_none h2 hp)]; exact h2, h3⟩
  dj := fun j k l m a q1 q2 r1 r2 => by
    simp only [get_set] at q1 q2 r1 r2
    rw [R.len] at r1 r2
    by_cases c : i = j ∧ i < s.sl.length
    · by_cases c' : i = k ∧ i < s.sl.length
      · exact c.1.symm.trans c'.1
      · rw [if_pos c] at r1
        rw [if_neg c'] at q2 r2
        cases r1
        obtain ⟨p', us, h1, h2, _⟩ := R.own k m q2
        rw [h1] at r2
        cases r2
        rw [hp] at h2; cases h2
    · by_cases c' : i = k ∧ i < s.sl.length
      · rw [if_pos c'] at r2
        rw [if_neg c] at q1 r1
        cases r2
        obtain ⟨p', us, h1, h2, _⟩ := R.own j l q1
        rw [h1] at r1
        cases r1
        rw [hp] at h2; cases h2
      · rw [if_neg c] at q1 r1
        rw [if_neg c'] at q2 r2
        exact R.dj j k l m a q1 q2 r1 r2
  tabs := fun q hq => by
    obtain ⟨t, g, n⟩ := R.tabs q hq
    exact ⟨t.of (upd_ne (t.ne hp)) (Ext.refl G), g, n⟩
  pt := R.pt
  nt := R.nt
/-- what an own list holds is changed -/
theorem Rel.putOwn (R : Rel K β P σ H G s) {i : Nat} {p : Addr} {l l' : List Dt} {vs' : List V} (hi : s.sl[i]? = some (some (.own l))) (hp : σ[i]? = some (some (.ref p))) (h : IsL K β G l' vs') :
    Rel K β P σ (upd H p (.lst vs')) G { s with sl := s.sl.set i (some (.own l')) } := by
  obtain ⟨p', vs, e1, e2, e3, e4, e5, _⟩ := R.own i l hi
  rw [hp] at e1
  cases e1
  have hlen : i < s.sl.length := (List.getElem?_eq_some_iff.mp hi).1
  exact {
    len := by simp [R.len]
    gh := fun a o e => by rw [upd_ne (ne_of_none e e3)]; exact R.gh a o e
    pr := fun a o e => by
      have n : a ≠ p := fun z => by rw [z, e4] at e; cases e
      rw [upd_ne n]; exact R.pr a o e
    pb := R.pb
    bag := by
      obtain ⟨us, h1, h2, h3⟩ := R.bag
      exact ⟨us, by rw [upd_ne e5.symm]; exact h1, h2, h3⟩
    dat := fun j d q => by
      rw [get_set] at q
      by_cases c : i = j ∧ i < s.sl.length
      · rw [if_pos c] at q; cases q
      · rw [if_neg c] at q; exact R.dat j d q
    own := fun j m q => by
      rw [get_set] at q
      by_cases c : i = j ∧ i < s.sl.length
      · rw [if_pos c] at q
        cases q
        obtain ⟨rfl, _⟩ := c
        exact ⟨p, vs', hp, upd_same, e3, e4, e5, h⟩
      · rw [if_neg c] at q
        obtain ⟨p', us, h1, h2, h3⟩ := R.own j m q
        have n : p' ≠ p := fun z => by
          subst z
          exact c ⟨R.dj i j l m p' hi q hp h1, hlen⟩
        exact ⟨p', us, h1, by rw [upd_ne n]; exact h2, h3⟩
    dj := fun j k l1 m a q1 q2 r1 r2 => by
      simp only [get_set] at q1 q2
      by_cases c : i = j ∧ i < s.sl.length
      · obtain ⟨rfl, _⟩ := c
        by_cases c' : i = k ∧ i < s.sl.length
        · exact c'.1
        · rw [if_neg c'] at q2
          exact R.dj i k l m a hi q2 r1 r2
      · rw [if_neg c] at q1
        by_cases c' : i = k ∧ i < s.sl.length
        · obtain ⟨rfl, _⟩ := c'
          exact R.dj j i l1 l a q1 hi r1 r2
        · rw [if_neg c'] at q2
          exact R.dj j k l1 m a q1 q2 r1 r2
    tabs := fun q hq => by
      obtain ⟨t, g, n⟩ := R.tabs q hq
      exact ⟨t.of (upd_ne (t.neL e2)) (Ext.refl G), g, n⟩
    pt := R.pt
    nt := R.nt }
/-- an own list is let go: from now on it is data -/
theorem Rel.freeze (R : Rel K β P σ H G s) {i : Nat} {l : List Dt} (hi : s.sl[i]? = some (some (.own l))) : ∃ p vs G', σ[i]? = some (some (.ref p)) ∧ Ext G G' ∧ Rel K β P σ H G' { s with sl := s.sl.set i (some (.dat (.lst l))) } ∧ IsD K β G' (.lst l) (.ref p) ∧ G' p = some (.lst vs) := by
  obtain ⟨p, vs, e1, e2, e3, e4, e5, e6⟩ := R.own i l hi
  have xx : Ext G (upd G p (.lst vs)) := Ext.new e3
  have hd : IsD K β (upd G p (.lst vs)) (.lst l) (.ref p) := is_lst.mpr ⟨p, vs, rfl, upd_same, IsL.mono xx _ _ e6⟩
  have hlen : i < s.sl.length := (List.getElem?_eq_some_iff.mp hi).1
  refine ⟨p, vs, _, e1, xx, ?_, hd, upd_same⟩
  exact {
    len := by simp [R.len]
    gh := fun a o e => by
      by_cases c : a = p
      · subst c; rw [upd_same] at e; cases e; exact e2
      · rw [upd_ne c] at e; exact R.gh a o e
    pr := fun a o e => by
      have n : a ≠ p := fun z => by rw [z, e4] at e; cases e
      rw [upd_ne n]; exact R.pr a o e
    pb := R.pb
    bag := by
      obtain ⟨us, h1, h2, h3⟩ := R.bag
      exact ⟨us, h1, by rw [upd_ne e5.symm]; exact h2, IsL.mono xx _ _ h3⟩
    dat := fun j d q => by
      rw [get_set] at q
      by_cases c : i = j ∧ i < s.sl.length
      · rw [if_pos c] at q
        cases q
        obtain ⟨rfl, _⟩ := c
        exact ⟨_, e1, hd⟩
      · rw [if_neg c] at q
        obtain ⟨v, h1, h2⟩ := R.dat j d q
        exact ⟨v, h1, IsD.mono xx _ _ h2⟩
    own := fun j m q => by
      rw [get_set] at q
      by_cases c : i = j ∧ i < s.sl.length
      · rw [if_pos c] at q; cases q
      · rw [if_neg c] at q
        obtain ⟨p', us, h1, h2, h3, h4, h5, h6⟩ := R.own j m q
        have n : p' ≠ p := fun z => by
          subst z
          exact c ⟨R.dj i j l m p' hi q e1 h1, hlen⟩
        exact ⟨p', us, h1, h2, by rw [upd_ne n]; exact h3, h4, h5, IsL.mono xx _ _ h6⟩
    dj := fun j k l1 m a q1 q2 r1 r2 => by
      simp only [get_set] at q1 q2
      by_cases c : i = j ∧ i < s.sl.length
      · rw [if_pos c] at q1; cases q1
      · rw [if_neg c] at q1
        by_cases c' : i = k ∧ i < s.sl.length
        · rw [if_pos c'] at q2; cases q2
        · rw [if_neg c'] at q2
          exact R.dj j k l1 m a q1 q2 r1 r2
    tabs := fun q hq => by
      obtain ⟨t, g, n⟩ := R.tabs q hq
      exact ⟨t.of rfl xx, by rw [upd_ne (t.neL e2)]; exact g, n⟩
    pt := R.pt
    nt := fun a ps h => by
      by_cases c : a = p
      · subst c; rw [upd_same] at h; cases h
      · rw [upd_ne c] at h; exact R.nt a ps h }
end
/-- x = [..], x being changed later on -/
def kOwn (i : Nat) (f : DM (List Dt)) : DMs := fun s => (f s).bind fun p => if p.1.length ≤ 1000 then some (.nx, { p.2 with sl := p.2.sl.set i (some (.own p.1)) }) else none
/-- the value of such a name: it is let go -/
def mMove (i : Nat) : DM Dt := fun s => match s.sl[i]? with
  | some (some (.own l)) => some (.lst l, { s with sl := s.sl.set i (some (.dat (.lst l))) })
  | _ => none
def mTruOwn (i : Nat) : DM Bool := fun s => match s.sl[i]? with
  | some (some (.own l)) => some (!l.isEmpty, s)
  | _ => none
def mPop (i : Nat) : DM Dt := fun s => match s.sl[i]? with
  | some (some (.own l)) => (l[l.length - 1]?).bind fun d => some (d, { s with sl := s.sl.set i (some (.own l.dropLast)) })
  | _ => none
def mAppend (i : Nat) (f : DM Dt) : DM Dt := fun s => (f s).bind fun p => match p.2.sl[i]? with
  | some (some (.own l)) => if l.length < 100000 then some (.non, { p.2 with sl := p.2.sl.set i (some (.own (l ++ [p.1]))) }) else none
  | _ => none
def mExtend (i : Nat) (f : DM Dt) : DM Dt := fun s => (f s).bind fun p => match p.2.sl[i]?, p.1 with
  | some (some (.own l)), .lst m => if l.length + m.length ≤ 100000 then some (.non, { p.2 with sl := p.2.sl.set i (some (.own (l ++ m))) }) else none
  | _, _ => none
theorem IsL.dropLast {K : PySem.W.Frag} {β : Addr} {G : Hp} {l : List Dt} {vs : List V} (h : IsL K β G l vs) : IsL K β G l.dropLast vs.dropLast := by
  rw [List.dropLast_eq_take, List.dropLast_eq_take, h.len]
  exact h.take _
section
variable {X : Cx}
theorem ds_own {i : Nat} {x : Str} {es : List Expr} {f : DM (List Dt)} {pos' p pos : Pos} (hN : X.N.Nodup) (hi : X.N[i]? = some x) (hx : Loc X.env.scope x) (ha : DA X es f) (hs : swapsWith (.List es p) (some (.Name x pos')) pos.line X.env = pure false := by rfl) (hf : X.fn x = true ∨ X.env.scope.names.lookup x = some .local := by first | exact .inl rfl | exact .inr rfl | assumption) :
    DS X (.Assign [.Name x pos'] (.List es p) pos) (kOwn i f) := by
  obtain ⟨t, pp, o⟩ := ha
  refine ⟨_, ps_set hN hi hx (pe_lst pp) hs hf, fun β P σ H G s r s' R e D k => ?_⟩
  unfold kOwn at e
  obtain ⟨⟨l, s1⟩, e1, e⟩ := Option.bind_eq_some_iff.mp e
  dsimp only at e
  split at e
  · rename_i hl
    cases e
    refine o β P σ H G s l s1 R e1 _ fun vs H1 G1 x1 R1 i1 => ?_
    refine ⟨le_line (by rw [i1.len]; exact hl), fun a ha => ?_⟩
    exact k _ _ G1 x1 (R1.setOwn ha i1)
  · cases e
theorem de_move {e : Expr} (i : Nat) (h : PE X e (tVar i)) : DE X e (mMove i) := ⟨_, h, fun β P σ H G s d s' R e Q q => by
  unfold mMove at e
  split at e
  · rename_i l hi
    cases e
    obtain ⟨p, vs, G', e1, xx, R', hd, _⟩ := R.freeze hi
    exact ⟨_, e1, q _ H G' xx R' hd⟩
  · cases e⟩
theorem dt_own {e : Expr} (i : Nat) (h : PE X e (tVar i)) (he : ∀ whole, isTrue e X.env whole = (do let v ← whole; standAt e.pos; holding [v] (truthy v)) := by intro _; rfl) : DT X e (mTruOwn i) := ⟨_, pt_truth h he, fun β P σ H G s b s' R e Q q => by
  unfold mTruOwn at e
  split at e
  · rename_i l hi
    cases e
    obtain ⟨p, vs, e1, e2, e3, e4, e5, e6⟩ := R.own i l hi
    exact ⟨_, e1, _, .inl ⟨vs, .inl (.inl e2), len_empty e6⟩, q H G (Ext.refl G) R⟩
  · cases e⟩
theorem de_pop {o : Expr} {apos cpos : Pos} (i : Nat) (h : PE X o (tVar i)) (hbase : attributeBase o "pop" X.env (eval o X.env) = eval o X.env := by rfl) (hline : (apos.endLine == cpos.line) = true := by rfl) :
    DE X (.Call (.Attribute o "pop" apos) [] [] cpos) (mPop i) := ⟨_, pe_bm0 PySem.F.plainAttrs_list PySem.F.slot_list_pop PySem.F.type_list_pop mt_pop h hbase hline, fun β P σ H G s d s' R e Q q => by
  unfold mPop at e
  split at e
  · rename_i l hi
    obtain ⟨d', e0, e⟩ := Option.bind_eq_some_iff.mp e
    cases e
    obtain ⟨p, vs, e1, e2, e3, e4, e5, e6⟩ := R.own i l hi
    obtain ⟨v, hv, iv⟩ := e6.get e0
    refine ⟨_, e1, .inl ⟨rfl, vs, .inl (.inl e2)⟩, p, vs, v, rfl, rfl, e2, by rw [e6.len]; exact hv, ?_⟩
    exact q v _ G (Ext.refl G) (R.putOwn hi e1 e6.dropLast) iv
  · cases e⟩
theorem de_append {o a : Expr} {f : DM Dt} {apos cpos : Pos} (i : Nat) (h : PE X o (tVar i)) (ha : DE X a f) (hne : ∀ s d s', f s = some (d, s') → s'.sl[i]? = s.sl[i]?)
    (hbase : attributeBase o "append" X.env (eval o X.env) = eval o X.env := by rfl)
    (hfew : ((backTo cpos (starEach [a] X.env)).all (fun x => !x.1) && (backToKw cpos (keywordEach [] X.env)).all (fun x => x.1.isSome)
      && decide ([a].length + ([] : List Keyword).length + (if ([] : List Keyword).isEmpty then 0 else 1) < 30)) = true := by rfl)
    (hline : (apos.endLine == cpos.line) = true := by rfl) (hs : starEach [a] X.env = (false, eval a X.env) :: starEach [] X.env := by rfl) (hplain : (backTo cpos (starEach [] X.env)).any (·.1) = false := by rfl) :
    DE X (.Call (.Attribute o "append" apos) [a] [] cpos) (mAppend i f) := by
  obtain ⟨t, p1, o1⟩ := ha
  refine ⟨_, pe_bm PySem.F.plainAttrs_list PySem.F.slot_list_append PySem.F.type_list_append mt_append h (pa_cons p1 pa_nil hs) hbase hfew hline hs hplain, fun β P σ H G s d s' R e Q q => ?_⟩
  unfold mAppend at e
  obtain ⟨⟨x, s1⟩, e1, e⟩ := Option.bind_eq_some_iff.mp e
  dsimp only at e
  split at e
  · rename_i l hi
    split at e
    · rename_i hl
      cases e
      have hi0 : s.sl[i]? = some (some (.own l)) := by rw [← hne _ _ _ e1]; exact hi
      obtain ⟨p, vs, q1, q2, _⟩ := R.own i l hi0
      refine ⟨_, q1, .inl ⟨rfl, vs, .inl (.inl q2)⟩, ?_⟩
      refine o1 β P σ H G s x s1 R e1 _ fun v H1 G1 x1 R1 i1 => ?_
      obtain ⟨p', vs', r1, r2, r3, r4, r5, r6⟩ := R1.own i l hi
      rw [q1] at r1
      cases r1
      refine ⟨p, vs', v, rfl, rfl, r2, by rw [r6.len]; exact Nat.lt_of_lt_of_le hl (by decide), ?_⟩
      exact q _ _ G1 x1 (R1.putOwn hi q1 (r6.snoc i1)) (is_non.mpr rfl)
    · cases e
  · cases e
theorem de_extend {o a : Expr} {f : DM Dt} {apos cpos : Pos} (i : Nat) (h : PE X o (tVar i)) (ha : DE X a f) (hne : ∀ s d s', f s = some (d, s') → s'.sl[i]? = s.sl[i]?)
    (hbase : attributeBase o "extend" X.env (eval o X.env) = eval o X.env := by rfl)
    (hfew : ((backTo cpos (starEach [a] X.env)).all (fun x => !x.1) && (backToKw cpos (keywordEach [] X.env)).all (fun x => x.1.isSome)
      && decide ([a].length + ([] : List Keyword).length + (if ([] : List Keyword).isEmpty then 0 else 1) < 30)) = true := by rfl)
    (hline : (apos.endLine == cpos.line) = true := by rfl) (hs : starEach [a] X.env = (false, eval a X.env) :: starEach [] X.env := by rfl) (hplain : (backTo cpos (starEach [] X.env)).any (·.1) = false := by rfl) :
    DE X (.Call (.Attribute o "extend" apos) [a] [] cpos) (mExtend i f) := by
  obtain ⟨t, p1, o1⟩ := ha
  refine ⟨_, pe_bm PySem.F.plainAttrs_list PySem.F.slot_list_extend PySem.F.type_list_extend mt_extend h (pa_cons p1 pa_nil hs) hbase hfew hline hs hplain, fun β P σ H G s d s' R e Q q => ?_⟩
  unfold mExtend at e
  obtain ⟨⟨x, s1⟩, e1, e⟩ := Option.bind_eq_some_iff.mp e
  dsimp only at e
  split at e
  · rename_i l m hi
    split at e
    · rename_i hl
      cases e
      have hi0 : s.sl[i]? = some (some (.own l)) := by rw [← hne _ _ _ e1]; exact hi
      obtain ⟨p, vs, q1, q2, _⟩ := R.own i l hi0
      refine ⟨_, q1, .inl ⟨rfl, vs, .inl (.inl q2)⟩, ?_⟩
      refine o1 β P σ H G s _ s1 R e1 _ fun v H1 G1 x1 R1 i1 => ?_
      obtain ⟨b, us, rfl, b1, b2⟩ := is_lst.mp i1
      obtain ⟨p', vs', r1, r2, r3, r4, r5, r6⟩ := R1.own i l hi
      rw [q1] at r1
      cases r1
      refine ⟨p, b, vs', us, rfl, rfl, r2, R1.gh _ _ b1, by rw [r6.len, b2.len]; exact Nat.le_trans hl (by decide), ?_⟩
      exact q _ _ G1 x1 (R1.putOwn hi q1 (r6.append b2)) (is_non.mpr rfl)
    · cases e
  · cases e
/-! while -/
def whileD (c : DM Bool) (b : DMs) : Nat → DMs
  | 0, _ => none
  | n + 1, s => (c s).bind fun p => if p.1 = true then (b p.2).bind fun q => match q.1 with
      | .nx => whileD c b n q.2
      | .ct => whileD c b n q.2
      | .bk => some (.nx, q.2)
      | .rt d => some (.rt d, q.2)
    else some (.nx, p.2)
theorem ds_while {c : Expr} {body : List Stmt} {fc : DM Bool} {b : DMs} {pos : Pos} (n : Nat) (hp : PassesOwn (model X.prog X.w) X.A X.env X.xe) (hc : DT X c fc) (hb : DSs X body b) : DS X (.While c body [] pos) (whileD fc b n) := by
  obtain ⟨tc, p1, o1⟩ := hc
  obtain ⟨tb, p2, o2⟩ := hb
  refine ⟨_, ps_while hp p1 p2, fun β P σ H G s r s' R e D k => ?_⟩
  refine ⟨fun m σ2 H2 => ∃ G2 s2, Ext G G2 ∧ Rel X.K β P σ2 H2 G2 s2 ∧ whileD fc b m s2 = some (r, s'), ⟨n, G, s, Ext.refl G, R, e⟩, ?_⟩
  rintro m σ2 H2 ⟨G2, s2, x2, R2, e2⟩
  cases m with
  | zero => cases e2
  | succ m =>
    unfold whileD at e2
    obtain ⟨⟨bv, s3⟩, e3, e2⟩ := Option.bind_eq_some_iff.mp e2
    refine o1 β P σ2 H2 G2 s2 bv s3 R2 e3 _ fun H3 G3 x3 R3 => ?_
    cases bv with
    | true =>
      rw [if_pos rfl] at e2 ⊢
      obtain ⟨⟨res, s4⟩, e4, e2⟩ := Option.bind_eq_some_iff.mp e2
      refine ⟨fun σ' H' => ∃ G2 s2, Ext G G2 ∧ Rel X.K β P σ' H' G2 s2 ∧ whileD fc b m s2 = some (r, s'), fun σ' H' h => ⟨m, Nat.lt_succ_self m, h⟩, ?_⟩
      refine o2 β P σ2 H3 G3 s3 res s4 R3 e4 _ ?_
      cases res with
      | nx => exact fun σ5 H5 G5 x5 R5 => ⟨G5, s4, (x2.trans x3).trans x5, R5, e2⟩
      | ct => exact fun σ5 H5 G5 x5 R5 => ⟨G5, s4, (x2.trans x3).trans x5, R5, e2⟩
      | bk => cases e2; exact fun σ5 H5 G5 x5 R5 => k σ5 H5 G5 ((x2.trans x3).trans x5) R5
      | rt d => cases e2; exact fun v σ5 H5 G5 x5 R5 i5 => k v σ5 H5 G5 ((x2.trans x3).trans x5) R5 i5
    | false =>
      rw [if_neg Bool.false_ne_true] at e2 ⊢
      cases e2
      exact k σ2 H3 G3 (x2.trans x3) R3
end
end DL

namespace DL
open PySem PySem.Spec PyProof.Rows L2
variable [Tabs]

/-! ### dicts: written ones with text keys, as data -/
theorem pairs_const : ∀ (l : List (Str × Str)) (σ : L2.St) (H : Hp) (Q : List (V × V) → Hp → Prop), Q (l.map fun p => (V.str p.1, V.str p.2)) H → tPairs (l.map fun p => (tC (.str p.1), tC (.str p.2))) σ H Q
  | [], _, _, _, h => h
  | p :: l, σ, H, Q, h => by
    show tPairs (l.map fun p => (tC (.str p.1), tC (.str p.2))) σ H fun ps H3 => Q ((V.str p.1, V.str p.2) :: ps) H3
    exact pairs_const l σ H _ h
def dicS (l : List (Str × Str)) : Dt := .dic (l.map fun p => .inr p.1) (l.map fun p => .str p.2)
theorem zip_dicS : ∀ l : List (Str × Str), (l.map fun p => (Sum.inr p.1 : Key)).zip (l.map fun p => V.str p.2) = l.map fun p => ((Sum.inr p.1 : Key), V.str p.2)
  | [] => rfl
  | p :: l => by simp only [List.map_cons, List.zip_cons_cons, zip_dicS l]
theorem isl_strs {K : PySem.W.Frag} {β : Addr} {G : Hp} : ∀ l : List (Str × Str), IsL K β G (l.map fun p => Dt.str p.2) (l.map fun p => V.str p.2)
  | [] => isl_nil.mpr rfl
  | p :: l => isl_cons.mpr ⟨_, _, rfl, is_str.mpr rfl, isl_strs l⟩
section
variable {X : Cx}
theorem de_dicS {pos : Pos} {keys : List (Option Expr)} {values : List Expr} {trs : List (TE × TE)} (l : List (Str × Str)) (h : PPs X pos keys values trs) (ht : trs = l.map (fun p => (tC (.str p.1), tC (.str p.2))) := by rfl) (hall : keys.all (·.isSome) = true := by rfl) (hl : keys.length = values.length := by rfl) (h0 : keys ≠ [] := by intro z; cases z)
    (h15 : keys.length ≤ 15 := by decide) (hlen : l.length ≤ 15 := by decide) (hm : mergeK [] (l.map fun p => ((Sum.inr p.1 : Key), V.str p.2)) = l.map fun p => ((Sum.inr p.1 : Key), V.str p.2) := by rfl) : DE X (.Dict keys values pos) (mC (dicS l)) := by
  refine ⟨_, pe_disp h hall hl h0 h15, fun β P σ H G s d s' R e Q q => ?_⟩
  cases e
  intro p hp
  rw [ht]
  refine pairs_const l σ _ _ ?_
  refine ⟨upd_same, l.map fun p => ((Sum.inr p.1 : Key), V.str p.2), ?_, by rw [List.length_map]; exact hlen, ?_⟩
  · rw [List.map_map] <;> rfl
  · rw [hm]
    have e2 : upd (upd H p (.dK [])) p (.dK (l.map fun p => ((Sum.inr p.1 : Key), V.str p.2))) = upd H p (.dK (l.map fun p => ((Sum.inr p.1 : Key), V.str p.2))) := by
      funext b
      by_cases c : b = p
      · subst c; rw [upd_same, upd_same]
      · rw [upd_ne c, upd_ne c, upd_ne c]
    rw [e2]
    exact q _ _ _ (Ext.new (R.free hp)) (R.new hp) (is_dic.mpr ⟨p, l.map fun p => V.str p.2, rfl, by rw [zip_dicS]; exact upd_same, by rw [List.length_map, List.length_map], isl_strs l⟩)
end
def lookD : List Key → List Dt → Key → Option Dt
  | k :: ks, d :: l, x => if k = x then some d else lookD ks l x
  | _, _, _ => none
theorem look_ok {K : PySem.W.Frag} {β : Addr} {G : Hp} : ∀ {ks : List Key} {l : List Dt} {vs : List V} {k : Key} {d : Dt}, IsL K β G l vs → lookD ks l k = some d → ∃ v, valV (ks.zip vs) k = some v ∧ IsD K β G d v
  | [], _, _, _, _, _, e => by simp [lookD] at e
  | _ :: _, [], _, _, _, _, e => by simp [lookD] at e
  | k :: ks, d :: l, vs, x, y, h, e => by
    obtain ⟨v, r, rfl, h1, h2⟩ := isl_cons.mp h
    unfold lookD at e
    rw [List.zip_cons_cons]
    by_cases c : k = x
    · rw [if_pos c] at e
      cases e
      exact ⟨v, valV_pos (p := (k, v)) c, h1⟩
    · rw [if_neg c] at e
      rw [valV_neg (p := (k, v)) c]
      exact look_ok h2 e
def keyD : Dt → Option Key
  | .str x => some (.inr x)
  | .int i => some (.inl i)
  | _ => none
def gDget : Dt → Dt → Option Dt
  | .dic ks l, d => (keyD d).bind fun k => lookD ks l k
  | _, _ => none
theorem keyD_ok {K : PySem.W.Frag} {β : Addr} {G : Hp} {d : Dt} {k : Key} {v : V} (h : IsD K β G d v) (e : keyD d = some k) : v = kV k := by
  cases d with
  | str x => cases e; exact is_str.mp h
  | int x => cases e; exact is_int.mp h
  | _ => cases e
section
variable {X : Cx} {a b : Expr} {fa fb : DM Dt} {pos : Pos}
theorem de_dget (hu : X.A.units + 1 < cLine) (ha : DE X a fa) (hb : DE X b fb) (hs : NoSl b := by exact fun _ _ => rfl) : DE X (.Subscript a b pos) (m2 gDget fa fb) := by
  obtain ⟨ta, pa, oa⟩ := ha
  obtain ⟨tb, pb, ob⟩ := hb
  refine ⟨_, pe_dget hu pa pb hs, fun β P σ H G s d s' R e Q q => ?_⟩
  unfold m2 at e
  obtain ⟨⟨x, s1⟩, e1, e⟩ := Option.bind_eq_some_iff.mp e
  obtain ⟨⟨y, s2⟩, e2, e⟩ := Option.bind_eq_some_iff.mp e
  obtain ⟨z, e3, e⟩ := Option.bind_eq_some_iff.mp e
  cases e
  refine oa β P σ H G s x s1 R e1 _ fun v H1 G1 x1 R1 i1 => ?_
  refine ob β P σ H1 G1 s1 y s2 R1 e2 _ fun u H2 G2 x2 R2 i2 => ?_
  unfold gDget at e3
  split at e3
  · rename_i ks l hx
    rw [show x = _ from hx] at i1
    obtain ⟨k, e4, e5⟩ := Option.bind_eq_some_iff.mp e3
    obtain ⟨p, vs, rfl, g1, g2, g3⟩ := is_dic.mp i1
    obtain ⟨w, w1, w2⟩ := look_ok g3 e5
    rw [keyD_ok i2 e4]
    refine ⟨p, w, rfl, ?_, q w H2 G2 (x1.trans x2) R2 (IsD.mono x2 _ _ w2)⟩
    rw [← w1]
    exact DGet.k (R2.gh _ _ (x2 _ _ g1))
  · cases e3
end

/-! ### dicts of the module, text to text -/
inductive Tbl : List DictEntry → List (Str × Str) → Prop
  | nil : Tbl [] []
  | cons {h : Int} {k v : Str} {t u : Tok} {r : List DictEntry} {l : List (Str × Str)} (n : Tbl r l) : Tbl (⟨h, .str k t, .str v u⟩ :: r) ((k, v) :: l)
def tblGet : List (Str × Str) → Str → Option Str
  | [], _ => none
  | (k, v) :: l, z => if (k == z) = true then some v else tblGet l z
theorem tbl_find {es : List DictEntry} {l : List (Str × Str)} (h : Tbl es l) (z : Str) : es.any (·.refKey) = false ∧ (match es.find? (·.key.isStr z) with | some e => ∃ v, tblGet l z = some v ∧ RelV (.str v) e.val | none => tblGet l z = none) := by
  induction h with
  | nil => exact ⟨rfl, rfl⟩
  | @cons hh k v t u r l n ih =>
    refine ⟨by rw [List.any_cons, ih.1]; rfl, ?_⟩
    have e : (Value.str k t).isStr z = (k == z) := PySem.W.isStr_of z _
    cases c : (k == z) with
    | true =>
      have e1 : List.find? (fun x => x.key.isStr z) ((⟨hh, .str k t, .str v u⟩ : DictEntry) :: r) = some ⟨hh, .str k t, .str v u⟩ := by
        rw [List.find?_cons_of_pos]
        show (Value.str k t).isStr z = true
        rw [e, c]
      rw [e1]
      exact ⟨v, by unfold tblGet; rw [c]; rfl, ⟨u, rfl⟩⟩
    | false =>
      have e1 : List.find? (fun x => x.key.isStr z) ((⟨hh, .str k t, .str v u⟩ : DictEntry) :: r) = List.find? (fun x => x.key.isStr z) r := by
        rw [List.find?_cons_of_neg]
        show ¬ (Value.str k t).isStr z = true
        rw [e, c]
        exact Bool.false_ne_true
      have e2 : tblGet ((k, v) :: l) z = tblGet l z := by
        show (if (k == z) = true then some v else tblGet l z) = _
        rw [c]
        rfl
      rw [e1, e2]
      exact ih.2
structure KTbl (K : PySem.W.Frag) (w : World) (d : Addr) (l : List (Str × Str)) : Prop where
  ex : ∃ es n, KDict K w d es n ∧ Tbl es.toList l
theorem KTbl.get {K : PySem.W.Frag} {w : World} {d : Addr} {l : List (Str × Str)} (T : KTbl K w d l) (z : Str) : match tblGet l z with | some v => ∃ u, PySem.W.nsIn K d z = some (some u) ∧ RelV (.str v) u | none => PySem.W.nsIn K d z = some none := by
  obtain ⟨es, n, D, t⟩ := T.ex
  obtain ⟨h1, h2⟩ := tbl_find t z
  have e : PySem.W.nsIn K d z = (match es.toList.find? (·.key.isStr z) with | some e => some (some e.val) | none => if es.toList.any (·.refKey) then none else some none) := by
    unfold PySem.W.nsIn
    rw [D.at_]
    rfl
  rw [e, h1]
  cases c : es.toList.find? (·.key.isStr z) with
  | some e' =>
    rw [c] at h2
    obtain ⟨v, a, b⟩ := h2
    rw [a]
    exact ⟨_, rfl, b⟩
  | none =>
    rw [c] at h2
    rw [h2]
    rfl
def mKIn (l : List (Str × Str)) (f : DM Dt) : DM Dt := fun s => (f s).bind fun p => match p.1 with
  | .str z => some (.bl (tblGet l z).isSome, p.2)
  | _ => none
def mKNin (l : List (Str × Str)) (f : DM Dt) : DM Dt := fun s => (f s).bind fun p => match p.1 with
  | .str z => some (.bl !(tblGet l z).isSome, p.2)
  | _ => none
def mKIx (l : List (Str × Str)) (f : DM Dt) : DM Dt := fun s => (f s).bind fun p => match p.1 with
  | .str z => (tblGet l z).bind fun v => some (.str v, p.2)
  | _ => none
section
variable {X : Cx} {e : Expr} {f : DM Dt} {nm : Str} {d : Addr} {l : List (Str × Str)} {p pos : Pos}
theorem te_kin (T : KTbl X.K X.w d l) (h : DE X e f) (hg : Gl X nm) (hm : X.mg nm = some (.ref d)) (hdb : (nm == ("__debug__" : Str)) = false := by decide) (hb : behindInMarks .In (.Name nm p) = false := by rfl) : ∃ t, PE X (.Compare e [.In] [.Name nm p] pos) t ∧ PT X (.Compare e [.In] [.Name nm p] pos) (tTest t) ∧ TEok X.K t (mKIn l f) := by
  obtain ⟨t, p1, o⟩ := h
  obtain ⟨es, n, D, tb⟩ := T.ex
  have pg : PE X (.Name nm p) (tC (.ref d)) := pe_glob hg hm rfl hdb
  refine ⟨_, pe_cmpR (op_in_kd D) p1 pg hb, pt_cmpR (op_in_kd D) p1 pg hb, fun β P σ H G s d' s' R e1 Q q => ?_⟩
  unfold mKIn at e1
  obtain ⟨⟨x, s1⟩, e2, e1⟩ := Option.bind_eq_some_iff.mp e1
  cases x with
  | str z =>
    cases e1
    refine o β P σ H G s _ s1 R e2 _ fun v H1 G1 x1 R1 i1 => ?_
    have g := T.get z
    rw [is_str.mp i1]
    cases c : tblGet l z with
    | none =>
      rw [c] at g
      exact ⟨z, none, rfl, rfl, g, q _ H1 G1 x1 R1 (is_bl.mpr (by rw [c]; rfl))⟩
    | some w =>
      rw [c] at g
      obtain ⟨u, g1, g2⟩ := g
      exact ⟨z, some u, rfl, rfl, g1, q _ H1 G1 x1 R1 (is_bl.mpr (by rw [c]; rfl))⟩
  | _ => cases e1
theorem te_knin (T : KTbl X.K X.w d l) (h : DE X e f) (hg : Gl X nm) (hm : X.mg nm = some (.ref d)) (hdb : (nm == ("__debug__" : Str)) = false := by decide) (hb : behindInMarks .NotIn (.Name nm p) = false := by rfl) : ∃ t, PE X (.Compare e [.NotIn] [.Name nm p] pos) t ∧ PT X (.Compare e [.NotIn] [.Name nm p] pos) (tTest t) ∧ TEok X.K t (mKNin l f) := by
  obtain ⟨t, p1, o⟩ := h
  obtain ⟨es, n, D, tb⟩ := T.ex
  have pg : PE X (.Name nm p) (tC (.ref d)) := pe_glob hg hm rfl hdb
  refine ⟨_, pe_cmpR (op_notIn_kd D) p1 pg hb, pt_cmpR (op_notIn_kd D) p1 pg hb, fun β P σ H G s d' s' R e1 Q q => ?_⟩
  unfold mKNin at e1
  obtain ⟨⟨x, s1⟩, e2, e1⟩ := Option.bind_eq_some_iff.mp e1
  cases x with
  | str z =>
    cases e1
    refine o β P σ H G s _ s1 R e2 _ fun v H1 G1 x1 R1 i1 => ?_
    have g := T.get z
    rw [is_str.mp i1]
    cases c : tblGet l z with
    | none =>
      rw [c] at g
      exact ⟨z, none, rfl, rfl, g, q _ H1 G1 x1 R1 (is_bl.mpr (by rw [c]; rfl))⟩
    | some w =>
      rw [c] at g
      obtain ⟨u, g1, g2⟩ := g
      exact ⟨z, some u, rfl, rfl, g1, q _ H1 G1 x1 R1 (is_bl.mpr (by rw [c]; rfl))⟩
  | _ => cases e1
theorem de_kin (T : KTbl X.K X.w d l) (hg : Gl X nm) (hm : X.mg nm = some (.ref d)) (h : DE X e f) (hdb : (nm == ("__debug__" : Str)) = false := by decide) (hb : behindInMarks .In (.Name nm p) = false := by rfl) : DE X (.Compare e [.In] [.Name nm p] pos) (mKIn l f) := by
  obtain ⟨t, p1, p2, o⟩ := te_kin (pos := pos) T h hg hm hdb hb
  exact ⟨t, p1, o⟩
theorem dt_kin (T : KTbl X.K X.w d l) (hg : Gl X nm) (hm : X.mg nm = some (.ref d)) (h : DE X e f) (hdb : (nm == ("__debug__" : Str)) = false := by decide) (hb : behindInMarks .In (.Name nm p) = false := by rfl) : DT X (.Compare e [.In] [.Name nm p] pos) (mB (mKIn l f)) := by
  obtain ⟨t, p1, p2, o⟩ := te_kin (pos := pos) T h hg hm hdb hb
  exact ⟨_, p2, tt_of o⟩
theorem de_knin (T : KTbl X.K X.w d l) (hg : Gl X nm) (hm : X.mg nm = some (.ref d)) (h : DE X e f) (hdb : (nm == ("__debug__" : Str)) = false := by decide) (hb : behindInMarks .NotIn (.Name nm p) = false := by rfl) : DE X (.Compare e [.NotIn] [.Name nm p] pos) (mKNin l f) := by
  obtain ⟨t, p1, p2, o⟩ := te_knin (pos := pos) T h hg hm hdb hb
  exact ⟨t, p1, o⟩
theorem dt_knin (T : KTbl X.K X.w d l) (hg : Gl X nm) (hm : X.mg nm = some (.ref d)) (h : DE X e f) (hdb : (nm == ("__debug__" : Str)) = false := by decide) (hb : behindInMarks .NotIn (.Name nm p) = false := by rfl) : DT X (.Compare e [.NotIn] [.Name nm p] pos) (mB (mKNin l f)) := by
  obtain ⟨t, p1, p2, o⟩ := te_knin (pos := pos) T h hg hm hdb hb
  exact ⟨_, p2, tt_of o⟩
theorem de_kix (T : KTbl X.K X.w d l) (hg : Gl X nm) (hm : X.mg nm = some (.ref d)) (h : DE X e f) (hdb : (nm == ("__debug__" : Str)) = false := by decide) (hs : PlainIx e := by exact fun _ _ => rfl) : DE X (.Subscript (.Name nm p) e pos) (mKIx l f) := by
  obtain ⟨t, p1, o⟩ := h
  obtain ⟨es, n, D, tb⟩ := T.ex
  have pg : PE X (.Name nm p) (tC (.ref d)) := pe_glob hg hm rfl hdb
  refine ⟨_, pe_ix ix_kdict pg p1 hs, fun β P σ H G s d' s' R e1 Q q => ?_⟩
  unfold mKIx at e1
  obtain ⟨⟨x, s1⟩, e2, e1⟩ := Option.bind_eq_some_iff.mp e1
  cases x with
  | str z =>
    obtain ⟨w, e3, e1⟩ := Option.bind_eq_some_iff.mp e1
    cases e1
    refine o β P σ H G s _ s1 R e2 _ fun v H1 G1 x1 R1 i1 => ?_
    have g := T.get z
    rw [e3] at g
    obtain ⟨u, g1, g2⟩ := g
    rw [is_str.mp i1]
    exact ⟨d, z, .str w, rfl, rfl, ⟨es, n, u, D.at_, D.lit, g1, g2⟩, q _ H1 G1 x1 R1 (is_str.mpr rfl)⟩
  | _ => cases e1
end

/-! ### reversed, list(range), stars -/
def wRev (f : DM Dt) : DM (List Dt) := fun s => (f s).bind fun p => match p.1 with
  | .lst l => some (l.reverse, p.2)
  | .tup l => some (l.reverse, p.2)
  | _ => none
theorem rev_get {α : Type} {l : List α} {i : Nat} {d : α} (h : l.reverse[i]? = some d) : l[l.length - 1 - i]? = some d := by
  have hi : i < l.length := by
    have := (List.getElem?_eq_some_iff.mp h).1
    simpa using this
  rw [List.getElem?_reverse hi] at h
  exact h
theorem walk_revT {K : PySem.W.Frag} {a : Addr} {xs : List V} : Walk (RT.ItvT K a xs.length) xs.length (fun H => SqT K H a xs) (fun i H x H' => H' = H ∧ xs[xs.length - 1 - i]? = some x) :=
  ⟨fun i _ hi q => ⟨hi, xs, xs[xs.length - 1 - i]'(by omega), q, by simp [show xs.length - 1 - i < xs.length by omega]⟩, fun _ _ => Nat.le_refl _, fun _ _ _ _ _ q y => ⟨y.1, y.2 xs q⟩⟩
section
variable {X : Cx} {tg e : Expr} {f : DM Dt} {p pos : Pos}
theorem di_rev (hg : Gl X "reversed") (hm : X.mg "reversed" = none) (h : DE X e f) (hs : starEach [e] X.env = (false, eval e X.env) :: starEach [] X.env := by rfl) : DI X tg (.Call (.Name "reversed" p) [e] [] pos) (wRev f) := by
  obtain ⟨t, p1, o⟩ := h
  refine ⟨_, RT.pi_revA hg hm p1 hs, fun β P σ H G s l s' R e1 Q q => ?_⟩
  unfold wRev at e1
  obtain ⟨⟨x, s1⟩, e2, e1⟩ := Option.bind_eq_some_iff.mp e1
  cases x with
  | lst m =>
    cases e1
    refine o β P σ H G s _ s1 R e2 _ fun v H1 G1 x1 R1 i1 => ?_
    obtain ⟨a, vs, rfl, h1, h2⟩ := is_lst.mp i1
    refine ⟨a, vs, rfl, .inl ⟨.inl (.inl (R1.gh _ _ h1)), ?_⟩⟩
    refine q _ H1 G1 (fun H => SqL X.K H a vs) _ x1 R1 (by rw [List.length_reverse, ← h2.len]; exact walk_rev) (fun H2 G2 x2 g => .inl (.inl (g _ _ (x2 _ _ h1)))) ?_
    rintro i d H2 x H3 P1 σ1 G2 s2 hd x2 R2 ⟨rfl, hx⟩
    obtain ⟨v, e4, i4⟩ := h2.get (rev_get hd)
    rw [h2.len, e4] at hx
    cases hx
    exact same_turn R2 (IsD.mono x2 _ _ i4)
  | tup m =>
    cases e1
    refine o β P σ H G s _ s1 R e2 _ fun v H1 G1 x1 R1 i1 => ?_
    obtain ⟨a, vs, rfl, h1, h2⟩ := is_tup.mp i1
    refine ⟨a, vs, rfl, .inr ⟨ext_t R1.gh h1, ?_⟩⟩
    refine q _ H1 G1 (fun H => SqT X.K H a vs) _ x1 R1 (by rw [List.length_reverse, ← h2.len]; exact walk_revT) (fun H2 G2 x2 g => ext_t (x2.trans g) h1) ?_
    rintro i d H2 x H3 P1 σ1 G2 s2 hd x2 R2 ⟨rfl, hx⟩
    obtain ⟨v, e4, i4⟩ := h2.get (rev_get hd)
    rw [h2.len, e4] at hx
    cases hx
    exact same_turn R2 (IsD.mono x2 _ _ i4)
  | _ => cases e1
def bRgOk (i j : Int) : Bool := bRng i && bRng j && decide ((j - i).toNat ≤ 2 ^ 24)
def gRgL : Dt → Dt → Option Dt
  | .int i, .int j => if bRgOk i j = true then some (.lst (rngD i (j - i).toNat)) else none
  | _, _ => none
theorem isl_rg {K : PySem.W.Frag} {β : Addr} {G : Hp} {i : Int} : ∀ (l : List Nat), IsL K β G (l.map fun n => Dt.int (i + (n : Nat))) (l.map fun n => V.int (i + (n : Nat)))
  | [] => isl_nil.mpr rfl
  | n :: l => isl_cons.mpr ⟨_, _, rfl, is_int.mpr rfl, isl_rg l⟩
theorem de_listRg {a b : Expr} {fa fb : DM Dt} {p2 pos2 : Pos} (hc : X.calm = true) (hg : Gl X "list") (hm : X.mg "list" = none) (hg2 : Gl X "range") (hm2 : X.mg "range" = none) (ha : DE X a fa) (hb : DE X b fb)
    (na : starEach [a, b] X.env = (false, eval a X.env) :: starEach [b] X.env := by rfl) (nb : starEach [b] X.env = (false, eval b X.env) :: starEach [] X.env := by rfl)
    (nd : (backTo pos2 (starEach [b] X.env)).any (·.1) = false := by rfl) (nc : starEach [.Call (.Name "range" p2) [a, b] [] pos2] X.env = (false, eval (.Call (.Name "range" p2) [a, b] [] pos2) X.env) :: starEach [] X.env := by rfl) :
    DE X (.Call (.Name "list" p) [.Call (.Name "range" p2) [a, b] [] pos2] [] pos) (m2 gRgL fa fb) := by
  obtain ⟨ta, pa, oa⟩ := ha
  obtain ⟨tb, pb, ob⟩ := hb
  refine ⟨_, pe_listRg hc hg hm (prg_2 hg2 hm2 pa pb na nb nd) nc, fun β P σ H G s d s' R e Q q => ?_⟩
  unfold m2 at e
  obtain ⟨⟨x, s1⟩, e1, e⟩ := Option.bind_eq_some_iff.mp e
  obtain ⟨⟨y, s2⟩, e2, e⟩ := Option.bind_eq_some_iff.mp e
  obtain ⟨z, e3, e⟩ := Option.bind_eq_some_iff.mp e
  cases e
  refine oa β P σ H G s x s1 R e1 _ fun v H1 G1 x1 R1 i1 => ?_
  refine ob β P σ H1 G1 s1 y s2 R1 e2 _ fun u H2 G2 x2 R2 i2 => ?_
  unfold gRgL at e3
  split at e3
  · rename_i i j hx hy
    split at e3
    · rename_i c
      cases e3
      rw [show x = _ from hx] at i1
      rw [show y = _ from hy] at i2
      unfold bRgOk at c
      rw [Bool.and_eq_true, Bool.and_eq_true] at c
      obtain ⟨⟨c1, c2⟩, c3⟩ := c
      obtain ⟨a1, a2⟩ := bRng_ok c1
      obtain ⟨b1, b2⟩ := bRng_ok c2
      refine ⟨i, j, is_int.mp i1, is_int.mp i2, ⟨a1, a2, b1, b2, of_decide_eq_true c3⟩, fun p hp => ?_⟩
      exact q _ _ _ ((x1.trans x2).trans (Ext.new (R2.free hp))) (R2.new hp) (is_lst.mpr ⟨p, _, rfl, upd_same, isl_rg _⟩)
    · cases e3
  · cases e3
/-- f(*x, y), (*x, y) -/
def mStar (f : DM Dt) (g : DM (List Dt)) : DM (List Dt) := fun s => (f s).bind fun p => match p.1 with
  | .tup l => (g p.2).bind fun q => some (l ++ q.1, q.2)
  | .lst l => (g p.2).bind fun q => some (l ++ q.1, q.2)
  | _ => none
theorem da_star {es : List Expr} {g : DM (List Dt)} (h : DE X e f) (hr : DA X es g) (hs : starEach (.Starred e p :: es) X.env = (true, eval e X.env) :: starEach es X.env := by rfl) : DA X (.Starred e p :: es) (mStar f g) := by
  obtain ⟨t, p1, o1⟩ := h
  obtain ⟨u, p2, o2⟩ := hr
  refine ⟨_, StX.pa_star p1 p2 hs, fun β P σ H G s ds s' R e1 Q q => ?_⟩
  unfold mStar at e1
  obtain ⟨⟨x, s1⟩, e2, e1⟩ := Option.bind_eq_some_iff.mp e1
  cases x with
  | tup l =>
    obtain ⟨⟨y, s2⟩, e3, e1⟩ := Option.bind_eq_some_iff.mp e1
    cases e1
    refine o1 β P σ H G s _ s1 R e2 _ fun v H1 G1 x1 R1 i1 => ?_
    obtain ⟨a, vs, rfl, h1, h2⟩ := is_tup.mp i1
    refine ⟨a, vs, rfl, .inl (ext_t R1.gh h1), ?_⟩
    exact o2 β P σ H1 G1 s1 y s2 R1 e3 _ fun us H2 G2 x2 R2 i2 => q _ H2 G2 (x1.trans x2) R2 ((IsL.mono x2 _ _ h2).append i2)
  | lst l =>
    obtain ⟨⟨y, s2⟩, e3, e1⟩ := Option.bind_eq_some_iff.mp e1
    cases e1
    refine o1 β P σ H G s _ s1 R e2 _ fun v H1 G1 x1 R1 i1 => ?_
    obtain ⟨a, vs, rfl, h1, h2⟩ := is_lst.mp i1
    refine ⟨a, vs, rfl, .inr (.inl (.inl (R1.gh _ _ h1))), ?_⟩
    exact o2 β P σ H1 G1 s1 y s2 R1 e3 _ fun us H2 G2 x2 R2 i2 => q _ H2 G2 (x1.trans x2) R2 ((IsL.mono x2 _ _ h2).append i2)
  | _ => cases e1
end
end DL

namespace DL
open PySem PySem.Spec PyProof.Rows L2
variable [Tabs]

/-! ### s.replace("y", "z"): wants a token out; a def with a parameter has one -/
section
variable {X : Cx}
theorem pet_of {e : Expr} {t : TE} (h : PE X e t) : PET X e t := fun pins s σ H Q _ I q => h.run pins s σ H Q I q
def tRepC (y z : Str) (to : TE) : TE := fun σ H Q => to σ H fun x H1 => ∃ a : Str, x = .str a ∧ a.length + (a.length + 1) * z.length ≤ 16777216 ∧ Q (.str (Txt.replace a y z)) H1
theorem pet_replace {o : Expr} {y z : Str} {j0 j1 : Nat} {c0 c1 apos pos : Pos} {to : TE} (ho : PET X o to) (hyz : (y == z) = false := by decide +kernel)
    (hst : starEach [.Constant (.str y) j0 c0, .Constant (.str z) j1 c1] X.env = [(false, eval (.Constant (.str y) j0 c0) X.env), (false, eval (.Constant (.str z) j1 c1) X.env)] := by rfl)
    (hbase : attributeBase o "replace" X.env (eval o X.env) = eval o X.env := by rfl) (hline : (apos.endLine == pos.line) = true := by rfl) :
    PET X (.Call (.Attribute o "replace" apos) [.Constant (.str y) j0 c0, .Constant (.str z) j1 c1] [] pos) (tRepC y z to) := by
  intro pins s σ H Q h0 I h
  refine PySem.Call_method2 hbase hst hline (wpAny_mono (PySem.wpAny_toks (ho pins s σ H _ h0 I h)) (fun v s1 q => ?_) fun _ _ x => x.2)
  obtain ⟨hk, x, H1, I1, r1, a, ex, hb, q⟩ := q
  subst ex
  obtain ⟨tx, rfl⟩ := (show ∃ t, v = Value.str a t from r1)
  have h1 : 1 ≤ s1.toks := Nat.le_trans h0 hk
  refine ⟨"str", _, F.plainAttrs_str, F.slot_str_replace, F.type_str_replace, typeIs_str _ _ _, (fun _ e => nomatch e), Calls.callWith_builtin rfl (Calls.evalArgs_plain (Calls.spliced_cons (Calls.Constant_str (Calls.spliced_cons (Calls.Constant_str (Calls.spliced_nil ?_))))))⟩
  refine PySem.SC.replace (show s1.toks ≠ 0 by omega) (show s1.toks + 1 ≠ 0 by omega) (show s1.toks ≠ s1.toks + 1 by omega) hyz hb fun t' k => ?_
  exact ⟨.str (Txt.replace a y z), H1, I1.tok k, ⟨t', rfl⟩, q⟩
theorem pet_m1 {o e : Expr} {to te : TE} {id : String} {name : Str} {apos pos : Pos} {r : V → List V → Hp → VK → Prop} (slot : Slot "str" name id) (ty : typeOf (.builtin id) = pure (.type "method_descriptor")) (rule : MtR X id r) (ho : PET X o to) (he : PE X e te)
    (hs : starEach [e] X.env = [(false, eval e X.env)] := by rfl) (hbase : attributeBase o name X.env (eval o X.env) = eval o X.env := by rfl) (hline : (apos.endLine == pos.line) = true := by rfl) :
    PET X (.Call (.Attribute o name apos) [e] [] pos) (tM1 r to te) := by
  intro pins s σ H Q h0 I h
  refine PySem.Call_method1 hbase hs hline (thn (ho pins s σ H _ h0 I h) fun v s1 ⟨x, H1, I1, r1, q1⟩ => ?_)
  obtain ⟨⟨a, rfl⟩, q1⟩ := q1
  obtain ⟨t, rfl⟩ := _root_.id r1
  refine ⟨"str", _, F.plainAttrs_str, slot, ty, typeIs_str _ _ _, (fun _ e => nomatch e), Calls.callWith_builtin rfl (Calls.evalArgs_plain (Calls.spliced_cons ?_))⟩
  exact thn (he.run pins s1 σ H1 _ I1 q1) fun u s2 ⟨y, H2, I2, r2, q2⟩ => Calls.spliced_nil (rule pins s2 σ H2 _ [y] _ [u] Q I2 r1 (.cons r2 .nil) q2)
def DET (X : Cx) (e : Expr) (f : DM Dt) : Prop := ∃ t, PET X e t ∧ TEok X.K t f
def DSsT (X : Cx) (st : List Stmt) (f : DMs) : Prop := ∃ t, PSsT X st t ∧ TSok X.K t f
theorem det_of {e : Expr} {f : DM Dt} (h : DE X e f) : DET X e f := by
  obtain ⟨t, p, o⟩ := h
  exact ⟨t, pet_of p, o⟩
def mRepC (y z : Str) (f : DM Dt) : DM Dt := fun s => (f s).bind fun p => match p.1 with
  | .str a => if a.length + (a.length + 1) * z.length ≤ 16777216 then some (.str (Txt.replace a y z), p.2) else none
  | _ => none
theorem det_replace {o : Expr} {y z : Str} {j0 j1 : Nat} {c0 c1 apos pos : Pos} {f : DM Dt} (ho : DET X o f) (hyz : (y == z) = false := by decide +kernel)
    (hst : starEach [.Constant (.str y) j0 c0, .Constant (.str z) j1 c1] X.env = [(false, eval (.Constant (.str y) j0 c0) X.env), (false, eval (.Constant (.str z) j1 c1) X.env)] := by rfl)
    (hbase : attributeBase o "replace" X.env (eval o X.env) = eval o X.env := by rfl) (hline : (apos.endLine == pos.line) = true := by rfl) :
    DET X (.Call (.Attribute o "replace" apos) [.Constant (.str y) j0 c0, .Constant (.str z) j1 c1] [] pos) (mRepC y z f) := by
  obtain ⟨t, p, o1⟩ := ho
  refine ⟨_, pet_replace p hyz hst hbase hline, fun β P σ H G s d s' R e Q q => ?_⟩
  unfold mRepC at e
  obtain ⟨⟨x, s1⟩, e1, e⟩ := Option.bind_eq_some_iff.mp e
  cases x with
  | str a =>
    dsimp only at e
    split at e
    · rename_i c
      cases e
      exact o1 β P σ H G s _ _ R e1 _ fun v H1 G1 x1 R1 i1 => ⟨a, is_str.mp i1, c, q _ H1 G1 x1 R1 (is_str.mpr rfl)⟩
    · cases e
  | _ => cases e
theorem det_split {o e : Expr} {f1 f2 : DM Dt} {apos pos : Pos} (ho : DET X o f1) (he : DE X e f2) (hs : starEach [e] X.env = [(false, eval e X.env)] := by rfl) (hbase : attributeBase o "split" X.env (eval o X.env) = eval o X.env := by rfl) (hline : (apos.endLine == pos.line) = true := by rfl) :
    DET X (.Call (.Attribute o "split" apos) [e] [] pos) (mM1 gSplit f1 f2) := by
  obtain ⟨to, p1, o1⟩ := ho
  obtain ⟨te, p2, o2⟩ := he
  exact ⟨_, pet_m1 F.slot_str_split F.type_str_split mt_split p1 p2 hs hbase hline, te_m1 ok_split o1 o2⟩
theorem dsst_of {st : List Stmt} {f : DMs} (h : DSs X st f) : DSsT X st f := by
  obtain ⟨t, p, o⟩ := h
  exact ⟨t, PSsT.of p, o⟩
theorem tsok_seq {K : PySem.W.Frag} {t u : TS} {f g : DMs} (o : TSok K t f) (o2 : TSok K u g) : TSok K (tSeq t u) (kSeq f g) := by
  intro β P σ H G s r s' R e D h
  unfold kSeq at e
  obtain ⟨⟨x, s1⟩, e1, e⟩ := Option.bind_eq_some_iff.mp e
  cases x with
  | nx =>
    refine o β P σ H G s .nx s1 R e1 _ ?_
    exact fun σ1 H1 G1 x1 R1 => o2 β P σ1 H1 G1 s1 r s' R1 e D (h.mono x1)
  | bk => cases e; exact o β P σ H G s _ s1 R e1 _ h
  | ct => cases e; exact o β P σ H G s _ s1 R e1 _ h
  | rt d => cases e; exact o β P σ H G s _ s1 R e1 _ h
theorem dsst_cons {st : Stmt} {rest : List Stmt} {f g : DMs} (h1 : DS X st f) (h2 : DSsT X rest g) : DSsT X (st :: rest) (kSeq f g) := by
  obtain ⟨t, p, o⟩ := h1
  obtain ⟨u, p2, o2⟩ := h2
  exact ⟨_, psst_cons (PST.of p) p2, tsok_seq o o2⟩
theorem pst_set {te : TE} {i : Nat} {x : Str} {e : Expr} {pos' pos : Pos} (hN : X.N.Nodup) (hi : X.N[i]? = some x) (hx : Loc X.env.scope x) (he : PET X e te) (hs : swapsWith e (some (.Name x pos')) pos.line X.env = pure false := by rfl)
    (hf : X.fn x = true ∨ X.env.scope.names.lookup x = some .local := by first | exact .inl rfl | exact .inr rfl | assumption) : PST X (.Assign [.Name x pos'] e pos) (tAsg te (gName i)) := by
  intro pins s σ H D h0 I h
  refine wpAny_Assign_Name (thn (he pins s σ H _ h0 I h) fun v s1 ⟨y, H1, I1, r1, q1⟩ => ?_) hs
  exact store_ok I1 hN hi hx r1 (fun s2 I2 => ⟨_, H1, I2, q1⟩) hf
theorem dsst_set {i : Nat} {x : Str} {e : Expr} {f : DM Dt} {rest : List Stmt} {g : DMs} {pos' pos : Pos} (hN : X.N.Nodup) (hi : X.N[i]? = some x) (hx : Loc X.env.scope x) (he : DET X e f) (hr : DSsT X rest g) (hs : swapsWith e (some (.Name x pos')) pos.line X.env = pure false := by rfl)
    (hf : X.fn x = true ∨ X.env.scope.names.lookup x = some .local := by first | exact .inl rfl | exact .inr rfl | assumption) : DSsT X (.Assign [.Name x pos'] e pos :: rest) (kSeq (kAsg f (hName i)) g) := by
  obtain ⟨t, p, o⟩ := he
  obtain ⟨u, p2, o2⟩ := hr
  refine ⟨_, psst_cons (pst_set hN hi hx p hs hf) p2, tsok_seq (fun β P σ H G s r s' R e D k => ?_) o2⟩
  unfold kAsg at e
  obtain ⟨⟨x, s1⟩, e1, e⟩ := Option.bind_eq_some_iff.mp e
  obtain ⟨s2, e2, e⟩ := Option.bind_eq_some_iff.mp e
  cases e2
  cases e
  refine o β P σ H G s x s1 R e1 _ fun v H1 G1 x1 R1 i1 => ?_
  exact k _ H1 G1 x1 (R1.set i1)
end
section
variable {P : Program} {w : World} {K : PySem.W.Frag} {mg : Str → Option Value} {base : Heap}
theorem fn_okT {x qual : Str} {st : Stmt} {f : Addr} {fd : FuncData} {N ps : List Str} {k n : Nat} {g : DMs} (F : Fun K x qual st f fd) (S : FnScope N ps (defScope st)) (hnc : ∀ y ∈ (defScope st).names, y.2 ≠ .cell) (hps : 1 ≤ ps.length) (hn : ps.length = n := by rfl)
    (hb : ∀ (cdv : Value) (A : Around) (outer : List Env) (s : Shared) (H : Hp) (E : XK), Room k (A.deeper (envOfC qual (defScope st) s.heap.objs.size f cdv)) →
      DSsT (cxOf CX0 P w K mg base N qual (defScope st) f cdv A outer s H E) (defBody st) g) : FnOk P w K mg base CX0 (k + 1) f fd ps (spD K n (fnD N.length g)) := by
  obtain ⟨oc, od, kV, doc, pm, an, cdv, ct, osl, rfl, lk, hcd⟩ := F.ex
  refine fn_ofT lk hcd S hnc hps (fun vs H Q E h => ?_) fun A outer s H vs Q E hr h => ?_
  · obtain ⟨β, P, G, ds, bg, r, bg', h, _⟩ := h
    rw [hn]; exact h
  · obtain ⟨β, PP, G, ds, bg, r, bg', hl, i, R, e, q⟩ := h
    obtain ⟨t, p, o⟩ := hb cdv A outer s H E hr
    refine ⟨t, p, ?_⟩
    unfold fnD at e
    obtain ⟨⟨res, s'⟩, e1, e⟩ := Option.bind_eq_some_iff.mp e
    refine o β PP (L2.start N vs) H G _ res s' (rel_start i R) e1 _ ?_
    cases res with
    | nx =>
      cases e
      exact fun σ' H' G' x R' => q .non H' G' x R'.leave (is_non.mpr rfl)
    | rt d =>
      cases e
      exact fun v σ' H' G' x R' iv => q v H' G' x R'.leave iv
    | bk => cases e
    | ct => cases e
end
/-! ### slots that an expression leaves alone -/
def Kp (i : Nat) {α : Type} (f : DM α) : Prop := ∀ s d s', f s = some (d, s') → s'.sl[i]? = s.sl[i]?
theorem kp_var {i j : Nat} : Kp i (mVar j) := fun s d s' h => by
  unfold mVar at h
  split at h <;> first | (cases h; rfl) | cases h
theorem kp_c {i : Nat} {d : Dt} : Kp i (mC d) := fun s d s' h => by cases h; rfl
theorem kp_nil {i : Nat} : Kp i mNil := fun s d s' h => by cases h; rfl
theorem kp_bind {i : Nat} {α γ : Type} {f : DM α} {g : α → Sta → Option (γ × Sta)} (hf : Kp i f) (hg : ∀ a, Kp i (g a)) : Kp i (fun s => (f s).bind fun p => g p.1 p.2) := fun s d s' h => by
  obtain ⟨⟨x, s1⟩, e1, h⟩ := Option.bind_eq_some_iff.mp h
  exact (hg x s1 d s' h).trans (hf s x s1 e1)
theorem kp_cons {i : Nat} {f : DM Dt} {g : DM (List Dt)} (hf : Kp i f) (hg : Kp i g) : Kp i (mCons f g) := fun s d s' h => by
  unfold mCons at h
  obtain ⟨⟨x, s1⟩, e1, h⟩ := Option.bind_eq_some_iff.mp h
  obtain ⟨⟨y, s2⟩, e2, h⟩ := Option.bind_eq_some_iff.mp h
  cases h
  exact (hg _ _ _ e2).trans (hf _ _ _ e1)
theorem kp_tup {i : Nat} {f : DM (List Dt)} (hf : Kp i f) : Kp i (mTup f) := fun s d s' h => by
  unfold mTup at h
  obtain ⟨⟨x, s1⟩, e1, h⟩ := Option.bind_eq_some_iff.mp h
  dsimp only at h
  split at h <;> first | (cases h; exact hf _ _ _ e1) | cases h
theorem kp_app {i : Nat} {F : FD} {f : DM (List Dt)} (hf : Kp i f) : Kp i (mApp F f) := fun s d s' h => by
  unfold mApp at h
  obtain ⟨⟨x, s1⟩, e1, h⟩ := Option.bind_eq_some_iff.mp h
  obtain ⟨⟨y, b⟩, e2, h⟩ := Option.bind_eq_some_iff.mp h
  cases h
  exact (hf s x s1 e1 : s1.sl[i]? = s.sl[i]?)
theorem kp_rev {i : Nat} {f : DM Dt} (hf : Kp i f) : Kp i (wRev f) := fun s d s' h => by
  unfold wRev at h
  obtain ⟨⟨x, s1⟩, e1, h⟩ := Option.bind_eq_some_iff.mp h
  cases x <;> first | (cases h; exact hf _ _ _ e1) | cases h
theorem kp_wlst {i : Nat} {f : DM Dt} (hf : Kp i f) : Kp i (wLst f) := fun s d s' h => by
  unfold wLst at h
  obtain ⟨⟨x, s1⟩, e1, h⟩ := Option.bind_eq_some_iff.mp h
  cases x <;> first | (cases h; exact hf _ _ _ e1) | cases h
theorem kp_comp {i : Nat} {is : List Nat} {f : DM (List Dt)} {h : Dt → Sta → Option Sta} {t : DM Bool} {e : DM Dt} (hf : Kp i f) : Kp i (mComp is f h t e) := fun s d s' k => by
  unfold mComp at k
  obtain ⟨⟨x, s1⟩, e1, k⟩ := Option.bind_eq_some_iff.mp k
  dsimp only at k
  split at k
  · obtain ⟨z, e2, k⟩ := Option.bind_eq_some_iff.mp k
    cases k
    exact (hf s x s1 e1 : s1.sl[i]? = s.sl[i]?)
  · cases k
theorem kp_ix {i : Nat} {g : Dt → Dt → Option Dt} {f1 f2 : DM Dt} (h1 : Kp i f1) (h2 : Kp i f2) : Kp i (m2 g f1 f2) := fun s d s' h => by
  unfold m2 at h
  obtain ⟨⟨x, s1⟩, e1, h⟩ := Option.bind_eq_some_iff.mp h
  obtain ⟨⟨y, s2⟩, e2, h⟩ := Option.bind_eq_some_iff.mp h
  obtain ⟨z, e3, h⟩ := Option.bind_eq_some_iff.mp h
  cases h
  exact (h2 _ _ _ e2).trans (h1 _ _ _ e1)
/-! s.count(t) -/
def gCount (a : Str) : Dt → Option Dt
  | .str b => some (.int (Txt.count a b))
  | _ => none
theorem ok_count {K : PySem.W.Frag} : M1ok K (fun x xs H Q => ∃ a b, x = .str a ∧ xs = [.str b] ∧ Q (.int (Txt.count a b)) H) gCount := by
  intro β P σ H G s a y dy d R i e Q q
  unfold gCount at e
  split at e
  · rename_i b
    cases e
    rw [is_str.mp i]
    exact ⟨a, b, rfl, rfl, q _ H G (Ext.refl G) R (is_int.mpr rfl)⟩
  · cases e
end DL

set_option maxHeartbeats 4000000
namespace DX
open PySem PySem.Spec PySem.Calls PyProof.Rows PySem.W
variable [DL.Tabs]

/-- the name that a class's object bears -/
def nameIn (K : Frag) (C : Addr) : Option Str := match K.lookup C with
  | some ⟨_, _, .cls _, sl⟩ => match (sl[2]? : Option (Option Value)) with
    | some (some (Value.str x _)) => some x
    | _ => none
  | _ => none
theorem name_slot {K : Frag} {C : Addr} {x : Str} (e : nameIn K C = some x) : ∃ (o : Obj) (tk : Tok), K.lookup C = some o ∧ o.slots[2]? = some (some (.str x tk)) := by
  unfold nameIn at e
  split at e
  · rename_i c d cd sl ho
    split at e
    · rename_i y tk hs
      cases e
      exact ⟨_, tk, ho, hs⟩
    · cases e
  · cases e
section
variable {prog : Program} {w : World} {A : Around} {E : Value → Shared → Prop} {s : Shared} {K : Frag} {R : Result → Shared → Prop} {C a : Addr} {x : Str}
theorem cname_code {tp : Value} (KX : K.In s.heap) (ht : typeIn K (.ref C) = some (.type "type")) (hx : nameIn K C = some x) (h : ∀ tk, R (.ok (.ret (.str x tk))) s) :
    codeAny (model prog w) A (.call (.builtin "getset_descriptor.__get__") ⟨[.builtin "type.__name__", .ref C, tp], []⟩) R s := by
  obtain ⟨o, tk, ho, hsl⟩ := name_slot hx
  have hC := KX _ _ ho
  obtain ⟨hp, gs, dr, tt, so⟩ := s
  have La : Looks (model prog w) hp (typeOf (.ref C)) (.type "type") := looks_typeIn KX ht
  have Lb : Looks (model prog w) hp (isSubtype (.type "type") (.type "type")) true := Looks.of_pure (by rw [isSubtype_type]; kernel_rfl)
  refine codeAny_call_builtin KF.slot_gs.plain KF.entry_gs (KF.slot_gs.check _ _ _ _ _ _ _ _ ktyn_type (KF.args_gs _ _ _) ?_)
  unfold Builtin.«getset_descriptor.__get__» Builtin.Getset_descriptor.descrGet
  rw [dga_obj]
  refine wpAny_bind ?_
  refine wpAny_pure ?_
  unfold Builtin.Getset_descriptor.descrGetter Builtin.Getset_descriptor.descrCheckInstance Builtin.Getset_descriptor.descrNameAndClass isInstance
  simp only [ktyn_owner]
  repeat lk
  refine ⟨Code.quiet_builtin _ (by decide +kernel), codeAny_builtin ktyn_entry ?_⟩
  unfold Builtin.«type.__name__»
  dsimp only
  unfold Builtin.keptObject
  dsimp only
  unfold slotAt
  refine wpAny_bind ?_
  refine wpAny_bind (wpAny_loadPart hC ?_)
  rw [hsl]
  exact wpAny_pure (wpAny_pure (h tk))

theorem cname_attr {expr : Bool} {Q : Value → Shared → Prop} (KX : K.In s.heap) (hr : readsIn K C (.type "type") = true)
    (hf : findCls K (.ref C) (.type "type") "__name__" = some (.get (.builtin "getset_descriptor.__get__") (.builtin "type.__name__") (.ref C) (.type "type")))
    (hx : nameIn K C = some x) (h : ∀ tk, Q (.str x tk) { s with toks := s.toks + 1 }) : wpAny (model prog w) A (getAttr (.ref C) "__name__" expr) Q E s := by
  have ht : typeIn K (.ref C) = some (.type "type") := by
    simp only [readsIn, Bool.and_eq_true, beq_iff_eq] at hr
    exact hr.1.1.1.2
  refine cls_bind KX hr hf (wpAny_call (cname_code (s := { s with toks := s.toks + 1 }) KX ht hx fun tk => ?_))
  exact handed_on rfl (h tk)
/-- e.__class__, e an instance of an own error class -/
theorem ecls_attr {ox : Obj} {od : Option Obj} {expr : Bool} {Q : Value → Shared → Prop} (T : L2.ExcC K C) (KX : K.In s.heap) (J : InstAt s.heap a ox C od) (hfo : findObj K C od "__class__" = some (.bind (.builtin "getset_descriptor.__get__") (.builtin "object.__class__")))
    (h : Q (.ref C) { s with toks := s.toks + 1 }) : wpAny (model prog w) A (getAttr (.ref a) "__class__" expr) Q E s := by
  obtain ⟨hp, gs, dr, tt, so⟩ := s
  have La := J.type (M := model prog w)
  have Lb := looks_findIn (M := model prog w) KX T.hg
  have Lc := looks_findIn (M := model prog w) KX T.hk
  have Ld := looks_find (M := model prog w) KX J hfo
  have Le : Looks (model prog w) hp (isInstance (.ref a) (.type "BaseException")) true := La.andThen (looks_subIn KX T.hs)
  have z0 : (expr && onTheHeap (Value.builtin "BaseException.__getattribute__")) = false := by cases expr <;> rfl
  have z1 : (onTheHeap (Value.ref C) && Value.builtin "BaseException.__getattribute__" == Value.builtin "object.__getattribute__") = false := by
    rw [show (Value.builtin "BaseException.__getattribute__" == Value.builtin "object.__getattribute__") = false from by decide +kernel]
    rfl
  unfold getAttr getAttrBy
  refine wpAny_bind (wpAny_mkText ?_)
  refine wpAny_holding ?_
  refine wpAny_bind (La.at ?_)
  refine wpAny_bind (Lb.at ?_)
  show wpAny _ _ (if (onTheHeap (Value.ref C) && Value.builtin "BaseException.__getattribute__" == Value.builtin "object.__getattribute__") = true then _ else _) _ _ _
  rw [z1]
  rw [if_neg Bool.false_ne_true]
  unfold getAttrByItsOwn hookBefore
  refine wpAny_bind ?_
  rw [if_pos (show onTheHeap (Value.ref C) = true from rfl)]
  refine Lc.at ?_
  refine wpAny_bind ?_
  refine wpAny_attempt (wpAny_holding ?_)
  unfold callGetattribute
  rw [z0]
  rw [if_neg Bool.false_ne_true]
  unfold boundAndCalled
  rw [PySem.F.excAttr_ValueError.ga.bind (.ref a)]
  refine wpAny_bind ?_
  refine wpAny_pure ?_
  show wpAny _ _ (call (.builtin "BaseException.__getattribute__") [.ref a, .str "__class__" tt]) _ _ _
  refine wpAny_call ?_
  refine codeAny_call_builtin PySem.F.excAttr_ValueError.ga.plain PySem.F.entry_bexc_ga ?_
  refine @check_slot (model prog w) _ _ ⟨hp, gs, dr, tt + 1, so⟩ "BaseException.__getattribute__" "BaseException" "__getattribute__" (.ref a) [.str "__class__" tt] [] _ ?k1 ?k2 Le ?k3 ?_
  case k1 => decide +kernel
  case k2 => decide +kernel
  case k3 => exact PySem.F.args_bexc_ga (.ref a) (.str "__class__" tt)
  unfold Builtin.«object.__getattribute__»
  refine wpAny_bind ?_
  refine wpAny_of_eq (a := ((Value.ref a : Value), [Value.str "__class__" tt])) (by first | rfl | (simp only [slotArgs]; rfl)) ?_
  refine wpAny_bind ?_
  refine wpAny_pure ?_
  refine wpAny_bind (La.at ?_)
  refine wpAny_bind (Ld.at ?_)
  show wpAny _ _ (holding [Value.builtin "object.__class__"] (call (.builtin "getset_descriptor.__get__") [.builtin "object.__class__", .ref a, .ref C]) >>= ret) _ _ _
  refine wpAny_bind (wpAny_holding (wpAny_call (class_get (s := ⟨hp, gs, dr, tt + 1, so⟩) (ox := ox) (od := od) KX J T.hm ?_)))
  refine wpAny_pure ?_
  show wpAny _ _ (handedOut (.ref C)) _ _ _
  rw [handedOut_of (v := .ref C) rfl]
  exact wpAny_pure h
end

/-! ### an own class of errors -/
structure ErrC (K : Frag) (C : Addr) (x : Str) : Prop where
  oex : L2.OexC K C
  exc : L2.ExcC K C
  rd : readsIn K C (.type "type") = true
  fc : findCls K (.ref C) (.type "type") "__name__" = some (.get (.builtin "getset_descriptor.__get__") (.builtin "type.__name__") (.ref C) (.type "type"))
  nm : nameIn K C = some x
  noc : findIn K (.ref C) "code" = some none
  ca : ∀ T1 T2 T3 : Addr, nsIn K mainGlobals "TableError" = some (some (.ref T1)) → nsIn K mainGlobals "Missing" = some (some (.ref T2)) → nsIn K mainGlobals "NothingLeft" = some (some (.ref T3)) → exmAny K (.ref C) [.ref T1, .ref T2, .ref T3] = some true
open L2
theorem ErrC.obj {K : Frag} {C : Addr} {x : Str} (T : ErrC K C x) : findObj K C none "__class__" = some (.bind (.builtin "getset_descriptor.__get__") (.builtin "object.__class__")) :=
  findObj_dataN (by
    obtain ⟨cd, hc, _⟩ := any_some T.exc.hd
    rw [hc] <;> rfl) T.exc.ha T.exc.hn T.exc.ht
/-- e.__class__.__name__ -/
def tCn (K : Frag) (te : TE) : TE := fun σ H Q => te σ H fun v H1 => ∃ a C x, v = .ref a ∧ H1 a = some (exo a C none) ∧ ErrC K C x ∧ Q (.str x) H1
theorem pe_cname {X : Cx} {e : Expr} {te : TE} {p1 p2 : Pos} (he : PE X e te) (hb1 : attributeBase e "__class__" X.env (eval e X.env) = eval e X.env := by rfl)
    (hb2 : attributeBase (.Attribute e "__class__" p1) "__name__" X.env (eval (.Attribute e "__class__" p1) X.env) = eval (.Attribute e "__class__" p1) X.env := by rfl) :
    PE X (.Attribute (.Attribute e "__class__" p1) "__name__" p2) (tCn X.K te) := by
  refine ⟨fun pins s σ H Q I h => ?_⟩
  refine attr_of hb2 (attr_of hb1 (thn (he.run pins s σ H _ I h) fun u s1 z => ?_))
  obtain ⟨v, H1, I1, r1, a, C, x, ev, ea, T, q⟩ := z
  subst ev
  obtain rfl : u = Value.ref a := r1
  obtain ⟨t1, ho⟩ := exo_at I1.hok ea
  have J : InstAt s1.heap a { cls := .ref C, dict := none, data := .fields #[.ref t1, .none, .none, .none, .bool false, .none] } C none := ⟨ho, rfl, rfl, trivial⟩
  refine ecls_attr T.exc I1.kIn J T.obj ?_
  exact cname_attr (I1.tok _).kIn T.rd T.fc T.nm fun tk => ⟨.str x, H1, (I1.tok _).tok _, ⟨tk, rfl⟩, q⟩

/-! ### def __init__(self): self.code = self.__class__.__name__ -/
def spInit (K : Frag) : Sp := fun vs H Q _ => ∃ a C x, vs = [.ref a] ∧ H a = some (exo a C none) ∧ ErrC K C x ∧ ∀ dx, H dx = none → dx ≠ a → Q .non (upd (upd H dx (exd dx [("code", .str x)])) a (exo a C (some dx)))
section
variable {P : Program} {w : World} {K : Frag} {mg : Str → Option Value} {base : Heap} {CX : CXT}
theorem fn_init0 {k : Nat} {f : Addr} {name qual : Str} {params : Arguments} {scope : Scope} {dV kV doc pm cdv ct oc : Value} {an od : Option Addr} {osl : Array (Option Value)} {N : List Str} {p1 p2 p3 p4 p5 p6 : Pos}
    (lk : K.lookup f = some ⟨oc, od, .func (PySem.W.fnOf name qual params [.Assign [.Attribute (.Name "self" p1) "code" p2] (.Attribute (.Attribute (.Name "self" p3) "__class__" p4) "__name__" p5) p6] scope dV kV doc pm an cdv ct), osl⟩)
    (hcd : codeIn K cdv qual = true) (S : FnScope N ["self"] scope) (hN : N[0]? = some ("self" : Str)) (hv : Vis scope "self") (h0 : ∀ v : V, (L2.start N [v])[0]? = some (some v)) : FnOk P w K mg base CX (k + 1) f (PySem.W.fnOf name qual params [.Assign [.Attribute (.Name "self" p1) "code" p2] (.Attribute (.Attribute (.Name "self" p3) "__class__" p4) "__name__" p5) p6] scope dV kV doc pm an cdv ct) ["self"] (spInit K) := by
  refine fn_of lk hcd S (fun vs H Q E h => ?_) fun A outer s H vs Q E hr h => ?_
  · obtain ⟨a, C, x, e, _⟩ := h
    rw [e]
    rfl
  · obtain ⟨a, C, x, rfl, ea, T, q⟩ := h
    refine ⟨_, pss_one (ps_ost (pe_var (i := 0) hN hv) (pe_cname (pe_var (i := 0) hN hv))), ?_⟩
    refine ⟨.ref a, h0 _, a, C, x, rfl, ea, T, ?_⟩
    refine ⟨.ref a, h0 _, a, C, rfl, T.oex, T.noc, .inl ⟨ea, fun dx n ne => ?_⟩⟩
    exact q dx n ne
end
end DX

set_option maxHeartbeats 4000000
namespace DX
open PySem PySem.Spec PySem.Calls PyProof.Rows PySem.W L2
variable [DL.Tabs]

/-! ### C(), C's own or inherited __init__ being the one of TableError -/
/-- the exception's dict bears code alone; H1 is as before but for it -/
def tErr (C : Addr) (x : Str) : L2.St → Hp → XK → Prop := fun _ H Q => ∀ d, H d = none → Q (.ref C) (some d) (upd H d (.xd [("code", .str x)]))
section
variable {X : Cx}
theorem pmk_err0 {CX : CXT} {nm x : Str} {C fI : Addr} {k : Nat} {fd : FuncData} {p pos : Pos} (T : ErrC X.K C nm) (iC : findIn X.K (.ref C) "__init__" = some (some (.ref fI))) (tI : typeIn X.K (.ref fI) = some (.type "function"))
    (F1 : FnOk X.prog X.w X.K X.mg X.base CX k fI fd ["self"] (spInit X.K)) (hr : Room (k + 1) X.A) (hb : Binds X.K fd ["self"] []) (hx : Passes CX X (fun _ _ _ => False)) (hg : Gl X x) (hm : X.mg x = some (.ref C))
    (hdb : (x == ("__debug__" : Str)) = false := by decide) : PMk X (.Call (.Name x p) [] [] pos) (tErr C nm) := by
  intro pins s σ H Q I h
  obtain ⟨cn, cq, nsp, bs, bm, sn, sub, ab, col, dd, l0, l1, l2, l3, l5, hC, hbm⟩ := T.oex.cls
  refine wpAny_Call_Name_kw (ld_glob I hg hm ?_ hdb)
  refine callWith_K0 I.kIn T.oex.kC ?_
  show wpAny _ _ (call (.ref C) []) _ _ _
  obtain ⟨hp, gs, dr, tt, so⟩ := s
  let e : Addr := hp.objs.size + 1
  have se : hp.objs.size ≤ e := Nat.le_succ _
  have ne : H e = none := I.hok.fresh se
  have grow : ∀ b o, hp.get? b = some o → ((hp.push (kdv_tup [])).push (PySem.HandSPX.excO C hp.objs.size)).get? b = some o := fun b o z => Heap.get?_push_of_some _ (Heap.get?_push_of_some _ z)
  have at_e : ((hp.push (kdv_tup [])).push (PySem.HandSPX.excO C hp.objs.size)).get? (hp.objs.size + 1) = some (PySem.HandSPX.excO C hp.objs.size) := by
    heap_get
  have I2 : Inv X pins σ (upd H e (exo e C none)) ⟨(hp.push (kdv_tup [])).push (PySem.HandSPX.excO C hp.objs.size), gs, dr, tt, so⟩ :=
    I.laid (t' := tt) (a := e) (o := exo e C none) grow se (exo_ok at_e)
  let QQ : VK := fun v H2 => v = .non ∧ ∃ dx, H dx = none ∧ dx ≠ e ∧ H2 = upd (upd (upd H e (exo e C none)) dx (exd dx [("code", .str nm)])) e (exo e C (some dx))
  have hsp : spInit X.K [.ref e] (upd H e (exo e C none)) QQ (fun _ _ _ => False) := by
    refine ⟨e, C, nm, rfl, upd_same, T, fun dx n nd => ⟨rfl, dx, ?_, nd, rfl⟩⟩
    rw [upd_ne nd] at n
    exact n
  refine wpAny_call (PySem.HandSPX.call_own F.excBase_ValueError (fun Y => PySem.HandSPX.refsVE_contains Y bm hbm) (I.kIn _ _ hC) (looks_findIn I.kIn iC) (fun self => bind_fn I.kIn self tI) (Nat.zero_le _) ?_)
  refine codeAny_mono (F1.run _ X.stack _ _ ⟨[Value.ref e], []⟩ [Value.ref e] [V.ref e] QQ (fun _ _ _ => False) (hr.make C [] []) (I2.env0.make C [] []) (hb _ [Value.ref e] I2.kIn rfl) (.cons rfl .nil) hsp) fun r s' z => ?_
  cases r with
  | error er => exact hx pins σ _ _ er s' I2 z
  | ok fl =>
    cases fl with
    | ret u =>
      obtain ⟨v, H2, os2, bare2, un2, hok2, rv, ev, dx, n, nd, eH⟩ := z
      subst ev
      subst eH
      obtain ⟨h2, g2, d2, t2, os'⟩ := s'
      refine ⟨rv, mk_end (raises_own T.oex.exC T.oex.tyC) I se grow un2 hok2 os2 bare2 upd_same (by rw [upd_ne nd, upd_same]) n ?_⟩
      have eq : upd (del (upd (upd (upd H e (exo e C none)) dx (exd dx [("code", .str nm)])) e (exo e C (some dx))) e) dx (.xd [("code", .str nm)]) = upd H dx (.xd [("code", .str nm)]) := by
        funext b
        by_cases hbd : b = dx
        · rw [hbd, upd_same, upd_same]
        · rw [upd_ne hbd, upd_ne hbd]
          by_cases hbe : b = e
          · rw [hbe, del_same, ne]
          · rw [del_ne hbe, upd_ne hbe, upd_ne hbd, upd_ne hbe]
      rw [eq]
      exact h dx n
    | next => exact False.elim z
    | brk => exact False.elim z
    | cont => exact False.elim z
end
end DX

set_option maxHeartbeats 4000000
namespace DX
open PySem PySem.Spec PySem.Calls PyProof.Rows PySem.W L2
variable [DL.Tabs]

theorem fly_push {B h : Heap} {l : List Env} {a : Addr} {Z : Obj → Prop} (o : Obj) (x : HandSPX.FlyingZ B l a Z h) : HandSPX.FlyingZ B l a Z (h.push o) := by
  obtain ⟨y1, y2, y3, oe, vs, T, oT, ts, y4, y5, y6, y7, y8, y9, y10, y11, y12⟩ := x
  refine ⟨fun b u z => Heap.get?_push_of_some _ (y1 b u z), y2, Heap.FunFrames.of_keeps (fun b u z _ => ⟨u, Heap.get?_push_of_some _ z, rfl⟩) y3, oe, vs, T, oT, ts, Heap.get?_push_of_some _ y4, y5, y6, y7, y8, y9, Heap.get?_push_of_some _ y10, y11, y12⟩

/-- except (C1, C2, C3) as n, every exception of the body being one of them; slot i is n's -/
def wAs3 (K : Frag) (m : Nat) (C1 C2 C3 : Addr) (i : Nat) (ts : Addr → Value → Option Addr → TS) (D : Ends) : WX := fun cls d σ H => exmAny K cls [.ref C1, .ref C2, .ref C3] = some true ∧
  ∀ a, H a = none → σ.length = m → ts a cls d { nx := fun σ' H' => D.nx (σ'.set i none) H', rt := D.rt, bk := fun σ' H' => D.bk (σ'.set i none) H', ct := fun σ' H' => D.ct (σ'.set i none) H' } (σ.set i (some (.ref a))) H
section
variable {X : Cx} {x1 x2 x3 n : Str} {C1 C2 C3 : Addr} {i kk : Nat} {body suite : List Stmt} {b0 : Stmt} {q1 q2 q3 q4 q5 q6 : Pos} {tb : WX → TS} {ts : Addr → Value → Option Addr → TS}
theorem ps_try_as3 (hs : X.stack = X.env :: X.outer) (hf : X.env.frame = some X.env.locals) (hN : X.N.Nodup) (hi : X.N[i]? = some n) (hln : X.env.kindOf n = some .local)
    (g1 : Gl X x1) (m1 : X.mg x1 = some (.ref C1)) (d1 : (x1 == ("__debug__" : Str)) = false) (g2 : Gl X x2) (m2 : X.mg x2 = some (.ref C2)) (d2 : (x2 == ("__debug__" : Str)) = false) (g3 : Gl X x3) (m3 : X.mg x3 = some (.ref C3)) (d3 : (x3 == ("__debug__" : Str)) = false)
    (hb : ∀ (W : WX) (pn : List (Addr × Obj)) (xe : Value → Shared → Prop), Takes (X.tr pn xe) W → PassesOwn (model X.prog X.w) X.A X.env xe → PSs (X.tr pn xe) body (tb W))
    (hsu : ∀ (a : Addr) (oe : Obj) (cls : Value) (d : Option Addr) (pn : List (Addr × Obj)), Zc cls d oe → (∃ vs, oe.data = .fields vs) → PSs (X.suite a ((a, oe) :: pn)) (b0 :: suite) (ts a cls d)) :
    PS X (.Try body [.ExceptHandler (some (.Tuple [.Name x1 q1, .Name x2 q2, .Name x3 q3] kk q4)) (some n) (b0 :: suite) q5] [] [] q6) (fun D σ H => tb (wAs3 X.K X.N.length C1 C2 C3 i ts D) D σ H) := by
  refine ⟨fun pp s σ H D I hyp => ?_⟩
  have okX := I.ok
  have frX : X.A.frames = some (X.env :: X.outer) := by rw [okX.frames, hs]
  have locN : Loc X.env.scope n := .inl hln
  refine wpAny_Try_except ?_
  refine wpAny_mono ((hb (wAs3 X.K X.N.length C1 C2 C3 i ts D) (X.pn ++ pp) (fun e sa => wpAny (model X.prog X.w) X.A (noteFrame e X.env) (fun _ sb => wpAny (model X.prog X.w) X.A (setFlight e none) (fun _ sc =>
    wpAny (model X.prog X.w) X.A (handleBy e X.env [.ExceptHandler (some (.Tuple [.Name x1 q1, .Name x2 q2, .Name x3 q3] kk q4)) (some n) (b0 :: suite) q5]) (SP X pp D) X.xe sc) X.xe sb) X.xe sa) (fun u s' xx => ?_) PassesOwn.looking).run [] s σ H D (I.toTry _) hyp) (fun fl sa z => ?_) (fun e sa z => z)
  · obtain ⟨a, B, sI, pins', σ', H', cls, d, rfl, J', nb, up, sky, na, os, ag, em, yes⟩ := xx
    have J : Inv X pp σ' H' sI := J'.ofTry okX
    have sky' : Sky B (X.env :: X.outer) a (Zc cls d) X.env.locals s'.heap := by rw [← hs]; exact sky
    show wpAny (model X.prog X.w) X.A (noteFrame (.ref a) X.env) _ _ _
    refine Sky.land Zc.steady frX hf sky' fun ha fa ua => ?_
    have Ja : Inv X pp σ' H' { s' with heap := ha } := J.landed nb fa.1 (up.trans ua) os ag
    obtain ⟨oa, va, ga, za, da⟩ := fa.there
    have out : a ∉ frs (X.env :: X.outer) := fun hm => by
      obtain ⟨_, o', e', hnf⟩ := fa.2.2.1.mem hm
      rw [ga] at e'
      cases e'
      exact hnf _ da
    have nL : a ≠ X.env.locals := fun z => out (List.mem_filterMap.mpr ⟨X.env, List.mem_cons_self, by rw [hf, z]⟩)
    have nF : a ∉ X.fs := fun hm => by
      obtain ⟨ev, h1, h2⟩ := List.mem_filterMap.mp hm
      exact out (List.mem_filterMap.mpr ⟨ev, List.mem_cons_of_mem _ h1, h2⟩)
    have Sa := Ja.suite ga da na nL nF
    refine wpAny_handleBy_cons (codeAny_handlers_test ?_) (by intro q; cases q)
    have key : wpAny (model X.prog X.w) (X.suite a ((a, oa) :: (X.pn ++ pp))).A (eval (.Tuple [.Name x1 q1, .Name x2 q2, .Name x3 q3] kk q4) X.env) (fun v sd => v = .ref ha.objs.size ∧ sd = { s' with heap := ha.push { cls := .type "tuple", data := .seq [Value.ref C1, .ref C2, .ref C3].toArray } }) (fun _ _ => False) { s' with heap := ha } := by
      refine wpAny_Tuple_spliced ?_
      show wpAny _ _ (spliced [(false, eval (.Name x1 q1) X.env), (false, eval (.Name x2 q2) X.env), (false, eval (.Name x3 q3) X.env)]) _ _ _
      refine spliced_cons (ld_glob (X := X.suite a ((a, oa) :: (X.pn ++ pp))) Sa g1 m1 ?_ d1)
      refine spliced_cons (ld_glob (X := X.suite a ((a, oa) :: (X.pn ++ pp))) Sa g2 m2 ?_ d2)
      refine spliced_cons (ld_glob (X := X.suite a ((a, oa) :: (X.pn ++ pp))) Sa g3 m3 ?_ d3)
      exact spliced_nil ⟨by show 3 ≤ sizeLine; rw [sizeLine_eq]; omega, rfl, rfl⟩
    refine wpAny_mono key (fun v sd hv => ?_) (fun _ _ z => z.elim)
    obtain ⟨hv1, hv2⟩ := hv
    subst hv1
    subst hv2
    have fb := fly_push { cls := .type "tuple", data := .seq [Value.ref C1, .ref C2, .ref C3].toArray } fa
    have ub : ha.UpToSlots (ha.push { cls := .type "tuple", data := .seq [Value.ref C1, .ref C2, .ref C3].toArray }) := Heap.UpToSlots.of_keeps fun b o z => Heap.get?_push_of_some _ z
    have gt : (ha.push { cls := .type "tuple", data := .seq [Value.ref C1, .ref C2, .ref C3].toArray }).get? ha.objs.size = some { cls := .type "tuple", data := .seq [Value.ref C1, .ref C2, .ref C3].toArray } := Heap.get?_push_size _ rfl
    generalize ha.push { cls := .type "tuple", data := .seq [Value.ref C1, .ref C2, .ref C3].toArray } = hc at fb ub gt
    have Jb : Inv X pp σ' H' { s' with heap := hc } := J.landed nb fb.1 ((up.trans ua).trans ub) os ag
    obtain ⟨ob, vb, gb, zb, db⟩ := fb.there
    have LT : Looks (model X.prog X.w) hc (typeOf (.ref a)) cls := fun A Q E s k q => wpAny_typeOf_ref (k _ _ gb) (by rw [zb.1]; exact q)
    refine (exm_tup3 (M := model X.prog X.w) Jb.kIn LT gt em).here ?_
    refine codeAny_handlers_suite_as ?_
    refine HandSPX.lands_againZ fb fun hd fd ud => ?_
    have Jd : Inv X pp σ' H' { s' with heap := hd } := J.landed nb fd.1 (((up.trans ua).trans ub).trans ud) os ag
    obtain ⟨od, vd, gd, zd, dd⟩ := fd.there
    have Sd := Jd.suite gd dd na nL nF
    refine store_ok (X := X.suite a ((a, od) :: (X.pn ++ pp))) (v := .ref a) Sd hN hi locN rfl (fun se Se => ?_) (.inr hln)
    refine wpAny_mono ((hsu a od cls d (X.pn ++ pp) zd ⟨_, dd⟩).run [] se _ H' _ Se (yes a na J.len)) (fun fl sg z => ?_) (fun _ _ z => False.elim z)
    have bye : ∀ {σ6 : L2.St} {H6 : Hp} {Q : Shared → Prop}, Inv (X.suite a ((a, od) :: (X.pn ++ pp))) [] σ6 H6 sg → (∀ sh, Inv X pp (σ6.set i none) H6 sh → Q sh) →
        wpAny (model X.prog X.w) X.A (do bindName X.env n .none; unbindBehindTheSuite X.env n q5) (fun _ sh => Q sh) X.xe sg := fun {σ6 H6 Q} S6 hq => gone_ok (S6.unsuite okX) hN hi hln hq
    cases fl with
    | next =>
      obtain ⟨σ6, H6, S6, w6⟩ := z
      exact bye S6 fun sh Jh => ⟨_, _, Jh, w6⟩
    | brk =>
      obtain ⟨σ6, H6, S6, w6⟩ := z
      exact bye S6 fun sh Jh => ⟨_, _, Jh, w6⟩
    | cont =>
      obtain ⟨σ6, H6, S6, w6⟩ := z
      exact bye S6 fun sh Jh => ⟨_, _, Jh, w6⟩
    | ret u =>
      obtain ⟨v6, σ6, H6, S6, r6, w6⟩ := z
      exact bye S6 fun sh Jh => ⟨_, _, _, Jh, r6, w6⟩
  · cases fl with
    | next =>
      obtain ⟨σ6, H6, J6, w6⟩ := z
      exact wpAny_execs_nil ⟨σ6, H6, J6.ofTry okX, w6⟩
    | brk =>
      obtain ⟨σ6, H6, J6, w6⟩ := z
      exact ⟨σ6, H6, J6.ofTry okX, w6⟩
    | cont =>
      obtain ⟨σ6, H6, J6, w6⟩ := z
      exact ⟨σ6, H6, J6.ofTry okX, w6⟩
    | ret u =>
      obtain ⟨v6, σ6, H6, J6, r6, w6⟩ := z
      exact ⟨v6, σ6, H6, J6.ofTry okX, r6, w6⟩
end
end DX

set_option maxHeartbeats 4000000
namespace DX
open PySem PySem.Spec PySem.Calls PyProof.Rows PySem.W L2
variable [DL.Tabs]
open L2H (RoomH PinOk cxH inv_startH)

/-! ### a def that is called in an except suite: it knows the exception p that is handled; nothing leaves it -/
structure FnS (P : Program) (w : World) (K : Frag) (mg : Str → Option Value) (base : Heap) (k : Nat) (f : Addr) (fd : FuncData) (ps : List Str) (sp : Addr × Obj → Sp) : Prop where
  len : ∀ p vs H Q E, sp p vs H Q E → vs.length = ps.length
  run : ∀ (A : Around) (outer : List Env) (s : Shared) (H : Hp) (args : Args) (us : List Value) (vs : List V) (Q : VK) (p : Addr × Obj), RoomH k A → PinOk outer H s p → Env0 P w K mg base A outer s H →
    BindsTo s fd args (ps.zip us) → Vals vs us → sp p vs H Q E0 → codeAny (model P w) A (.call (.ref f) args) (CR CX0 outer P w H s Q E0) s
theorem fn_suite {P : Program} {w : World} {K : Frag} {mg : Str → Option Value} {base : Heap} {k : Nat} {f : Addr} {name qual : Str} {params : Arguments} {body : List Stmt} {scope : Scope} {dV kV doc pm cdv ct oc : Value} {an od : Option Addr} {osl : Array (Option Value)} {N ps : List Str}
    {sp : Addr × Obj → Sp} (lk : K.lookup f = some ⟨oc, od, .func (fnOf name qual params body scope dV kV doc pm an cdv ct), osl⟩) (hcd : codeIn K cdv qual = true) (S : FnScope N ps scope) (len : ∀ p vs H Q E, sp p vs H Q E → vs.length = ps.length)
    (hbody : ∀ (A : Around) (outer : List Env) (s : Shared) (H : Hp) (vs : List V) (Q : VK) (p : Addr × Obj), RoomH k (A.deeper (envOfC qual scope s.heap.objs.size f cdv)) → sp p vs H Q E0 →
      ∃ t, PSs (cxH CX0 P w K mg base N qual scope f cdv A outer s H E0 p) body t ∧ t { nx := fun _ H' => Q .non H', rt := Q } (L2.start N vs) H) :
    FnS P w K mg base (k + 1) f (fnOf name qual params body scope dV kV doc pm an cdv ct) ps sp := by
  refine ⟨len, fun A outer s H args us vs Q p rm pin env bnd rv hsp => ?_⟩
  have lenV := len _ _ _ _ _ hsp
  have KX : K.In s.heap := env.mod.kin.keeps fun b o z => (env.bs b o z).1
  have nolim : s.heap.NoLimit := env.mod.nolimit.keeps fun b o z => (env.bs b o z).1
  refine codeAny_call_function rm.depth (KX _ _ lk) rfl S.co S.gen rfl (codeRec_of KX hcd) (bnd _ _ _ _ ?_)
  refine wpAny_newFunctionEnv_cells S.kind (fun ⟨y, v⟩ hy => ?_) fun ev hev sa xa => ?_
  · rcases S.par y (List.of_mem_zip hy).1 with z | z
    · exact .inl z
    · exact .inr ⟨z, cellsFrom_some _ _ _ (.inl z)⟩
  subst hev
  refine ⟨nolim.keeps xa.toInCall.keep, ?_⟩
  refine codeAny_func ?_
  obtain ⟨t, pt, qt⟩ := hbody A outer s H vs Q p (rm.deeper _) hsp
  have I := inv_startH (CX := CX0) (E := E0) (f := f) (cd := cdv) S pin env lenV rv xa
  refine wpAny_mono (pt.run [] sa (L2.start N vs) H _ I qt) (fun fl sb z => ?_) fun e sb z => z
  cases fl with
  | ret u =>
    obtain ⟨v, σ', H', J, r, q⟩ := z
    exact ⟨v, H', J.os, J.bare, J.base, J.hok, r, q⟩
  | next =>
    obtain ⟨σ', H', J, q⟩ := z
    exact ⟨.non, H', J.os, J.bare, J.base, J.hok, rfl, q⟩
  | brk => exact False.elim z.choose_spec.choose_spec.2
  | cont => exact False.elim z.choose_spec.choose_spec.2
section
variable {X : Cx}
theorem pe_callS {k : Nat} {f : Addr} {fd : FuncData} {ps : List Str} {sp : Addr × Obj → Sp} {x : Str} {q pos : Pos} {e : Expr} {es : List Expr} {t : TA} {p : Addr × Obj} (F : FnS X.prog X.w X.K X.mg X.base k f fd ps sp) (hr : RoomH k X.A) (hp : p ∈ X.pn) (hg : Gl X x) (hm : X.mg x = some (.ref f))
    (hk : keepIn X.K (.ref f) = true) (hb : L2.Binds X.K fd ps []) (ha : PA X (e :: es) t) (hdb : (x == ("__debug__" : Str)) = false := by decide) (he : starEach (e :: es) X.env = (false, eval e X.env) :: starEach es X.env := by rfl)
    (hpl : (backTo pos (starEach es X.env)).any (·.1) = false := by rfl) : PE X (.Call (.Name x q) (e :: es) [] pos) (fun σ H Q => t σ H fun vs H1 => sp p vs H1 Q E0) := by
  refine ⟨fun pins s σ H Q I h => ?_⟩
  refine wpAny_Call_Name_kw (ld_glob I hg hm ?_ hdb)
  refine callWith_K (h₀ := X.base) I.ok.mod.kin hk (thn (ha.run pos pins s σ H _ I h) fun us sa z => ?_) he hpl
  obtain ⟨vs, Ha, Ia, ra, hs⟩ := z
  refine ⟨Ia.kIn, ?_⟩
  have le : us.length = ps.length := by
    rw [← ra.length]
    exact F.len _ _ _ _ _ hs
  have bd := hb sa us Ia.kIn (by rw [List.append_nil]; exact le)
  rw [List.append_nil] at bd
  obtain ⟨w1, w2, w3, w4, w5⟩ := Ia.pin p (List.mem_append_left _ hp)
  have pin : PinOk X.stack Ha sa p := ⟨w1, w2, fun hm => (List.mem_cons.mp (Ia.stkSub p.1 hm)).elim w3 w4, w5⟩
  show wpAny _ _ (call (.ref f) us) _ _ _
  refine wpAny_call (codeAny_mono (F.run X.A X.stack sa Ha ⟨us, []⟩ us vs Q p hr pin Ia.env0 bd ra hs) fun r sb z => ?_)
  cases r with
  | error er => exact False.elim z
  | ok fl =>
    cases fl with
    | ret u => exact Ia.after z
    | next => exact False.elim z
    | brk => exact False.elim z
    | cont => exact False.elim z
/-! ### e.code, e the exception p that is handled -/
def tCode (K : Frag) (a : Addr) (cls : Value) (d : Option Addr) (te : TE) : TE := fun σ H Q => ∃ C nm dd, cls = .ref C ∧ d = some dd ∧ ErrC K C nm ∧ te σ H fun x H1 => x = .ref a ∧ (∃ xs : List (Str × V), H1 dd = some (.xd xs) ∧ List.lookup ("code" : Str) xs = some (V.str nm)) ∧ Q (.str nm) H1
theorem pe_ecode {a : Addr} {oe : Obj} {cls : Value} {d : Option Addr} {e : Expr} {te : TE} {pos : Pos} (hp : (a, oe) ∈ X.pn) (hz : Zc cls d oe) (hf : ∃ vs, oe.data = .fields vs) (he : PE X e te)
    (hb : attributeBase e "code" X.env (eval e X.env) = eval e X.env := by rfl) : PE X (.Attribute e "code" pos) (tCode X.K a cls d te) := by
  refine ⟨fun pins s σ H Q I h => ?_⟩
  obtain ⟨C, nm, dd, ec, ed, T, h⟩ := h
  subst ec
  subst ed
  refine attr_of hb (thn (he.run pins s σ H _ I h) fun u sa z => ?_)
  obtain ⟨x, Ha, Ia, ra, ex, ⟨xs, ea, el⟩, q⟩ := z
  subst ex
  obtain rfl : u = Value.ref a := ra
  obtain ⟨ga, _⟩ := Ia.pin (a, oe) (List.mem_append_left _ hp)
  obtain ⟨vs, hd⟩ := hf
  have hx : ObjOk X.prog X.w Ha sa.heap dd (.xd xs) := Ia.hok dd _ ea
  obtain ⟨mA, hns, hr⟩ := hx
  obtain ⟨od, ho, hl⟩ := lookIn_ns hns
  obtain ⟨v, hv, rv⟩ := RelO.some_of (v := V.str nm) (o := mA "code") (by have y := hr "code"; rw [el] at y; exact y)
  have J : InstAt sa.heap a oe C (some od) := ⟨ga, hz.1, by unfold notCls; rw [hd] <;> rfl, by rw [hz.2]; exact ho⟩
  exact HandSPX.exc_get Ia.kIn J T.exc.hg T.exc.hk T.exc.hs (findObj_own T.exc.hd T.noc rfl (by rw [hl, hv])) (handed_of rv) ⟨_, Ha, Ia.tok _, rv, q⟩
end
end DX

set_option maxHeartbeats 4000000
namespace DX
open PySem PySem.Spec PySem.Calls PyProof.Rows PySem.W L2 LamX
variable [DL.Tabs]
open L2H (RoomH PinOk cxH inv_startH)

/-- what is wished of an error of the lambda: it is caught, and told by its code; the field's tuple is empty -/
def errTold (K : Frag) (T1 T2 T3 : Addr) (Q : VK) : XK := fun cls d H => exmAny K cls [.ref T1, .ref T2, .ref T3] = some true ∧ ∃ C nm dd, cls = .ref C ∧ d = some dd ∧ ErrC K C nm ∧ (∃ xs : List (Str × V), H dd = some (.xd xs) ∧ List.lookup ("code" : Str) xs = some (V.str nm)) ∧
  ∀ p q, H p = none → upd H p (.tup []) q = none → Q (.ref q) (upd (upd H p (.tup [])) q (.tup [.str nm, .ref p]))
def TTtry (K : Frag) (T1 T2 T3 : Addr) (e0 : Str) : (XK → Hp → VK → Prop) → Hp → VK → Prop := fun tl H Q =>
  tl (errTold K T1 T2 T3 Q) H fun v H1 => 2 ≤ sizeLine ∧ ∀ p, H1 p = none → Q (.ref p) (upd H1 p (.tup [.str e0, v]))
/-- the field of any error: () -/
def spField : Addr × Obj → Sp := fun _ vs H Q _ => vs.length = 1 ∧ ∀ p, H p = none → Q (.ref p) (upd H p (.tup []))
theorem fn_field {P : Program} {w : World} {K : Frag} {mg : Str → Option Value} {base : Heap} {k : Nat} {f : Addr} {name qual y : Str} {params : Arguments} {scope : Scope} {dV kV doc pm cdv ct oc : Value} {an od : Option Addr} {osl : Array (Option Value)} {N : List Str} {kk : Nat} {p1 p2 : Pos}
    (lk : K.lookup f = some ⟨oc, od, .func (fnOf name qual params [.Return (some (.Tuple [] kk p1)) p2] scope dV kV doc pm an cdv ct), osl⟩) (hcd : codeIn K cdv qual = true) (S : FnScope N [y] scope) :
    FnS P w K mg base (k + 1) f (fnOf name qual params [.Return (some (.Tuple [] kk p1)) p2] scope dV kV doc pm an cdv ct) [y] spField := by
  refine fn_suite lk hcd S (fun p vs H Q E h => h.1) fun A outer s H vs Q p rm h => ?_
  refine ⟨_, pss_one (ps_ret (pe_tup pa_nil)), ?_⟩
  exact ⟨Nat.zero_le _, h.2⟩
section
variable {X : Cx}
theorem try_gives {Ng : List Str} {x a e e0 q x1 x2 x3 xf yf : Str} {sg : Scope} {g T1 T2 T3 ff : Addr} {fd : FuncData} {cdg : Value} {j k kk i1 i2 : Nat} {p1 p2 p3 p4 p5 p6 p7 p8 p9 p10 p11 p12 p13 p14 p15 p16 p17 p18 p19 p20 : Pos}
    (g1 : sg.names.lookup x1 = some .globalImplicit) (m1 : X.mg x1 = some (.ref T1)) (d1 : (x1 == ("__debug__" : Str)) = false) (g2 : sg.names.lookup x2 = some .globalImplicit) (m2 : X.mg x2 = some (.ref T2)) (d2 : (x2 == ("__debug__" : Str)) = false)
    (g3 : sg.names.lookup x3 = some .globalImplicit) (m3 : X.mg x3 = some (.ref T3)) (d3 : (x3 == ("__debug__" : Str)) = false) (gf : sg.names.lookup xf = some .globalImplicit) (mf : X.mg xf = some (.ref ff)) (df : (xf == ("__debug__" : Str)) = false)
    (kf : keepIn X.K (.ref ff) = true) (F : FnS X.prog X.w X.K X.mg X.base k ff fd [yf] spField) (bf : L2.Binds X.K fd [yf] [])
    (nd : Ng.Nodup) (hN : Ng[1]? = some e) (le : sg.names.lookup e = some .local) (de : (e == ("__debug__" : Str)) = false) (ce : (e == ("__classdict__" : Str)) = false)
    (hrm : ∀ (s : Shared) (b : Addr), RoomH k ((X.A.deeper (envOfC x sg s.heap.objs.size g cdg)).mark (some (.ref b))))
    (h0 : ∀ f : Addr, (L2.start Ng [V.ref f])[0]? = some (some (V.ref f))) (hl : Ng.length = 2) :
    GivesTo X Ng x sg g cdg [.Try [.Return (some (.Tuple [.Constant (.str e0) j p1, .Call (.Name a p2) [] [] p3] i1 p4)) p5]
      [.ExceptHandler (some (.Tuple [.Name x1 p6, .Name x2 p7, .Name x3 p8] kk p9)) (some e) [.Return (some (.Tuple [.Attribute (.Name e p10) "code" p11, .Call (.Name xf p12) [.Name e p13] [] p14] i2 p15)) p16] p17] [] [] p18] a q (TTtry X.K T1 T2 T3 e0) := by
  intro f c' s H Q tl act hc h
  let Z : Cx := (cxOf C8.CX0 X.prog X.w X.K X.mg X.base Ng x sg g cdg X.A X.stack s H C8.E0).nox
  refine ⟨_, pss_one (ps_try_as3 (X := Z) (i := 1) (ts := fun a cls d => tRet (tTup (tCons (tCode X.K a cls d (tVar 1)) (tCons (fun σ H Q => tCons (tVar 1) tNil σ H fun vs H1 => spField (a, default) vs H1 Q E0) tNil))))
    (tb := fun W D σ H => ∃ Ech : XK, (∀ cls d σ' H', Ech cls d H' → W cls d σ' H') ∧ σ[0]? = some (some (.ref f)) ∧ H c' = some (CodeO c' q) ∧ tl Ech H fun v H1 => 2 ≤ sizeLine ∧ ∀ p, H1 p = none → D.rt (.ref p) (upd H1 p (.tup [.str e0, v])))
    rfl rfl nd hN le g1 m1 d1 g2 m2 d2 g3 m3 d3 (fun W pn xe tk _ => ?_) (fun a oe cls d pn hz hf => ?_)), ?_⟩
  · refine ⟨fun pp sa σ Ha D I hh => ?_⟩
    obtain ⟨Ech, hW, k1, k2, k3⟩ := hh
    have body := pss_one (ps_ret (pos := p5) (pe_tup (x1 := i1) (pos := p4) (pa_cons (pe_str (x := e0) (j := j) (pos := p1)) (pa_cons (act W pn xe Ech p2 p3 tk hW) pa_nil))))
    exact body.run pp sa σ Ha D I ⟨k1, k2, k3⟩
  · have pe1 : PE (Z.suite a ((a, oe) :: pn)) (.Name e p10) (tVar 1) := pe_var (X := Z.suite a ((a, oe) :: pn)) (i := 1) hN (.inl le) de ce
    have pe2 : PE (Z.suite a ((a, oe) :: pn)) (.Name e p13) (tVar 1) := pe_var (X := Z.suite a ((a, oe) :: pn)) (i := 1) hN (.inl le) de ce
    have pe3 := pe_ecode (X := Z.suite a ((a, oe) :: pn)) (d := d) (cls := cls) (a := a) (oe := oe) (pos := p11) List.mem_cons_self hz hf pe1
    have pe4 : PE (Z.suite a ((a, oe) :: pn)) (.Call (.Name xf p12) [.Name e p13] [] p14) (fun σ H Q => tCons (tVar 1) tNil σ H fun vs H1 => spField (a, oe) vs H1 Q E0) :=
      pe_callS (X := Z.suite a ((a, oe) :: pn)) (p := (a, oe)) F (hrm s a) List.mem_cons_self gf mf kf bf (pa_cons pe2 pa_nil) df
    exact pss_one (ps_ret (pe_tup (pa_cons pe3 (pa_cons pe4 pa_nil))))
  · refine ⟨errTold X.K T1 T2 T3 Q, fun cls d σ' H' z => ?_, h0 f, hc, h⟩
    obtain ⟨em, C, nm, dd, ec, ed, T, hx, done⟩ := z
    refine ⟨em, fun b nb lb => ?_⟩
    have at1 : (σ'.set 1 (some (V.ref b)))[1]? = some (some (V.ref b)) := by
      rw [List.getElem?_set_self (by rw [lb]; show 1 < Ng.length; rw [hl]; exact Nat.lt_succ_self 1)]
    refine ⟨C, nm, dd, ec, ed, T, .ref b, at1, rfl, hx, .ref b, at1, rfl, fun p np => ⟨by rw [sizeLine_eq]; show 2 ≤ _; omega, fun r nr => ?_⟩⟩
    exact done p r np nr
end
end DX

set_option maxHeartbeats 4000000
namespace DX
open PySem PySem.Spec PySem.Calls PyProof.Rows PySem.W L2 LamX DL
variable [DL.Tabs]

/-! ### the table has grown: the new code objects are known from now on -/
theorem rel_lam {K : Frag} {β : Addr} {P : Hp} {σ : L2.St} {H H1 G : Hp} {s : Sta} (R : Rel K β P σ H G s) (eN : ExtN H H1) (tS : ∀ q ∈ Tabs.ts, TabS H1 q.1 q.2) : ∃ G1, Ext G G1 ∧ Rel K β P σ H1 G1 s := by
  classical
  have cnl : ∀ (p : Addr) (q : Str) (vs : List V), CodeO p q ≠ .lst vs := fun p q vs z => by
    have z' : HO.ext _ = HO.lst vs := z
    cases z'
  let G1 : Hp := fun p => if G p = none ∧ P p = none ∧ ∃ q, H1 p = some (CodeO p q) then H1 p else G p
  have some1 : ∀ {p o}, G p = some o → G1 p = some o := fun {p o} e => by
    show (if _ then _ else _) = _
    rw [if_neg (fun z => by rw [z.1] at e; cases e)]
    exact e
  have none1 : ∀ {p o}, G p = none → G1 p = some o → H1 p = some o ∧ P p = none ∧ ∃ q, o = CodeO p q := fun {p o} g e => by
    have e' : (if G p = none ∧ P p = none ∧ ∃ q, H1 p = some (CodeO p q) then H1 p else G p) = some o := e
    split at e'
    · rename_i c
      obtain ⟨_, c2, q, c3⟩ := c
      rw [c3] at e'
      cases e'
      exact ⟨c3, c2, q, rfl⟩
    · rw [g] at e'
      cases e'
  have stay : ∀ {p}, G p = none → (∀ q, H1 p ≠ some (CodeO p q)) → G1 p = none := fun {p} g h => by
    show (if _ then _ else _) = _
    rw [if_neg (fun z => z.2.2.elim fun q hq => h q hq)]
    exact g
  have xx : Ext G G1 := fun p o e => some1 e
  have lst1 : ∀ {p vs}, H p = some (.lst vs) → G p = none → H1 p = some (.lst vs) ∧ G1 p = none := fun {p vs} h g => by
    have h1 := eN p _ h (fun ps z => by cases z)
    exact ⟨h1, stay g fun q z => by rw [h1] at z; exact cnl p q vs (Option.some.inj z).symm⟩
  have noT : ∀ {p ps}, G p ≠ some (.tbl ps) := fun {p ps} => R.nt p ps
  refine ⟨G1, xx, ?_⟩
  exact {
    len := R.len
    gh := fun p o e => by
      cases hg : G p with
      | some o' =>
        rw [some1 hg] at e
        cases e
        exact eN p o (R.gh p o hg) (fun ps z => R.nt p ps (by rw [hg, z]))
      | none => exact (none1 hg e).1
    pr := fun p o e => by
      obtain ⟨h1, h2⟩ := R.pr p o e
      refine ⟨eN p o h1 (R.pt p o e).1, ?_⟩
      cases g : G1 p with
      | none => rfl
      | some o' =>
        have := (none1 h2 g).2.1
        rw [e] at this
        cases this
    pb := R.pb
    bag := by
      obtain ⟨us, h1, h2, h3⟩ := R.bag
      obtain ⟨k1, k2⟩ := lst1 h1 h2
      exact ⟨us, k1, k2, IsL.mono xx _ _ h3⟩
    dat := fun j d e => by
      obtain ⟨v, h1, h2⟩ := R.dat j d e
      exact ⟨v, h1, IsD.mono xx _ _ h2⟩
    own := fun j l e => by
      obtain ⟨p, vs, h1, h2, h3, h4, h5, h6⟩ := R.own j l e
      obtain ⟨k1, k2⟩ := lst1 h2 h3
      exact ⟨p, vs, h1, k1, k2, h4, h5, IsL.mono xx _ _ h6⟩
    dj := R.dj
    tabs := fun q hq => by
      obtain ⟨t0, ga, np⟩ := R.tabs q hq
      obtain ⟨ps, k1, k2, k3⟩ := tS q hq
      refine ⟨⟨ps, k1, k2, fun pos cv hc => ?_⟩, ?_, np⟩
      · obtain ⟨c, c1, c2⟩ := k3 pos cv hc
        refine ⟨c, c1, ?_⟩
        cases hg : G c with
        | some o =>
          rw [some1 hg]
          have := eN c o (R.gh c o hg) (fun ps z => R.nt c ps (by rw [hg, z]))
          rw [c2] at this
          exact this.symm
        | none =>
          have pn : P c = none := by
            cases e : P c with
            | none => rfl
            | some o =>
              have h1 := eN c o (R.pr c o e).1 (R.pt c o e).1
              rw [c2] at h1
              exact absurd (Option.some.inj h1).symm ((R.pt c o e).2 q.2)
          show (if _ then _ else _) = _
          rw [if_pos ⟨hg, pn, q.2, c2⟩]
          exact c2
      · refine stay ga fun r z => ?_
        rw [k1] at z
        exact codeO_ne ps (Option.some.inj z).symm
    nt := fun p ps e => by
      cases hg : G p with
      | some o =>
        rw [some1 hg] at e
        exact R.nt p ps (by rw [hg, e])
      | none =>
        obtain ⟨_, _, q, z⟩ := none1 hg e
        exact codeO_ne ps z.symm
    pt := R.pt }

/-! ### data, or an error of that name -/
/-- an error: the name of its class, its further fields -/
structure Er where
  nm : Str
  fs : List (Str × Dt)
abbrev DMX := Sta → Option ((Dt ⊕ Er) × Sta)
/-- the dict of such an error stands at dd -/
def xdOk (K : Frag) (β : Addr) (G : Hp) (dd : Addr) (er : Er) : Prop := ∃ xs : List (Str × V), G dd = some (.xd xs) ∧ List.lookup ("code" : Str) xs = some (V.str er.nm) ∧ ∀ p ∈ er.fs, ∃ v, xs.lookup p.1 = some v ∧ IsD K β G p.2 v
/-- what is wished at an error of the name nm -/
def errAt (K : Frag) (β : Addr) (P : Hp) (σ : L2.St) (G : Hp) (s : Sta) (W : XK) (er : Er) : Prop := ∀ C dd H' G', Ext G G' → Rel K β P σ H' G' s → ErrC K C er.nm → xdOk K β G' dd er → W (.ref C) (some dd) H'
def tOfX (K : Frag) (f : DMX) (W : XK) : TE := fun σ H Q => ∃ (β : Addr) (P G : Hp) (s : Sta) (r : Dt ⊕ Er) (s' : Sta), Rel K β P σ H G s ∧ f s = some (r, s') ∧ match r with
  | .inl d => ∀ v H' G', Ext G G' → Rel K β P σ H' G' s' → IsD K β G' d v → Q v H'
  | .inr er => errAt K β P σ G s' W er
def DEX (X : Cx) (W : XK) (e : Expr) (f : DMX) : Prop := PE X e (tOfX X.K f W)
def mTry (e0 : Str) (f : DMX) : DM Dt := fun s => (f s).bind fun p => match p.1 with
  | .inl d => some (.tup [.str e0, d], p.2)
  | .inr er => some (.tup [.str er.nm, .tup []], p.2)
theorem te_try {K : Frag} {T1 T2 T3 : Addr} {e0 : Str} {f : DMX} (hT : ∀ C nm, ErrC K C nm → exmAny K (.ref C) [.ref T1, .ref T2, .ref T3] = some true) :
    TEok K (tLam Tabs.ts (TTtry K T1 T2 T3 e0) (fun E => tOfX K f E)) (mTry e0 f) := by
  intro β P σ H G s d s' R e Q k
  unfold mTry at e
  obtain ⟨⟨r, s1⟩, e1, e⟩ := Option.bind_eq_some_iff.mp e
  refine ⟨fun q hq => ?_, fun H1 eN tS => ?_⟩
  · obtain ⟨⟨ps, t1, t2, t3⟩, ga, np⟩ := R.tabs q hq
    refine ⟨ps, t1, t2, fun pos cv hc => ?_⟩
    obtain ⟨c, c1, c2⟩ := t3 pos cv hc
    exact ⟨c, c1, R.gh c _ c2⟩
  · obtain ⟨G1, x1, R1⟩ := rel_lam R eN fun q hq => tS q hq
    refine ⟨β, P, G1, s, r, s1, R1, e1, ?_⟩
    cases r with
    | inl d0 =>
      cases e
      intro v H2 G2 x2 R2 i2
      refine ⟨by rw [sizeLine_eq]; omega, fun p hp => ?_⟩
      have xn := Ext.new (o := HO.tup [.str e0, v]) (R2.free hp)
      exact k _ _ _ ((x1.trans x2).trans xn) (R2.new hp) (is_tup.mpr ⟨p, _, rfl, .inl (.inl upd_same), isl_cons.mpr ⟨_, _, rfl, is_str.mpr rfl, isl_cons.mpr ⟨v, _, rfl, IsD.mono xn _ _ i2, isl_nil.mpr rfl⟩⟩⟩)
    | inr er =>
      cases e
      intro C dd H2 G2 x2 R2 ec g2
      obtain ⟨xs, g3, g4, _⟩ := g2
      refine ⟨hT C er.nm ec, C, er.nm, dd, rfl, rfl, ec, ⟨xs, R2.gh dd _ g3, g4⟩, fun p r hp hr => ?_⟩
      have R3 := R2.new (o := .tup []) hp
      have x3 := Ext.new (o := HO.tup []) (R2.free hp)
      have x4 := Ext.new (o := HO.tup [.str er.nm, .ref p]) (R3.free hr)
      have R4 := R3.new (o := .tup [.str er.nm, .ref p]) hr
      refine k _ _ _ (((x1.trans x2).trans x3).trans x4) R4 (is_tup.mpr ⟨r, _, rfl, .inl (.inl upd_same), isl_cons.mpr ⟨_, _, rfl, is_str.mpr rfl, isl_cons.mpr ⟨.ref p, _, rfl, IsD.mono x4 _ _ (is_tup.mpr ⟨p, [], rfl, .inl (.inl upd_same), isl_nil.mpr rfl⟩), isl_nil.mpr rfl⟩⟩⟩)
end DX

set_option maxHeartbeats 4000000
namespace DX
open PySem PySem.Spec PySem.Calls PyProof.Rows PySem.W L2 DL
variable [DL.Tabs]

/-! ### defs that may raise -/
abbrev FDX := List Dt → List Dt → Option ((Dt ⊕ Er) × List Dt)
def spX (K : Frag) (n : Nat) (F : FDX) : Sp := fun vs H Q E => ∃ (β : Addr) (P G : Hp) (ds bg : List Dt) (r : Dt ⊕ Er) (bg' : List Dt), vs.length = n ∧ IsL K β G ds vs ∧ Rel K β P [] H G ⟨[], bg⟩ ∧ F ds bg = some (r, bg') ∧ match r with
  | .inl d => ∀ v H' G', Ext G G' → Rel K β P [] H' G' ⟨[], bg'⟩ → IsD K β G' d v → Q v H'
  | .inr nm => errAt K β P [] G ⟨[], bg'⟩ E nm
def mAppX (F : FDX) (f : DM (List Dt)) : DMX := fun s => (f s).bind fun p => (F p.1 p.2.bag).bind fun q => some (q.1, { p.2 with bag := q.2 })
def mVal (f : DM Dt) : DMX := fun s => (f s).bind fun p => some (.inl p.1, p.2)
section
variable {X : Cx} {W : XK}
theorem dex_val {e : Expr} {f : DM Dt} (h : DE X e f) : DEX X W e (mVal f) := by
  obtain ⟨t, p, o⟩ := h
  refine ⟨fun pins s σ H Q I k => ?_⟩
  obtain ⟨β, P, G, a, r, a', R, e1, q⟩ := k
  unfold mVal at e1
  obtain ⟨⟨d, s1⟩, e2, e1⟩ := Option.bind_eq_some_iff.mp e1
  cases e1
  exact p.run pins s σ H Q I (o β P σ H G a d s1 R e2 Q q)
theorem dex_call {k : Nat} {f : Addr} {fd : FuncData} {ps : List Str} {n : Nat} {F : FDX} {x : Str} {e : Expr} {es : List Expr} {p pos : Pos} {g : DM (List Dt)} (FF : FnOk X.prog X.w X.K X.mg X.base (L2.CX X.prog X.w) k f fd ps (spX X.K n F)) (hr : Room k X.A) (hg : Gl X x) (hm : X.mg x = some (.ref f))
    (hk : keepIn X.K (.ref f) = true) (hb : L2.Binds X.K fd ps []) (tk : Takes X (fun cls d _ H => W cls d H)) (ha : DA X (e :: es) g) (hn : ∀ s ds s', g s = some (ds, s') → ds.length = n) (hdb : (x == ("__debug__" : Str)) = false := by decide)
    (he : starEach (e :: es) X.env = (false, eval e X.env) :: starEach es X.env := by rfl) (hpl : (backTo pos (starEach es X.env)).any (·.1) = false := by rfl) : DEX X W (.Call (.Name x p) (e :: es) [] pos) (mAppX F g) := by
  obtain ⟨t, p1, o1⟩ := ha
  have pe := pe_call (p := p) (pos := pos) FF hr hg hm hk hb .nil (passes_call (E := W) tk fun _ _ _ _ h => h) p1 hdb he hpl
  refine ⟨fun pins s σ H Q I h => pe.run pins s σ H Q I ?_⟩
  obtain ⟨β, P, G, a, r, a', R, e1, q⟩ := h
  unfold mAppX at e1
  obtain ⟨⟨y, s1⟩, e2, e1⟩ := Option.bind_eq_some_iff.mp e1
  obtain ⟨⟨z, bg'⟩, e3, e1⟩ := Option.bind_eq_some_iff.mp e1
  cases e1
  refine o1 β P σ H G a y s1 R e2 _ fun vs H1 G1 x1 R1 i1 => ?_
  rw [List.append_nil]
  refine ⟨β, shut β H1 G1, G1, y, s1.bag, z, bg', by rw [i1.len]; exact hn _ _ _ e2, i1, R1.callee, e3, ?_⟩
  cases z with
  | inl d => exact fun v H' G' x2 C i => q v H' G' (x1.trans x2) (R1.back x2 C) i
  | inr nm => exact fun C dd H' G' x2 R2 ec gd => q C dd H' G' (x1.trans x2) (R1.back x2 R2) ec gd
end

/-! ### statements -/
inductive ResX where
  | nx | bk | ct | rt (d : Dt) | ex (er : Er)
abbrev DMsX := Sta → Option (ResX × Sta)
def endX (K : Frag) (β : Addr) (P G : Hp) (D : Ends) (W : XK) (r : ResX) (s' : Sta) : Prop := match r with
  | .nx => ∀ σ' H' G', Ext G G' → Rel K β P σ' H' G' s' → D.nx σ' H'
  | .bk => ∀ σ' H' G', Ext G G' → Rel K β P σ' H' G' s' → D.bk σ' H'
  | .ct => ∀ σ' H' G', Ext G G' → Rel K β P σ' H' G' s' → D.ct σ' H'
  | .rt d => ∀ v σ' H' G', Ext G G' → Rel K β P σ' H' G' s' → IsD K β G' d v → D.rt v H'
  | .ex er => ∀ C dd σ' H' G', Ext G G' → Rel K β P σ' H' G' s' → ErrC K C er.nm → xdOk K β G' dd er → W (.ref C) (some dd) H'
theorem endX.mono {K : Frag} {β : Addr} {P G G1 : Hp} {D : Ends} {W : XK} {r : ResX} {s' : Sta} (e : Ext G G1) (h : endX K β P G D W r s') : endX K β P G1 D W r s' := by
  cases r with
  | nx => exact fun σ' H' G' x R => h σ' H' G' (e.trans x) R
  | bk => exact fun σ' H' G' x R => h σ' H' G' (e.trans x) R
  | ct => exact fun σ' H' G' x R => h σ' H' G' (e.trans x) R
  | rt d => exact fun v σ' H' G' x R => h v σ' H' G' (e.trans x) R
  | ex nm => exact fun C dd σ' H' G' x R => h C dd σ' H' G' (e.trans x) R
def tsX (K : Frag) (f : DMsX) (W : XK) : TS := fun D σ H => ∃ (β : Addr) (P G : Hp) (s : Sta) (r : ResX) (s' : Sta), Rel K β P σ H G s ∧ f s = some (r, s') ∧ endX K β P G D W r s'
def DSX (X : Cx) (W : XK) (st : Stmt) (f : DMsX) : Prop := PS X st (tsX X.K f W)
def DSXs (X : Cx) (W : XK) (st : List Stmt) (f : DMsX) : Prop := PSs X st (tsX X.K f W)
def toX : Res → ResX
  | .nx => .nx
  | .bk => .bk
  | .ct => .ct
  | .rt d => .rt d
def kVal (f : DMs) : DMsX := fun s => (f s).bind fun p => some (toX p.1, p.2)
def kSeqX (f g : DMsX) : DMsX := fun s => (f s).bind fun p => match p.1 with
  | .nx => g p.2
  | r => some (r, p.2)
def kIfX (c : DM Bool) (f g : DMsX) : DMsX := fun s => (c s).bind fun p => if p.1 = true then f p.2 else g p.2
def kRetX (f : DMX) : DMsX := fun s => (f s).bind fun p => match p.1 with
  | .inl d => some (.rt d, p.2)
  | .inr nm => some (.ex nm, p.2)
def kAsgX (i : Nat) (f : DMX) : DMsX := fun s => (f s).bind fun p => match p.1 with
  | .inl d => some (.nx, { p.2 with sl := p.2.sl.set i (some (.dat d)) })
  | .inr nm => some (.ex nm, p.2)
/-- a target of any form -/
def kAsgG (f : DMX) (h : Dt → Sta → Option Sta) : DMsX := fun s => (f s).bind fun p => match p.1 with
  | .inl d => (h d p.2).bind fun s' => some (.nx, s')
  | .inr nm => some (.ex nm, p.2)
def kDropX (f : DMX) : DMsX := fun s => (f s).bind fun p => match p.1 with
  | .inl _ => some (.nx, p.2)
  | .inr nm => some (.ex nm, p.2)
def kRaise (nm : Str) : DMsX := fun s => some (.ex ⟨nm, []⟩, s)
section
variable {X : Cx} {W : XK}
theorem dsx_val {st : Stmt} {f : DMs} (h : DS X st f) : DSX X W st (kVal f) := by
  obtain ⟨t, p, o⟩ := h
  refine ⟨fun pins s σ H D I k => p.run pins s σ H D I ?_⟩
  obtain ⟨β, P, G, a, r, a', R, e1, q⟩ := k
  unfold kVal at e1
  obtain ⟨⟨y, s1⟩, e2, e1⟩ := Option.bind_eq_some_iff.mp e1
  cases e1
  refine o β P σ H G a y s1 R e2 D ?_
  cases y <;> exact q
theorem dssx_val {st : List Stmt} {f : DMs} (h : DSs X st f) : DSXs X W st (kVal f) := by
  obtain ⟨t, p, o⟩ := h
  refine ⟨fun pins s σ H D I k => p.run pins s σ H D I ?_⟩
  obtain ⟨β, P, G, a, r, a', R, e1, q⟩ := k
  unfold kVal at e1
  obtain ⟨⟨y, s1⟩, e2, e1⟩ := Option.bind_eq_some_iff.mp e1
  cases e1
  refine o β P σ H G a y s1 R e2 D ?_
  cases y <;> exact q
theorem dssx_one {st : Stmt} {f : DMsX} (h : DSX X W st f) : DSXs X W [st] f := pss_one h
theorem dssx_cons {st : Stmt} {rest : List Stmt} {f g : DMsX} (h1 : DSX X W st f) (h2 : DSXs X W rest g) : DSXs X W (st :: rest) (kSeqX f g) := by
  have p := pss_cons h1 h2
  refine ⟨fun pins s σ H D I k => p.run pins s σ H D I ?_⟩
  obtain ⟨β, P, G, a, r, a', R, e1, q⟩ := k
  unfold kSeqX at e1
  obtain ⟨⟨y, s1⟩, e2, e1⟩ := Option.bind_eq_some_iff.mp e1
  refine ⟨β, P, G, a, y, s1, R, e2, ?_⟩
  cases y with
  | nx => exact fun σ1 H1 G1 x1 R1 => ⟨β, P, G1, s1, r, a', R1, e1, q.mono x1⟩
  | bk => cases e1; exact q
  | ct => cases e1; exact q
  | rt d => cases e1; exact q
  | ex nm => cases e1; exact q
theorem dsx_if {c : Expr} {a b : List Stmt} {fc : DM Bool} {f g : DMsX} {pos : Pos} (hc : DT X c fc) (ha : DSXs X W a f) (hb : DSXs X W b g) : DSX X W (.If c a b pos) (kIfX fc f g) := by
  obtain ⟨t, p, o⟩ := hc
  have p2 := ps_if (pos := pos) p ha hb
  refine ⟨fun pins s σ H D I k => p2.run pins s σ H D I ?_⟩
  obtain ⟨β, P, G, z, r, z', R, e1, q⟩ := k
  unfold kIfX at e1
  obtain ⟨⟨y, s1⟩, e2, e1⟩ := Option.bind_eq_some_iff.mp e1
  refine o β P σ H G z y s1 R e2 _ fun H1 G1 x1 R1 => ?_
  cases y with
  | true =>
    rw [if_pos rfl] at e1 ⊢
    exact ⟨β, P, G1, s1, r, z', R1, e1, q.mono x1⟩
  | false =>
    rw [if_neg Bool.false_ne_true] at e1 ⊢
    exact ⟨β, P, G1, s1, r, z', R1, e1, q.mono x1⟩
theorem dsx_ret {e : Expr} {f : DMX} {pos : Pos} (h : DEX X W e f) : DSX X W (.Return (some e) pos) (kRetX f) := by
  have p := ps_ret (pos := pos) h
  refine ⟨fun pins s σ H D I k => p.run pins s σ H D I ?_⟩
  obtain ⟨β, P, G, z, r, z', R, e1, q⟩ := k
  unfold kRetX at e1
  obtain ⟨⟨y, s1⟩, e2, e1⟩ := Option.bind_eq_some_iff.mp e1
  refine ⟨β, P, G, z, y, s1, R, e2, ?_⟩
  cases y with
  | inl d => cases e1; exact fun v H' G' x R' i => q v σ H' G' x R' i
  | inr nm => cases e1; exact fun C dd H' G' x R' ec gd => q C dd σ H' G' x R' ec gd
theorem dsx_set {i : Nat} {x : Str} {e : Expr} {f : DMX} {pos' pos : Pos} (hN : X.N.Nodup) (hi : X.N[i]? = some x) (hx : Loc X.env.scope x) (h : DEX X W e f) (hs : swapsWith e (some (.Name x pos')) pos.line X.env = pure false := by rfl)
    (hf : X.fn x = true ∨ X.env.scope.names.lookup x = some .local := by first | exact .inl rfl | exact .inr rfl | assumption) : DSX X W (.Assign [.Name x pos'] e pos) (kAsgX i f) := by
  have p := ps_set (pos' := pos') (pos := pos) hN hi hx h hs hf
  refine ⟨fun pins s σ H D I k => p.run pins s σ H D I ?_⟩
  obtain ⟨β, P, G, z, r, z', R, e1, q⟩ := k
  unfold kAsgX at e1
  obtain ⟨⟨y, s1⟩, e2, e1⟩ := Option.bind_eq_some_iff.mp e1
  refine ⟨β, P, G, z, y, s1, R, e2, ?_⟩
  cases y with
  | inl d => cases e1; exact fun v H' G' x R' i => q _ H' G' x (R'.set i)
  | inr nm => cases e1; exact fun C dd H' G' x R' ec gd => q C dd σ H' G' x R' ec gd
theorem dsx_asg {tg e : Expr} {f : DMX} {is : List Nat} {h : Dt → Sta → Option Sta} {pos : Pos} (he : DEX X W e f) (hg : DG X tg is h) (hs : swapsWithSole [tg] e pos.line X.env = pure false := by rfl) (hw : swappedStores [tg] e X.env = pure none := by rfl)
    (h1 : (assignEach [tg] X.env).map (·.2) = [assign tg X.env] := by rfl) : DSX X W (.Assign [tg] e pos) (kAsgG f h) := by
  obtain ⟨g, p2, o2⟩ := hg
  have p := ps_asg (pos := pos) he p2 hs hw h1
  refine ⟨fun pins s σ H D I k => p.run pins s σ H D I ?_⟩
  obtain ⟨β, P, G, z, r, z', R, e1, q⟩ := k
  unfold kAsgG at e1
  obtain ⟨⟨y, s1⟩, e2, e1⟩ := Option.bind_eq_some_iff.mp e1
  refine ⟨β, P, G, z, y, s1, R, e2, ?_⟩
  cases y with
  | inl d =>
    obtain ⟨s2, e3, e1⟩ := Option.bind_eq_some_iff.mp e1
    cases e1
    exact fun v H' G' x R' i => o2 β P σ H' G' s1 d v z' R' i e3 _ fun σ2 H2 G2 x2 R2 _ _ => q σ2 H2 G2 (x.trans x2) R2
  | inr nm => cases e1; exact fun C dd H' G' x R' ec gd => q C dd σ H' G' x R' ec gd
theorem dsx_expr {e : Expr} {f : DMX} {pos : Pos} (h : DEX X W e f) (hs : swapsWith e none pos.line X.env = pure false := by rfl) : DSX X W (.Expr e pos) (kDropX f) := by
  have p := ps_expr (pos := pos) h hs
  refine ⟨fun pins s σ H D I k => p.run pins s σ H D I ?_⟩
  obtain ⟨β, P, G, z, r, z', R, e1, q⟩ := k
  unfold kDropX at e1
  obtain ⟨⟨y, s1⟩, e2, e1⟩ := Option.bind_eq_some_iff.mp e1
  refine ⟨β, P, G, z, y, s1, R, e2, ?_⟩
  cases y with
  | inl d => cases e1; exact fun v H' G' x R' i => q σ H' G' x R'
  | inr nm => cases e1; exact fun C dd H' G' x R' ec gd => q C dd σ H' G' x R' ec gd
theorem dsx_raise {CX : CXT} {nm x : Str} {C fI : Addr} {k : Nat} {fd : FuncData} {p p2 pos : Pos} (hc : X.calm = true) (tk : Takes X (fun cls d _ H => W cls d H)) (T : ErrC X.K C nm) (iC : findIn X.K (.ref C) "__init__" = some (some (.ref fI))) (tI : typeIn X.K (.ref fI) = some (.type "function"))
    (F1 : FnOk X.prog X.w X.K X.mg X.base CX k fI fd ["self"] (spInit X.K)) (hr : Room (k + 1) X.A) (hb : L2.Binds X.K fd ["self"] []) (hx : Passes CX X (fun _ _ _ => False)) (hg : Gl X x) (hm : X.mg x = some (.ref C))
    (hdb : (x == ("__debug__" : Str)) = false := by decide) : DSX X W (.Raise (some (.Call (.Name x p) [] [] p2)) none pos) (kRaise nm) := by
  have pr := ps_raise (pos := pos) hc tk (pmk_err0 (p := p) (pos := p2) T iC tI F1 hr hb hx hg hm hdb)
  refine ⟨fun pins s σ H D I k => pr.run pins s σ H D I ?_⟩
  obtain ⟨β, P, G, z, r, z', R, e1, q⟩ := k
  cases e1
  intro d hd
  exact q C d σ _ _ (Ext.new (R.free hd)) (R.new hd) T ⟨_, upd_same, by rfl, fun p hp => nomatch hp⟩
end

/-! ### a def -/
def fnDX (n : Nat) (f : DMsX) : FDX := fun ds bg => (f ⟨ds.map (fun d => some (.dat d)) ++ List.replicate (n - ds.length) none, bg⟩).bind fun p => match p.1 with
  | .rt d => some (.inl d, p.2.bag)
  | .nx => some (.inl .non, p.2.bag)
  | .ex nm => some (.inr nm, p.2.bag)
  | _ => none
section
variable {P : Program} {w : World} {K : Frag} {mg : Str → Option Value} {base : Heap}
theorem fnx_ok {x qual : Str} {st : Stmt} {f : Addr} {fd : FuncData} {N ps : List Str} {k n : Nat} {g : DMsX} (F : Fun K x qual st f fd) (S : FnScope N ps (defScope st)) (hn : ps.length = n := by rfl)
    (hb : ∀ (cdv : Value) (A : Around) (outer : List Env) (s : Shared) (H : Hp) (E : XK), Room k (A.deeper (envOfC qual (defScope st) s.heap.objs.size f cdv)) → Takes (cxOf (L2.CX P w) P w K mg base N qual (defScope st) f cdv A outer s H E) (fun cls d _ H => E cls d H) →
      DSXs (cxOf (L2.CX P w) P w K mg base N qual (defScope st) f cdv A outer s H E) E (defBody st) g) : FnOk P w K mg base (L2.CX P w) (k + 1) f fd ps (spX K n (fnDX N.length g)) := by
  refine F.okX S (fun vs H Q E h => ?_) (fun cdv A outer s H vs Q E hr h => ?_)
  · obtain ⟨β, P, G, ds, bg, r, bg', h, _⟩ := h
    rw [hn]
    exact h
  · obtain ⟨β, PP, G, ds, bg, r, bg', hl, i, R, e, q⟩ := h
    refine ⟨_, hb cdv A outer s H E hr (takes_of rfl rfl rfl rfl), ?_⟩
    unfold fnDX at e
    obtain ⟨⟨res, s'⟩, e1, e⟩ := Option.bind_eq_some_iff.mp e
    refine ⟨β, PP, G, _, res, s', rel_start i R, e1, ?_⟩
    cases res with
    | nx =>
      cases e
      exact fun σ' H' G' x R' => q .non H' G' x R'.leave (is_non.mpr rfl)
    | rt d =>
      cases e
      exact fun v σ' H' G' x R' iv => q v H' G' x R'.leave iv
    | ex nm =>
      cases e
      exact fun C dd σ' H' G' x R' ec gd => q C dd H' G' x R'.leave ec gd
    | bk => cases e
    | ct => cases e
end
end DX

set_option maxHeartbeats 4000000
namespace DX
open PySem PySem.Spec PySem.Calls PyProof.Rows PySem.W L2 LamX DL
variable [DL.Tabs]

/-! ### the law's try(lambda: ..) -/
section
variable {X : Cx}
theorem de_try {T1 T2 T3 g c Pt : Addr} {x a e0 : Str} {k : Nat} {pg : Arguments} {bg : List Stmt} {sg : Scope} {dV kV doc pm cdv ct oc : Value} {an od : Option Addr} {osl : Array (Option Value)} {Ng : List Str} {params : Arguments} {body : Expr} {scope : Scope} {f : DMX} {p lpos pos : Pos}
    (hT : ∀ C nm, ErrC X.K C nm → exmAny X.K (.ref C) [.ref T1, .ref T2, .ref T3] = some true) (hg : Gl X x) (hm : X.mg x = some (.ref g)) (hk : keepIn X.K (.ref g) = true)
    (lk : X.K.lookup g = some ⟨oc, od, .func (fnOf x x pg bg sg dV kV doc pm an cdv ct), osl⟩) (hcg : codeIn X.K cdv x = true) (hb : L2.Binds X.K (fnOf x x pg bg sg dV kV doc pm an cdv ct) [a] []) (Sg : FnScope Ng [a] sg) (hNg : Ng[0]? = some a) (hva : Vis sg a)
    (hG : GivesTo X Ng x sg g cdv bg a (X.env.qual ++ "<lambda>") (TTtry X.K T1 T2 T3 e0)) (hmT : (Pt, X.env.qual ++ "<lambda>") ∈ Tabs.ts) (TB : TabB X.base X.mg c Pt) (hcode : X.env.code = .ref c) (hr : Room (k + 2) X.A) (L : LamS X.env.scope scope) (hdef : defaultsOf params X.env = ([], []))
    (hbind : ∀ (q : Str) (cl : List (Str × Addr)) (pm cv ctv : Value), bindArgs (kla_fn "<lambda>" q params body scope cl pm cv ctv) ⟨[], []⟩ = pure [])
    (hbody : ∀ (A : Around) (outer : List Env) (s : Shared) (H : Hp) (E : XK) (fa c' : Addr), Room k (A.deeper (lamEnv X scope s.heap.objs.size fa c')) → DEX (lamCx X A outer s H E scope fa c') E body f)
    (hdb : (x == ("__debug__" : Str)) = false := by decide) (hd : (a == ("__debug__" : Str)) = false := by decide) (hcd : (a == ("__classdict__" : Str)) = false := by decide) :
    DE X (.Call (.Name x p) [.Lambda params body scope lpos] [] pos) (mTry e0 f) :=
  ⟨_, pe_lamcall (T := Tabs.ts) (t := fun E => tOfX X.K f E) hg hm hk lk hcg hb Sg hNg hva hG TB hcode hmT (fun p hp e => Tabs.uq p hp _ hmT e) hr L hdef hbind hbody hdb hd hcd, te_try hT⟩
end

end DX

set_option maxHeartbeats 4000000
namespace DX
open PySem PySem.Spec PySem.Calls PyProof.Rows PySem.W L2 DL
variable [DL.Tabs]

/-! ### for, in a def that may raise -/
def loopX (h : Dt → Sta → Option Sta) (b : DMsX) : List Dt → DMsX
  | [], s => some (.nx, s)
  | d :: r, s => (h d s).bind fun s1 => (b s1).bind fun p => match p.1 with
    | .nx => loopX h b r p.2
    | .ct => loopX h b r p.2
    | .bk => some (.nx, p.2)
    | .rt v => some (.rt v, p.2)
    | .ex nm => some (.ex nm, p.2)
def kForX (f : DM (List Dt)) (h : Dt → Sta → Option Sta) (b : DMsX) : DMsX := fun s => (f s).bind fun p => loopX h b p.1 p.2
def whileX (c : DM Bool) (b : DMsX) : Nat → DMsX
  | 0, _ => none
  | n + 1, s => (c s).bind fun p => if p.1 = true then (b p.2).bind fun q => match q.1 with
      | .nx => whileX c b n q.2
      | .ct => whileX c b n q.2
      | .bk => some (.nx, q.2)
      | .rt d => some (.rt d, q.2)
      | .ex nm => some (.ex nm, q.2)
    else some (.nx, p.2)
section
variable {X : Cx} {W : XK}
theorem dsx_for {tg iter : Expr} {body : List Stmt} {f : DM (List Dt)} {is : List Nat} {h : Dt → Sta → Option Sta} {b : DMsX} {pos : Pos} (hp : PassesOwn (model X.prog X.w) X.A X.env X.xe) (hc : X.calm = true) (hi : DI X tg iter f) (hg : DG X tg is h) (hb : DSXs X W body b)
    (hs : ∀ x, foldedSetIterable iter X.env x = pure x := by intro _; rfl) : DSX X W (.For tg iter body [] pos) (kForX f h b) := by
  obtain ⟨wi, p1, o1⟩ := hi
  obtain ⟨g, p2, o2⟩ := hg
  have pf := ps_for (pos := pos) hp hc p1 p2 hb hs
  refine ⟨fun pins s0 σ H D I kk => pf.run pins s0 σ H D I ?_⟩
  obtain ⟨β, P, G, s, r, s', R, e, k⟩ := kk
  unfold kForX at e
  obtain ⟨⟨l, s1⟩, e1, e⟩ := Option.bind_eq_some_iff.mp e
  refine o1 β P σ H G s l s1 R e1 _ fun J H1 G1 Gd Y x1 R1 wk hG hY => ?_
  refine for_it wk (fun i σ2 H2 => ∃ G2 s2, Ext G1 G2 ∧ Rel X.K β P σ2 H2 G2 s2 ∧ loopX h b (l.drop i) s2 = some (r, s')) ⟨G1, s1, Ext.refl G1, R1, e⟩ (fun i σ2 H2 hi ⟨G2, s2, x2, R2, _⟩ => hG H2 G2 x2 R2.gh) ?_ ?_
  · rintro i x σ2 H2 H3 hi ⟨G2, s2, x2, R2, e2⟩ y
    have hd : l[i]? = some l[i] := List.getElem?_eq_getElem hi
    obtain ⟨G3, x3, R3, i3⟩ := hY i l[i] H2 x H3 P σ2 G2 s2 hd x2 R2 y
    rw [List.drop_eq_getElem_cons hi] at e2
    unfold loopX at e2
    obtain ⟨s3, e3, e2⟩ := Option.bind_eq_some_iff.mp e2
    obtain ⟨⟨res, s4⟩, e4, e2⟩ := Option.bind_eq_some_iff.mp e2
    refine o2 β P σ2 H3 G3 s2 l[i] x s3 R3 i3 e3 _ fun σ4 H4 G4 x4 R4 _ _ => ?_
    refine ⟨β, P, G4, s3, res, s4, R4, e4, ?_⟩
    have xx := ((x1.trans x2).trans x3).trans x4
    cases res with
    | nx => exact fun σ5 H5 G5 x5 R5 => ⟨G5, s4, ((x2.trans x3).trans x4).trans x5, R5, e2⟩
    | ct => exact fun σ5 H5 G5 x5 R5 => ⟨G5, s4, ((x2.trans x3).trans x4).trans x5, R5, e2⟩
    | bk => cases e2; exact fun σ5 H5 G5 x5 R5 => k σ5 H5 G5 (xx.trans x5) R5
    | rt d => cases e2; exact fun v σ5 H5 G5 x5 R5 i5 => k v σ5 H5 G5 (xx.trans x5) R5 i5
    | ex nm => cases e2; exact fun C dd σ5 H5 G5 x5 R5 ec gd => k C dd σ5 H5 G5 (xx.trans x5) R5 ec gd
  · rintro σ2 H2 ⟨G2, s2, x2, R2, e2⟩
    rw [List.drop_length] at e2
    cases e2
    exact k σ2 H2 G2 (x1.trans x2) R2
theorem dsx_while {c : Expr} {body : List Stmt} {fc : DM Bool} {b : DMsX} {pos : Pos} (n : Nat) (hp : PassesOwn (model X.prog X.w) X.A X.env X.xe) (hc : DT X c fc) (hb : DSXs X W body b) : DSX X W (.While c body [] pos) (whileX fc b n) := by
  obtain ⟨tc, p1, o1⟩ := hc
  have pw := ps_while (pos := pos) hp p1 hb
  refine ⟨fun pins s0 σ H D I kk => pw.run pins s0 σ H D I ?_⟩
  obtain ⟨β, P, G, s, r, s', R, e, k⟩ := kk
  refine ⟨fun m σ2 H2 => ∃ G2 s2, Ext G G2 ∧ Rel X.K β P σ2 H2 G2 s2 ∧ whileX fc b m s2 = some (r, s'), ⟨n, G, s, Ext.refl G, R, e⟩, ?_⟩
  rintro m σ2 H2 ⟨G2, s2, x2, R2, e2⟩
  cases m with
  | zero => cases e2
  | succ m =>
    unfold whileX at e2
    obtain ⟨⟨bv, s3⟩, e3, e2⟩ := Option.bind_eq_some_iff.mp e2
    refine o1 β P σ2 H2 G2 s2 bv s3 R2 e3 _ fun H3 G3 x3 R3 => ?_
    cases bv with
    | true =>
      rw [if_pos rfl] at e2 ⊢
      obtain ⟨⟨res, s4⟩, e4, e2⟩ := Option.bind_eq_some_iff.mp e2
      refine ⟨fun σ' H' => ∃ G2 s2, Ext G G2 ∧ Rel X.K β P σ' H' G2 s2 ∧ whileX fc b m s2 = some (r, s'), fun σ' H' h => ⟨m, Nat.lt_succ_self m, h⟩, ?_⟩
      refine ⟨β, P, G3, s3, res, s4, R3, e4, ?_⟩
      cases res with
      | nx => exact fun σ5 H5 G5 x5 R5 => ⟨G5, s4, (x2.trans x3).trans x5, R5, e2⟩
      | ct => exact fun σ5 H5 G5 x5 R5 => ⟨G5, s4, (x2.trans x3).trans x5, R5, e2⟩
      | bk => cases e2; exact fun σ5 H5 G5 x5 R5 => k σ5 H5 G5 ((x2.trans x3).trans x5) R5
      | rt d => cases e2; exact fun v σ5 H5 G5 x5 R5 i5 => k v σ5 H5 G5 ((x2.trans x3).trans x5) R5 i5
      | ex nm => cases e2; exact fun C dd σ5 H5 G5 x5 R5 ec gd => k C dd σ5 H5 G5 ((x2.trans x3).trans x5) R5 ec gd
    | false =>
      rw [if_neg Bool.false_ne_true] at e2 ⊢
      cases e2
      exact k σ2 H3 G3 (x2.trans x3) R3
theorem dssx_nil : DSXs X W [] (kVal kSkip) := dssx_val dss_nil
end
end DX

namespace DX
open PySem PySem.Spec PySem.Calls PyProof.Rows PySem.W L2 LamX DL
variable [DL.Tabs]
variable [DL.Tabs]

/-! ### arguments of which one may raise -/
abbrev DMAX := Sta → Option ((List Dt ⊕ Er) × Sta)
def taX (K : Frag) (f : DMAX) (W : XK) : TA := fun σ H Q => ∃ (β : Addr) (P G : Hp) (s : Sta) (r : List Dt ⊕ Er) (s' : Sta), Rel K β P σ H G s ∧ f s = some (r, s') ∧ match r with
  | .inl ds => ∀ vs H' G', Ext G G' → Rel K β P σ H' G' s' → IsL K β G' ds vs → Q vs H'
  | .inr er => errAt K β P σ G s' W er
def DAX (X : Cx) (W : XK) (es : List Expr) (f : DMAX) : Prop := PA X es (taX X.K f W)
def mValA (f : DM (List Dt)) : DMAX := fun s => (f s).bind fun p => some (.inl p.1, p.2)
def mConsX (f : DMX) (g : DMAX) : DMAX := fun s => (f s).bind fun p => match p.1 with
  | .inl d => (g p.2).bind fun q => match q.1 with
    | .inl ds => some (.inl (d :: ds), q.2)
    | .inr er => some (.inr er, q.2)
  | .inr er => some (.inr er, p.2)
def mTupX (f : DMAX) : DMX := fun s => (f s).bind fun p => match p.1 with
  | .inl ds => if ds.length ≤ 1000 then some (.inl (.tup ds), p.2) else none
  | .inr er => some (.inr er, p.2)
theorem errAt.mono {K : Frag} {β : Addr} {P : Hp} {σ : L2.St} {G G1 : Hp} {s : Sta} {W : XK} {er : Er} (e : Ext G G1) (h : errAt K β P σ G s W er) : errAt K β P σ G1 s W er := fun C dd H' G' x R => h C dd H' G' (e.trans x) R
section
variable {X : Cx} {W : XK}
theorem dax_of {es : List Expr} {f : DM (List Dt)} (h : DA X es f) : DAX X W es (mValA f) := by
  obtain ⟨t, p, o⟩ := h
  refine ⟨fun pos pins s σ H Q I k => ?_⟩
  obtain ⟨β, P, G, a, r, a', R, e1, q⟩ := k
  unfold mValA at e1
  obtain ⟨⟨ds, s1⟩, e2, e1⟩ := Option.bind_eq_some_iff.mp e1
  cases e1
  exact p.run pos pins s σ H Q I (o β P σ H G a ds s1 R e2 Q q)
theorem dax_cons {e : Expr} {es : List Expr} {f : DMX} {g : DMAX} (h : DEX X W e f) (hr : DAX X W es g) (hs : starEach (e :: es) X.env = (false, eval e X.env) :: starEach es X.env := by rfl) : DAX X W (e :: es) (mConsX f g) := by
  have pc := pa_cons h hr hs
  refine ⟨fun pos pins s σ H Q I k => pc.run pos pins s σ H Q I ?_⟩
  obtain ⟨β, P, G, a, r, a', R, e1, q⟩ := k
  unfold mConsX at e1
  obtain ⟨⟨y, s1⟩, e2, e1⟩ := Option.bind_eq_some_iff.mp e1
  refine ⟨β, P, G, a, y, s1, R, e2, ?_⟩
  cases y with
  | inr er => cases e1; exact q
  | inl d =>
    obtain ⟨⟨z, s2⟩, e3, e1⟩ := Option.bind_eq_some_iff.mp e1
    intro v H1 G1 x1 R1 i1
    refine ⟨β, P, G1, s1, z, s2, R1, e3, ?_⟩
    cases z with
    | inl ds => cases e1; exact fun vs H2 G2 x2 R2 i2 => q _ H2 G2 (x1.trans x2) R2 (isl_cons.mpr ⟨v, vs, rfl, IsD.mono x2 _ _ i1, i2⟩)
    | inr er => cases e1; exact errAt.mono x1 q
theorem dex_tup {es : List Expr} {f : DMAX} {kk : Nat} {pos : Pos} (h : DAX X W es f) : DEX X W (.Tuple es kk pos) (mTupX f) := by
  have pt := pe_tup (x1 := kk) (pos := pos) h
  refine ⟨fun pins s σ H Q I k => pt.run pins s σ H Q I ?_⟩
  obtain ⟨β, P, G, a, r, a', R, e1, q⟩ := k
  unfold mTupX at e1
  obtain ⟨⟨y, s1⟩, e2, e1⟩ := Option.bind_eq_some_iff.mp e1
  refine ⟨β, P, G, a, y, s1, R, e2, ?_⟩
  cases y with
  | inr er => cases e1; exact q
  | inl ds =>
    dsimp only at e1
    split at e1
    · rename_i hl
      cases e1
      intro vs H1 G1 x1 R1 i1
      refine ⟨Nat.le_trans (by rw [i1.len]; exact hl) (by decide), fun p hp => ?_⟩
      have xn := Ext.new (o := HO.tup vs) (R1.free hp)
      exact q _ _ _ (x1.trans xn) (R1.new hp) (is_tup.mpr ⟨p, vs, rfl, .inl (.inl upd_same), IsL.mono xn _ _ i1⟩)
    · cases e1
end

/-! ### an own class of errors, its facts; TableError's __init__ -/
/-- what the heap's fixed part says of an own class of errors -/
structure ErrB (K : Frag) (C : Addr) (x : Str) (T1 T2 T3 : Addr) : Prop where
  rd : readsIn K C (.type "type") = true
  fc : findCls K (.ref C) (.type "type") "__name__" = some (.get (.builtin "getset_descriptor.__get__") (.builtin "type.__name__") (.ref C) (.type "type"))
  nm : nameIn K C = some x
  noc : findIn K (.ref C) "code" = some none
  hg : findIn K (.ref C) "__getattribute__" = some (some (.builtin "BaseException.__getattribute__"))
  hk : findIn K (.ref C) "__getattr__" = some none
  hs : subIn K (.ref C) (.type "BaseException") = some true
  hd : hasDictIn K C = true
  ha : findIn K (.ref C) "__class__" = some (some (.builtin "object.__class__"))
  hn : specialIn K (.builtin "object.__class__") "__get__" = some (some (.builtin "getset_descriptor.__get__"))
  ht : takesIn K (.builtin "object.__class__") = some true
  hm : mroIn K C (.type "object") = some true
  sa : findIn K (.ref C) "__setattr__" = some (some (.builtin "object.__setattr__"))
  tyC : typeIn K (.ref C) = some (.type "type")
  kC : keepIn K (.ref C) = true
  am : exmAny K (.ref C) [.ref T1, .ref T2, .ref T3] = some true
theorem ErrB.to {K : Frag} {C : Addr} {x : Str} {T1 T2 T3 : Addr} (B : ErrB K C x T1 T2 T3) (h1 : nsIn K mainGlobals "TableError" = some (some (.ref T1))) (h2 : nsIn K mainGlobals "Missing" = some (some (.ref T2))) (h3 : nsIn K mainGlobals "NothingLeft" = some (some (.ref T3)))
    (hc : ∃ nm q N bs bm sn sub ab col dd k0 k1 k2 k3 k5, K.lookup C = some (excClassObj nm q C N bs bm true sn sub ab col dd k0 k1 k2 k3 k5 "ValueError.__new__") ∧ PySem.HandSPX.refsVE bm = true) : ErrC K C x where
  oex := ⟨hc, B.sa, B.hs, B.tyC, B.kC⟩
  exc := ⟨B.hg, B.hk, B.hs, B.hd, B.ha, B.hn, B.ht, B.hm⟩
  rd := B.rd
  fc := B.fc
  nm := B.nm
  noc := B.noc
  ca := fun S1 S2 S3 g1 g2 g3 => by
    rw [h1] at g1
    rw [h2] at g2
    rw [h3] at g3
    cases g1
    cases g2
    cases g3
    exact B.am
/-- the class x at C, its __init__ at fI -/
structure ErrK (K : Frag) (mg : Str → Option Value) (x : Str) (fI : Addr) : Prop where
  ex : ∃ C, mg x = some (.ref C) ∧ ErrC K C x ∧ findIn K (.ref C) "__init__" = some (some (.ref fI)) ∧ typeIn K (.ref fI) = some (.type "function")
section
variable {X : Cx} {W : XK}
theorem dsx_raiseK {x : Str} {fI : Addr} {k : Nat} {fd : FuncData} {p p2 pos : Pos} (T : ErrK X.K X.mg x fI) (tk : Takes X (fun cls d _ H => W cls d H)) (hr : Room (k + 1) X.A)
    (F1 : FnOk X.prog X.w X.K X.mg X.base CX0 k fI fd ["self"] (spInit X.K)) (hb : L2.Binds X.K fd ["self"] []) (hg : Gl X x) (hc : X.calm = true := by rfl) (hdb : (x == ("__debug__" : Str)) = false := by decide) : DSX X W (.Raise (some (.Call (.Name x p) [] [] p2)) none pos) (kRaise x) := by
  obtain ⟨C, m, T, i, t⟩ := T.ex
  exact dsx_raise hc tk T i t F1 hr hb (fun _ _ _ _ _ _ _ h => h.elim) hg m hdb
end

/-! ### a lambda handed to the law's try -/
section
variable {X : Cx}
theorem de_tryF {T1 T2 T3 g c Pt : Addr} {st : Stmt} {fd : FuncData} {Ng : List Str} {x a e0 : Str} {k : Nat} {params : Arguments} {body : Expr} {scope : Scope} {f : DMX} {p lpos pos : Pos} (F : Fun X.K x x st g fd) (Sg : FnScope Ng [a] (defScope st))
    (h1 : nsIn X.K mainGlobals "TableError" = some (some (.ref T1))) (h2 : nsIn X.K mainGlobals "Missing" = some (some (.ref T2))) (h3 : nsIn X.K mainGlobals "NothingLeft" = some (some (.ref T3)))
    (hg : Gl X x) (hm : X.mg x = some (.ref g)) (hb : L2.Binds X.K fd [a] []) (hNg : Ng[0]? = some a) (hva : Vis (defScope st) a)
    (hG : ∀ cdv : Value, GivesTo X Ng x (defScope st) g cdv (defBody st) a (X.env.qual ++ "<lambda>") (TTtry X.K T1 T2 T3 e0)) (hmT : (Pt, X.env.qual ++ "<lambda>") ∈ Tabs.ts) (TB : TabB X.base X.mg c Pt) (hcode : X.env.code = .ref c) (hr : Room (k + 2) X.A) (L : LamS X.env.scope scope) (hdef : defaultsOf params X.env = ([], []))
    (hbind : ∀ (q : Str) (cl : List (Str × Addr)) (pm cv ctv : Value), bindArgs (kla_fn "<lambda>" q params body scope cl pm cv ctv) ⟨[], []⟩ = pure [])
    (hbody : ∀ (A : Around) (outer : List Env) (s : Shared) (H : Hp) (E : XK) (fa c' : Addr), Room k (A.deeper (lamEnv X scope s.heap.objs.size fa c')) → Takes (lamCx X A outer s H E scope fa c') (fun cls d _ H => E cls d H) → DEX (lamCx X A outer s H E scope fa c') E body f)
    (hdb : (x == ("__debug__" : Str)) = false := by decide) (hd : (a == ("__debug__" : Str)) = false := by decide) (hcd : (a == ("__classdict__" : Str)) = false := by decide) :
    DE X (.Call (.Name x p) [.Lambda params body scope lpos] [] pos) (mTry e0 f) := by
  obtain ⟨oc, od, kV, doc, pm, an, cdv, ct, osl, rfl, lk, hcg⟩ := F.ex
  exact de_try (fun C nm T => T.ca _ _ _ h1 h2 h3) hg hm F.kp lk hcg hb Sg hNg hva (hG cdv) hmT TB hcode hr L hdef hbind (fun A outer s H E fa c' hr' => hbody A outer s H E fa c' hr' (takes_of rfl rfl rfl rfl)) hdb hd hcd
end
end DX

namespace DX
open PySem PySem.Spec PySem.Calls PyProof.Rows PySem.W L2 LamX DL
open L2H (RoomH)
variable [DL.Tabs]

/-- the table of a code object -/
def tabOf (K : Frag) (c : Addr) : Option Addr := match K.lookup c with
  | some ⟨_, _, .fields vs, _⟩ => (match vs.getD 11 .none with
    | .ref P => some P
    | _ => none)
  | _ => none

/-! ### a def whose code object is known -/
structure FunC (K : Frag) (x qual : Str) (st : Stmt) (f : Addr) (fd : FuncData) (c : Addr) : Prop where
  ex : ∃ (oc : Value) (od : Option Addr) (kV doc pm : Value) (an : Option Addr) (ct : Value) (osl : Array (Option Value)),
    fd = fnOf x qual (defArgs st) (defBody st) (defScope st) .none kV doc pm an (.ref c) ct ∧ K.lookup f = some ⟨oc, od, .func fd, osl⟩ ∧ codeIn K (.ref c) qual = true
section
variable {P : Program} {w : World} {K : Frag} {mg : Str → Option Value} {base : Heap}
theorem FunC.ok {x qual : Str} {st : Stmt} {f c : Addr} {fd : FuncData} {N ps : List Str} {k : Nat} {sp : Sp} (F : FunC K x qual st f fd c) (S : FnScope N ps (defScope st)) (len : ∀ vs H Q E, sp vs H Q E → vs.length = ps.length)
    (hbody : ∀ (A : Around) (outer : List Env) (s : Shared) (H : Hp) (vs : List V) (Q : VK) (E : XK), Room k (A.deeper (envOfC qual (defScope st) s.heap.objs.size f (.ref c))) → sp vs H Q E →
      ∃ t, PSs (cxOf L2.CX0 P w K mg base N qual (defScope st) f (.ref c) A outer s H E).nox (defBody st) t ∧ t { nx := fun _ H' => Q .non H', rt := Q } (L2.start N vs) H) : FnOk P w K mg base L2.CX0 (k + 1) f fd ps sp := by
  obtain ⟨oc, od, kV, doc, pm, an, ct, osl, rfl, lk, hcd⟩ := F.ex
  refine fn_of lk hcd S len fun A outer s H vs Q E hr hsp => ?_
  obtain ⟨t, h, q⟩ := hbody A outer s H vs Q E hr hsp
  exact ⟨t, h.nox, q⟩
theorem fn_okC {x qual : Str} {st : Stmt} {f c : Addr} {fd : FuncData} {N ps : List Str} {k n : Nat} {g : DMs} (F : FunC K x qual st f fd c) (S : FnScope N ps (defScope st)) (hn : ps.length = n := by rfl)
    (hb : ∀ (A : Around) (outer : List Env) (s : Shared) (H : Hp) (E : XK), Room k (A.deeper (envOfC qual (defScope st) s.heap.objs.size f (.ref c))) →
      DSs (cxOf L2.CX0 P w K mg base N qual (defScope st) f (.ref c) A outer s H E).nox (defBody st) g) : FnOk P w K mg base L2.CX0 (k + 1) f fd ps (spD K n (fnD N.length g)) := by
  refine F.ok S (fun vs H Q E h => ?_) (fun A outer s H vs Q E hr h => ?_)
  · obtain ⟨β, P, G, ds, bg, r, bg', h, _⟩ := h
    rw [hn]; exact h
  · obtain ⟨β, PP, G, ds, bg, r, bg', hl, i, R, e, q⟩ := h
    obtain ⟨t, p, o⟩ := hb A outer s H E hr
    refine ⟨t, p, ?_⟩
    unfold fnD at e
    obtain ⟨⟨res, s'⟩, e1, e⟩ := Option.bind_eq_some_iff.mp e
    refine o β PP (L2.start N vs) H G _ res s' (rel_start i R) e1 _ ?_
    cases res with
    | nx =>
      cases e
      exact fun σ' H' G' x R' => q .non H' G' x R'.leave (is_non.mpr rfl)
    | rt d =>
      cases e
      exact fun v σ' H' G' x R' iv => q v H' G' x R'.leave iv
    | bk => cases e
    | ct => cases e
/-- _law_field: () -/
theorem fs_field {x y : Str} {st : Stmt} {f : Addr} {fd : FuncData} {N : List Str} {k kk : Nat} {p1 p2 : Pos} (F : Fun K x x st f fd) (S : FnScope N [y] (defScope st)) (hb : defBody st = [.Return (some (.Tuple [] kk p1)) p2] := by rfl) : FnS P w K mg base (k + 1) f fd [y] spField := by
  obtain ⟨oc, od, kV, doc, pm, an, cdv, ct, osl, rfl, lk, hcd⟩ := F.ex
  rw [hb] at lk ⊢
  exact fn_field lk hcd S
/-- TableError's __init__ -/
theorem ok_init {qual : Str} {st : Stmt} {f : Addr} {fd : FuncData} {N : List Str} {k : Nat} {CX : CXT} {p1 p2 p3 p4 p5 p6 : Pos} (F : Fun K "__init__" qual st f fd) (S : FnScope N ["self"] (defScope st)) (hN : N[0]? = some ("self" : Str)) (hv : Vis (defScope st) "self") (h0 : ∀ v : V, (L2.start N [v])[0]? = some (some v))
    (hb : defBody st = [.Assign [.Attribute (.Name "self" p1) "code" p2] (.Attribute (.Attribute (.Name "self" p3) "__class__" p4) "__name__" p5) p6] := by rfl) : FnOk P w K mg base CX (k + 1) f fd ["self"] (spInit K) := by
  obtain ⟨oc, od, kV, doc, pm, an, cdv, ct, osl, rfl, lk, hcd⟩ := F.ex
  rw [hb] at lk ⊢
  exact fn_init0 lk hcd S hN hv h0
end
theorem room_mark {A : Around} {k : Nat} {env : Env} {b : Option Value} (hr : Room (k + 1) A) : RoomH k ((A.deeper env).mark b) := ⟨(hr.deeper env).dp, (hr.deeper env).un⟩

/-! ### in a def that may raise, where a token is out -/
section
variable {X : Cx} {W : XK}
def DSXsT (X : Cx) (W : XK) (st : List Stmt) (f : DMsX) : Prop := PSsT X st (tsX X.K f W)
theorem dssxT_of {st : List Stmt} {f : DMsX} (h : DSXs X W st f) : DSXsT X W st f := PSsT.of h
theorem tsX_seq {f g : DMsX} {D : Ends} {σ : L2.St} {H : Hp} (k : tsX X.K (kSeqX f g) W D σ H) : tSeq (tsX X.K f W) (tsX X.K g W) D σ H := by
  obtain ⟨β, P, G, a, r, a', R, e1, q⟩ := k
  unfold kSeqX at e1
  obtain ⟨⟨y, s1⟩, e2, e1⟩ := Option.bind_eq_some_iff.mp e1
  refine ⟨β, P, G, a, y, s1, R, e2, ?_⟩
  cases y with
  | nx => exact fun σ1 H1 G1 x1 R1 => ⟨β, P, G1, s1, r, a', R1, e1, q.mono x1⟩
  | bk => cases e1; exact q
  | ct => cases e1; exact q
  | rt d => cases e1; exact q
  | ex nm => cases e1; exact q
theorem dssxT_cons {st : Stmt} {rest : List Stmt} {f g : DMsX} (h1 : DSX X W st f) (h2 : DSXsT X W rest g) : DSXsT X W (st :: rest) (kSeqX f g) := by
  intro pins s σ H D h0 I k
  exact psst_cons (PST.of h1) h2 pins s σ H D h0 I (tsX_seq k)
theorem dssxT_set {i : Nat} {x : Str} {e : Expr} {f : DM Dt} {rest : List Stmt} {g : DMsX} {pos' pos : Pos} (hN : X.N.Nodup) (hi : X.N[i]? = some x) (hx : Loc X.env.scope x) (he : DET X e f) (hr : DSXsT X W rest g) (hs : swapsWith e (some (.Name x pos')) pos.line X.env = pure false := by rfl)
    (hf : X.fn x = true ∨ X.env.scope.names.lookup x = some .local := by first | exact .inl rfl | exact .inr rfl | assumption) : DSXsT X W (.Assign [.Name x pos'] e pos :: rest) (kSeqX (kVal (kAsg f (hName i))) g) := by
  obtain ⟨t, p, o⟩ := he
  intro pins s σ H D h0 I k
  refine psst_cons (pst_set (pos' := pos') (pos := pos) hN hi hx p hs hf) hr pins s σ H D h0 I ?_
  obtain ⟨β, P, G, a, y, s1, R, e2, q⟩ := tsX_seq k
  unfold kVal kAsg at e2
  obtain ⟨⟨r0, s0⟩, e3, e2⟩ := Option.bind_eq_some_iff.mp e2
  obtain ⟨⟨d, s2⟩, e4, e3⟩ := Option.bind_eq_some_iff.mp e3
  obtain ⟨s3, e5, e3⟩ := Option.bind_eq_some_iff.mp e3
  cases e5
  cases e3
  cases e2
  exact o β P σ H G a d s2 R e4 _ fun v H1 G1 x1 R1 i1 => q _ H1 G1 x1 (R1.set i1)
end
section
variable {P : Program} {w : World} {K : Frag} {mg : Str → Option Value} {base : Heap}
theorem fnx_okT {x qual : Str} {st : Stmt} {f : Addr} {fd : FuncData} {N ps : List Str} {k n : Nat} {g : DMsX} (F : Fun K x qual st f fd) (S : FnScope N ps (defScope st)) (hnc : ∀ y ∈ (defScope st).names, y.2 ≠ .cell) (hps : 1 ≤ ps.length) (hn : ps.length = n := by rfl)
    (hb : ∀ (cdv : Value) (A : Around) (outer : List Env) (s : Shared) (H : Hp) (E : XK), Room k (A.deeper (envOfC qual (defScope st) s.heap.objs.size f cdv)) → Takes (cxOf (L2.CX P w) P w K mg base N qual (defScope st) f cdv A outer s H E) (fun cls d _ H => E cls d H) →
      DSXsT (cxOf (L2.CX P w) P w K mg base N qual (defScope st) f cdv A outer s H E) E (defBody st) g) : FnOk P w K mg base (L2.CX P w) (k + 1) f fd ps (spX K n (fnDX N.length g)) := by
  obtain ⟨oc, od, kV, doc, pm, an, cdv, ct, osl, rfl, lk, hcd⟩ := F.ex
  refine fn_ofT lk hcd S hnc hps (fun vs H Q E h => ?_) fun A outer s H vs Q E hr h => ?_
  · obtain ⟨β, P, G, ds, bg, r, bg', h, _⟩ := h
    rw [hn]
    exact h
  · obtain ⟨β, PP, G, ds, bg, r, bg', hl, i, R, e, q⟩ := h
    refine ⟨_, hb cdv A outer s H E hr (takes_of rfl rfl rfl rfl), ?_⟩
    unfold fnDX at e
    obtain ⟨⟨res, s'⟩, e1, e⟩ := Option.bind_eq_some_iff.mp e
    refine ⟨β, PP, G, _, res, s', rel_start i R, e1, ?_⟩
    cases res with
    | nx =>
      cases e
      exact fun σ' H' G' x R' => q .non H' G' x R'.leave (is_non.mpr rfl)
    | rt d =>
      cases e
      exact fun v σ' H' G' x R' iv => q v H' G' x R'.leave iv
    | ex nm =>
      cases e
      exact fun C dd σ' H' G' x R' ec gd => q C dd H' G' x R'.leave ec gd
    | bk => cases e
    | ct => cases e
end
theorem fnx_none {P : Program} {w : World} {K : Frag} {mg : Str → Option Value} {base : Heap} {f : Addr} {fd : FuncData} {ps : List Str} {k n : Nat} (hn : ps.length = n := by rfl) : FnOk P w K mg base (L2.CX P w) k f fd ps (spX K n fun _ _ => none) :=
  ⟨fun vs H Q E h => by obtain ⟨β, P, G, ds, bg, r, bg', h, _⟩ := h; rw [hn]; exact h, fun A outer s H args us vs Q E _ _ _ _ h => by
    obtain ⟨β, P, G, ds, bg, r, bg', _, _, _, e, _⟩ := h
    cases e⟩
end DX

namespace DL
open PySem PySem.Spec PyProof.Rows L2
variable [Tabs]

def sLpull : FD := fnD 5 (kSeq (kAsg (m2 gAdd (mBagIx (mVar 0) (mC (.int 4))) (mC (.int 1))) (hBag (mVar 0) (mC (.int 4))))
    (kSeq (kIf (mAndB (mB (m2 gEq (mBagIx (mVar 0) (mC (.int 2))) (mC (.int 0)))) (mB (m2 oLt (mBagIx (mVar 0) (mC (.int 1))) (mCall gLen (mCons (mBagIx (mVar 0) (mC (.int 0))) mNil))))) (kSeq (kAsg (mTup (mCons (m2 gIx (mBagIx (mVar 0) (mC (.int 0))) (mBagIx (mVar 0) (mC (.int 1)))) (mCons (m2 gAdd (mBagIx (mVar 0) (mC (.int 1))) (mC (.int 1))) mNil))) (hTup 2 (hCons (hName 3) (hCons (hBag (mVar 0) (mC (.int 1))) hNil))))
    (kSeq (kIf (mB (m2 oGe (mVar 3) (m2 gPow (mC (.int 10)) (mC (.int 18))))) (kAsg (mVar 3) (hBag (mVar 0) (mC (.int 2)))) kSkip)
    (kAsg (m2 gMod (mCall gInt1 (mCons (m2 gAdd (m2 gAdd (m2 gMul (mBagIx (mVar 0) (mC (.int 3))) (mC (.int 38377))) (m2 gMul (m2 gMod (mCall gInt1 (mCons (mVar 3) mNil)) (mC (.int 2147483489))) (mC (.int 41143)))) (mC (.int 61))) mNil)) (mC (.int 2147483549))) (hBag (mVar 0) (mC (.int 3)))))) kSkip)
    (kSeq (kIf (mB (m2 oGt (mBagIx (mVar 0) (mC (.int 2))) (mC (.int 0)))) (kSeq (kAsg (mTup (mCons (m2 gMod (mCall gInt1 (mCons (mBagIx (mVar 0) (mC (.int 2))) mNil)) (mVar 1)) (mCons (m2 gDiv (mBagIx (mVar 0) (mC (.int 2))) (mVar 1)) mNil))) (hTup 2 (hCons (hName 4) (hCons (hBag (mVar 0) (mC (.int 2))) hNil))))
    (kRet (mVar 4))) kSkip)
    (kSeq (kAsg (mBagIx (mVar 0) (mC (.int 3))) (hName 2))
    (kSeq (kAsg (m2 gMod (mCall gInt1 (mCons (m2 gAdd (m2 gAdd (m2 gAdd (m2 gPow (mVar 2) (mC (.int 3))) (m2 gMul (mVar 2) (mC (.int 37813)))) (m2 gMul (mBagIx (mVar 0) (mC (.int 4))) (mC (.int 1299689)))) (mC (.int 65437))) mNil)) (mC (.int 2147483549))) (hBag (mVar 0) (mC (.int 3))))
    (kRet (m2 gMod (mCall gInt1 (mCons (m2 gAdd (m2 gDiv (mBagIx (mVar 0) (mC (.int 3))) (mC (.int 89))) (m2 gMul (m2 gMod (mCall gInt1 (mCons (mBagIx (mVar 0) (mC (.int 3))) mNil)) (mC (.int 7919))) (mC (.int 71)))) mNil)) (mVar 1))))))))
def sLany : FD := fnD 2 (kRet (m2 gIx (mVar 1) (mApp sLpull (mCons (mVar 0) (mCons (mCall gLen (mCons (mVar 1) mNil)) mNil)))))
def sLreserved : FD := fnD 0 (kRet (mLst (mCons (mC (.str "and")) (mCons (mC (.str "found")) (mCons (mC (.str "key")) (mCons (mC (.str "next")) (mCons (mC (.str "not")) (mCons (mC (.str "or")) (mCons (mC (.str "own")) (mCons (mC (.str "set")) (mCons (mC (.str "true")) (mCons (mC (.str "where")) mNil))))))))))))
def sLnew_names : FD := fnD 9 (kSeq (kAsg (mC (.str "abcdefghijklmnopqrstuvwxyz")) (hName 2))
    (kSeq (kAsg (mM1 gJoin (mC (.str "")) (mComp [7] (wRng1 (mCons (mApp sLpull (mCons (mVar 0) (mCons (mC (.int 5)) mNil))) mNil)) (hName 7) mYes (mApp sLany (mCons (mVar 0) (mCons (mVar 2) mNil))))) (hName 3))
    (kSeq (kAsg (mTup (mCons (mApp sLpull (mCons (mVar 0) (mCons (m2 gAdd (mCall gLen (mCons (mVar 3) mNil)) (mC (.int 1))) mNil))) (mCons (mApp sLpull (mCons (mVar 0) (mCons (mC (.int 26)) mNil))) mNil))) (hTup 2 (hCons (hName 5) (hCons (hName 6) hNil))))
    (kSeq (kAsg (mComp [7] (wRng1 (mCons (mVar 1) mNil)) (hName 7) mYes (m2 gAdd (m2 gAdd (mSl (mVar 3) mNoP (mPart (mVar 5))) (m2 gIx (mVar 2) (m2 gSub0 (m2 gAdd (mVar 6) (mVar 7)) (mC (.int 26))))) (mSl (mVar 3) (mPart (mVar 5)) mNoP))) (hName 4))
    (kRet (mComp [8] (wLst (mVar 4)) (hName 8) mYes (mIf (mB (m2 gIn (mVar 8) (mApp sLreserved mNil))) (m2 gAdd (mVar 8) (mC (.str "q"))) (mVar 8))))))))
def sLnear : FD := fnD 1 (kRet (mApp sLany (mCons (mVar 0) (mCons (mLst (mCons (mC (.int 0)) (mCons (mC (.int 1)) (mCons (mC (.int 1)) (mCons (mC (.int 2)) (mCons (mC (.int 3)) (mCons (m2 gSub0 (mC (.int 0)) (mC (.int 1))) (mCons (m2 gSub0 (mC (.int 0)) (mC (.int 2))) mNil)))))))) mNil))))
def sLlikeB (R : FD) : FD := fnD 5 (kSeq (kIf (mB (mIsi (fun d => isLst d || isTup d) (mVar 1))) (kSeq (kAsg (mAndV (m2 gEq (mIsi isLst (mVar 0)) (mIsi isLst (mVar 1))) (m2 gEq (mIsi isTup (mVar 0)) (mIsi isTup (mVar 1)))) (hName 2))
    (kRet (mAndV (mVar 2) (mAndV (m2 gEq (mCall gLen (mCons (mVar 0) mNil)) (mCall gLen (mCons (mVar 1) mNil))) (mCall gAll (mCons (mComp [3, 4] (wZip (mCons (mVar 0) (mCons (mVar 1) mNil))) (hTup 2 (hCons (hName 3) (hCons (hName 4) hNil))) mYes (mApp R (mCons (mVar 3) (mCons (mVar 4) mNil)))) mNil)))))) kSkip)
    (kSeq (kIf (mOrB (mB (m2 gIsN (mVar 0) (mC .non))) (mOrB (mB (m2 gIsN (mVar 1) (mC .non))) (mB (m2 gNe (mIsi isBl (mVar 0)) (mIsi isBl (mVar 1)))))) (kRet (mAndV (m2 gIsN (mVar 0) (mC .non)) (m2 gIsN (mVar 1) (mC .non)))) kSkip)
    (kRet (mAndV (m2 gEq (mIsi isInt (mVar 0)) (mIsi isInt (mVar 1))) (mAndV (m2 gEq (mIsi isStr (mVar 0)) (mIsi isStr (mVar 1))) (m2 gEq (mVar 0) (mVar 1)))))))
def sLlike : Nat → FD
  | 0 => fun _ _ => none
  | n + 1 => sLlikeB (sLlike n)
def s_BOUND : Dt := .int 1000000000000000000000000000000
def s_MOST_LETTERS : Dt := .int 6
def s_RESERVED : Dt := .tup [.str "and", .str "found", .str "key", .str "next", .str "not", .str "or", .str "own", .str "set", .str "true", .str "where"]
def sis_name : FD := fnD 2 (kSeq (kIf (mOrB (mNotB (mB (mIsi isStr (mVar 0)))) (mB (m2 gIn (mVar 0) (mC s_RESERVED)))) (kRet (mC (.bl false))) kSkip)
    (kRet (mAndV (mChain oLe oLe (mC (.int 1)) (mCall gLen (mCons (mVar 0) mNil)) (mC s_MOST_LETTERS)) (mCall gAll (mCons (mComp [1] (wStr (mVar 0)) (hName 1) mYes (mChain oLe oLe (mC (.str "a")) (mVar 1) (mC (.str "z")))) mNil)))))
def sis_column : FD := fnD 1 (kRet (mOrV (m2 gEq (mVar 0) (mC (.str "key"))) (mApp sis_name (mCons (mVar 0) mNil))))
def sis_whole : FD := fnD 1 (kRet (mAndV (mIsi isInt (mVar 0)) (mNotV (mIsi isBl (mVar 0)))))
def sis_bounded_ : FD := fnD 1 (kRet (mAndV (mApp sis_whole (mCons (mVar 0) mNil)) (mChain oLe oLe (mNeg (mC s_BOUND)) (mVar 0) (mC s_BOUND))))
def sis_single_ : FD := fnD 3 (kSeq (kIf (mNotB (mB (mIsi isTup (mVar 0)))) (kRet (mC (.bl false))) kSkip)
    (kSeq (kIf (mB (m2 gEq (mCall gLen (mCons (mVar 0) mNil)) (mC (.int 3)))) (kRet (mAndV (m2 gEq (m2 gIx (mVar 0) (mC (.int 0))) (mC (.str "field"))) (mAndV (mApp sis_name (mCons (m2 gIx (mVar 0) (mC (.int 1))) mNil)) (mApp sis_column (mCons (m2 gIx (mVar 0) (mC (.int 2))) mNil))))) kSkip)
    (kSeq (kIf (mB (m2 gNe (mCall gLen (mCons (mVar 0) mNil)) (mC (.int 2)))) (kRet (mC (.bl false))) kSkip)
    (kSeq (kAsg (mVar 0) (hTup 2 (hCons (hName 1) (hCons (hName 2) hNil))))
    (kSeq (kIf (mB (m2 gEq (mVar 1) (mC (.str "number")))) (kRet (mApp sis_bounded_ (mCons (mVar 2) mNil))) kSkip)
    (kSeq (kIf (mB (m2 gEq (mVar 1) (mC (.str "name")))) (kRet (mApp sis_name (mCons (mVar 2) mNil))) kSkip)
    (kRet (mAndV (m2 gIn (mVar 1) (mTup (mCons (mC (.str "own")) (mCons (mC (.str "next")) mNil)))) (mApp sis_column (mCons (mVar 2) mNil))))))))))
def sis_value : FD := fnD 1 (kSeq (kIf (mAndB (mB (mIsi isTup (mVar 0))) (mAndB (mB (m2 gEq (mCall gLen (mCons (mVar 0) mNil)) (mC (.int 3)))) (mB (m2 gEq (m2 gIx (mVar 0) (mC (.int 0))) (mC (.str "plus")))))) (kRet (mAndV (mApp sis_single_ (mCons (m2 gIx (mVar 0) (mC (.int 1))) mNil)) (mApp sis_bounded_ (mCons (m2 gIx (mVar 0) (mC (.int 2))) mNil)))) kSkip)
    (kRet (mApp sis_single_ (mCons (mVar 0) mNil))))
def sshifted : FD := fnD 4 (kSeq (kIf (mNotB (mB (mApp sis_value (mCons (mVar 0) mNil)))) (fun _ => none) kSkip)
    (kSeq (kPar 2 3 (mCons (mVar 0) (mCons (mVar 1) mNil)))
    (kSeq (kIf (mB (m2 gEq (m2 gIx (mVar 0) (mC (.int 0))) (mC (.str "plus")))) (kPar 2 3 (mCons (m2 gIx (mVar 0) (mC (.int 1))) (mCons (m2 gAdd (m2 gIx (mVar 0) (mC (.int 2))) (mVar 1)) mNil))) kSkip)
    (kSeq (kIf (mB (m2 gEq (m2 gIx (mVar 2) (mC (.int 0))) (mC (.str "number")))) (kRet (mTup (mCons (mC (.str "number")) (mCons (m2 gAdd (m2 gIx (mVar 2) (mC (.int 1))) (mVar 3)) mNil)))) kSkip)
    (kSeq (kIf (mB (m2 gEq (mVar 3) (mC (.int 0)))) (kRet (mVar 2)) kSkip)
    (kRet (mTup (mCons (mC (.str "plus")) (mCons (mVar 2) (mCons (mVar 3) mNil))))))))))
def BagOk (bg : List Dt) : Prop := ∃ (cells : List Int) (a b s c : Int), bg = [.lst (cells.map Dt.int), .int a, .int b, .int s, .int c] ∧ 0 ≤ a ∧ a ≤ cells.length ∧ 0 ≤ b ∧ 0 ≤ s ∧ s < 2147483549
theorem bag0_ok {ns : List Int} {seed : Int} (h0 : 0 ≤ seed) (h1 : seed < 2147483549) : BagOk (bag0 ns seed) := ⟨ns, 0, 0, seed, 0, rfl, by decide, by omega, by decide, h0, h1⟩
theorem eqII {a b : Int} : gEq (.int a) (.int b) = some (.bl (a == b)) := rfl
theorem kseq {f g : DMs} {s s1 : Sta} (h : f s = some (.nx, s1)) : kSeq f g s = g s1 := by unfold kSeq; rw [h]; rfl
theorem kif_t {c : DM Bool} {f g : DMs} {s s1 : Sta} (h : c s = some (true, s1)) : kIf c f g s = f s1 := by unfold kIf; rw [h]; rfl
theorem kif_f {c : DM Bool} {f g : DMs} {s s1 : Sta} (h : c s = some (false, s1)) : kIf c f g s = g s1 := by unfold kIf; rw [h]; rfl
theorem and_f {f g : DM Bool} {s s1 : Sta} (h : f s = some (false, s1)) : mAndB f g s = some (false, s1) := by unfold mAndB; rw [h]; rfl
theorem and_t {f g : DM Bool} {s s1 : Sta} (h : f s = some (true, s1)) : mAndB f g s = g s1 := by unfold mAndB; rw [h]; rfl
theorem or_t {f g : DM Bool} {s s1 : Sta} (h : f s = some (true, s1)) : mOrB f g s = some (true, s1) := by unfold mOrB; rw [h]; rfl
theorem or_f {f g : DM Bool} {s s1 : Sta} (h : f s = some (false, s1)) : mOrB f g s = g s1 := by unfold mOrB; rw [h]; rfl
theorem m2_eq {g : Dt → Dt → Option Dt} {f1 f2 : DM Dt} {s s1 s2 : Sta} {x y d : Dt} (h1 : f1 s = some (x, s1)) (h2 : f2 s1 = some (y, s2)) (h3 : g x y = some d) : m2 g f1 f2 s = some (d, s2) := by
  unfold m2; rw [h1, Option.bind_some, h2, Option.bind_some, h3]; rfl
theorem kasg {f : DM Dt} {h : Dt → Sta → Option Sta} {s s1 s2 : Sta} {d : Dt} (h1 : f s = some (d, s1)) (h2 : h d s1 = some s2) : kAsg f h s = some (.nx, s2) := by unfold kAsg; rw [h1, Option.bind_some, h2]; rfl
theorem mcons {f : DM Dt} {g : DM (List Dt)} {s s1 s2 : Sta} {x : Dt} {xs : List Dt} (h1 : f s = some (x, s1)) (h2 : g s1 = some (xs, s2)) : mCons f g s = some (x :: xs, s2) := by unfold mCons; rw [h1, Option.bind_some, h2]; rfl
theorem mtup {f : DM (List Dt)} {s s1 : Sta} {xs : List Dt} (h : f s = some (xs, s1)) (hl : xs.length ≤ 1000 := by simp) : mTup f s = some (.tup xs, s1) := by unfold mTup; rw [h, Option.bind_some, if_pos hl]
theorem mlst {f : DM (List Dt)} {s s1 : Sta} {xs : List Dt} (h : f s = some (xs, s1)) (hl : xs.length ≤ 1000 := by simp) : mLst f s = some (.lst xs, s1) := by unfold mLst; rw [h, Option.bind_some, if_pos hl]
theorem bMulR {i j : Int} (h : -18446744073709551616 < j) (h' : j < 18446744073709551616) : gMul (.int i) (.int j) = some (.int (i * j)) := by
  unfold gMul i2
  dsimp only
  rw [if_pos]
  unfold bMul
  rw [decide_eq_true h, decide_eq_true h']
  simp
theorem gModP {i j : Int} (h : 0 < j) : gMod (.int i) (.int j) = some (.int (i % j)) := by
  unfold gMod i2
  dsimp only
  rw [if_pos]
  unfold bMod
  simp [h]
theorem gDivP {i j : Int} (h : 0 < j) (h' : j < 1073741824) : gDiv (.int i) (.int j) = some (.int (i.fdiv j)) := by
  unfold gDiv i2
  dsimp only
  rw [if_pos]
  unfold bDiv
  simp [h, h']
theorem gPowP {i : Int} (h : i.natAbs < 2 ^ 64) : gPow (.int i) (.int 3) = some (.int (i ^ 3)) := by
  unfold gPow i2
  dsimp only
  rw [if_pos]
  · rfl
  unfold bPow
  simp [h]
/-- the number of a draw, where no digits are left -/
theorem pull_tail {cells : List Int} {a b s c n : Int} {x y : Option Slo} (hs : 0 ≤ s) (hs1 : s < 2147483549) (h0 : 0 < n) : ∃ r s' sl, (kSeq (kAsg (mBagIx (mVar 0) (mC (.int 3))) (hName 2))
    (kSeq (kAsg (m2 gMod (mCall gInt1 (mCons (m2 gAdd (m2 gAdd (m2 gAdd (m2 gPow (mVar 2) (mC (.int 3))) (m2 gMul (mVar 2) (mC (.int 37813)))) (m2 gMul (mBagIx (mVar 0) (mC (.int 4))) (mC (.int 1299689)))) (mC (.int 65437))) mNil)) (mC (.int 2147483549))) (hBag (mVar 0) (mC (.int 3))))
    (kRet (m2 gMod (mCall gInt1 (mCons (m2 gAdd (m2 gDiv (mBagIx (mVar 0) (mC (.int 3))) (mC (.int 89))) (m2 gMul (m2 gMod (mCall gInt1 (mCons (mBagIx (mVar 0) (mC (.int 3))) mNil)) (mC (.int 7919))) (mC (.int 71)))) mNil)) (mVar 1)))))
     ⟨[some (.dat .bag), some (.dat (.int n)), none, x, y], [.lst (cells.map Dt.int), .int a, .int b, .int s, .int c]⟩ = some (.rt (.int r), ⟨sl, [.lst (cells.map Dt.int), .int a, .int b, .int s', .int c]⟩) ∧ 0 ≤ r ∧ r < n ∧ 0 ≤ s' ∧ s' < 2147483549 := by
  have e1 : ∀ j : Int, 0 < j → ∀ i : Int, gMod (.int i) (.int j) = some (.int (i % j)) := fun j h i => gModP h
  refine ⟨(((s ^ 3 + s * 37813 + c * 1299689 + 65437) % 2147483549).fdiv 89 + (s ^ 3 + s * 37813 + c * 1299689 + 65437) % 2147483549 % 7919 * 71) % n, (s ^ 3 + s * 37813 + c * 1299689 + 65437) % 2147483549, [some (.dat .bag), some (.dat (.int n)), some (.dat (.int s)), x, y], ?_, Int.emod_nonneg _ (by omega), Int.emod_lt_of_pos _ h0, Int.emod_nonneg _ (by decide), Int.emod_lt_of_pos _ (by decide)⟩
  rw [kseq (s1 := ⟨[some (.dat .bag), some (.dat (.int n)), some (.dat (.int s)), x, y], [.lst (cells.map Dt.int), .int a, .int b, .int s, .int c]⟩) rfl]
  rw [kseq (s1 := ⟨[some (.dat .bag), some (.dat (.int n)), some (.dat (.int s)), x, y], [.lst (cells.map Dt.int), .int a, .int b, .int ((s ^ 3 + s * 37813 + c * 1299689 + 65437) % 2147483549), .int c]⟩) ?_]
  · generalize (s ^ 3 + s * 37813 + c * 1299689 + 65437) % 2147483549 = z
    have e2 : m2 gMod (mCall gInt1 (mCons (m2 gAdd (m2 gDiv (mBagIx (mVar 0) (mC (.int 3))) (mC (.int 89))) (m2 gMul (m2 gMod (mCall gInt1 (mCons (mBagIx (mVar 0) (mC (.int 3))) mNil)) (mC (.int 7919))) (mC (.int 71)))) mNil)) (mVar 1)
      ⟨[some (.dat .bag), some (.dat (.int n)), some (.dat (.int s)), x, y], [.lst (cells.map Dt.int), .int a, .int b, .int z, .int c]⟩ = some (.int ((z.fdiv 89 + z % 7919 * 71) % n), ⟨[some (.dat .bag), some (.dat (.int n)), some (.dat (.int s)), x, y], [.lst (cells.map Dt.int), .int a, .int b, .int z, .int c]⟩) := by
      refine m2_eq (s1 := ⟨[some (.dat .bag), some (.dat (.int n)), some (.dat (.int s)), x, y], [.lst (cells.map Dt.int), .int a, .int b, .int z, .int c]⟩) (x := .int (z.fdiv 89 + z % 7919 * 71)) (y := .int n) ?_ rfl (gModP h0)
      rfl
    unfold kRet
    rw [e2]
    rfl
  · refine kasg (s1 := ⟨[some (.dat .bag), some (.dat (.int n)), some (.dat (.int s)), x, y], [.lst (cells.map Dt.int), .int a, .int b, .int s, .int c]⟩) (d := .int ((s ^ 3 + s * 37813 + c * 1299689 + 65437) % 2147483549)) ?_ rfl
    refine m2_eq (s1 := ⟨[some (.dat .bag), some (.dat (.int n)), some (.dat (.int s)), x, y], [.lst (cells.map Dt.int), .int a, .int b, .int s, .int c]⟩) (x := .int (s ^ 3 + s * 37813 + c * 1299689 + 65437)) (y := .int 2147483549) ?_ rfl rfl
    have e3 : m2 gPow (mVar 2) (mC (.int 3)) ⟨[some (.dat .bag), some (.dat (.int n)), some (.dat (.int s)), x, y], [.lst (cells.map Dt.int), .int a, .int b, .int s, .int c]⟩ = some (.int (s ^ 3), ⟨[some (.dat .bag), some (.dat (.int n)), some (.dat (.int s)), x, y], [.lst (cells.map Dt.int), .int a, .int b, .int s, .int c]⟩) := m2_eq (s1 := ⟨[some (.dat .bag), some (.dat (.int n)), some (.dat (.int s)), x, y], [.lst (cells.map Dt.int), .int a, .int b, .int s, .int c]⟩) rfl rfl (gPowP (by omega))
    have e4 : m2 gMul (mVar 2) (mC (.int 37813)) ⟨[some (.dat .bag), some (.dat (.int n)), some (.dat (.int s)), x, y], [.lst (cells.map Dt.int), .int a, .int b, .int s, .int c]⟩ = some (.int (s * 37813), ⟨[some (.dat .bag), some (.dat (.int n)), some (.dat (.int s)), x, y], [.lst (cells.map Dt.int), .int a, .int b, .int s, .int c]⟩) := m2_eq (s1 := ⟨[some (.dat .bag), some (.dat (.int n)), some (.dat (.int s)), x, y], [.lst (cells.map Dt.int), .int a, .int b, .int s, .int c]⟩) rfl rfl (bMulR (by decide) (by decide))
    have e5 : m2 gMul (mBagIx (mVar 0) (mC (.int 4))) (mC (.int 1299689)) ⟨[some (.dat .bag), some (.dat (.int n)), some (.dat (.int s)), x, y], [.lst (cells.map Dt.int), .int a, .int b, .int s, .int c]⟩ = some (.int (c * 1299689), ⟨[some (.dat .bag), some (.dat (.int n)), some (.dat (.int s)), x, y], [.lst (cells.map Dt.int), .int a, .int b, .int s, .int c]⟩) := m2_eq (s1 := ⟨[some (.dat .bag), some (.dat (.int n)), some (.dat (.int s)), x, y], [.lst (cells.map Dt.int), .int a, .int b, .int s, .int c]⟩) (x := .int c) rfl rfl (bMulR (by decide) (by decide))
    have e6 := m2_eq (g := gAdd) (m2_eq (g := gAdd) (m2_eq (g := gAdd) e3 e4 rfl) e5 rfl) (f2 := mC (.int 65437)) rfl (d := .int (s ^ 3 + s * 37813 + c * 1299689 + 65437)) rfl
    unfold mCall mCons
    rw [e6]
    rfl

def pTail : DMs := (kSeq (kAsg (mBagIx (mVar 0) (mC (.int 3))) (hName 2))
    (kSeq (kAsg (m2 gMod (mCall gInt1 (mCons (m2 gAdd (m2 gAdd (m2 gAdd (m2 gPow (mVar 2) (mC (.int 3))) (m2 gMul (mVar 2) (mC (.int 37813)))) (m2 gMul (mBagIx (mVar 0) (mC (.int 4))) (mC (.int 1299689)))) (mC (.int 65437))) mNil)) (mC (.int 2147483549))) (hBag (mVar 0) (mC (.int 3))))
    (kRet (m2 gMod (mCall gInt1 (mCons (m2 gAdd (m2 gDiv (mBagIx (mVar 0) (mC (.int 3))) (mC (.int 89))) (m2 gMul (m2 gMod (mCall gInt1 (mCons (mBagIx (mVar 0) (mC (.int 3))) mNil)) (mC (.int 7919))) (mC (.int 71)))) mNil)) (mVar 1)))))
def pIf3 : DMs := (kIf (mB (m2 oGt (mBagIx (mVar 0) (mC (.int 2))) (mC (.int 0)))) (kSeq (kAsg (mTup (mCons (m2 gMod (mCall gInt1 (mCons (mBagIx (mVar 0) (mC (.int 2))) mNil)) (mVar 1)) (mCons (m2 gDiv (mBagIx (mVar 0) (mC (.int 2))) (mVar 1)) mNil))) (hTup 2 (hCons (hName 4) (hCons (hBag (mVar 0) (mC (.int 2))) hNil))))
    (kRet (mVar 4))) kSkip)
def pThen3 : DMs := (kSeq (kAsg (mTup (mCons (m2 gMod (mCall gInt1 (mCons (mBagIx (mVar 0) (mC (.int 2))) mNil)) (mVar 1)) (mCons (m2 gDiv (mBagIx (mVar 0) (mC (.int 2))) (mVar 1)) mNil))) (hTup 2 (hCons (hName 4) (hCons (hBag (mVar 0) (mC (.int 2))) hNil))))
    (kRet (mVar 4)))
def pC3 : DM Bool := (mB (m2 oGt (mBagIx (mVar 0) (mC (.int 2))) (mC (.int 0))))
def pIf2 : DMs := (kIf (mAndB (mB (m2 gEq (mBagIx (mVar 0) (mC (.int 2))) (mC (.int 0)))) (mB (m2 oLt (mBagIx (mVar 0) (mC (.int 1))) (mCall gLen (mCons (mBagIx (mVar 0) (mC (.int 0))) mNil))))) (kSeq (kAsg (mTup (mCons (m2 gIx (mBagIx (mVar 0) (mC (.int 0))) (mBagIx (mVar 0) (mC (.int 1)))) (mCons (m2 gAdd (mBagIx (mVar 0) (mC (.int 1))) (mC (.int 1))) mNil))) (hTup 2 (hCons (hName 3) (hCons (hBag (mVar 0) (mC (.int 1))) hNil))))
    (kSeq (kIf (mB (m2 oGe (mVar 3) (m2 gPow (mC (.int 10)) (mC (.int 18))))) (kAsg (mVar 3) (hBag (mVar 0) (mC (.int 2)))) kSkip)
    (kAsg (m2 gMod (mCall gInt1 (mCons (m2 gAdd (m2 gAdd (m2 gMul (mBagIx (mVar 0) (mC (.int 3))) (mC (.int 38377))) (m2 gMul (m2 gMod (mCall gInt1 (mCons (mVar 3) mNil)) (mC (.int 2147483489))) (mC (.int 41143)))) (mC (.int 61))) mNil)) (mC (.int 2147483549))) (hBag (mVar 0) (mC (.int 3)))))) kSkip)
def pThen2 : DMs := (kSeq (kAsg (mTup (mCons (m2 gIx (mBagIx (mVar 0) (mC (.int 0))) (mBagIx (mVar 0) (mC (.int 1)))) (mCons (m2 gAdd (mBagIx (mVar 0) (mC (.int 1))) (mC (.int 1))) mNil))) (hTup 2 (hCons (hName 3) (hCons (hBag (mVar 0) (mC (.int 1))) hNil))))
    (kSeq (kIf (mB (m2 oGe (mVar 3) (m2 gPow (mC (.int 10)) (mC (.int 18))))) (kAsg (mVar 3) (hBag (mVar 0) (mC (.int 2)))) kSkip)
    (kAsg (m2 gMod (mCall gInt1 (mCons (m2 gAdd (m2 gAdd (m2 gMul (mBagIx (mVar 0) (mC (.int 3))) (mC (.int 38377))) (m2 gMul (m2 gMod (mCall gInt1 (mCons (mVar 3) mNil)) (mC (.int 2147483489))) (mC (.int 41143)))) (mC (.int 61))) mNil)) (mC (.int 2147483549))) (hBag (mVar 0) (mC (.int 3))))))
def pC2a : DM Bool := (mB (m2 gEq (mBagIx (mVar 0) (mC (.int 2))) (mC (.int 0))))
def pC2b : DM Bool := (mB (m2 oLt (mBagIx (mVar 0) (mC (.int 1))) (mCall gLen (mCons (mBagIx (mVar 0) (mC (.int 0))) mNil))))
def pS1 : DMs := (kAsg (m2 gAdd (mBagIx (mVar 0) (mC (.int 4))) (mC (.int 1))) (hBag (mVar 0) (mC (.int 4))))
theorem pull_eq : sLpull = fnD 5 (kSeq pS1 (kSeq pIf2 (kSeq pIf3 pTail))) := rfl
abbrev pSt (n : Int) (x y : Option Slo) (cells : List Int) (a b s c : Int) : Sta := ⟨[some (.dat .bag), some (.dat (.int n)), none, x, y], [.lst (cells.map Dt.int), .int a, .int b, .int s, .int c]⟩
theorem pull_rest {cells : List Int} {a b s c n : Int} {x : Option Slo} (ha : 0 ≤ a) (hal : a ≤ cells.length) (hb : 0 ≤ b) (hs : 0 ≤ s) (hs1 : s < 2147483549) (h0 : 0 < n) (h1 : n < 1073741824) :
    ∃ r st, kSeq pIf3 pTail (pSt n x none cells a b s c) = some (.rt (.int r), st) ∧ 0 ≤ r ∧ r < n ∧ BagOk st.bag := by
  by_cases h : 0 < b
  · have e1 : pC3 (pSt n x none cells a b s c) = some (true, pSt n x none cells a b s c) := by
      show some (decide (0 < b), pSt n x none cells a b s c) = _
      rw [decide_eq_true h]
    have e2 : pThen3 (pSt n x none cells a b s c) = some (.rt (.int (b % n)), pSt n x (some (.dat (.int (b % n)))) cells a (b.fdiv n) s c) := by
      unfold pThen3
      refine (kseq (s1 := pSt n x (some (.dat (.int (b % n)))) cells a (b.fdiv n) s c) ?_).trans rfl
      refine kasg (s1 := pSt n x none cells a b s c) (d := .tup [.int (b % n), .int (b.fdiv n)]) ?_ rfl
      have e3 := gModP (i := b) h0
      have e4 := gDivP (i := b) h0 h1
      have e5 : m2 gMod (mCall gInt1 (mCons (mBagIx (mVar 0) (mC (.int 2))) mNil)) (mVar 1) (pSt n x none cells a b s c) = some (.int (b % n), pSt n x none cells a b s c) := m2_eq (s1 := pSt n x none cells a b s c) (x := .int b) (y := .int n) rfl rfl e3
      have e6 : m2 gDiv (mBagIx (mVar 0) (mC (.int 2))) (mVar 1) (pSt n x none cells a b s c) = some (.int (b.fdiv n), pSt n x none cells a b s c) := m2_eq (s1 := pSt n x none cells a b s c) (x := .int b) (y := .int n) rfl rfl e4
      exact mtup (mcons e5 (mcons e6 rfl)) (by simp)
    refine ⟨b % n, pSt n x (some (.dat (.int (b % n)))) cells a (b.fdiv n) s c, ?_, Int.emod_nonneg _ (by omega), Int.emod_lt_of_pos _ h0, ?_⟩
    · show kSeq (kIf pC3 pThen3 kSkip) pTail _ = _
      unfold kSeq
      rw [kif_t e1, e2]
      rfl
    · exact ⟨cells, a, b.fdiv n, s, c, rfl, ha, hal, Int.fdiv_nonneg hb (by omega), hs, hs1⟩
  · have e1 : pC3 (pSt n x none cells a b s c) = some (false, pSt n x none cells a b s c) := by
      show some (decide (0 < b), pSt n x none cells a b s c) = _
      rw [decide_eq_false h]
    obtain ⟨r, s', sl, e2, r0, r1, t0, t1⟩ := pull_tail (cells := cells) (a := a) (b := b) (c := c) (x := x) (y := none) hs hs1 h0
    refine ⟨r, ⟨sl, [.lst (cells.map Dt.int), .int a, .int b, .int s', .int c]⟩, ?_, r0, r1, ?_⟩
    · show kSeq (kIf pC3 pThen3 kSkip) pTail _ = _
      rw [kseq (f := kIf pC3 pThen3 kSkip) (s1 := pSt n x none cells a b s c) (by rw [kif_f e1]; rfl)]
      exact e2
    · exact ⟨cells, a, b, s', c, rfl, ha, hal, hb, t0, t1⟩
theorem ati_nat {l : List Dt} {a : Int} (h0 : 0 ≤ a) (h1 : a < l.length) : atI l a = l[a.toNat]? := by
  unfold atI ixN
  rw [if_pos h0, if_pos h1]
  rfl
theorem pull_ok {bg : List Dt} (h : BagOk bg) {n : Int} (h0 : 0 < n) (h1 : n < 1073741824) : ∃ r bg', sLpull [.bag, .int n] bg = some (.int r, bg') ∧ 0 ≤ r ∧ r < n ∧ BagOk bg' := by
  obtain ⟨cells, a, b, s, c, rfl, ha, hal, hb, hs, hs1⟩ := h
  have key : ∃ x a' b' s', pIf2 (pSt n none none cells a b s (c + 1)) = some (.nx, pSt n x none cells a' b' s' (c + 1)) ∧ 0 ≤ a' ∧ a' ≤ cells.length ∧ 0 ≤ b' ∧ 0 ≤ s' ∧ s' < 2147483549 := by
    have c1 : pC2a (pSt n none none cells a b s (c + 1)) = some (b == 0, pSt n none none cells a b s (c + 1)) := rfl
    have c2 : pC2b (pSt n none none cells a b s (c + 1)) = some (decide (a < (cells.map Dt.int).length), pSt n none none cells a b s (c + 1)) := rfl
    by_cases hz : b = 0
    · subst hz
      have c1' : pC2a (pSt n none none cells a 0 s (c + 1)) = some (true, pSt n none none cells a 0 s (c + 1)) := rfl
      by_cases hl : a < cells.length
      · have c3 : mAndB pC2a pC2b (pSt n none none cells a 0 s (c + 1)) = some (true, pSt n none none cells a 0 s (c + 1)) := by
          rw [and_t c1', c2, decide_eq_true (by simpa using hl)]
        have hj : a.toNat < cells.length := by omega
        have e4 : gIx (.lst (cells.map Dt.int)) (.int a) = some (.int cells[a.toNat]) := by
          show atI (cells.map Dt.int) a = _
          rw [ati_nat ha (by simpa using hl)]
          simp [hj]
        generalize cells[a.toNat] = z at e4
        have e5 : (kAsg (mTup (mCons (m2 gIx (mBagIx (mVar 0) (mC (.int 0))) (mBagIx (mVar 0) (mC (.int 1)))) (mCons (m2 gAdd (mBagIx (mVar 0) (mC (.int 1))) (mC (.int 1))) mNil))) (hTup 2 (hCons (hName 3) (hCons (hBag (mVar 0) (mC (.int 1))) hNil)))) (pSt n none none cells a 0 s (c + 1)) = some (.nx, pSt n (some (.dat (.int z))) none cells (a + 1) 0 s (c + 1)) := by
          refine kasg (s1 := pSt n none none cells a 0 s (c + 1)) (d := .tup [.int z, .int (a + 1)]) ?_ rfl
          exact mtup (mcons (m2_eq (s1 := pSt n none none cells a 0 s (c + 1)) (s2 := pSt n none none cells a 0 s (c + 1)) (x := .lst (cells.map Dt.int)) (y := .int a) rfl rfl e4) rfl) (by simp)
        have key2 : ∃ b', (kIf (mB (m2 oGe (mVar 3) (m2 gPow (mC (.int 10)) (mC (.int 18))))) (kAsg (mVar 3) (hBag (mVar 0) (mC (.int 2)))) kSkip) (pSt n (some (.dat (.int z))) none cells (a + 1) 0 s (c + 1)) = some (.nx, pSt n (some (.dat (.int z))) none cells (a + 1) b' s (c + 1)) ∧ 0 ≤ b' := by
          by_cases hg : (1000000000000000000 : Int) ≤ z
          · refine ⟨z, ?_, by omega⟩
            rw [kif_t (s1 := pSt n (some (.dat (.int z))) none cells (a + 1) 0 s (c + 1))]
            · rfl
            · show some (decide ((1000000000000000000 : Int) ≤ z), _) = _
              rw [decide_eq_true hg]
          · refine ⟨0, ?_, by omega⟩
            rw [kif_f (s1 := pSt n (some (.dat (.int z))) none cells (a + 1) 0 s (c + 1))]
            · rfl
            · show some (decide ((1000000000000000000 : Int) ≤ z), _) = _
              rw [decide_eq_false hg]
        obtain ⟨b', e6, hb'⟩ := key2
        refine ⟨some (.dat (.int z)), a + 1, b', (s * 38377 + z % 2147483489 * 41143 + 61) % 2147483549, ?_, by omega, by omega, hb', Int.emod_nonneg _ (by decide), Int.emod_lt_of_pos _ (by decide)⟩
        show kIf (mAndB pC2a pC2b) pThen2 kSkip _ = _
        rw [kif_t c3]
        show kSeq _ (kSeq _ _) _ = _
        rw [kseq e5, kseq e6]
        rfl
      · refine ⟨none, a, 0, s, ?_, ha, hal, by decide, hs, hs1⟩
        have c3 : mAndB pC2a pC2b (pSt n none none cells a 0 s (c + 1)) = some (false, pSt n none none cells a 0 s (c + 1)) := by
          rw [and_t c1', c2, decide_eq_false (by simpa using hl)]
        show kIf (mAndB pC2a pC2b) pThen2 kSkip _ = _
        rw [kif_f c3]
        rfl
    · refine ⟨none, a, b, s, ?_, ha, hal, hb, hs, hs1⟩
      show kIf (mAndB pC2a pC2b) pThen2 kSkip _ = _
      rw [kif_f (and_f (by rw [c1, beq_eq_false_iff_ne.mpr hz]))]
      rfl
  obtain ⟨x, a', b', s', e1, k1, k2, k3, k4, k5⟩ := key
  obtain ⟨r, st, e2, r0, r1, hB⟩ := pull_rest (x := x) (c := c + 1) k1 k2 k3 k4 k5 h0 h1
  refine ⟨r, st.bag, ?_, r0, r1, hB⟩
  rw [pull_eq]
  have e0 : pS1 (pSt n none none cells a b s c) = some (.nx, pSt n none none cells a b s (c + 1)) := rfl
  show (kSeq pS1 (kSeq pIf2 (kSeq pIf3 pTail)) (pSt n none none cells a b s c)).bind _ = _
  rw [kseq e0, kseq e1, e2]
  rfl

theorem mapp {F : FD} {f : DM (List Dt)} {s s1 : Sta} {ds : List Dt} {d : Dt} {bg : List Dt} (h : f s = some (ds, s1)) (hF : F ds s1.bag = some (d, bg)) : mApp F f s = some (d, { s1 with bag := bg }) := by unfold mApp; rw [h, Option.bind_some, hF]; rfl
theorem kret {f : DM Dt} {s s1 : Sta} {d : Dt} (h : f s = some (d, s1)) : kRet f s = some (.rt d, s1) := by unfold kRet; rw [h]; rfl
theorem fnd {n : Nat} {f : DMs} {ds bg : List Dt} {d : Dt} {s1 : Sta} (h : f ⟨ds.map (fun d => some (.dat d)) ++ List.replicate (n - ds.length) none, bg⟩ = some (.rt d, s1)) : fnD n f ds bg = some (d, s1.bag) := by unfold fnD; rw [h]; rfl
theorem any_ok {bg : List Dt} (h : BagOk bg) {rows : List Dt} (h0 : 0 < rows.length) (h1 : rows.length < 1000000) : ∃ d bg', sLany [.bag, .lst rows] bg = some (d, bg') ∧ d ∈ rows ∧ BagOk bg' := by
  obtain ⟨r, bg', e, r0, r1, hb⟩ := pull_ok h (n := (rows.length : Nat)) (by omega) (by omega)
  have hj : r.toNat < rows.length := by omega
  refine ⟨rows[r.toNat], bg', ?_, List.getElem_mem hj, hb⟩
  refine fnd (s1 := ⟨[some (.dat .bag), some (.dat (.lst rows))], bg'⟩) (kret ?_)
  refine m2_eq (s1 := ⟨[some (.dat .bag), some (.dat (.lst rows))], bg⟩) (x := .lst rows) (y := .int r) rfl ?_ ?_
  · exact mapp (s1 := ⟨[some (.dat .bag), some (.dat (.lst rows))], bg⟩) (ds := [.bag, .int (rows.length : Nat)]) rfl e
  · show atI rows r = _
    rw [ati_nat r0 (by omega)]
    simp [hj]
theorem glen_str {z : Str} (h : z.length ≤ sizeLine) : gLen [.str z] = some (.int (z.length : Nat)) := by
  show (if z.length ≤ sizeLine then some (Dt.int (z.length : Nat)) else none) = _
  rw [if_pos h]
theorem gix_str {z : Str} {i : Int} {c : Nat} (h : z.length ≤ sizeLine) (e : atI z.cps.toList i = some c) : gIx (.str z) (.int i) = some (.str ⟨#[c]⟩) := by
  show (if z.length ≤ sizeLine then (atI z.cps.toList i).bind fun c => some (Dt.str ⟨#[c]⟩) else none) = _
  rw [if_pos h, e]
  rfl
theorem any_str {bg : List Dt} (h : BagOk bg) {z : Str} (h0 : 0 < z.length) (h1 : z.length < 1000000) : ∃ c bg', sLany [.bag, .str z] bg = some (.str ⟨#[c]⟩, bg') ∧ c ∈ z.cps.toList ∧ BagOk bg' := by
  obtain ⟨r, bg', e, r0, r1, hb⟩ := pull_ok h (n := (z.length : Nat)) (by omega) (by omega)
  have hl : z.cps.toList.length = z.length := by simp [Str.length]
  have hj : r.toNat < z.cps.toList.length := by omega
  refine ⟨z.cps.toList[r.toNat], bg', ?_, List.getElem_mem hj, hb⟩
  have hz : z.length ≤ sizeLine := Nat.le_trans (Nat.le_of_lt h1) (by decide)
  refine fnd (s1 := ⟨[some (.dat .bag), some (.dat (.str z))], bg'⟩) (kret ?_)
  refine m2_eq (s1 := ⟨[some (.dat .bag), some (.dat (.str z))], bg⟩) (x := .str z) (y := .int r) rfl ?_ ?_
  · refine mapp (s1 := ⟨[some (.dat .bag), some (.dat (.str z))], bg⟩) (ds := [.bag, .int (z.length : Nat)]) ?_ e
    refine mcons (s1 := ⟨[some (.dat .bag), some (.dat (.str z))], bg⟩) rfl (mcons (s1 := ⟨[some (.dat .bag), some (.dat (.str z))], bg⟩) ?_ rfl)
    unfold mCall
    show (gLen [.str z]).bind _ = _
    rw [glen_str hz]
    rfl
  · have : atI z.cps.toList r = some z.cps.toList[r.toNat] := by
      unfold atI ixN
      rw [if_pos r0, if_pos (by omega)]
      show z.cps.toList[r.toNat]? = _
      simp [hj]
    exact gix_str hz this
theorem near_ok {bg : List Dt} (h : BagOk bg) : ∃ i bg', sLnear [.bag] bg = some (.int i, bg') ∧ -2 ≤ i ∧ i ≤ 3 ∧ BagOk bg' := by
  obtain ⟨d, bg', e, hd, hb⟩ := any_ok h (rows := [.int 0, .int 1, .int 1, .int 2, .int 3, .int (0 - 1), .int (0 - 2)]) (by simp) (by simp)
  have hi : ∃ i, d = .int i ∧ -2 ≤ i ∧ i ≤ 3 := by
    simp only [List.mem_cons, List.not_mem_nil, or_false] at hd
    rcases hd with rfl | rfl | rfl | rfl | rfl | rfl | rfl <;> exact ⟨_, rfl, by decide, by decide⟩
  obtain ⟨i, rfl, i0, i1⟩ := hi
  refine ⟨i, bg', ?_, i0, i1, hb⟩
  refine fnd (s1 := ⟨[some (.dat .bag)], bg'⟩) (kret ?_)
  exact mapp (s1 := ⟨[some (.dat .bag)], bg⟩) (ds := [.bag, .lst [.int 0, .int 1, .int 1, .int 2, .int 3, .int (0 - 1), .int (0 - 2)]]) rfl e
/-! ### comprehensions -/
theorem comp_all {sl0 : List (Option Slo)} {h : Dt → Sta → Option Sta} {t : DM Bool} {e : DM Dt} (Pd Pr : Dt → Prop)
    (hstep : ∀ d bg, Pd d → BagOk bg → ∃ s1 s2 r s3, h d ⟨sl0, bg⟩ = some s1 ∧ t s1 = some (true, s2) ∧ e s2 = some (r, s3) ∧ Pr r ∧ BagOk s3.bag) :
    ∀ (l : List Dt) (bg : List Dt), (∀ d ∈ l, Pd d) → BagOk bg → ∃ rs bg', compD sl0 h t e l bg = some (rs, bg') ∧ rs.length = l.length ∧ (∀ r ∈ rs, Pr r) ∧ BagOk bg'
  | [], bg, _, hb => ⟨[], bg, rfl, rfl, by simp, hb⟩
  | d :: l, bg, hp, hb => by
    obtain ⟨s1, s2, r, s3, e1, e2, e3, hr, hb3⟩ := hstep d bg (hp d (List.mem_cons_self ..)) hb
    obtain ⟨rs, bg', e4, hl, hrs, hb'⟩ := comp_all Pd Pr hstep l s3.bag (fun z hz => hp z (List.mem_cons_of_mem _ hz)) hb3
    refine ⟨r :: rs, bg', ?_, by simp [hl], ?_, hb'⟩
    · unfold compD
      rw [e1, Option.bind_some, e2, Option.bind_some]
      dsimp only
      rw [if_pos rfl, e3, Option.bind_some, e4]
      rfl
    · intro z hz
      rcases List.mem_cons.mp hz with rfl | hz
      · exact hr
      · exact hrs z hz
theorem comp_map {sl0 : List (Option Slo)} {h : Dt → Sta → Option Sta} {t : DM Bool} {e : DM Dt} (g : Dt → Dt) {bg : List Dt} :
    ∀ (l : List Dt), (∀ d ∈ l, ∃ s1 s2 s3, h d ⟨sl0, bg⟩ = some s1 ∧ t s1 = some (true, s2) ∧ e s2 = some (g d, s3) ∧ s3.bag = bg) → compD sl0 h t e l bg = some (l.map g, bg)
  | [], _ => rfl
  | d :: l, hs => by
    obtain ⟨s1, s2, s3, e1, e2, e3, e4⟩ := hs d (List.mem_cons_self ..)
    unfold compD
    rw [e1, Option.bind_some, e2, Option.bind_some]
    dsimp only
    rw [if_pos rfl, e3, Option.bind_some]
    dsimp only
    rw [e4, comp_map g l fun z hz => hs z (List.mem_cons_of_mem _ hz)]
    rfl
theorem mcomp {is : List Nat} {f : DM (List Dt)} {h : Dt → Sta → Option Sta} {t : DM Bool} {e : DM Dt} {s s1 : Sta} {l rs bg' : List Dt} (h1 : f s = some (l, s1)) (hl : l.length ≤ 100000) (h2 : compD (wipeS (s1.sl.map datOnly) is) h t e l s1.bag = some (rs, bg')) :
    mComp is f h t e s = some (.lst rs, { s1 with bag := bg' }) := by
  unfold mComp
  rw [h1, Option.bind_some]
  dsimp only
  rw [if_pos hl, h2]
  rfl
/-! ### names -/
def letter (c : Nat) : Prop := 97 ≤ c ∧ c ≤ 122
def resv : List Str := ["and", "found", "key", "next", "not", "or", "own", "set", "true", "where"]
def Low (z : Str) : Prop := ∀ c ∈ z.cps.toList, letter c
structure NameOk (z : Str) : Prop where
  low : Low z
  pos : 1 ≤ z.length
  few : z.length ≤ 6
  free : z ∉ resv
theorem low_app {a b : Str} (ha : Low a) (hb : Low b) : Low (a ++ b) := by
  intro c hc
  have : (a ++ b).cps.toList = a.cps.toList ++ b.cps.toList := by show (a.cps ++ b.cps).toList = _; simp
  rw [this, List.mem_append] at hc
  exact hc.elim (ha c) (hb c)
theorem len_app {a b : Str} : (a ++ b).length = a.length + b.length := by show (a.cps ++ b.cps).size = _; simp [Str.length]
theorem low_nil : Low "" := fun c hc => by
  have e : ("" : Str).cps.toList = [] := rfl
  rw [e] at hc
  cases hc
theorem low_join {l : List Str} (h : ∀ z ∈ l, Low z) : Low (Str.join "" l) ∧ (Str.join "" l).length = (l.map (·.length)).sum := by
  induction l with
  | nil => exact ⟨low_nil, rfl⟩
  | cons a l ih =>
    obtain ⟨h1, h2⟩ := ih fun z hz => h z (List.mem_cons_of_mem _ hz)
    cases l with
    | nil =>
      exact ⟨h a (List.mem_cons_self ..), by show a.length = _; simp⟩
    | cons b l =>
      have e : Str.join "" (a :: b :: l) = a ++ "" ++ Str.join "" (b :: l) := rfl
      rw [e]
      refine ⟨low_app (low_app (h a (List.mem_cons_self ..)) low_nil) h1, ?_⟩
      have e2 : ((a :: b :: l).map (·.length)).sum = a.length + ((b :: l).map (·.length)).sum := by simp
      rw [len_app, len_app, h2, e2]
      show a.length + 0 + _ = _
      omega
theorem low_cut {z : Str} (h : Low z) (lo hi : Option Int) : Low (cutS z lo hi) := by
  intro c hc
  apply h c
  have hc' : c ∈ ((z.cps.toList.drop (HT.sIx z.length 0 lo)).take (HT.sIx z.length z.length hi - HT.sIx z.length 0 lo)) := by
    unfold cutS at hc; simpa using hc
  exact List.mem_of_mem_drop (List.mem_of_mem_take hc')
theorem len_cut {z : Str} {i : Nat} (h : i ≤ z.length) : (cutS z none (some (i : Nat))).length + (cutS z (some (i : Nat)) none).length = z.length := by
  have hz : z.cps.toList.length = z.length := by simp [Str.length]
  unfold cutS Str.length at *
  rw [HT.sIx_nat, HT.sIx_nat, HT.sIx_none, HT.sIx_none]
  simp
  omega

def lowB (z : Str) : Bool := z.cps.toList.all fun c => decide (97 ≤ c) && decide (c ≤ 122)
def nameB (z : Str) : Bool := lowB z && decide (1 ≤ z.length) && decide (z.length ≤ 6) && !resv.contains z
theorem lowB_iff {z : Str} : lowB z = true ↔ Low z := by
  unfold lowB Low letter
  rw [List.all_eq_true]
  constructor
  · intro h c hc
    have := h c hc
    rw [Bool.and_eq_true] at this
    exact ⟨of_decide_eq_true this.1, of_decide_eq_true this.2⟩
  · intro h c hc
    rw [Bool.and_eq_true]
    exact ⟨decide_eq_true (h c hc).1, decide_eq_true (h c hc).2⟩
theorem nameB_iff {z : Str} : nameB z = true ↔ NameOk z := by
  unfold nameB
  simp only [Bool.and_eq_true, lowB_iff, decide_eq_true_eq, Bool.not_eq_true', List.contains_eq_mem, decide_eq_false_iff_not]
  exact ⟨fun h => ⟨h.1.1.1, h.1.1.2, h.1.2, h.2⟩, fun h => ⟨⟨⟨h.low, h.pos⟩, h.few⟩, h.free⟩⟩
theorem resv_q : ∀ r ∈ resv, nameB (r ++ "q") = true := by decide +kernel
def abc : Str := "abcdefghijklmnopqrstuvwxyz"
theorem low_abc : Low abc := lowB_iff.mp (by decide +kernel)
theorem len_abc : abc.length = 26 := by decide +kernel
theorem txts_map : ∀ (ss : List Str), gJoin.txts (ss.map Dt.str) = some ss
  | [] => rfl
  | s :: r => by
    show (gJoin.txts (r.map Dt.str)).bind _ = _
    rw [txts_map r]
    rfl
theorem strs_of {Pz : Str → Prop} : ∀ {rs : List Dt}, (∀ r ∈ rs, ∃ z, r = .str z ∧ Pz z) → ∃ ss : List Str, rs = ss.map Dt.str ∧ ∀ z ∈ ss, Pz z
  | [], _ => ⟨[], rfl, by simp⟩
  | r :: rs, h => by
    obtain ⟨z, rfl, hz⟩ := h r (List.mem_cons_self ..)
    obtain ⟨ss, rfl, hs⟩ := strs_of (rs := rs) fun x hx => h x (List.mem_cons_of_mem _ hx)
    exact ⟨z :: ss, rfl, fun y hy => by rcases List.mem_cons.mp hy with rfl | hy; exact hz; exact hs y hy⟩
theorem in_resv (z : Str) : gIn (.str z) (.lst (resv.map Dt.str)) = some (.bl (resv.any fun r => r == z)) := by
  show (if (flatD (.str z) && (resv.map Dt.str).all flatD) = true then some (Dt.bl ((resv.map Dt.str).any fun d => sameD d (.str z))) else none) = _
  rw [if_pos (show (flatD (.str z) && (resv.map Dt.str).all flatD) = true from rfl), List.any_map]
  rfl
theorem rng_mem {lo : Int} {n : Nat} {d : Dt} (h : d ∈ rngD lo n) : ∃ i : Nat, i < n ∧ d = .int (lo + (i : Nat)) := by
  unfold rngD at h
  obtain ⟨i, hi, rfl⟩ := List.mem_map.mp h
  exact ⟨i, List.mem_range.mp hi, rfl⟩
theorem gadd_str {a b : Str} (h : a.length + b.length ≤ 1000) : gAdd (.str a) (.str b) = some (.str (a ++ b)) := by
  show (if a.length + b.length ≤ sizeLine then some (Dt.str (a ++ b)) else none) = _
  rw [if_pos (Nat.le_trans h (by decide))]
theorem gsl_str {z : Str} {lo hi : Option Int} (h : z.length ≤ 1000) : gSl (.str z) lo hi = some (.str (cutS z lo hi)) := by
  show (if z.length ≤ sizeLine then some (Dt.str (cutS z lo hi)) else none) = _
  rw [if_pos (Nat.le_trans h (by decide))]
theorem msl {f : DM Dt} {g h : DM (Option Int)} {s s1 s2 s3 : Sta} {x d : Dt} {lo hi : Option Int} (h1 : f s = some (x, s1)) (h2 : g s1 = some (lo, s2)) (h3 : h s2 = some (hi, s3)) (h4 : gSl x lo hi = some d) : mSl f g h s = some (d, s3) := by
  unfold mSl
  rw [h1, Option.bind_some, h2, Option.bind_some, h3, Option.bind_some]
  dsimp only
  rw [h4]
  rfl
theorem mrng1 {f : DM (List Dt)} {s s1 : Sta} {j : Int} (h : f s = some ([.int j], s1)) (h0 : 0 ≤ j) (h1 : j < 1000000) : wRng1 f s = some (rngD 0 j.toNat, s1) := by
  unfold wRng1
  rw [h, Option.bind_some]
  dsimp only
  rw [if_pos]
  unfold bRng
  rw [decide_eq_true (by omega), decide_eq_true (by omega)]
  rfl
theorem rng_len {lo : Int} {n : Nat} : (rngD lo n).length = n := by simp [rngD]
theorem mm1 {g : Str → Dt → Option Dt} {f1 f2 : DM Dt} {s s1 s2 : Sta} {a : Str} {y d : Dt} (h1 : f1 s = some (.str a, s1)) (h2 : f2 s1 = some (y, s2)) (h3 : g a y = some d) : mM1 g f1 f2 s = some (d, s2) := by
  unfold mM1
  rw [h1, Option.bind_some]
  dsimp only
  rw [h2, Option.bind_some, h3]
  rfl
theorem gjoin_ok {ss : List Str} (h : (ss.map (·.length)).sum ≤ 1000) : gJoin "" (.lst (ss.map Dt.str)) = some (.str (Str.join "" ss)) := by
  show (gJoin.txts (ss.map Dt.str)).bind _ = _
  rw [txts_map, Option.bind_some, if_pos]
  · rw [TL.join_eq]
  · have e : ("" : Str).length = 0 := rfl
    rw [e]
    omega
theorem sum_ones : ∀ {ss : List Str}, (∀ z ∈ ss, z.length = 1) → (ss.map (·.length)).sum = ss.length
  | [], _ => rfl
  | s :: r, h => by
    rw [List.map_cons, List.sum_cons, h s (List.mem_cons_self ..), sum_ones fun z hz => h z (List.mem_cons_of_mem _ hz), List.length_cons]
    omega
theorem new_names {bg : List Dt} (h : BagOk bg) {m : Nat} (h0 : m ≤ 26) : ∃ (ns : List Str) (bg' : List Dt), sLnew_names [.bag, .int m] bg = some (.lst (ns.map Dt.str), bg') ∧ ns.length = m ∧ (∀ z ∈ ns, NameOk z) ∧ BagOk bg' := by
  obtain ⟨r, bg1, e1, r0, r1, hb1⟩ := pull_ok h (n := 5) (by decide) (by decide)
  -- the stem
  obtain ⟨rs, bg2, e2, l2, p2, hb2⟩ := comp_all (sl0 := [some (.dat .bag), some (.dat (.int m)), some (.dat (.str abc)), none, none, none, none, none, none]) (h := hName 7) (t := mYes) (e := mApp sLany (mCons (mVar 0) (mCons (mVar 2) mNil))) (fun _ => True) (fun d => ∃ z, d = .str z ∧ (Low z ∧ z.length = 1)) (fun d bg _ hb => by
    obtain ⟨c, bg', e, hc, hb'⟩ := any_str hb (z := abc) (by rw [len_abc]; decide) (by rw [len_abc]; decide)
    refine ⟨_, _, .str ⟨#[c]⟩, ⟨[some (.dat .bag), some (.dat (.int m)), some (.dat (.str abc)), none, none, none, none, some (.dat d), none], bg'⟩, rfl, rfl, ?_, ⟨_, rfl, fun k hk => ?_, rfl⟩, hb'⟩
    · exact mapp (s1 := ⟨[some (.dat .bag), some (.dat (.int m)), some (.dat (.str abc)), none, none, none, none, some (.dat d), none], bg⟩) rfl e
    · have : k = c := by simpa using hk
      rw [this]
      exact low_abc c hc) (rngD 0 r.toNat) bg1 (fun _ _ => trivial) hb1
  rw [rng_len] at l2
  obtain ⟨ss, rfl, hss⟩ := strs_of p2
  rw [List.length_map] at l2
  have hj := low_join (l := ss) fun z hz => (hss z hz).1
  rw [sum_ones fun z hz => (hss z hz).2, l2] at hj
  have hjn := gjoin_ok (ss := ss) (by rw [sum_ones fun z hz => (hss z hz).2, l2]; omega)
  generalize Str.join "" ss = stem at hj hjn
  obtain ⟨hlow, hlen⟩ := hj
  have hlen4 : stem.length ≤ 4 := by omega
  obtain ⟨at_, bg3, e3, a0, a1, hb3⟩ := pull_ok hb2 (n := (stem.length : Nat) + 1) (by omega) (by omega)
  obtain ⟨fi, bg4, e4, f0, f1, hb4⟩ := pull_ok hb3 (n := 26) (by decide) (by decide)
  obtain ⟨i, rfl⟩ : ∃ i : Nat, at_ = (i : Int) := ⟨at_.toNat, by omega⟩
  have hi : i ≤ stem.length := by omega
  -- the rows
  obtain ⟨rs4, bg5, e5, l5, p5, hb5⟩ := comp_all (sl0 := [some (.dat .bag), some (.dat (.int m)), some (.dat (.str abc)), some (.dat (.str stem)), none, some (.dat (.int (i : Nat))), some (.dat (.int fi)), none, none]) (h := hName 7) (t := mYes)
    (e := m2 gAdd (m2 gAdd (mSl (mVar 3) mNoP (mPart (mVar 5))) (m2 gIx (mVar 2) (m2 gSub0 (m2 gAdd (mVar 6) (mVar 7)) (mC (.int 26))))) (mSl (mVar 3) (mPart (mVar 5)) mNoP))
    (fun d => ∃ k : Nat, k < m ∧ d = .int (0 + (k : Nat))) (fun d => ∃ z, d = .str z ∧ (Low z ∧ 1 ≤ z.length ∧ z.length ≤ 5)) (fun d bg hd hb => by
    obtain ⟨k, hk, rfl⟩ := hd
    have hc : ∃ c, atI abc.cps.toList (fi + (0 + (k : Nat)) - 26) = some c ∧ c ∈ abc.cps.toList := by
      have hl : abc.cps.toList.length = 26 := by rw [← len_abc]; simp [Str.length]
      have hx : ∃ j, ixN abc.cps.toList.length (fi + (0 + (k : Nat)) - 26) = some j ∧ j < 26 := by
        rw [hl]
        unfold ixN
        by_cases c0 : 0 ≤ fi + (0 + (k : Nat)) - 26
        · rw [if_pos c0, if_pos (by omega)]
          exact ⟨_, rfl, by omega⟩
        · rw [if_neg c0, if_pos (by omega)]
          exact ⟨_, rfl, by omega⟩
      obtain ⟨j, ej, hj⟩ := hx
      refine ⟨abc.cps.toList[j]'(by omega), ?_, List.getElem_mem _⟩
      unfold atI
      rw [ej]
      show abc.cps.toList[j]? = _
      simp [hl, hj]
    obtain ⟨c, ec, hc⟩ := hc
    have hcut := len_cut (z := stem) hi
    have lc : (⟨#[c]⟩ : Str).length = 1 := rfl
    let s7 : Sta := ⟨[some (.dat .bag), some (.dat (.int m)), some (.dat (.str abc)), some (.dat (.str stem)), none, some (.dat (.int (i : Nat))), some (.dat (.int fi)), some (.dat (.int (0 + (k : Nat)))), none], bg⟩
    refine ⟨s7, s7, .str (cutS stem none (some (i : Nat)) ++ ⟨#[c]⟩ ++ cutS stem (some (i : Nat)) none), s7, rfl, rfl, ?_, ⟨_, rfl, ?_, ?_, ?_⟩, hb⟩
    · refine m2_eq (s1 := s7) (x := .str (cutS stem none (some (i : Nat)) ++ ⟨#[c]⟩)) (y := .str (cutS stem (some (i : Nat)) none)) ?_ ?_ ?_
      · refine m2_eq (s1 := s7) (x := .str (cutS stem none (some (i : Nat)))) (y := .str ⟨#[c]⟩) ?_ ?_ ?_
        · exact msl (s1 := s7) (s2 := s7) (x := .str stem) rfl rfl rfl (gsl_str (by omega))
        · exact m2_eq (s1 := s7) (x := .str abc) (y := .int (fi + (0 + (k : Nat)) - 26)) rfl rfl (gix_str (by rw [len_abc]; decide) ec)
        · exact gadd_str (by rw [lc]; omega)
      · exact msl (s1 := s7) (s2 := s7) (x := .str stem) rfl rfl rfl (gsl_str (by omega))
      · exact gadd_str (by rw [len_app, lc]; omega)
    · refine low_app (low_app (low_cut hlow _ _) fun y hy => ?_) (low_cut hlow _ _)
      have : y = c := by simpa using hy
      rw [this]
      exact low_abc c hc
    · rw [len_app, len_app, lc]; omega
    · rw [len_app, len_app, lc]; omega) (rngD 0 m) bg4 (fun d hd => rng_mem hd) hb4
  rw [rng_len] at l5
  obtain ⟨rows, rfl, hrows⟩ := strs_of p5
  rw [List.length_map] at l5
  -- no reserved ones
  obtain ⟨rs6, bg6, e6, l6, p6, hb6⟩ := comp_all (sl0 := [some (.dat .bag), some (.dat (.int m)), some (.dat (.str abc)), some (.dat (.str stem)), some (.dat (.lst (rows.map Dt.str))), some (.dat (.int (i : Nat))), some (.dat (.int fi)), none, none]) (h := hName 8) (t := mYes)
    (e := mIf (mB (m2 gIn (mVar 8) (mApp sLreserved mNil))) (m2 gAdd (mVar 8) (mC (.str "q"))) (mVar 8))
    (fun d => ∃ z, d = .str z ∧ (Low z ∧ 1 ≤ z.length ∧ z.length ≤ 5)) (fun d => ∃ z, d = .str z ∧ NameOk z) (fun d bg hd hb => by
    obtain ⟨z, rfl, hz, z1, z5⟩ := hd
    let s8 : Sta := ⟨[some (.dat .bag), some (.dat (.int m)), some (.dat (.str abc)), some (.dat (.str stem)), some (.dat (.lst (rows.map Dt.str))), some (.dat (.int (i : Nat))), some (.dat (.int fi)), none, some (.dat (.str z))], bg⟩
    have hin : mB (m2 gIn (mVar 8) (mApp sLreserved mNil)) s8 = some (resv.any (fun r => r == z), s8) := by
      unfold mB
      rw [m2_eq (s1 := s8) (s2 := s8) (x := .str z) (y := .lst (resv.map Dt.str)) rfl rfl (in_resv z)]
      rfl
    by_cases hr : z ∈ resv
    · have hx : resv.any (fun r => r == z) = true := List.any_eq_true.mpr ⟨z, hr, by simp⟩
      refine ⟨s8, s8, .str (z ++ "q"), s8, rfl, rfl, ?_, ⟨_, rfl, nameB_iff.mp (resv_q z hr)⟩, hb⟩
      unfold mIf
      rw [hin, hx]
      show m2 gAdd (mVar 8) (mC (.str "q")) s8 = _
      exact m2_eq (s1 := s8) (s2 := s8) (x := .str z) (y := .str "q") rfl rfl (gadd_str (by show z.length + 1 ≤ 1000; omega))
    · have hx : resv.any (fun r => r == z) = false := by
        rw [List.any_eq_false]
        intro r hr' e
        rw [beq_iff_eq] at e
        subst e
        exact hr hr'
      refine ⟨s8, s8, .str z, s8, rfl, rfl, ?_, ⟨_, rfl, ⟨hz, z1, by omega, hr⟩⟩, hb⟩
      unfold mIf
      rw [hin, hx]
      rfl) (rows.map Dt.str) bg5 (fun d hd => by
        obtain ⟨z, hz, rfl⟩ := List.mem_map.mp hd
        exact ⟨z, rfl, hrows z hz⟩) hb5
  rw [List.length_map, l5] at l6
  obtain ⟨ns, rfl, hns⟩ := strs_of p6
  rw [List.length_map] at l6
  refine ⟨ns, bg6, ?_, l6, hns, hb6⟩
  unfold sLnew_names
  let t1 : Sta := ⟨[some (.dat .bag), some (.dat (.int m)), some (.dat (.str abc)), none, none, none, none, none, none], bg⟩
  let t2 : Sta := ⟨[some (.dat .bag), some (.dat (.int m)), some (.dat (.str abc)), some (.dat (.str stem)), none, none, none, none, none], bg2⟩
  let t3 : Sta := ⟨[some (.dat .bag), some (.dat (.int m)), some (.dat (.str abc)), some (.dat (.str stem)), none, some (.dat (.int (i : Nat))), some (.dat (.int fi)), none, none], bg4⟩
  let t4 : Sta := ⟨[some (.dat .bag), some (.dat (.int m)), some (.dat (.str abc)), some (.dat (.str stem)), some (.dat (.lst (rows.map Dt.str))), some (.dat (.int (i : Nat))), some (.dat (.int fi)), none, none], bg5⟩
  refine fnd (s1 := { t4 with bag := bg6 }) ?_
  show kSeq _ _ ⟨[some (.dat .bag), some (.dat (.int m)), none, none, none, none, none, none, none], bg⟩ = _
  rw [kseq (s1 := t1) rfl]
  rw [kseq (s1 := t2)]
  · rw [kseq (s1 := t3)]
    · rw [kseq (s1 := t4)]
      · exact kret (mcomp (s1 := t4) rfl (by rw [List.length_map, l5]; omega) e6)
      · refine kasg (s1 := { t3 with bag := bg5 }) (d := .lst (rows.map Dt.str)) ?_ rfl
        refine mcomp (s1 := t3) (l := rngD 0 m) ?_ (by rw [rng_len]; omega) e5
        exact mrng1 (j := (m : Nat)) rfl (by omega) (by omega)
    · refine kasg (s1 := { t2 with bag := bg4 }) (d := .tup [.int (i : Nat), .int fi]) ?_ rfl
      refine mtup (mcons (s1 := { t2 with bag := bg3 }) ?_ (mcons (s1 := { t2 with bag := bg4 }) ?_ rfl))
      · refine mapp (s1 := t2) (ds := [.bag, .int ((stem.length : Nat) + 1)]) ?_ e3
        refine mcons (s1 := t2) rfl (mcons (s1 := t2) ?_ rfl)
        refine m2_eq (s1 := t2) (x := .int (stem.length : Nat)) (y := .int 1) ?_ rfl rfl
        unfold mCall
        show (gLen [.str stem]).bind _ = _
        rw [glen_str (Nat.le_trans hlen4 (by decide))]
        rfl
      · exact mapp (s1 := { t2 with bag := bg3 }) (ds := [.bag, .int 26]) rfl e4
  · refine kasg (s1 := { t1 with bag := bg2 }) (d := .str stem) ?_ rfl
    refine mm1 (s1 := t1) (y := .lst (ss.map Dt.str)) rfl ?_ hjn
    refine mcomp (s1 := { t1 with bag := bg1 }) (l := rngD 0 r.toNat) ?_ (by rw [rng_len]; omega) e2
    refine mrng1 ?_ r0 (by omega)
    exact mcons (s1 := { t1 with bag := bg1 }) (mapp (s1 := t1) (ds := [.bag, .int 5]) rfl e1) rfl

/-! ### like: the same thing is like itself -/
def okD : Nat → Dt → Bool
  | 0, _ => false
  | _, .bag => false
  | _, .dic _ _ => false
  | n + 1, .tup l => decide (l.length ≤ 1000) && l.all (okD n)
  | n + 1, .lst l => decide (l.length ≤ 1000) && l.all (okD n)
  | _ + 1, .str z => z.cps.all (· < 0x110000)
  | _ + 1, _ => true
theorem zip_self {l : List Dt} {d : Dt} (h : d ∈ zipD l l) : ∃ x, x ∈ l ∧ d = .tup [x, x] := by
  obtain ⟨i, hi, e⟩ := List.getElem_of_mem h
  have e' : (zipD l l)[i]? = some d := by rw [← e]; exact List.getElem?_eq_getElem hi
  obtain ⟨x, y, h1, h2, rfl⟩ := zip_get l l i d e'
  rw [h1] at h2
  cases h2
  exact ⟨x, List.mem_of_getElem? h1, rfl⟩
theorem bools_true : ∀ (l : List Dt), bools (l.map fun _ => .bl true) = some (l.map fun _ => true)
  | [] => rfl
  | d :: l => by
    show (bools (l.map fun _ => .bl true)).bind _ = _
    rw [bools_true l]
    rfl
theorem all_true : ∀ (l : List Dt), ((l.map fun _ => true).all id) = true
  | [] => rfl
  | d :: l => by
    show (id true && (l.map fun _ => true).all id) = true
    rw [all_true l]
    rfl
theorem gall_true (l : List Dt) : gAll [.lst (l.map fun _ => .bl true)] = some (.bl true) := by
  show (bools (l.map fun _ => .bl true)).bind _ = _
  rw [bools_true, Option.bind_some, all_true]
theorem like_seq {R : FD} {l : List Dt} {d : Dt} {bg : List Dt} (hd : d = .lst l ∨ d = .tup l) (hl : l.length ≤ 1000) (hR : ∀ x ∈ l, R [x, x] bg = some (.bl true, bg)) : sLlikeB R [d, d] bg = some (.bl true, bg) := by
  let s2 : Sta := ⟨[some (.dat d), some (.dat d), some (.dat (.bl true)), none, none], bg⟩
  have hlen : gLen [d] = some (.int (l.length : Nat)) := by rcases hd with rfl | rfl <;> rfl
  have e1 : m2 gEq (mCall gLen (mCons (mVar 0) mNil)) (mCall gLen (mCons (mVar 1) mNil)) s2 = some (.bl true, s2) := by
    refine m2_eq (s1 := s2) (x := .int (l.length : Nat)) (y := .int (l.length : Nat)) ?_ ?_ ?_
    · unfold mCall; show (gLen [d]).bind _ = _; rw [hlen]; rfl
    · unfold mCall; show (gLen [d]).bind _ = _; rw [hlen]; rfl
    · rw [eqII, beq_self_eq_true]
  have e2 : mComp [3, 4] (wZip (mCons (mVar 0) (mCons (mVar 1) mNil))) (hTup 2 (hCons (hName 3) (hCons (hName 4) hNil))) mYes (mApp R (mCons (mVar 3) (mCons (mVar 4) mNil))) s2 = some (.lst ((zipD l l).map fun _ => .bl true), s2) := by
    refine mcomp (s1 := s2) (l := zipD l l) ?_ (by rw [zip_len]; omega) (comp_map (fun _ => .bl true) _ fun z hz => ?_)
    · unfold wZip
      rcases hd with rfl | rfl <;> rfl
    · obtain ⟨x, hx, rfl⟩ := zip_self hz
      let s3 : Sta := ⟨[some (.dat d), some (.dat d), some (.dat (.bl true)), some (.dat x), some (.dat x)], bg⟩
      exact ⟨s3, s3, s3, rfl, rfl, mapp (s1 := s3) (ds := [x, x]) rfl (hR x hx), rfl⟩
  have e3 : mAndV (mVar 2) (mAndV (m2 gEq (mCall gLen (mCons (mVar 0) mNil)) (mCall gLen (mCons (mVar 1) mNil))) (mCall gAll (mCons (mComp [3, 4] (wZip (mCons (mVar 0) (mCons (mVar 1) mNil))) (hTup 2 (hCons (hName 3) (hCons (hName 4) hNil))) mYes (mApp R (mCons (mVar 3) (mCons (mVar 4) mNil)))) mNil))) s2 = some (.bl true, s2) := by
    show mAndV (m2 gEq (mCall gLen (mCons (mVar 0) mNil)) (mCall gLen (mCons (mVar 1) mNil))) _ s2 = _
    unfold mAndV
    rw [e1, Option.bind_some]
    show mCall gAll _ s2 = _
    unfold mCall
    rw [mcons (s1 := s2) (s2 := s2) e2 rfl, Option.bind_some]
    show (gAll [.lst ((zipD l l).map fun _ => .bl true)]).bind _ = _
    rw [gall_true]
    rfl
  unfold sLlikeB
  refine fnd (s1 := s2) ?_
  have e4 := kret e3
  rcases hd with rfl | rfl
  · unfold kSeq
    rw [kif_t (s1 := ⟨[some (.dat (.lst l)), some (.dat (.lst l)), none, none, none], bg⟩) rfl]
    show (kSeq _ _ _).bind _ = _
    rw [kseq (s1 := s2) rfl, e4]
    rfl
  · unfold kSeq
    rw [kif_t (s1 := ⟨[some (.dat (.tup l)), some (.dat (.tup l)), none, none, none], bg⟩) rfl]
    show (kSeq _ _ _).bind _ = _
    rw [kseq (s1 := s2) rfl, e4]
    rfl
abbrev cpOk (z : Str) : Bool := z.cps.all (· < 0x110000)
theorem cp_low {z : Str} (h : Low z) : cpOk z = true := by
  unfold cpOk
  rw [← Array.all_toList, List.all_eq_true]
  intro c hc
  have := h c hc
  unfold letter at this
  exact decide_eq_true (by omega)
theorem eqOk_str {a : Str} (h : cpOk a = true) : eqOk (.str a) = true := by
  show (true && (PyData.canLay0 (.str a) && decide (PyData.depth (.str a) ≤ 64))) = true
  have e : PyData.canLay0 (.str a) = true := h
  rw [e]
  rfl
theorem eqSS {a b : Str} (ha : cpOk a = true) (hb : cpOk b = true) : gEq (.str a) (.str b) = some (.bl (a == b)) := by
  unfold gEq
  rw [eqOk_str ha, eqOk_str hb]
  rfl
theorem like_non {R : FD} (bg : List Dt) : sLlikeB R [.non, .non] bg = some (.bl true, bg) := by
  let s : Sta := ⟨[some (.dat .non), some (.dat .non), none, none, none], bg⟩
  unfold sLlikeB
  refine fnd (s1 := s) ?_
  show kSeq _ _ s = _
  rw [kseq (s1 := s) (by rw [kif_f (s1 := s) rfl]; rfl)]
  unfold kSeq
  rw [kif_t (s1 := s) (or_t rfl)]
  rfl
theorem like_scal {R : FD} (d : Dt) (bg : List Dt) (h1 : isLst d = false) (h2 : isTup d = false) (h3 : isNon d = false) (h4 : gEq (.bl (isInt d)) (.bl (isInt d)) = some (.bl true)) (h5 : gEq (.bl (isStr d)) (.bl (isStr d)) = some (.bl true)) (h6 : gEq d d = some (.bl true)) :
    sLlikeB R [d, d] bg = some (.bl true, bg) := by
  let s : Sta := ⟨[some (.dat d), some (.dat d), none, none, none], bg⟩
  have e1 : mB (mIsi (fun d => isLst d || isTup d) (mVar 1)) s = some (false, s) := by
    show some (isLst d || isTup d, s) = _
    rw [h1, h2]; rfl
  have e2 : mOrB (mB (m2 gIsN (mVar 0) (mC .non))) (mOrB (mB (m2 gIsN (mVar 1) (mC .non))) (mB (m2 gNe (mIsi isBl (mVar 0)) (mIsi isBl (mVar 1))))) s = some (false, s) := by
    rw [or_f (s1 := s), or_f (s1 := s)]
    · show mB (m2 gNe (mIsi isBl (mVar 0)) (mIsi isBl (mVar 1))) s = _
      unfold mB
      rw [m2_eq (s1 := s) (s2 := s) (x := .bl (isBl d)) (y := .bl (isBl d)) (d := .bl false) rfl rfl (by cases isBl d <;> rfl)]
      rfl
    · show some (isNon d, s) = _
      rw [h3]
    · show some (isNon d, s) = _
      rw [h3]
  unfold sLlikeB
  refine fnd (s1 := s) ?_
  show kSeq _ _ s = _
  rw [kseq (s1 := s) (by rw [kif_f e1]; rfl), kseq (s1 := s) (by rw [kif_f e2]; rfl)]
  refine kret ?_
  unfold mAndV
  rw [m2_eq (s1 := s) (s2 := s) (x := .bl (isInt d)) (y := .bl (isInt d)) rfl rfl h4, Option.bind_some]
  dsimp only
  rw [m2_eq (s1 := s) (s2 := s) (x := .bl (isStr d)) (y := .bl (isStr d)) rfl rfl h5, Option.bind_some]
  dsimp only
  exact m2_eq (s1 := s) (s2 := s) (x := d) (y := d) rfl rfl h6
theorem like_refl : ∀ (n : Nat) (d : Dt) (bg : List Dt), okD n d = true → sLlike n [d, d] bg = some (.bl true, bg)
  | 0, _, _, h => by cases h
  | n + 1, d, bg, h => by
    cases d with
    | bag => cases h
    | dic ks l => cases h
    | tup l =>
      unfold okD at h
      rw [Bool.and_eq_true] at h
      exact like_seq (.inr rfl) (of_decide_eq_true h.1) fun x hx => like_refl n x bg (List.all_eq_true.mp h.2 x hx)
    | lst l =>
      unfold okD at h
      rw [Bool.and_eq_true] at h
      exact like_seq (.inl rfl) (of_decide_eq_true h.1) fun x hx => like_refl n x bg (List.all_eq_true.mp h.2 x hx)
    | non => exact like_non bg
    | bl b => exact like_scal (.bl b) bg rfl rfl rfl rfl rfl (by cases b <;> rfl)
    | int i => exact like_scal (.int i) bg rfl rfl rfl rfl rfl (by rw [eqII, beq_self_eq_true])
    | str z =>
      have hz : cpOk z = true := by unfold okD at h; exact h
      exact like_scal (.str z) bg rfl rfl rfl rfl rfl (by rw [eqSS hz hz, beq_self_eq_true])

/-! ### is_name, is_column, is_value, shifted -/
theorem tag {a b : Str} (ha : cpOk a = true) (hb : cpOk b = true) {r : Bool} (e : (a == b) = r) : gEq (.str a) (.str b) = some (.bl r) := by rw [eqSS ha hb, e]
theorem tagN {a b : Str} (ha : cpOk a = true) (hb : cpOk b = true) {r : Bool} (e : (a == b) = r) : gNe (.str a) (.str b) = some (.bl !r) := by
  unfold gNe
  rw [eqOk_str ha, eqOk_str hb]
  show some (Dt.bl !(a == b)) = _
  rw [e]
theorem mBt {f : DM Dt} {s s1 : Sta} {b : Bool} (h : f s = some (.bl b, s1)) : mB f s = some (b, s1) := by unfold mB; rw [h]; rfl
theorem andV_t {f g : DM Dt} {s s1 : Sta} (h : f s = some (.bl true, s1)) : mAndV f g s = g s1 := by unfold mAndV; rw [h]; rfl
theorem andV_f {f g : DM Dt} {s s1 : Sta} (h : f s = some (.bl false, s1)) : mAndV f g s = some (.bl false, s1) := by unfold mAndV; rw [h]; rfl
theorem orV_t {f g : DM Dt} {s s1 : Sta} (h : f s = some (.bl true, s1)) : mOrV f g s = some (.bl true, s1) := by unfold mOrV; rw [h]; rfl
theorem orV_f {f g : DM Dt} {s s1 : Sta} (h : f s = some (.bl false, s1)) : mOrV f g s = g s1 := by unfold mOrV; rw [h]; rfl
theorem mcall {g : List Dt → Option Dt} {f : DM (List Dt)} {s s1 : Sta} {l : List Dt} {d : Dt} (h : f s = some (l, s1)) (e : g l = some d) : mCall g f s = some (d, s1) := by unfold mCall; rw [h, Option.bind_some, e]; rfl
theorem mchain_t {g g' : Dt → Dt → Option Dt} {f1 f2 f3 : DM Dt} {s s1 s2 s3 : Sta} {x y z d : Dt} (h1 : f1 s = some (x, s1)) (h2 : f2 s1 = some (y, s2)) (h3 : g x y = some (.bl true)) (h4 : f3 s2 = some (z, s3)) (h5 : g' y z = some d) : mChain g g' f1 f2 f3 s = some (d, s3) := by
  unfold mChain; rw [h1, Option.bind_some, h2, Option.bind_some]; dsimp only; rw [h3, Option.bind_some]; dsimp only; rw [h4, Option.bind_some]; dsimp only; rw [h5]; rfl
theorem mchain_f {g g' : Dt → Dt → Option Dt} {f1 f2 f3 : DM Dt} {s s1 s2 : Sta} {x y : Dt} (h1 : f1 s = some (x, s1)) (h2 : f2 s1 = some (y, s2)) (h3 : g x y = some (.bl false)) : mChain g g' f1 f2 f3 s = some (.bl false, s2) := by
  unfold mChain; rw [h1, Option.bind_some, h2, Option.bind_some]; dsimp only; rw [h3]; rfl
theorem bools_map (f : Dt → Bool) : ∀ (l : List Dt), bools (l.map fun d => .bl (f d)) = some (l.map f)
  | [] => rfl
  | d :: l => by
    show (bools (l.map fun d => .bl (f d))).bind _ = _
    rw [bools_map f l]
    rfl
theorem gall_map (f : Dt → Bool) (l : List Dt) : gAll [.lst (l.map fun d => .bl (f d))] = some (.bl (l.all f)) := by
  show (bools (l.map fun d => .bl (f d))).bind _ = _
  rw [bools_map, Option.bind_some, List.all_map]
  rfl
def letB : Dt → Bool
  | .str z => !(strLt z "a") && !(strLt "z" z)
  | _ => false
theorem lt1 (a b : Nat) : ([a] < [b]) ↔ a < b := by
  constructor
  · intro h
    cases h with
    | rel h => exact h
    | cons h => cases h
  · intro h
    exact List.Lex.rel h
theorem letB_c (c : Nat) : letB (.str ⟨#[c]⟩) = (decide (97 ≤ c) && decide (c ≤ 122)) := by
  have ea : ("a" : Str).cps.toList = [97] := by decide +kernel
  have ez : ("z" : Str).cps.toList = [122] := by decide +kernel
  show (!(decide ((⟨#[c]⟩ : Str).cps.toList < ("a" : Str).cps.toList)) && !(decide (("z" : Str).cps.toList < (⟨#[c]⟩ : Str).cps.toList))) = _
  rw [ea, ez]
  show (!(decide ([c] < [97])) && !(decide ([122] < [c]))) = _
  have h1 : decide ([c] < [97]) = decide (c < 97) := decide_eq_decide.mpr (lt1 c 97)
  have h2 : decide ([122] < [c]) = decide (122 < c) := decide_eq_decide.mpr (lt1 122 c)
  rw [h1, h2]
  by_cases a : c < 97
  · have : ¬ 97 ≤ c := by omega
    simp [a, this]
  · by_cases b : 122 < c
    · have : ¬ c ≤ 122 := by omega
      simp [b, this]
    · have h3 : 97 ≤ c := by omega
      have h4 : c ≤ 122 := by omega
      simp [a, b, h3, h4]
theorem resv_tup (z : Str) : gIn (.str z) s_RESERVED = some (.bl (resv.contains z)) := by
  show (if (flatD (.str z) && (resv.map Dt.str).all flatD) = true then some (Dt.bl ((resv.map Dt.str).any fun d => sameD d (.str z))) else none) = _
  rw [if_pos (show (flatD (.str z) && (resv.map Dt.str).all flatD) = true from rfl), List.any_map]
  show some (Dt.bl (resv.any fun r => r == z)) = _
  congr 2
  rw [List.contains_eq_any_beq]
  congr 1
  funext r
  exact Bool.beq_comm
theorem is_name_str (z : Str) (bg : List Dt) (hz : z.length ≤ 100000) : sis_name [.str z] bg = some (.bl (nameB z), bg) := by
  let s : Sta := ⟨[some (.dat (.str z)), none], bg⟩
  have hl : gLen [.str z] = some (.int (z.length : Nat)) := glen_str (Nat.le_trans hz (by decide))
  have ein : mOrB (mNotB (mB (mIsi isStr (mVar 0)))) (mB (m2 gIn (mVar 0) (mC s_RESERVED))) s = some (resv.contains z, s) := by
    rw [or_f (s1 := s) rfl]
    exact mBt (m2_eq (s1 := s) (s2 := s) (x := .str z) (y := s_RESERVED) rfl rfl (resv_tup z))
  have elen : mCall gLen (mCons (mVar 0) mNil) s = some (.int (z.length : Nat), s) := mcall (s1 := s) (l := [.str z]) rfl hl
  have ecomp : mCall gAll (mCons (mComp [1] (wStr (mVar 0)) (hName 1) mYes (mChain oLe oLe (mC (.str "a")) (mVar 1) (mC (.str "z")))) mNil) s = some (.bl (lowB z), s) := by
    have e : mComp [1] (wStr (mVar 0)) (hName 1) mYes (mChain oLe oLe (mC (.str "a")) (mVar 1) (mC (.str "z"))) s = some (.lst ((z.cps.toList.map fun c => Dt.str ⟨#[c]⟩).map fun d => .bl (letB d)), s) := by
      refine mcomp (s1 := s) (l := z.cps.toList.map fun c => Dt.str ⟨#[c]⟩) rfl (by rw [List.length_map]; simpa [Str.length] using hz) (comp_map (fun d => .bl (letB d)) _ fun d hd => ?_)
      obtain ⟨c, hc, rfl⟩ := List.mem_map.mp hd
      let s' : Sta := ⟨[some (.dat (.str z)), some (.dat (.str ⟨#[c]⟩))], bg⟩
      refine ⟨s', s', s', rfl, rfl, ?_, rfl⟩
      by_cases h : strLt ⟨#[c]⟩ "a" = true
      · have e1 : letB (.str ⟨#[c]⟩) = false := by show (!strLt ⟨#[c]⟩ "a" && !strLt "z" ⟨#[c]⟩) = _; rw [h]; rfl
        rw [e1]
        exact mchain_f (s1 := s') (s2 := s') (x := .str "a") (y := .str ⟨#[c]⟩) rfl rfl (by show some (Dt.bl !(strLt ⟨#[c]⟩ "a")) = _; rw [h]; rfl)
      · rw [Bool.not_eq_true] at h
        have e1 : letB (.str ⟨#[c]⟩) = !(strLt "z" ⟨#[c]⟩) := by show (!strLt ⟨#[c]⟩ "a" && !strLt "z" ⟨#[c]⟩) = _; rw [h]; rfl
        rw [e1]
        exact mchain_t (s1 := s') (s2 := s') (s3 := s') (x := .str "a") (y := .str ⟨#[c]⟩) (z := .str "z") rfl rfl (by show some (Dt.bl !(strLt ⟨#[c]⟩ "a")) = _; rw [h]; rfl) rfl rfl
    refine mcall (mcons e rfl) ?_
    rw [gall_map, List.all_map]
    congr 2
    unfold lowB
    congr 1
    funext c
    exact letB_c c
  unfold sis_name
  refine fnd (s1 := s) ?_
  show kSeq _ _ s = _
  by_cases hr : resv.contains z = true
  · have en : nameB z = false := by unfold nameB; rw [hr]; simp
    rw [hr] at ein
    unfold kSeq
    rw [kif_t ein, en]
    rfl
  · rw [Bool.not_eq_true] at hr
    rw [hr] at ein
    rw [kseq (s1 := s) (by rw [kif_f ein]; rfl)]
    refine kret ?_
    by_cases h1 : 1 ≤ z.length
    · by_cases h6 : z.length ≤ 6
      · have en : nameB z = lowB z := by unfold nameB; rw [hr]; simp [h1, h6]
        rw [en, andV_t (s1 := s)]
        · exact ecomp
        · exact mchain_t (s1 := s) (s2 := s) (s3 := s) (x := .int 1) (y := .int (z.length : Nat)) (z := .int 6) rfl elen (by show some (Dt.bl (decide ((1 : Int) ≤ (z.length : Nat)))) = _; rw [decide_eq_true (by omega)]) rfl (by show some (Dt.bl (decide (((z.length : Nat) : Int) ≤ 6))) = _; rw [decide_eq_true (by omega)])
      · have en : nameB z = false := by unfold nameB; simp [h6]
        rw [en]
        refine andV_f ?_
        exact mchain_t (s1 := s) (s2 := s) (s3 := s) (x := .int 1) (y := .int (z.length : Nat)) (z := .int 6) rfl elen (by show some (Dt.bl (decide ((1 : Int) ≤ (z.length : Nat)))) = _; rw [decide_eq_true (by omega)]) rfl (by show some (Dt.bl (decide (((z.length : Nat) : Int) ≤ 6))) = _; rw [decide_eq_false (by omega)])
    · have en : nameB z = false := by unfold nameB; simp [h1]
      rw [en]
      refine andV_f ?_
      exact mchain_f (s1 := s) (s2 := s) (x := .int 1) (y := .int (z.length : Nat)) rfl elen (by show some (Dt.bl (decide ((1 : Int) ≤ (z.length : Nat)))) = _; rw [decide_eq_false (by omega)])

def ColOk (c : Str) : Prop := c = "key" ∨ NameOk c
theorem name_len {z : Str} (h : NameOk z) : z.length ≤ 100000 := Nat.le_trans h.few (by decide)
theorem is_name_ok {z : Str} (h : NameOk z) (bg : List Dt) : sis_name [.str z] bg = some (.bl true, bg) := by
  rw [is_name_str z bg (name_len h), nameB_iff.mpr h]
theorem is_column_ok {z : Str} (h : ColOk z) (bg : List Dt) : sis_column [.str z] bg = some (.bl true, bg) := by
  let s : Sta := ⟨[some (.dat (.str z))], bg⟩
  unfold sis_column
  refine fnd (s1 := s) (kret ?_)
  rcases h with rfl | h
  · exact orV_t (m2_eq (s1 := s) (s2 := s) (x := .str "key") (y := .str "key") rfl rfl (tag (by decide +kernel) (by decide +kernel) (by decide +kernel)))
  · by_cases e : (z == "key") = true
    · exact orV_t (m2_eq (s1 := s) (s2 := s) (x := .str z) (y := .str "key") rfl rfl (tag (cp_low h.low) (by decide +kernel) e))
    · rw [Bool.not_eq_true] at e
      rw [orV_f (m2_eq (s1 := s) (s2 := s) (x := .str z) (y := .str "key") rfl rfl (tag (cp_low h.low) (by decide +kernel) e))]
      exact mapp (s1 := s) (ds := [.str z]) rfl (is_name_ok h bg)
def big : Int := 1000000000000000000000000000000
def Bnd (i : Int) : Prop := -big ≤ i ∧ i ≤ big
theorem is_bounded_ok {i : Int} (h : Bnd i) (bg : List Dt) : sis_bounded_ [.int i] bg = some (.bl true, bg) := by
  let s : Sta := ⟨[some (.dat (.int i))], bg⟩
  unfold sis_bounded_
  refine fnd (s1 := s) (kret ?_)
  rw [andV_t (s1 := s) (mapp (s1 := s) (ds := [.int i]) rfl (bg := bg) (d := .bl true) rfl)]
  refine mchain_t (s1 := s) (s2 := s) (s3 := s) (x := .int (-big)) (y := .int i) (z := .int big) rfl rfl ?_ rfl ?_
  · show some (Dt.bl (decide (-big ≤ i))) = _; rw [decide_eq_true h.1]
  · show some (Dt.bl (decide (i ≤ big))) = _; rw [decide_eq_true h.2]
inductive Sg where
  | number (i : Int) | name (n : Str) | field (n c : Str) | own (c : Str) | next (c : Str)
def Sg.d : Sg → Dt
  | .number i => .tup [.str "number", .int i]
  | .name n => .tup [.str "name", .str n]
  | .field n c => .tup [.str "field", .str n, .str c]
  | .own c => .tup [.str "own", .str c]
  | .next c => .tup [.str "next", .str c]
def Sg.Ok : Sg → Prop
  | .number i => Bnd i
  | .name n => NameOk n
  | .field n c => NameOk n ∧ ColOk c
  | .own c => ColOk c
  | .next c => ColOk c
theorem single2 {a : Str} {b : Dt} {bg : List Dt} (ha : cpOk a = true) {k : Nat} (hk : k = 0 ∧ (a == "number") = true ∧ sis_bounded_ [b] bg = some (.bl true, bg) ∨ k = 1 ∧ (a == "number") = false ∧ (a == "name") = true ∧ sis_name [b] bg = some (.bl true, bg) ∨
    k = 2 ∧ (a == "number") = false ∧ (a == "name") = false ∧ gIn (.str a) (.tup [.str "own", .str "next"]) = some (.bl true) ∧ sis_column [b] bg = some (.bl true, bg)) : sis_single_ [.tup [.str a, b]] bg = some (.bl true, bg) := by
  let s : Sta := ⟨[some (.dat (.tup [.str a, b])), some (.dat (.str a)), some (.dat b)], bg⟩
  let s0 : Sta := ⟨[some (.dat (.tup [.str a, b])), none, none], bg⟩
  unfold sis_single_
  refine fnd (s1 := s) ?_
  show kSeq _ _ s0 = _
  rw [kseq (s1 := s0) rfl, kseq (s1 := s0) rfl, kseq (s1 := s0) rfl, kseq (s1 := s) rfl]
  have t1 : ∀ r, (a == "number") = r → mB (m2 gEq (mVar 1) (mC (.str "number"))) s = some (r, s) := fun r h => mBt (m2_eq (s1 := s) (s2 := s) (x := .str a) (y := .str "number") rfl rfl (tag ha (by decide +kernel) h))
  have t2 : ∀ r, (a == "name") = r → mB (m2 gEq (mVar 1) (mC (.str "name"))) s = some (r, s) := fun r h => mBt (m2_eq (s1 := s) (s2 := s) (x := .str a) (y := .str "name") rfl rfl (tag ha (by decide +kernel) h))
  rcases hk with ⟨_, h1, h2⟩ | ⟨_, h1, h2, h3⟩ | ⟨_, h1, h2, h3, h4⟩
  · unfold kSeq
    rw [kif_t (t1 _ h1), kret (mapp (s1 := s) (ds := [b]) rfl h2)]
    rfl
  · rw [kseq (s1 := s) (by rw [kif_f (t1 _ h1)]; rfl)]
    unfold kSeq
    rw [kif_t (t2 _ h2), kret (mapp (s1 := s) (ds := [b]) rfl h3)]
    rfl
  · rw [kseq (s1 := s) (by rw [kif_f (t1 _ h1)]; rfl), kseq (s1 := s) (by rw [kif_f (t2 _ h2)]; rfl)]
    refine kret ?_
    rw [andV_t (s1 := s) (m2_eq (s1 := s) (s2 := s) (x := .str a) (y := .tup [.str "own", .str "next"]) rfl rfl h3)]
    exact mapp (s1 := s) (ds := [b]) rfl h4
theorem single_ok {v : Sg} (h : v.Ok) (bg : List Dt) : sis_single_ [v.d] bg = some (.bl true, bg) := by
  cases v with
  | number i => exact single2 (by decide +kernel) (.inl ⟨rfl, by decide +kernel, is_bounded_ok h bg⟩)
  | name n => exact single2 (by decide +kernel) (.inr (.inl ⟨rfl, by decide +kernel, by decide +kernel, is_name_ok h bg⟩))
  | own c => exact single2 (by decide +kernel) (.inr (.inr ⟨rfl, by decide +kernel, by decide +kernel, congrArg (fun b => some (Dt.bl b)) (by decide +kernel : ([Dt.str "own", Dt.str "next"].any fun d => sameD d (.str "own")) = true), is_column_ok h bg⟩))
  | next c => exact single2 (by decide +kernel) (.inr (.inr ⟨rfl, by decide +kernel, by decide +kernel, congrArg (fun b => some (Dt.bl b)) (by decide +kernel : ([Dt.str "own", Dt.str "next"].any fun d => sameD d (.str "next")) = true), is_column_ok h bg⟩))
  | field n c =>
    let s : Sta := ⟨[some (.dat (.tup [.str "field", .str n, .str c])), none, none], bg⟩
    unfold sis_single_
    refine fnd (s1 := s) ?_
    show kSeq _ _ s = _
    rw [kseq (s1 := s) rfl]
    unfold kSeq
    rw [kif_t (s1 := s) rfl, kret (s1 := s) (d := .bl true)]
    · rfl
    · rw [andV_t (s1 := s) (m2_eq (s1 := s) (s2 := s) (x := .str "field") (y := .str "field") rfl rfl (tag (by decide +kernel) (by decide +kernel) (by decide +kernel)))]
      rw [andV_t (s1 := s) (mapp (s1 := s) (ds := [.str n]) rfl (is_name_ok h.1 bg))]
      exact mapp (s1 := s) (ds := [.str c]) rfl (is_column_ok h.2 bg)
def vald (v : Sg) : Option Int → Dt
  | none => v.d
  | some m => .tup [.str "plus", v.d, .int m]
theorem value_ok {v : Sg} (h : v.Ok) {o : Option Int} (ho : ∀ m, o = some m → Bnd m) (bg : List Dt) : sis_value [vald v o] bg = some (.bl true, bg) := by
  let s : Sta := ⟨[some (.dat (vald v o))], bg⟩
  have tg : ∀ (a : Str) (r : Bool), cpOk a = true → (a == "plus") = r → gEq (.str a) (.str "plus") = some (.bl r) := fun a r h e => tag h (by decide +kernel) e
  unfold sis_value
  refine fnd (s1 := s) ?_
  cases o with
  | some m =>
    have hm := ho m rfl
    show kSeq _ _ s = _
    unfold kSeq
    rw [kif_t (s1 := s)]
    · rw [kret (s1 := s) (d := .bl true)]
      · rfl
      · rw [andV_t (s1 := s) (mapp (s1 := s) (ds := [v.d]) rfl (single_ok h bg))]
        exact mapp (s1 := s) (ds := [.int m]) rfl (is_bounded_ok hm bg)
    · rw [and_t (s1 := s) rfl, and_t (s1 := s) rfl]
      exact mBt (m2_eq (s1 := s) (s2 := s) (x := .str "plus") (y := .str "plus") rfl rfl (tg _ _ (by decide +kernel) (by decide +kernel)))
  | none =>
    have hc : mAndB (mB (mIsi isTup (mVar 0))) (mAndB (mB (m2 gEq (mCall gLen (mCons (mVar 0) mNil)) (mC (.int 3)))) (mB (m2 gEq (m2 gIx (mVar 0) (mC (.int 0))) (mC (.str "plus"))))) s = some (false, s) := by
      cases v with
      | field n c =>
        rw [and_t (s1 := s) rfl, and_t (s1 := s) rfl]
        exact mBt (m2_eq (s1 := s) (s2 := s) (x := .str "field") (y := .str "plus") rfl rfl (tg _ _ (by decide +kernel) (by decide +kernel)))
      | number i => rw [and_t (s1 := s) rfl]; exact and_f rfl
      | name n => rw [and_t (s1 := s) rfl]; exact and_f rfl
      | own n => rw [and_t (s1 := s) rfl]; exact and_f rfl
      | next n => rw [and_t (s1 := s) rfl]; exact and_f rfl
    show kSeq _ _ s = some (Res.rt (.bl true), s)
    rw [kseq (s1 := s) (by rw [kif_f hc]; rfl)]
    exact kret (mapp (s1 := s) (ds := [v.d]) rfl (single_ok h bg))
def Sg.shift : Sg → Int → Dt
  | .number i, k => .tup [.str "number", .int (i + k)]
  | v, k => if k = 0 then v.d else .tup [.str "plus", v.d, .int k]
theorem shift_tail {v : Sg} {x y : Dt} {a : Int} {bg : List Dt} : ∃ st, (kSeq (kIf (mB (m2 gEq (m2 gIx (mVar 2) (mC (.int 0))) (mC (.str "number")))) (kRet (mTup (mCons (mC (.str "number")) (mCons (m2 gAdd (m2 gIx (mVar 2) (mC (.int 1))) (mVar 3)) mNil)))) kSkip)
    (kSeq (kIf (mB (m2 gEq (mVar 3) (mC (.int 0)))) (kRet (mVar 2)) kSkip)
    (kRet (mTup (mCons (mC (.str "plus")) (mCons (mVar 2) (mCons (mVar 3) mNil)))))))
    ⟨[some (.dat x), some (.dat y), some (.dat v.d), some (.dat (.int a))], bg⟩ = some (.rt (v.shift a), st) ∧ st.bag = bg := by
  let s : Sta := ⟨[some (.dat x), some (.dat y), some (.dat v.d), some (.dat (.int a))], bg⟩
  have tg : ∀ (t : Str) (r : Bool), gIx v.d (.int 0) = some (.str t) → cpOk t = true → (t == "number") = r → mB (m2 gEq (m2 gIx (mVar 2) (mC (.int 0))) (mC (.str "number"))) s = some (r, s) := fun t r h1 h2 h3 =>
    mBt (m2_eq (s1 := s) (s2 := s) (x := .str t) (y := .str "number") (m2_eq (s1 := s) (s2 := s) (x := v.d) (y := .int 0) rfl rfl h1) rfl (tag h2 (by decide +kernel) h3))
  have rest : (∀ k, v.shift k = if k = 0 then v.d else .tup [.str "plus", v.d, .int k]) → mB (m2 gEq (m2 gIx (mVar 2) (mC (.int 0))) (mC (.str "number"))) s = some (false, s) → ∃ st, (kSeq (kIf (mB (m2 gEq (m2 gIx (mVar 2) (mC (.int 0))) (mC (.str "number")))) (kRet (mTup (mCons (mC (.str "number")) (mCons (m2 gAdd (m2 gIx (mVar 2) (mC (.int 1))) (mVar 3)) mNil)))) kSkip)
    (kSeq (kIf (mB (m2 gEq (mVar 3) (mC (.int 0)))) (kRet (mVar 2)) kSkip)
    (kRet (mTup (mCons (mC (.str "plus")) (mCons (mVar 2) (mCons (mVar 3) mNil))))))) s = some (.rt (v.shift a), st) ∧ st.bag = bg := fun hs h => by
    refine ⟨s, ?_, rfl⟩
    rw [kseq (s1 := s) (by rw [kif_f h]; rfl), hs]
    have e0 : mB (m2 gEq (mVar 3) (mC (.int 0))) s = some (a == 0, s) := rfl
    by_cases ha : a = 0
    · rw [if_pos ha]
      unfold kSeq
      rw [kif_t (s1 := s) (by rw [e0, ha]; rfl)]
      rfl
    · rw [if_neg ha]
      rw [kseq (s1 := s) (by rw [kif_f (s1 := s) (by rw [e0, beq_eq_false_iff_ne.mpr ha])]; rfl)]
      exact kret (mtup (mcons (s1 := s) rfl (mcons (s1 := s) rfl (mcons (s1 := s) rfl rfl))))
  cases v with
  | number i =>
    refine ⟨s, ?_, rfl⟩
    show kSeq _ _ s = _
    unfold kSeq
    rw [kif_t (tg _ _ rfl (by decide +kernel) (by decide +kernel)), kret (s1 := s) (d := .tup [.str "number", .int (i + a)])]
    · rfl
    · exact mtup (mcons (s1 := s) rfl (mcons (s1 := s) rfl rfl))
  | name n => exact rest (fun _ => rfl) (tg _ _ rfl (by decide +kernel) (by decide +kernel))
  | field n c => exact rest (fun _ => rfl) (tg _ _ rfl (by decide +kernel) (by decide +kernel))
  | own c => exact rest (fun _ => rfl) (tg _ _ rfl (by decide +kernel) (by decide +kernel))
  | next c => exact rest (fun _ => rfl) (tg _ _ rfl (by decide +kernel) (by decide +kernel))
theorem shifted_ok {v : Sg} (h : v.Ok) {o : Option Int} (ho : ∀ m, o = some m → Bnd m) (k : Int) (bg : List Dt) : sshifted [vald v o, .int k] bg = some (v.shift (o.getD 0 + k), bg) := by
  let s0 : Sta := ⟨[some (.dat (vald v o)), some (.dat (.int k)), none, none], bg⟩
  let s1 : Sta := ⟨[some (.dat (vald v o)), some (.dat (.int k)), some (.dat (vald v o)), some (.dat (.int k))], bg⟩
  have tg : ∀ (t : Str) (r : Bool), gIx (vald v o) (.int 0) = some (.str t) → cpOk t = true → (t == "plus") = r → mB (m2 gEq (m2 gIx (mVar 0) (mC (.int 0))) (mC (.str "plus"))) s1 = some (r, s1) := fun t r h1 h2 h3 =>
    mBt (m2_eq (s1 := s1) (s2 := s1) (x := .str t) (y := .str "plus") (m2_eq (s1 := s1) (s2 := s1) (x := vald v o) (y := .int 0) rfl rfl h1) rfl (tag h2 (by decide +kernel) h3))
  have e1 : mNotB (mB (mApp sis_value (mCons (mVar 0) mNil))) s0 = some (false, s0) := by
    unfold mNotB
    rw [mBt (mapp (s1 := s0) (ds := [vald v o]) rfl (value_ok h ho bg))]
    rfl
  have go : ∀ st, (kSeq (kIf (mNotB (mB (mApp sis_value (mCons (mVar 0) mNil)))) (fun _ => none) kSkip)
    (kSeq (kPar 2 3 (mCons (mVar 0) (mCons (mVar 1) mNil)))
    (kSeq (kIf (mB (m2 gEq (m2 gIx (mVar 0) (mC (.int 0))) (mC (.str "plus")))) (kPar 2 3 (mCons (m2 gIx (mVar 0) (mC (.int 1))) (mCons (m2 gAdd (m2 gIx (mVar 0) (mC (.int 2))) (mVar 1)) mNil))) kSkip)
    (kSeq (kIf (mB (m2 gEq (m2 gIx (mVar 2) (mC (.int 0))) (mC (.str "number")))) (kRet (mTup (mCons (mC (.str "number")) (mCons (m2 gAdd (m2 gIx (mVar 2) (mC (.int 1))) (mVar 3)) mNil)))) kSkip)
    (kSeq (kIf (mB (m2 gEq (mVar 3) (mC (.int 0)))) (kRet (mVar 2)) kSkip)
    (kRet (mTup (mCons (mC (.str "plus")) (mCons (mVar 2) (mCons (mVar 3) mNil))))))))))  s0 = some (.rt (v.shift (o.getD 0 + k)), st) → st.bag = bg → sshifted [vald v o, .int k] bg = some (v.shift (o.getD 0 + k), bg) := fun st h1 h2 => by
    unfold sshifted
    have h3 := fnd (n := 4) (ds := [vald v o, .int k]) (bg := bg) h1
    rw [h2] at h3
    exact h3
  have e2 : kPar 2 3 (mCons (mVar 0) (mCons (mVar 1) mNil)) s0 = some (.nx, s1) := rfl
  cases o with
  | some m =>
    obtain ⟨st, e5, e6⟩ := shift_tail (v := v) (x := vald v (some m)) (y := .int k) (a := m + k) (bg := bg)
    refine go st ?_ e6
    rw [kseq (s1 := s0) (by rw [kif_f e1]; rfl), kseq e2, kseq (s1 := ⟨[some (.dat (vald v (some m))), some (.dat (.int k)), some (.dat v.d), some (.dat (.int (m + k)))], bg⟩) (by rw [kif_t (tg _ _ rfl (by decide +kernel) (by decide +kernel))]; rfl)]
    exact e5
  | none =>
    obtain ⟨st, e5, e6⟩ := shift_tail (v := v) (x := v.d) (y := .int k) (a := 0 + k) (bg := bg)
    refine go st ?_ e6
    have e7 : mB (m2 gEq (m2 gIx (mVar 0) (mC (.int 0))) (mC (.str "plus"))) s1 = some (false, s1) := by
      cases v <;> exact tg _ _ rfl (by decide +kernel) (by decide +kernel)
    rw [kseq (s1 := s0) (by rw [kif_f e1]; rfl), kseq e2, kseq (s1 := s1) (by rw [kif_f e7]; rfl)]
    have : (0 : Int) + k = k := Int.zero_add k
    rw [this] at e5
    show _ = some (Res.rt (v.shift (0 + k)), st)
    rw [this]
    exact e5

theorem loop_inv {h : Dt → Sta → Option Sta} {b : DMs} (I : Sta → Prop) (hs : ∀ d s, I s → ∃ s1 r s2, h d s = some s1 ∧ b s1 = some (r, s2) ∧ (r = .nx ∨ r = .ct) ∧ I s2) : ∀ (l : List Dt) (s : Sta), I s → ∃ s', loopD h b l s = some (.nx, s') ∧ I s'
  | [], s, hi => ⟨s, rfl, hi⟩
  | d :: l, s, hi => by
    obtain ⟨s1, r, s2, e1, e2, hr, h2⟩ := hs d s hi
    obtain ⟨s', e3, h3⟩ := loop_inv I hs l s2 h2
    refine ⟨s', ?_, h3⟩
    unfold loopD
    rw [e1, Option.bind_some, e2, Option.bind_some]
    rcases hr with rfl | rfl <;> exact e3
theorem okD_d {v : Sg} (h : v.Ok) (n : Nat) : okD (n + 2) v.d = true := by
  have hn : ∀ {z : Str}, NameOk z → okD (n + 1) (.str z) = true := fun h => cp_low h.low
  have hc : ∀ {z : Str}, ColOk z → okD (n + 1) (.str z) = true := fun h => by
    rcases h with rfl | h
    · show cpOk "key" = true; decide +kernel
    · exact hn h
  have tg : ∀ {z : Str}, cpOk z = true → okD (n + 1) (.str z) = true := fun h => h
  cases v with
  | number i => show ((decide (2 ≤ 1000)) && (okD (n + 1) (.str "number") && (true && true))) = true; rw [tg (by decide +kernel)]; rfl
  | name z => show ((decide (2 ≤ 1000)) && (okD (n + 1) (.str "name") && (okD (n + 1) (.str z) && true))) = true; rw [tg (by decide +kernel), hn h]; rfl
  | own z => show ((decide (2 ≤ 1000)) && (okD (n + 1) (.str "own") && (okD (n + 1) (.str z) && true))) = true; rw [tg (by decide +kernel), hc h]; rfl
  | next z => show ((decide (2 ≤ 1000)) && (okD (n + 1) (.str "next") && (okD (n + 1) (.str z) && true))) = true; rw [tg (by decide +kernel), hc h]; rfl
  | field z c => show ((decide (3 ≤ 1000)) && (okD (n + 1) (.str "field") && (okD (n + 1) (.str z) && (okD (n + 1) (.str c) && true)))) = true; rw [tg (by decide +kernel), hn h.1, hc h.2]; rfl
theorem okD_plus {v : Sg} (h : v.Ok) (m : Int) (n : Nat) : okD (n + 3) (.tup [.str "plus", v.d, .int m]) = true := by
  show ((decide (3 ≤ 1000)) && (okD (n + 2) (.str "plus") && (okD (n + 2) v.d && (true && true)))) = true
  rw [okD_d h, show okD (n + 2) (.str "plus") = true from (by show cpOk "plus" = true; decide +kernel)]
  rfl
theorem okD_vald {v : Sg} (h : v.Ok) (o : Option Int) (n : Nat) : okD (n + 3) (vald v o) = true := by
  cases o with
  | none => exact okD_d h (n + 1)
  | some m => exact okD_plus h m n
theorem shift_val {v : Sg} (h : v.Ok) (k : Int) (hb : ∀ i, v = .number i → Bnd (i + k)) : ∃ (w : Sg) (o : Option Int), v.shift k = vald w o ∧ w.Ok ∧ (∀ m, o = some m → m = k) ∧ ∀ j, w.shift (o.getD 0 + j) = v.shift (k + j) := by
  have go : (∀ k, v.shift k = if k = 0 then v.d else .tup [.str "plus", v.d, .int k]) → ∃ (w : Sg) (o : Option Int), v.shift k = vald w o ∧ w.Ok ∧ (∀ m, o = some m → m = k) ∧ ∀ j, w.shift (o.getD 0 + j) = v.shift (k + j) := fun hs => by
    by_cases hk : k = 0
    · subst hk
      exact ⟨v, none, by rw [hs]; rfl, h, (fun m e => by cases e), fun j => rfl⟩
    · exact ⟨v, some k, by rw [hs, if_neg hk]; rfl, h, (fun m e => by cases e; rfl), fun j => rfl⟩
  cases v with
  | number i => exact ⟨.number (i + k), none, rfl, hb i rfl, (fun m e => by cases e), fun j => by show Dt.tup [_, .int (i + k + (0 + j))] = Dt.tup [_, .int (i + (k + j))]; rw [Int.zero_add, Int.add_assoc]⟩
  | name n => exact go fun _ => rfl
  | field n c => exact go fun _ => rfl
  | own c => exact go fun _ => rfl
  | next c => exact go fun _ => rfl
theorem okD_shift {v : Sg} (h : v.Ok) (k : Int) (n : Nat) : okD (n + 3) (v.shift k) = true := by
  have go : (∀ k, v.shift k = if k = 0 then v.d else .tup [.str "plus", v.d, .int k]) → okD (n + 3) (v.shift k) = true := fun hs => by
    rw [hs]
    by_cases hk : k = 0
    · rw [if_pos hk]; exact okD_d h (n + 1)
    · rw [if_neg hk]; exact okD_plus h k n
  cases v with
  | number i => show ((decide (2 ≤ 1000)) && (okD (n + 2) (.str "number") && (true && true))) = true; rw [show okD (n + 2) (.str "number") = true from (by show cpOk "number" = true; decide +kernel)]; rfl
  | name n => exact go fun _ => rfl
  | field n c => exact go fun _ => rfl
  | own c => exact go fun _ => rfl
  | next c => exact go fun _ => rfl
theorem mlst2 {f : DM (List Dt)} {s s1 : Sta} {xs : List Dt} (h : f s = some (xs, s1)) (hl : xs.length ≤ 1000) : mLst f s = some (.lst xs, s1) := mlst h hl
theorem mappK {pm : List Nat} {F : FD} {f : DM (List Dt)} {s s1 : Sta} {ds es : List Dt} {d : Dt} {bg : List Dt} (h : f s = some (ds, s1)) (he : (pm.filterMap fun i => ds[i]?) = es) (hF : F es s1.bag = some (d, bg)) : mAppK pm F f s = some (d, { s1 with bag := bg }) := by
  unfold mAppK; rw [h, Option.bind_some]; dsimp only; rw [he, hF]; rfl
theorem kfor_rng {h : Dt → Sta → Option Sta} {b : DMs} {n : Int} {s s' : Sta} (h0 : 0 ≤ n) (h1 : n < 1000000) (e : loopD h b (rngD 0 n.toNat) s = some (.nx, s')) : kFor (wRng1 (mCons (mC (.int n)) mNil)) h b s = some (.nx, s') := by
  unfold kFor
  rw [mrng1 (s1 := s) (j := n) rfl h0 h1, Option.bind_some]
  exact e
end DL

namespace DL
open PySem PySem.Spec PyProof.Rows L2
variable [Tabs]
def s_MOST_DIGITS : Dt := .int 31
def ssingle_text_ : FD := fnD 1 (kSeq (kIf (mB (m2 gIn (m2 gIx (mVar 0) (mC (.int 0))) (mTup (mCons (mC (.str "number")) (mCons (mC (.str "name")) mNil))))) (kRet (mCall gStr (mCons (m2 gIx (mVar 0) (mC (.int 1))) mNil))) kSkip)
    (kSeq (kIf (mB (m2 gEq (m2 gIx (mVar 0) (mC (.int 0))) (mC (.str "field")))) (kRet (mJoined [(mFmt (m2 gIx (mVar 0) (mC (.int 1)))), (mC (.str ".")), (mFmt (m2 gIx (mVar 0) (mC (.int 2))))])) kSkip)
    (kRet (mJoined [(mFmt (m2 gIx (mVar 0) (mC (.int 0)))), (mC (.str ".")), (mFmt (m2 gIx (mVar 0) (mC (.int 1))))]))))
def svalue_text : FD := fnD 2 (kSeq (kIf (mNotB (mB (mApp sis_value (mCons (mVar 0) mNil)))) (fun _ => none) kSkip)
    (kSeq (kIf (mB (m2 gNe (m2 gIx (mVar 0) (mC (.int 0))) (mC (.str "plus")))) (kRet (mApp ssingle_text_ (mCons (mVar 0) mNil))) kSkip)
    (kSeq (kAsg (mIf (mB (m2 oLt (m2 gIx (mVar 0) (mC (.int 2))) (mC (.int 0)))) (mC (.str "-")) (mC (.str "+"))) (hName 1))
    (kRet (mJoined [(mFmt (mApp ssingle_text_ (mCons (m2 gIx (mVar 0) (mC (.int 1))) mNil))), (mC (.str " ")), (mFmt (mVar 1)), (mC (.str " ")), (mFmt (mCall gAbs (mCons (m2 gIx (mVar 0) (mC (.int 2))) mNil)))])))))
def sread_signed_ : FD := fnD 4 (kSeq (kIf (mOrB (mNotB (mB (mChain oLe oLe (mC (.int 1)) (mCall gLen (mCons (mVar 1) mNil)) (mC s_MOST_DIGITS)))) (mB (mCall gAny (mCons (mComp [3] (wStr (mVar 1)) (hName 3) mYes (mNotV (mChain oLe oLe (mC (.str "0")) (mVar 3) (mC (.str "9"))))) mNil)))) (kRet (mC .non)) kSkip)
    (kSeq (kAsg (mCall gIntS (mCons (mVar 1) mNil)) (hName 2))
    (kSeq (kIf (mOrB (mB (m2 gNe (mCall gStr (mCons (mVar 2) mNil)) (mVar 1))) (mOrB (mB (m2 gNin (mVar 0) (mTup (mCons (mC (.str "+")) (mCons (mC (.str "-")) mNil))))) (mAndB (mB (m2 gEq (mVar 0) (mC (.str "-")))) (mB (m2 gEq (mVar 2) (mC (.int 0))))))) (kRet (mC .non)) kSkip)
    (kRet (mIf (mB (m2 gEq (mVar 0) (mC (.str "-")))) (mNeg (mVar 2)) (mVar 2))))))
def sread_single_ : FD := fnD 4 (kSeq (kAsg (mM1 gPartition (mVar 0) (mC (.str "."))) (hTup 3 (hCons (hName 1) (hCons (hName 2) (hCons (hName 3) hNil)))))
    (kSeq (kIf (mB (m2 gIn (mVar 1) (mTup (mCons (mC (.str "own")) (mCons (mC (.str "next")) mNil))))) (kRet (mTup (mCons (mVar 1) (mCons (mVar 3) mNil)))) kSkip)
    (kSeq (kIf (mTru (mVar 2)) (kRet (mTup (mCons (mC (.str "field")) (mCons (mVar 1) (mCons (mVar 3) mNil))))) kSkip)
    (kSeq (kIf (mB (mApp sis_name (mCons (mVar 0) mNil))) (kRet (mTup (mCons (mC (.str "name")) (mCons (mVar 0) mNil)))) kSkip)
    (kSeq (kIf (mB (mM1 gStarts (mVar 0) (mC (.str "-")))) (kRet (mTup (mCons (mC (.str "number")) (mCons (mApp sread_signed_ (mCons (mC (.str "-")) (mCons (mSl (mVar 0) (mPart (mC (.int 1))) mNoP) mNil))) mNil)))) kSkip)
    (kRet (mTup (mCons (mC (.str "number")) (mCons (mApp sread_signed_ (mCons (mC (.str "+")) (mCons (mVar 0) mNil))) mNil)))))))))
def sread_value : FD := fnD 3 (kSeq (kIf (mNotB (mB (mIsi isStr (mVar 0)))) (fun _ => none) kSkip)
    (kSeq (kAsg (mM1 gSplit (mVar 0) (mC (.str " "))) (hName 1))
    (kSeq (kAsg (mApp sread_single_ (mCons (m2 gIx (mVar 1) (mC (.int 0))) mNil)) (hName 2))
    (kSeq (kIf (mB (m2 gEq (mCall gLen (mCons (mVar 1) mNil)) (mC (.int 3)))) (kAsg (mTup (mCons (mC (.str "plus")) (mCons (mVar 2) (mCons (mApp sread_signed_ (mCons (m2 gIx (mVar 1) (mC (.int 1))) (mCons (m2 gIx (mVar 1) (mC (.int 2))) mNil))) mNil)))) (hName 2)) kSkip)
    (kSeq (kIf (mOrB (mB (m2 gNin (mCall gLen (mCons (mVar 1) mNil)) (mTup (mCons (mC (.int 1)) (mCons (mC (.int 3)) mNil))))) (mNotB (mB (mApp sis_value (mCons (mVar 2) mNil))))) (fun _ => none) kSkip)
    (kRet (mVar 2)))))))
def sLis_name : FD := fnD 2 (kSeq (kIf (mOrB (mNotB (mB (mIsi isStr (mVar 0)))) (mOrB (mNotB (mB (mChain oLe oLe (mC (.int 1)) (mCall gLen (mCons (mVar 0) mNil)) (mC (.int 6))))) (mB (m2 gIn (mVar 0) (mApp sLreserved mNil))))) (kRet (mC (.bl false))) kSkip)
    (kRet (mCall gAll (mCons (mComp [1] (wStr (mVar 0)) (hName 1) mYes (m2 gIn (mVar 1) (mC (.str "abcdefghijklmnopqrstuvwxyz")))) mNil))))
def sLfar : FD := fnD 2 (kSeq (kAsg (mApp sLpull (mCons (mVar 0) (mCons (m2 gPow (mC (.int 10)) (mC (.int 9))) mNil))) (hName 1))
    (kRet (mApp sLany (mCons (mVar 0) (mCons (mLst (mCons (mC (.int 0)) (mCons (mC (.int 1)) (mCons (m2 gSub0 (mC (.int 0)) (mC (.int 1))) (mCons (mC (.int 2)) (mCons (m2 gSub0 (mC (.int 5)) (mApp sLpull (mCons (mVar 0) (mCons (mC (.int 11)) mNil)))) (mCons (m2 gSub0 (mVar 1) (m2 gPow (mC (.int 10)) (mC (.int 8)))) (mCons (m2 gSub0 (m2 gPow (mC (.int 10)) (mC (.int 30))) (mVar 1)) (mCons (m2 gSub0 (mVar 1) (m2 gPow (mC (.int 10)) (mC (.int 30)))) mNil))))))))) mNil)))))
def sLvalue_textB (R : FD) : FD := fnD 2 (kSeq (kIf (mB (m2 gEq (m2 gIx (mVar 0) (mC (.int 0))) (mC (.str "plus")))) (kSeq (kAsg (m2 gIx (mVar 0) (mC (.int 2))) (hName 1))
    (kRet (m2 gAdd (mApp R (mCons (m2 gIx (mVar 0) (mC (.int 1))) mNil)) (mIf (mB (m2 oLt (mVar 1) (mC (.int 0)))) (m2 gAdd (mC (.str " - ")) (mCall gStr (mCons (m2 gSub0 (mC (.int 0)) (mVar 1)) mNil))) (m2 gAdd (mC (.str " + ")) (mCall gStr (mCons (mVar 1) mNil))))))) kSkip)
    (kSeq (kIf (mB (m2 gEq (m2 gIx (mVar 0) (mC (.int 0))) (mC (.str "field")))) (kRet (m2 gAdd (m2 gAdd (m2 gIx (mVar 0) (mC (.int 1))) (mC (.str "."))) (m2 gIx (mVar 0) (mC (.int 2))))) kSkip)
    (kSeq (kIf (mB (m2 gIn (m2 gIx (mVar 0) (mC (.int 0))) (mTup (mCons (mC (.str "own")) (mCons (mC (.str "next")) mNil))))) (kRet (m2 gAdd (m2 gAdd (m2 gIx (mVar 0) (mC (.int 0))) (mC (.str "."))) (m2 gIx (mVar 0) (mC (.int 1))))) kSkip)
    (kRet (mCall gStr (mCons (m2 gIx (mVar 0) (mC (.int 1))) mNil))))))
def sLvalue_text : Nat → FD
  | 0 => fun _ _ => none
  | n + 1 => sLvalue_textB (sLvalue_text n)
def sLsome_string : FD := fnD 4 (kSeq (kIf (mB (m2 gEq (mApp sLpull (mCons (mVar 0) (mCons (mC (.int 4)) mNil))) (mC (.int 0)))) (kRet (m2 gAdd (mApp sLany (mCons (mVar 0) (mCons (mApp sLreserved mNil) mNil))) (mApp sLany (mCons (mVar 0) (mCons (mLst (mCons (mC (.str "")) (mCons (mC (.str "")) (mCons (mC (.str "a")) mNil)))) mNil))))) kSkip)
    (kSeq (kAsg (mM1 gJoin (mC (.str "")) (mComp [3] (wRng1 (mCons (mApp sLpull (mCons (mVar 0) (mCons (mC (.int 9)) mNil))) mNil)) (hName 3) mYes (mApp sLany (mCons (mVar 0) (mCons (mC (.str "abcdefghijklmnopqrstuvwxyz")) mNil))))) (hName 1))
    (kSeq (kAsg (mApp sLpull (mCons (mVar 0) (mCons (m2 gAdd (mCall gLen (mCons (mVar 1) mNil)) (mC (.int 1))) mNil))) (hName 2))
    (kRet (m2 gAdd (m2 gAdd (mSl (mVar 1) mNoP (mPart (mVar 2))) (mApp sLany (mCons (mVar 0) (mCons (mLst (mCons (mC (.str "")) (mCons (mC (.str "")) (mCons (mC (.str "")) (mCons (mC (.str "A")) (mCons (mC (.str "1")) (mCons (mC (.str " ")) (mCons (mC (.str ".")) (mCons (mC (.str "_")) (mCons (mC (.str "\n")) mNil)))))))))) mNil)))) (mSl (mVar 1) (mPart (mVar 2)) mNoP))))))
def sLall_values : FD := fnD 5 (kSeq (kAsg (mApp sLany (mCons (mVar 0) (mCons (mLst (mCons (m2 gIx (mVar 1) (mC (.int 0))) (mCons (mC (.str "key")) mNil))) mNil))) (hName 2))
    (kSeq (kAsg (mLst (mCons (mTup (mCons (mC (.str "number")) (mCons (mApp sLfar (mCons (mVar 0) mNil)) mNil))) (mCons (mTup (mCons (mC (.str "name")) (mCons (m2 gIx (mVar 1) (mC (.int 1))) mNil))) (mCons (mTup (mCons (mC (.str "field")) (mCons (m2 gIx (mVar 1) (mC (.int 2))) (mCons (mVar 2) mNil)))) (mCons (mTup (mCons (mC (.str "own")) (mCons (mVar 2) mNil))) (mCons (mTup (mCons (mC (.str "next")) (mCons (mVar 2) mNil))) mNil)))))) (hName 3))
    (kRet (m2 gAdd (mVar 3) (mComp [4] (wLst (mVar 3)) (hName 4) mYes (mTup (mCons (mC (.str "plus")) (mCons (mVar 4) (mCons (mApp sLfar (mCons (mVar 0) mNil)) mNil)))))))))
open TL
/-! ### whole numbers as texts -/
abbrev itxt (i : Int) : Str := Str.ofString (toString i)
theorem itxt_nat (n : Nat) : tl (itxt (n : Nat)) = numL n := tl_num n
theorem itxt_neg (m : Nat) : tl (itxt (Int.negSucc m)) = 45 :: numL (m + 1) := by
  have e : toString (Int.negSucc m) = "-" ++ toString ((m + 1 : Nat) : Int) := rfl
  show (Str.ofString (toString (Int.negSucc m))).cps.toList = _
  rw [e, PyProof.Rows.signs_ofString, String.toList_append, List.map_append, ← PyProof.Rows.signs_ofString (toString ((m + 1 : Nat) : Int))]
  rw [show (Str.ofString (toString ((m + 1 : Nat) : Int))).cps.toList = numL (m + 1) from tl_num (m + 1)]
  rfl
theorem log_ok {i : Int} (h : Bnd i) : i.natAbs.log2 < 1920 := by
  by_cases h0 : i.natAbs = 0
  · rw [h0]; decide
  · rw [Nat.log2_lt h0]
    have h1 : i.natAbs ≤ 1000000000000000000000000000000 := by unfold Bnd big at h; omega
    exact Nat.lt_of_le_of_lt h1 (by decide)
theorem num_len {n : Nat} (h : n ≤ 1000000000000000000000000000000) : (itxt (n : Nat)).length ≤ 31 := by
  rw [len_tl, itxt_nat]
  exact numL_len (by decide) (Nat.lt_of_le_of_lt h (by decide))
theorem num_pos (n : Nat) : 1 ≤ (itxt (n : Nat)).length := by
  rw [len_tl, itxt_nat]
  have := numL_ne n
  cases e : numL n with
  | nil => exact absurd e this
  | cons _ _ => simp
theorem cp_tl {z : Str} (h : ∀ c ∈ tl z, c < 1114112) : cpOk z = true := by
  unfold cpOk
  rw [← Array.all_toList, List.all_eq_true]
  intro c hc
  exact decide_eq_true (h c hc)
theorem num_cp (n : Nat) : cpOk (itxt (n : Nat)) = true := cp_tl fun c hc => by
  rw [itxt_nat] at hc
  have := numL_digits n c hc
  omega
theorem gany_map (f : Dt → Bool) (l : List Dt) : gAny [.lst (l.map fun d => .bl (f d))] = some (.bl (l.any f)) := by
  show (bools (l.map fun d => .bl (f d))).bind _ = _
  rw [bools_map, Option.bind_some, List.any_map]
  rfl
def digB : Dt → Bool
  | .str z => !(strLt z "0") && !(strLt "9" z)
  | _ => false
theorem digB_c (c : Nat) : digB (.str ⟨#[c]⟩) = (decide (48 ≤ c) && decide (c ≤ 57)) := by
  have ea : ("0" : Str).cps.toList = [48] := by decide +kernel
  have ez : ("9" : Str).cps.toList = [57] := by decide +kernel
  show (!(decide ((⟨#[c]⟩ : Str).cps.toList < ("0" : Str).cps.toList)) && !(decide (("9" : Str).cps.toList < (⟨#[c]⟩ : Str).cps.toList))) = _
  rw [ea, ez]
  show (!(decide ([c] < [48])) && !(decide ([57] < [c]))) = _
  have h1 : decide ([c] < [48]) = decide (c < 48) := decide_eq_decide.mpr (lt1 c 48)
  have h2 : decide ([57] < [c]) = decide (57 < c) := decide_eq_decide.mpr (lt1 57 c)
  rw [h1, h2]
  by_cases a : c < 48
  · have : ¬ 48 ≤ c := by omega
    simp [a, this]
  · by_cases b : 57 < c
    · have : ¬ c ≤ 57 := by omega
      simp [b, this]
    · have h3 : 48 ≤ c := by omega
      have h4 : c ≤ 57 := by omega
      simp [a, b, h3, h4]
theorem mNotB_eq {f : DM Bool} {s s1 : Sta} {b : Bool} (h : f s = some (b, s1)) : mNotB f s = some (!b, s1) := by unfold mNotB; rw [h]; rfl
theorem mNotV_eq {f : DM Dt} {s s1 : Sta} {b : Bool} (h : f s = some (.bl b, s1)) : mNotV f s = some (.bl !b, s1) := by unfold mNotV; rw [h]; rfl
theorem read_signed {sg : Str} {neg : Bool} {n : Nat} (hn : n ≤ 1000000000000000000000000000000) (hin : gNin (.str sg) (.tup [.str "+", .str "-"]) = some (.bl false)) (heq : gEq (.str sg) (.str "-") = some (.bl neg)) (h0 : neg = true → 0 < n) (bg : List Dt) :
    sread_signed_ [.str sg, .str (itxt (n : Nat))] bg = some (.int (if neg = true then -(n : Int) else n), bg) := by
  let s0 : Sta := ⟨[some (.dat (.str sg)), some (.dat (.str (itxt (n : Nat)))), none, none], bg⟩
  let s1 : Sta := ⟨[some (.dat (.str sg)), some (.dat (.str (itxt (n : Nat)))), some (.dat (.int (n : Nat))), none], bg⟩
  have hl := num_len hn
  have hp := num_pos n
  have elen : mCall gLen (mCons (mVar 1) mNil) s0 = some (.int ((itxt (n : Nat)).length : Nat), s0) := mcall (s1 := s0) (l := [.str (itxt (n : Nat))]) rfl (glen_str (Nat.le_trans hl (by decide)))
  have ech : mChain oLe oLe (mC (.int 1)) (mCall gLen (mCons (mVar 1) mNil)) (mC s_MOST_DIGITS) s0 = some (.bl true, s0) :=
    mchain_t (s1 := s0) (s2 := s0) (s3 := s0) (x := .int 1) (y := .int ((itxt (n : Nat)).length : Nat)) (z := .int 31) rfl elen (by show some (Dt.bl (decide ((1 : Int) ≤ _))) = _; rw [decide_eq_true (by omega)]) rfl (by show some (Dt.bl (decide (_ ≤ (31 : Int)))) = _; rw [decide_eq_true (by omega)])
  have ecomp : mComp [3] (wStr (mVar 1)) (hName 3) mYes (mNotV (mChain oLe oLe (mC (.str "0")) (mVar 3) (mC (.str "9")))) s0 = some (.lst (((itxt (n : Nat)).cps.toList.map fun c => Dt.str ⟨#[c]⟩).map fun d => .bl (!(digB d))), s0) := by
    refine mcomp (s1 := s0) (l := (itxt (n : Nat)).cps.toList.map fun c => Dt.str ⟨#[c]⟩) rfl (by rw [List.length_map]; have e : (itxt (n : Nat)).cps.toList.length = (itxt (n : Nat)).length := by simp [Str.length]
                                                                                                  omega) (comp_map (fun d => .bl (!(digB d))) _ fun d hd => ?_)
    obtain ⟨c, hc, rfl⟩ := List.mem_map.mp hd
    let s' : Sta := ⟨[some (.dat (.str sg)), some (.dat (.str (itxt (n : Nat)))), none, some (.dat (.str ⟨#[c]⟩))], bg⟩
    refine ⟨s', s', s', rfl, rfl, mNotV_eq ?_, rfl⟩
    by_cases h : strLt ⟨#[c]⟩ "0" = true
    · have e1 : digB (.str ⟨#[c]⟩) = false := by show (!strLt ⟨#[c]⟩ "0" && !strLt "9" ⟨#[c]⟩) = _; rw [h]; rfl
      rw [e1]
      exact mchain_f (s1 := s') (s2 := s') (x := .str "0") (y := .str ⟨#[c]⟩) rfl rfl (by show some (Dt.bl !(strLt ⟨#[c]⟩ "0")) = _; rw [h]; rfl)
    · rw [Bool.not_eq_true] at h
      have e1 : digB (.str ⟨#[c]⟩) = !(strLt "9" ⟨#[c]⟩) := by show (!strLt ⟨#[c]⟩ "0" && !strLt "9" ⟨#[c]⟩) = _; rw [h]; rfl
      rw [e1]
      exact mchain_t (s1 := s') (s2 := s') (s3 := s') (x := .str "0") (y := .str ⟨#[c]⟩) (z := .str "9") rfl rfl (by show some (Dt.bl !(strLt ⟨#[c]⟩ "0")) = _; rw [h]; rfl) rfl rfl
  have eany : mCall gAny (mCons (mComp [3] (wStr (mVar 1)) (hName 3) mYes (mNotV (mChain oLe oLe (mC (.str "0")) (mVar 3) (mC (.str "9"))))) mNil) s0 = some (.bl false, s0) := by
    refine mcall (mcons ecomp rfl) ?_
    rw [gany_map, List.any_map]
    have : (itxt (n : Nat)).cps.toList.any ((fun d => !(digB d)) ∘ fun c => Dt.str ⟨#[c]⟩) = false := by
      rw [List.any_eq_false]
      intro c hc
      have hd := numL_digits n c (by rw [← itxt_nat]; exact hc)
      show ¬ (!(digB (.str ⟨#[c]⟩))) = true
      rw [digB_c]
      have h3 : 48 ≤ c := by omega
      have h4 : c ≤ 57 := by omega
      simp [h3, h4]
    rw [this]
  have ec1 : mOrB (mNotB (mB (mChain oLe oLe (mC (.int 1)) (mCall gLen (mCons (mVar 1) mNil)) (mC s_MOST_DIGITS)))) (mB (mCall gAny (mCons (mComp [3] (wStr (mVar 1)) (hName 3) mYes (mNotV (mChain oLe oLe (mC (.str "0")) (mVar 3) (mC (.str "9"))))) mNil))) s0 = some (false, s0) := by
    rw [or_f (mNotB_eq (mBt ech))]
    exact mBt eany
  have eint : mCall gIntS (mCons (mVar 1) mNil) s0 = some (.int (n : Nat), s0) := by
    refine mcall (s1 := s0) (l := [.str (itxt (n : Nat))]) rfl ?_
    show (if (itxt (n : Nat)).length ≤ 640 then (PySem.intText? (itxt (n : Nat))).bind fun n => some (Dt.int n) else none) = _
    rw [if_pos (by omega), int_num (by rw [← itxt_nat, ← len_tl]; omega)]
    rfl
  have estr : mCall gStr (mCons (mVar 2) mNil) s1 = some (.str (itxt (n : Nat)), s1) := by
    refine mcall (s1 := s1) (l := [.int (n : Nat)]) rfl ?_
    show (if ((n : Nat) : Int).natAbs.log2 < 1920 then some (Dt.str (toString ((n : Nat) : Int))) else none) = _
    rw [if_pos (log_ok (by unfold Bnd big; omega))]
  have ec2 : mOrB (mB (m2 gNe (mCall gStr (mCons (mVar 2) mNil)) (mVar 1))) (mOrB (mB (m2 gNin (mVar 0) (mTup (mCons (mC (.str "+")) (mCons (mC (.str "-")) mNil))))) (mAndB (mB (m2 gEq (mVar 0) (mC (.str "-")))) (mB (m2 gEq (mVar 2) (mC (.int 0)))))) s1 = some (false, s1) := by
    rw [or_f (mBt (m2_eq (s1 := s1) (s2 := s1) (x := .str (itxt (n : Nat))) (y := .str (itxt (n : Nat))) (d := .bl false) estr rfl (tagN (num_cp n) (num_cp n) (r := true) (by simp))))]
    rw [or_f (mBt (m2_eq (s1 := s1) (s2 := s1) (x := .str sg) (y := .tup [.str "+", .str "-"]) rfl rfl hin))]
    cases neg with
    | false => exact and_f (mBt (m2_eq (s1 := s1) (s2 := s1) (x := .str sg) (y := .str "-") rfl rfl heq))
    | true =>
      rw [and_t (mBt (m2_eq (s1 := s1) (s2 := s1) (x := .str sg) (y := .str "-") rfl rfl heq))]
      show some (((n : Nat) : Int) == 0, s1) = _
      have := h0 rfl
      rw [beq_eq_false_iff_ne.mpr (by omega)]
  unfold sread_signed_
  refine fnd (s1 := s1) ?_
  show kSeq _ _ s0 = _
  rw [kseq (s1 := s0) (by rw [kif_f ec1]; rfl), kseq (s1 := s1) (kasg eint rfl), kseq (s1 := s1) (by rw [kif_f ec2]; rfl)]
  refine kret ?_
  unfold mIf
  rw [mBt (m2_eq (s1 := s1) (s2 := s1) (x := .str sg) (y := .str "-") rfl rfl heq)]
  cases neg <;> rfl
theorem plus_in : gNin (.str "+") (.tup [.str "+", .str "-"]) = some (.bl false) := congrArg (fun b => some (Dt.bl b)) (by decide +kernel : (!([Dt.str "+", Dt.str "-"].any fun d => sameD d (.str "+"))) = false)
theorem minus_in : gNin (.str "-") (.tup [.str "+", .str "-"]) = some (.bl false) := congrArg (fun b => some (Dt.bl b)) (by decide +kernel : (!([Dt.str "+", Dt.str "-"].any fun d => sameD d (.str "-"))) = false)
theorem plus_eq : gEq (.str "+") (.str "-") = some (.bl false) := tag (by decide +kernel) (by decide +kernel) (by decide +kernel)
theorem minus_eq : gEq (.str "-") (.str "-") = some (.bl true) := tag (by decide +kernel) (by decide +kernel) (by decide +kernel)

/-! ### the texts of values -/
theorem tl_empty : tl Str.empty = [] := rfl
theorem empty_app (n : Str) : Str.empty ++ n = n := ext_tl (by rw [tl_append, tl_empty, List.nil_append])
theorem dash : ("-" : Str) = ⟨#[45]⟩ := by decide +kernel
theorem tl_dot : tl "." = [46] := by decide +kernel
theorem tl_sp : tl " " = [32] := by decide +kernel
theorem tl_own : tl "own" = [111, 119, 110] := by decide +kernel
theorem tl_next : tl "next" = [110, 101, 120, 116] := by decide +kernel
theorem starts_dash (w : Str) : Txt.startswith w "-" = decide ((tl w)[0]? = some 45) := by
  rw [dash, Bool.eq_iff_iff, decide_eq_true_eq]
  unfold Txt.startswith
  rw [Bool.and_eq_true, decide_eq_true_eq]
  exact PySem.StrLaws.subAt_one w 45 0
def sgText : Sg → Str
  | .number i => itxt i
  | .name n => n
  | .field n c => n ++ "." ++ c
  | .own c => "own" ++ "." ++ c
  | .next c => "next" ++ "." ++ c
def valText (v : Sg) : Option Int → Str
  | none => sgText v
  | some m => sgText v ++ (if m < 0 then " - " ++ itxt (0 - m) else " + " ++ itxt m)
theorem col_low {c : Str} (h : ColOk c) : Low c := by
  rcases h with rfl | h
  · exact lowB_iff.mp (by decide +kernel)
  · exact h.low
theorem col_len {c : Str} (h : ColOk c) : 1 ≤ c.length ∧ c.length ≤ 6 := by
  rcases h with rfl | h
  · exact ⟨by decide +kernel, by decide +kernel⟩
  · exact ⟨h.pos, h.few⟩
theorem itxt_len {i : Int} (h : Bnd i) : (itxt i).length ≤ 32 := by
  unfold Bnd big at h
  cases i with
  | ofNat n => exact Nat.le_trans (num_len (n := n) (by have e : Int.ofNat n = (n : Int) := rfl; omega)) (by decide)
  | negSucc m =>
    have h1 := num_len (n := m + 1) (by omega)
    rw [len_tl, itxt_nat] at h1
    rw [len_tl, itxt_neg, List.length_cons]
    omega
theorem itxt_mem {i : Int} {c : Nat} (h : c ∈ tl (itxt i)) : c = 45 ∨ 48 ≤ c ∧ c ≤ 57 := by
  cases i with
  | ofNat n => exact .inr (numL_digits n c (by rw [← itxt_nat]; exact h))
  | negSucc m =>
    rw [itxt_neg] at h
    rcases List.mem_cons.mp h with h | h
    · exact .inl h
    · exact .inr (numL_digits _ c h)
theorem itxt_cp (i : Int) : cpOk (itxt i) = true := cp_tl fun c hc => by
  have := itxt_mem hc
  omega
theorem app_cp {a b : Str} (ha : cpOk a = true) (hb : cpOk b = true) : cpOk (a ++ b) = true := by
  refine cp_tl fun c hc => ?_
  rw [tl_append, List.mem_append] at hc
  unfold cpOk at ha hb
  rw [← Array.all_toList, List.all_eq_true] at ha hb
  rcases hc with h | h
  · exact of_decide_eq_true (ha c h)
  · exact of_decide_eq_true (hb c h)
theorem sgText_len {v : Sg} (h : v.Ok) : 1 ≤ (sgText v).length ∧ (sgText v).length ≤ 40 := by
  have hd : ("." : Str).length = 1 := by decide +kernel
  have ho : ("own" : Str).length = 3 := by decide +kernel
  have hx : ("next" : Str).length = 4 := by decide +kernel
  cases v with
  | number i =>
    refine ⟨?_, Nat.le_trans (itxt_len h) (by decide)⟩
    cases i with
    | ofNat n => exact num_pos n
    | negSucc m => show 1 ≤ (itxt (Int.negSucc m)).length; rw [len_tl, itxt_neg]; simp
  | name n => exact ⟨h.pos, Nat.le_trans h.few (by decide)⟩
  | field n c =>
    have h1 := h.1.few
    have h2 := col_len h.2
    show 1 ≤ (n ++ "." ++ c).length ∧ (n ++ "." ++ c).length ≤ 40
    rw [len_app, len_app, hd]; omega
  | own c =>
    have h2 := col_len h
    show 1 ≤ ("own" ++ "." ++ c).length ∧ ("own" ++ "." ++ c : Str).length ≤ 40
    rw [len_app, len_app, hd, ho]; omega
  | next c =>
    have h2 := col_len h
    show 1 ≤ ("next" ++ "." ++ c).length ∧ ("next" ++ "." ++ c : Str).length ≤ 40
    rw [len_app, len_app, hd, hx]; omega
theorem sgText_cp {v : Sg} (h : v.Ok) : cpOk (sgText v) = true := by
  have hd : cpOk "." = true := by decide +kernel
  cases v with
  | number i => exact itxt_cp i
  | name n => exact cp_low h.low
  | field n c => exact app_cp (app_cp (cp_low h.1.low) hd) (cp_low (col_low h.2))
  | own c => exact app_cp (app_cp (by decide +kernel) hd) (cp_low (col_low h))
  | next c => exact app_cp (app_cp (by decide +kernel) hd) (cp_low (col_low h))
theorem line_of {n : Nat} (h : n ≤ 1000) : n ≤ sizeLine := Nat.le_trans h (by decide)
theorem mjs {f : DM Dt} {fs : List (DM Dt)} {acc y out : Str} {s s1 s' : Sta} (h : f s = some (.str y, s1)) (hl : (acc ++ y).length ≤ sizeLine) (e : mJs fs (acc ++ y) s1 = some (out, s')) : mJs (f :: fs) acc s = some (out, s') := by
  unfold mJs
  rw [h, Option.bind_some]
  dsimp only
  rw [if_pos hl]
  exact e
theorem mfmt_s {f : DM Dt} {s s1 : Sta} {y : Str} (h : f s = some (.str y, s1)) (hl : y.length ≤ sizeLine) : mFmt f s = some (.str y, s1) := by
  unfold mFmt
  rw [h, Option.bind_some]
  dsimp only
  rw [if_pos hl]
theorem mfmt_i {f : DM Dt} {s s1 : Sta} {i : Int} (h : f s = some (.int i, s1)) (hl : i.natAbs.log2 < 1920) : mFmt f s = some (.str (itxt i), s1) := by
  unfold mFmt
  rw [h, Option.bind_some]
  dsimp only
  rw [if_pos hl]
theorem mjoined {fs : List (DM Dt)} {s s' : Sta} {out : Str} (e : mJs fs Str.empty s = some (out, s')) : mJoined fs s = some (.str out, s') := by
  unfold mJoined
  rw [e]
  rfl
theorem joined3 {f1 f3 : DM Dt} {a b : Str} {s : Sta} (h1 : f1 s = some (.str a, s)) (h3 : f3 s = some (.str b, s)) (ha : a.length ≤ 40) (hb : b.length ≤ 40) : mJoined [mFmt f1, mC (.str "."), mFmt f3] s = some (.str (a ++ "." ++ b), s) := by
  have hd : ("." : Str).length = 1 := by decide +kernel
  refine mjoined ?_
  refine mjs (s1 := s) (mfmt_s h1 (line_of (by omega))) (by rw [empty_app]; exact line_of (by omega)) ?_
  rw [empty_app]
  refine mjs (s1 := s) rfl (by rw [len_app, hd]; exact line_of (by omega)) ?_
  refine mjs (s1 := s) (mfmt_s h3 (line_of (by omega))) (by rw [len_app, len_app, hd]; exact line_of (by omega)) ?_
  rfl
theorem gin2 {a x y : Str} {r : Bool} (h : (x == a || (y == a || false)) = r) : gIn (.str a) (.tup [.str x, .str y]) = some (.bl r) := congrArg (fun b => some (Dt.bl b)) h
theorem gstr_i {i : Int} (h : Bnd i) : gStr [.int i] = some (.str (itxt i)) := by
  show (if i.natAbs.log2 < 1920 then some (Dt.str (toString i)) else none) = _
  rw [if_pos (log_ok h)]
theorem single_text {v : Sg} (h : v.Ok) (bg : List Dt) : ssingle_text_ [v.d] bg = some (.str (sgText v), bg) := by
  let s : Sta := ⟨[some (.dat v.d)], bg⟩
  have tin : ∀ (t : Str) (r : Bool), gIx v.d (.int 0) = some (.str t) → (("number" : Str) == t || (("name" : Str) == t || false)) = r → mB (m2 gIn (m2 gIx (mVar 0) (mC (.int 0))) (mTup (mCons (mC (.str "number")) (mCons (mC (.str "name")) mNil)))) s = some (r, s) := fun t r h1 h2 =>
    mBt (m2_eq (s1 := s) (s2 := s) (x := .str t) (y := .tup [.str "number", .str "name"]) (m2_eq (s1 := s) (s2 := s) (x := v.d) (y := .int 0) rfl rfl h1) rfl (gin2 h2))
  have tf : ∀ (t : Str) (r : Bool), gIx v.d (.int 0) = some (.str t) → cpOk t = true → (t == "field") = r → mB (m2 gEq (m2 gIx (mVar 0) (mC (.int 0))) (mC (.str "field"))) s = some (r, s) := fun t r h1 h2 h3 =>
    mBt (m2_eq (s1 := s) (s2 := s) (x := .str t) (y := .str "field") (m2_eq (s1 := s) (s2 := s) (x := v.d) (y := .int 0) rfl rfl h1) rfl (tag h2 (by decide +kernel) h3))
  unfold ssingle_text_
  refine fnd (s1 := s) ?_
  show kSeq _ _ s = _
  cases v with
  | number i =>
    unfold kSeq
    rw [kif_t (tin _ _ rfl (by decide +kernel)), kret (mcall (s1 := s) (l := [.int i]) rfl (gstr_i h))]
    rfl
  | name n =>
    unfold kSeq
    rw [kif_t (tin _ _ rfl (by decide +kernel)), kret (mcall (s1 := s) (l := [.str n]) (d := .str n) rfl rfl)]
    rfl
  | field n c =>
    rw [kseq (s1 := s) (by rw [kif_f (tin _ _ rfl (by decide +kernel))]; rfl)]
    unfold kSeq
    rw [kif_t (tf _ _ rfl (by decide +kernel) (by decide +kernel)), kret (joined3 (s := s) (a := n) (b := c) rfl rfl (Nat.le_trans h.1.few (by decide)) (Nat.le_trans (col_len h.2).2 (by decide)))]
    rfl
  | own c =>
    rw [kseq (s1 := s) (by rw [kif_f (tin _ _ rfl (by decide +kernel))]; rfl), kseq (s1 := s) (by rw [kif_f (tf _ _ rfl (by decide +kernel) (by decide +kernel))]; rfl)]
    exact kret (joined3 (s := s) (a := "own") (b := c) rfl rfl (by decide +kernel) (Nat.le_trans (col_len h).2 (by decide)))
  | next c =>
    rw [kseq (s1 := s) (by rw [kif_f (tin _ _ rfl (by decide +kernel))]; rfl), kseq (s1 := s) (by rw [kif_f (tf _ _ rfl (by decide +kernel) (by decide +kernel))]; rfl)]
    exact kret (joined3 (s := s) (a := "next") (b := c) rfl rfl (by decide +kernel) (Nat.le_trans (col_len h).2 (by decide)))
theorem valText_plus {A : Str} {m : Int} : A ++ (if m < 0 then " - " ++ itxt (0 - m) else " + " ++ itxt m) = A ++ " " ++ (if m < 0 then ("-" : Str) else ("+" : Str)) ++ " " ++ itxt (if m < 0 then -m else m) := by
  have e1 : tl " - " = [32, 45, 32] := by decide +kernel
  have e2 : tl " + " = [32, 43, 32] := by decide +kernel
  have e3 : tl "-" = [45] := by decide +kernel
  have e4 : tl "+" = [43] := by decide +kernel
  apply ext_tl
  by_cases h : m < 0
  · rw [if_pos h, if_pos h, if_pos h, Int.zero_sub]
    simp only [tl_append, e1, e3, tl_sp, List.append_assoc]
    rfl
  · rw [if_neg h, if_neg h, if_neg h]
    simp only [tl_append, e2, e4, tl_sp, List.append_assoc]
    rfl
theorem value_text {v : Sg} (h : v.Ok) {o : Option Int} (ho : ∀ m, o = some m → Bnd m) (bg : List Dt) : svalue_text [vald v o] bg = some (.str (valText v o), bg) := by
  let s0 : Sta := ⟨[some (.dat (vald v o)), none], bg⟩
  have e1 : mNotB (mB (mApp sis_value (mCons (mVar 0) mNil))) s0 = some (false, s0) := mNotB_eq (mBt (mapp (s1 := s0) (ds := [vald v o]) rfl (value_ok h ho bg)))
  have tf : ∀ (t : Str) (r : Bool), gIx (vald v o) (.int 0) = some (.str t) → cpOk t = true → (t == "plus") = r → mB (m2 gNe (m2 gIx (mVar 0) (mC (.int 0))) (mC (.str "plus"))) s0 = some (!r, s0) := fun t r h1 h2 h3 =>
    mBt (m2_eq (s1 := s0) (s2 := s0) (x := .str t) (y := .str "plus") (m2_eq (s1 := s0) (s2 := s0) (x := vald v o) (y := .int 0) rfl rfl h1) rfl (tagN h2 (by decide +kernel) h3))
  unfold svalue_text
  cases o with
  | none =>
    refine fnd (s1 := s0) ?_
    show kSeq _ _ s0 = _
    rw [kseq (s1 := s0) (by rw [kif_f e1]; rfl)]
    have e2 : mB (m2 gNe (m2 gIx (mVar 0) (mC (.int 0))) (mC (.str "plus"))) s0 = some (true, s0) := by
      cases v <;> exact tf _ false rfl (by decide +kernel) (by decide +kernel)
    unfold kSeq
    rw [kif_t e2, kret (mapp (s1 := s0) (ds := [v.d]) rfl (single_text h bg))]
    rfl
  | some m =>
    have hm := ho m rfl
    let s1 : Sta := ⟨[some (.dat (vald v (some m))), some (.dat (.str (if m < 0 then "-" else "+")))], bg⟩
    refine fnd (s1 := s1) ?_
    show kSeq _ _ s0 = _
    rw [kseq (s1 := s0) (by rw [kif_f e1]; rfl), kseq (s1 := s0) (by rw [kif_f (tf _ true rfl (by decide +kernel) (by decide +kernel))]; rfl), kseq (s1 := s1)]
    · refine kret ?_
      have hA := sgText_len h
      have hs : (if m < 0 then "-" else "+" : Str).length = 1 := by by_cases c : m < 0 <;> simp only [c, if_true, if_false] <;> decide +kernel
      have hb : Bnd (if m < 0 then -m else m) := by unfold Bnd big at hm ⊢; split <;> omega
      have hn := itxt_len hb
      have h1 : (" " : Str).length = 1 := by decide +kernel
      show mJoined _ s1 = some (.str (sgText v ++ (if m < 0 then " - " ++ itxt (0 - m) else " + " ++ itxt m)), s1)
      rw [valText_plus]
      refine mjoined ?_
      refine mjs (s1 := s1) (mfmt_s (mapp (s1 := s1) (ds := [v.d]) rfl (single_text h bg)) (line_of (by omega))) (by rw [empty_app]; exact line_of (by omega)) ?_
      rw [empty_app]
      refine mjs (s1 := s1) rfl (by rw [len_app, h1]; exact line_of (by omega)) ?_
      refine mjs (s1 := s1) (mfmt_s (y := if m < 0 then "-" else "+") rfl (line_of (by omega))) (by rw [len_app, len_app, h1, hs]; exact line_of (by omega)) ?_
      refine mjs (s1 := s1) rfl (by rw [len_app, len_app, len_app, h1, hs]; exact line_of (by omega)) ?_
      refine mjs (s1 := s1) (mfmt_i (mcall (s1 := s1) (l := [.int m]) rfl rfl) (log_ok hb)) (by rw [len_app, len_app, len_app, len_app, h1, hs]; exact line_of (by omega)) ?_
      rfl
    · refine kasg (s1 := s0) (d := .str (if m < 0 then "-" else "+")) ?_ rfl
      unfold mIf
      have e3 : mB (m2 oLt (m2 gIx (mVar 0) (mC (.int 2))) (mC (.int 0))) s0 = some (decide (m < 0), s0) := rfl
      rw [e3]
      by_cases c : m < 0
      · rw [decide_eq_true c, if_pos c]; rfl
      · rw [decide_eq_false c, if_neg c]; rfl

theorem gadd_l {a b : Str} (h : a.length + b.length ≤ 1000) : gAdd (.str a) (.str b) = some (.str (a ++ b)) := gadd_str h
theorem law_single {v : Sg} (h : v.Ok) (R : FD) (bg : List Dt) : sLvalue_textB R [v.d] bg = some (.str (sgText v), bg) := by
  let s : Sta := ⟨[some (.dat v.d), none], bg⟩
  have hd : ("." : Str).length = 1 := by decide +kernel
  have tp : ∀ (t : Str) (r : Bool), gIx v.d (.int 0) = some (.str t) → cpOk t = true → (t == "plus") = r → mB (m2 gEq (m2 gIx (mVar 0) (mC (.int 0))) (mC (.str "plus"))) s = some (r, s) := fun t r h1 h2 h3 =>
    mBt (m2_eq (s1 := s) (s2 := s) (x := .str t) (y := .str "plus") (m2_eq (s1 := s) (s2 := s) (x := v.d) (y := .int 0) rfl rfl h1) rfl (tag h2 (by decide +kernel) h3))
  have tf : ∀ (t : Str) (r : Bool), gIx v.d (.int 0) = some (.str t) → cpOk t = true → (t == "field") = r → mB (m2 gEq (m2 gIx (mVar 0) (mC (.int 0))) (mC (.str "field"))) s = some (r, s) := fun t r h1 h2 h3 =>
    mBt (m2_eq (s1 := s) (s2 := s) (x := .str t) (y := .str "field") (m2_eq (s1 := s) (s2 := s) (x := v.d) (y := .int 0) rfl rfl h1) rfl (tag h2 (by decide +kernel) h3))
  have tin : ∀ (t : Str) (r : Bool), gIx v.d (.int 0) = some (.str t) → (("own" : Str) == t || (("next" : Str) == t || false)) = r → mB (m2 gIn (m2 gIx (mVar 0) (mC (.int 0))) (mTup (mCons (mC (.str "own")) (mCons (mC (.str "next")) mNil)))) s = some (r, s) := fun t r h1 h2 =>
    mBt (m2_eq (s1 := s) (s2 := s) (x := .str t) (y := .tup [.str "own", .str "next"]) (m2_eq (s1 := s) (s2 := s) (x := v.d) (y := .int 0) rfl rfl h1) rfl (gin2 h2))
  unfold sLvalue_textB
  refine fnd (s1 := s) ?_
  show kSeq _ _ s = _
  have e0 : mB (m2 gEq (m2 gIx (mVar 0) (mC (.int 0))) (mC (.str "plus"))) s = some (false, s) := by
    cases v <;> exact tp _ false rfl (by decide +kernel) (by decide +kernel)
  rw [kseq (s1 := s) (by rw [kif_f e0]; rfl)]
  cases v with
  | number i =>
    rw [kseq (s1 := s) (by rw [kif_f (tf _ false rfl (by decide +kernel) (by decide +kernel))]; rfl), kseq (s1 := s) (by rw [kif_f (tin _ false rfl (by decide +kernel))]; rfl)]
    exact kret (mcall (s1 := s) (l := [.int i]) rfl (gstr_i h))
  | name n =>
    rw [kseq (s1 := s) (by rw [kif_f (tf _ false rfl (by decide +kernel) (by decide +kernel))]; rfl), kseq (s1 := s) (by rw [kif_f (tin _ false rfl (by decide +kernel))]; rfl)]
    exact kret (mcall (s1 := s) (l := [.str n]) (d := .str n) rfl rfl)
  | field n c =>
    unfold kSeq
    rw [kif_t (tf _ true rfl (by decide +kernel) (by decide +kernel)), kret (d := .str (n ++ "." ++ c)) (s1 := s)]
    · rfl
    · have h1 := h.1.few
      have h2 := (col_len h.2).2
      refine m2_eq (s1 := s) (s2 := s) (x := .str (n ++ ".")) (y := .str c) (m2_eq (s1 := s) (s2 := s) (x := .str n) (y := .str ".") rfl rfl (gadd_l (by omega))) rfl (gadd_l (by rw [len_app]; omega))
  | own c =>
    rw [kseq (s1 := s) (by rw [kif_f (tf _ false rfl (by decide +kernel) (by decide +kernel))]; rfl)]
    unfold kSeq
    rw [kif_t (tin _ true rfl (by decide +kernel)), kret (d := .str ("own" ++ "." ++ c)) (s1 := s)]
    · rfl
    · have h2 := (col_len h).2
      have ho : ("own" : Str).length = 3 := by decide +kernel
      refine m2_eq (s1 := s) (s2 := s) (x := .str ("own" ++ ".")) (y := .str c) (m2_eq (s1 := s) (s2 := s) (x := .str "own") (y := .str ".") rfl rfl (gadd_l (by omega))) rfl (gadd_l (by rw [len_app]; omega))
  | next c =>
    rw [kseq (s1 := s) (by rw [kif_f (tf _ false rfl (by decide +kernel) (by decide +kernel))]; rfl)]
    unfold kSeq
    rw [kif_t (tin _ true rfl (by decide +kernel)), kret (d := .str ("next" ++ "." ++ c)) (s1 := s)]
    · rfl
    · have h2 := (col_len h).2
      have ho : ("next" : Str).length = 4 := by decide +kernel
      refine m2_eq (s1 := s) (s2 := s) (x := .str ("next" ++ ".")) (y := .str c) (m2_eq (s1 := s) (s2 := s) (x := .str "next") (y := .str ".") rfl rfl (gadd_l (by omega))) rfl (gadd_l (by rw [len_app]; omega))
theorem law_text {v : Sg} (h : v.Ok) {o : Option Int} (ho : ∀ m, o = some m → Bnd m) (bg : List Dt) : sLvalue_text 3 [vald v o] bg = some (.str (valText v o), bg) := by
  cases o with
  | none => exact law_single h _ bg
  | some m =>
    have hm := ho m rfl
    let s0 : Sta := ⟨[some (.dat (vald v (some m))), none], bg⟩
    let s1 : Sta := ⟨[some (.dat (vald v (some m))), some (.dat (.int m))], bg⟩
    show sLvalue_textB (sLvalue_text 2) _ bg = _
    unfold sLvalue_textB
    refine fnd (s1 := s1) ?_
    show kSeq _ _ s0 = _
    unfold kSeq
    rw [kif_t (s1 := s0) (mBt (m2_eq (s1 := s0) (s2 := s0) (x := .str "plus") (y := .str "plus") rfl rfl (tag (by decide +kernel) (by decide +kernel) (by decide +kernel))))]
    show (kSeq _ _ s0).bind _ = _
    rw [kseq (s1 := s1) rfl, kret (s1 := s1) (d := .str (valText v (some m)))]
    · rfl
    · have hA := sgText_len h
      have h1 : (" - " : Str).length = 3 := by decide +kernel
      have h2 : (" + " : Str).length = 3 := by decide +kernel
      have eA : mApp (sLvalue_text 2) (mCons (m2 gIx (mVar 0) (mC (.int 1))) mNil) s1 = some (.str (sgText v), s1) := mapp (s1 := s1) (ds := [v.d]) rfl (law_single h (sLvalue_text 1) bg)
      have e3 : mB (m2 oLt (mVar 1) (mC (.int 0))) s1 = some (decide (m < 0), s1) := rfl
      by_cases c : m < 0
      · have hb : Bnd (0 - m) := by unfold Bnd big at hm ⊢; omega
        have hn := itxt_len hb
        show m2 gAdd _ _ s1 = some (.str (sgText v ++ (if m < 0 then " - " ++ itxt (0 - m) else " + " ++ itxt m)), s1)
        rw [if_pos c]
        refine m2_eq (s1 := s1) (s2 := s1) (x := .str (sgText v)) (y := .str (" - " ++ itxt (0 - m))) eA ?_ (gadd_l (by rw [len_app]; omega))
        unfold mIf
        rw [e3, decide_eq_true c]
        show m2 gAdd (mC (.str " - ")) (mCall gStr (mCons (m2 gSub0 (mC (.int 0)) (mVar 1)) mNil)) s1 = _
        exact m2_eq (s1 := s1) (s2 := s1) (x := .str " - ") (y := .str (itxt (0 - m))) rfl (mcall (s1 := s1) (l := [.int (0 - m)]) rfl (gstr_i hb)) (gadd_l (by omega))
      · have hn := itxt_len hm
        show m2 gAdd _ _ s1 = some (.str (sgText v ++ (if m < 0 then " - " ++ itxt (0 - m) else " + " ++ itxt m)), s1)
        rw [if_neg c]
        refine m2_eq (s1 := s1) (s2 := s1) (x := .str (sgText v)) (y := .str (" + " ++ itxt m)) eA ?_ (gadd_l (by rw [len_app]; omega))
        unfold mIf
        rw [e3, decide_eq_false c]
        show m2 gAdd (mC (.str " + ")) (mCall gStr (mCons (mVar 1) mNil)) s1 = _
        exact m2_eq (s1 := s1) (s2 := s1) (x := .str " + ") (y := .str (itxt m)) rfl (mcall (s1 := s1) (l := [.int m]) rfl (gstr_i hm)) (gadd_l (by omega))
/-! ### reading -/
theorem low_free {z : Str} (h : Low z) {c : Nat} (hc : c < 97) : c ∉ tl z := fun hm => by
  have := h c hm
  unfold letter at this
  omega
theorem ne_own {w : Str} (h : 111 ∉ tl w) : (("own" : Str) == w) = false := by
  rw [beq_eq_false_iff_ne]
  intro e
  apply h
  rw [← e, tl_own]
  simp
theorem ne_next {w : Str} (h : 120 ∉ tl w) : (("next" : Str) == w) = false := by
  rw [beq_eq_false_iff_ne]
  intro e
  apply h
  rw [← e, tl_next]
  simp
theorem free_name {n : Str} (h : NameOk n) : (("own" : Str) == n || (("next" : Str) == n || false)) = false := by
  have e1 : (("own" : Str) == n) = false := by
    rw [beq_eq_false_iff_ne]; intro e; apply h.free; rw [← e]; simp [resv]
  have e2 : (("next" : Str) == n) = false := by
    rw [beq_eq_false_iff_ne]; intro e; apply h.free; rw [← e]; simp [resv]
  rw [e1, e2]; rfl
theorem nameB_num (i : Int) : nameB (itxt i) = false := by
  have h : lowB (itxt i) = false := by
    rw [Bool.eq_false_iff]
    intro h
    have hl := lowB_iff.mp h
    have hne : tl (itxt i) ≠ [] := by
      cases i with
      | ofNat n => rw [show tl (itxt (Int.ofNat n)) = numL n from itxt_nat n]; exact numL_ne n
      | negSucc m => rw [itxt_neg]; simp
    obtain ⟨c, hc⟩ := List.exists_mem_of_ne_nil _ hne
    have h1 := hl c hc
    have h2 := itxt_mem hc
    unfold letter at h1
    omega
  unfold nameB
  rw [h]
  rfl
theorem part_some {a b : Str} (h : 46 ∉ tl a) (hl : (a ++ "." ++ b).length ≤ 1000) : gPartition (a ++ "." ++ b) (.str ".") = some (.tup [.str a, .str ".", .str b]) := by
  show (if (("." : Str).length == 0) = false ∧ (a ++ "." ++ b).length ≤ sizeLine then some (Dt.tup [.str (Txt.partition (a ++ "." ++ b) ".").1, .str (Txt.partition (a ++ "." ++ b) ".").2.1, .str (Txt.partition (a ++ "." ++ b) ".").2.2]) else none) = _
  rw [if_pos ⟨by decide +kernel, line_of hl⟩, partition_app tl_dot h]
theorem part_none {a : Str} (h : 46 ∉ tl a) (hl : a.length ≤ 1000) : gPartition a (.str ".") = some (.tup [.str a, .str Str.empty, .str Str.empty]) := by
  show (if (("." : Str).length == 0) = false ∧ a.length ≤ sizeLine then some (Dt.tup [.str (Txt.partition a ".").1, .str (Txt.partition a ".").2.1, .str (Txt.partition a ".").2.2]) else none) = _
  rw [if_pos ⟨by decide +kernel, line_of hl⟩, partition_none tl_dot h]
theorem cut1 {m : Nat} : cutS (itxt (Int.negSucc m)) (some 1) none = itxt ((m + 1 : Nat) : Int) := by
  apply ext_tl
  have hlen : (itxt (Int.negSucc m)).cps.toList = 45 :: numL (m + 1) := itxt_neg m
  have hn : (itxt (Int.negSucc m)).length = (numL (m + 1)).length + 1 := by rw [len_tl, itxt_neg]; rfl
  show ((((itxt (Int.negSucc m)).cps.toList.drop (HT.sIx (itxt (Int.negSucc m)).length 0 (some ((1 : Nat) : Int)))).take _).toArray).toList = tl (itxt ((m + 1 : Nat) : Int))
  rw [hlen, HT.sIx_nat, HT.sIx_none, hn, itxt_nat]
  have e : min 1 ((numL (m + 1)).length + 1) = 1 := by omega
  have e3 : HT.sIx ((numL (m + 1)).length + 1) 0 (some 1) = 1 := by
    rw [show (some (1 : Int)) = some ((1 : Nat) : Int) from rfl, HT.sIx_nat]; omega
  rw [e]
  show List.take _ (numL (m + 1)) = numL (m + 1)
  exact List.take_of_length_le (by rw [e3]; omega)
theorem read_single {v : Sg} (h : v.Ok) (bg : List Dt) : sread_single_ [.str (sgText v)] bg = some (v.d, bg) := by
  have hlen := sgText_len h
  let st (a b c : Str) : Sta := ⟨[some (.dat (.str (sgText v))), some (.dat (.str a)), some (.dat (.str b)), some (.dat (.str c))], bg⟩
  have start : ∀ a b c, gPartition (sgText v) (.str ".") = some (.tup [.str a, .str b, .str c]) → kAsg (mM1 gPartition (mVar 0) (mC (.str "."))) (hTup 3 (hCons (hName 1) (hCons (hName 2) (hCons (hName 3) hNil)))) ⟨[some (.dat (.str (sgText v))), none, none, none], bg⟩ = some (.nx, st a b c) := fun a b c e =>
    kasg (s1 := ⟨[some (.dat (.str (sgText v))), none, none, none], bg⟩) (mm1 (s1 := ⟨[some (.dat (.str (sgText v))), none, none, none], bg⟩) (s2 := ⟨[some (.dat (.str (sgText v))), none, none, none], bg⟩) (a := sgText v) (y := .str ".") rfl rfl e) rfl
  have tin : ∀ a b c r, (("own" : Str) == a || (("next" : Str) == a || false)) = r → mB (m2 gIn (mVar 1) (mTup (mCons (mC (.str "own")) (mCons (mC (.str "next")) mNil)))) (st a b c) = some (r, st a b c) := fun a b c r e =>
    mBt (m2_eq (s1 := st a b c) (s2 := st a b c) (x := .str a) (y := .tup [.str "own", .str "next"]) rfl rfl (gin2 e))
  have tno : ∀ a c, mTru (mVar 2) (st a Str.empty c) = some (false, st a Str.empty c) := fun a c => rfl
  have tyes : ∀ a c, mTru (mVar 2) (st a "." c) = some (true, st a "." c) := fun a c => by
    have e : mVar 2 (st a "." c) = some (.str ".", st a "." c) := rfl
    unfold mTru
    rw [e, Option.bind_some]
    have : truD (.str ".") = some true := by
      show (if ("." : Str).length ≤ sizeLine then some ((("." : Str).length : Int) != 0) else none) = _
      rw [if_pos (line_of (by decide +kernel))]
      decide +kernel
    show (truD (.str ".")).bind _ = _
    rw [this]
    rfl
  have tname : ∀ a c, mB (mApp sis_name (mCons (mVar 0) mNil)) (st a Str.empty c) = some (nameB (sgText v), st a Str.empty c) := fun a c =>
    mBt (mapp (s1 := st a Str.empty c) (ds := [.str (sgText v)]) rfl (is_name_str _ bg (by omega)))
  unfold sread_single_
  cases v with
  | number i =>
    have h46 : 46 ∉ tl (itxt i) := fun hm => by have := itxt_mem hm; omega
    have h111 : 111 ∉ tl (itxt i) := fun hm => by have := itxt_mem hm; omega
    have h120 : 120 ∉ tl (itxt i) := fun hm => by have := itxt_mem hm; omega
    have hin : (("own" : Str) == itxt i || (("next" : Str) == itxt i || false)) = false := by rw [ne_own h111, ne_next h120]; rfl
    have tst : mB (mM1 gStarts (mVar 0) (mC (.str "-"))) (st (itxt i) Str.empty Str.empty) = some (decide ((tl (itxt i))[0]? = some 45), st (itxt i) Str.empty Str.empty) := by
      refine mBt (mm1 (s1 := st (itxt i) Str.empty Str.empty) (s2 := st (itxt i) Str.empty Str.empty) (a := itxt i) (y := .str "-") rfl rfl ?_)
      show some (Dt.bl (Txt.startswith (itxt i) "-")) = _
      rw [starts_dash]
    refine fnd (s1 := st (itxt i) Str.empty Str.empty) ?_
    show kSeq _ _ ⟨[some (.dat (.str (sgText (Sg.number i)))), none, none, none], bg⟩ = _
    rw [kseq (start (itxt i) Str.empty Str.empty (part_none h46 (by have := itxt_len h; exact Nat.le_trans this (by decide)))), kseq (s1 := st (itxt i) Str.empty Str.empty) (by rw [kif_f (tin _ _ _ _ hin)]; rfl), kseq (s1 := st (itxt i) Str.empty Str.empty) (by rw [kif_f (tno _ _)]; rfl), kseq (s1 := st (itxt i) Str.empty Str.empty) (by rw [kif_f (by rw [tname]; show some (nameB (itxt i), _) = some (false, _); rw [nameB_num])]; rfl)]
    have hb : -big ≤ i ∧ i ≤ big := h
    unfold big at hb
    cases i with
    | ofNat n =>
      have e0 : ¬ (tl (itxt (Int.ofNat n)))[0]? = some 45 := fun e => by
        have hm := List.mem_of_getElem? e
        have := numL_digits n 45 (by rw [← itxt_nat]; exact hm)
        omega
      rw [decide_eq_false e0] at tst
      rw [kseq (s1 := st (itxt (Int.ofNat n)) Str.empty Str.empty) (by rw [kif_f tst]; rfl)]
      refine kret (mtup (mcons (s1 := st (itxt (Int.ofNat n)) Str.empty Str.empty) rfl (mcons (s1 := st (itxt (Int.ofNat n)) Str.empty Str.empty) (x := .int (Int.ofNat n)) ?_ rfl)))
      exact mapp (s1 := st (itxt (Int.ofNat n)) Str.empty Str.empty) (ds := [.str "+", .str (itxt (n : Nat))]) rfl (read_signed (n := n) (neg := false) (by have e : Int.ofNat n = (n : Int) := rfl; omega) plus_in plus_eq (fun e => by cases e) bg)
    | negSucc m =>
      have e0 : (tl (itxt (Int.negSucc m)))[0]? = some 45 := by rw [itxt_neg]; rfl
      rw [decide_eq_true e0] at tst
      unfold kSeq
      rw [kif_t tst, kret (s1 := st (itxt (Int.negSucc m)) Str.empty Str.empty) (d := (Sg.number (Int.negSucc m)).d)]
      · rfl
      · refine mtup (mcons (s1 := st (itxt (Int.negSucc m)) Str.empty Str.empty) rfl (mcons (s1 := st (itxt (Int.negSucc m)) Str.empty Str.empty) (x := .int (Int.negSucc m)) ?_ rfl))
        refine mapp (s1 := st (itxt (Int.negSucc m)) Str.empty Str.empty) (ds := [.str "-", .str (itxt ((m + 1 : Nat) : Int))]) ?_ (read_signed (n := m + 1) (neg := true) (by omega) minus_in minus_eq (fun _ => by omega) bg)
        refine mcons (s1 := st (itxt (Int.negSucc m)) Str.empty Str.empty) rfl (mcons (s1 := st (itxt (Int.negSucc m)) Str.empty Str.empty) (msl (s1 := st (itxt (Int.negSucc m)) Str.empty Str.empty) (s2 := st (itxt (Int.negSucc m)) Str.empty Str.empty) (s3 := st (itxt (Int.negSucc m)) Str.empty Str.empty) (x := .str (itxt (Int.negSucc m))) (lo := some 1) (hi := none) rfl rfl rfl ?_) rfl)
        rw [gsl_str (by have := itxt_len h; omega), cut1]
  | name n =>
    refine fnd (s1 := st n Str.empty Str.empty) ?_
    show kSeq _ _ ⟨[some (.dat (.str (sgText (Sg.name n)))), none, none, none], bg⟩ = _
    rw [kseq (start n Str.empty Str.empty (part_none (low_free h.low (by decide)) (Nat.le_trans h.few (by decide)))), kseq (s1 := st n Str.empty Str.empty) (by rw [kif_f (tin _ _ _ _ (free_name h))]; rfl), kseq (s1 := st n Str.empty Str.empty) (by rw [kif_f (tno _ _)]; rfl)]
    unfold kSeq
    rw [kif_t (by rw [tname]; show some (nameB n, _) = some (true, _); rw [nameB_iff.mpr h]), kret (s1 := st n Str.empty Str.empty) (d := (Sg.name n).d)]
    · rfl
    · exact mtup (mcons (s1 := st n Str.empty Str.empty) rfl (mcons (s1 := st n Str.empty Str.empty) rfl rfl))
  | field n c =>
    refine fnd (s1 := st n "." c) ?_
    show kSeq _ _ ⟨[some (.dat (.str (sgText (Sg.field n c)))), none, none, none], bg⟩ = _
    rw [kseq (start n "." c (part_some (low_free h.1.low (by decide)) (Nat.le_trans hlen.2 (by decide)))), kseq (s1 := st n "." c) (by rw [kif_f (tin _ _ _ _ (free_name h.1))]; rfl)]
    unfold kSeq
    rw [kif_t (tyes _ _), kret (s1 := st n "." c) (d := (Sg.field n c).d)]
    · rfl
    · exact mtup (mcons (s1 := st n "." c) rfl (mcons (s1 := st n "." c) rfl (mcons (s1 := st n "." c) rfl rfl)))
  | own c =>
    refine fnd (s1 := st "own" "." c) ?_
    show kSeq _ _ ⟨[some (.dat (.str (sgText (Sg.own c)))), none, none, none], bg⟩ = _
    rw [kseq (start "own" "." c (part_some (by rw [tl_own]; decide) (Nat.le_trans hlen.2 (by decide))))]
    unfold kSeq
    rw [kif_t (tin _ _ _ true (by decide +kernel)), kret (s1 := st "own" "." c) (d := (Sg.own c).d)]
    · rfl
    · exact mtup (mcons (s1 := st "own" "." c) rfl (mcons (s1 := st "own" "." c) rfl rfl))
  | next c =>
    refine fnd (s1 := st "next" "." c) ?_
    show kSeq _ _ ⟨[some (.dat (.str (sgText (Sg.next c)))), none, none, none], bg⟩ = _
    rw [kseq (start "next" "." c (part_some (by rw [tl_next]; decide) (Nat.le_trans hlen.2 (by decide))))]
    unfold kSeq
    rw [kif_t (tin _ _ _ true (by decide +kernel)), kret (s1 := st "next" "." c) (d := (Sg.next c).d)]
    · rfl
    · exact mtup (mcons (s1 := st "next" "." c) rfl (mcons (s1 := st "next" "." c) rfl rfl))

theorem itxt_sp {i : Int} : 32 ∉ tl (itxt i) := fun h => by have := itxt_mem h; omega
theorem sg_sp {v : Sg} (h : v.Ok) : 32 ∉ tl (sgText v) := by
  have hd : 32 ∉ tl "." := by rw [tl_dot]; decide
  have app : ∀ {a b : Str}, 32 ∉ tl a → 32 ∉ tl b → 32 ∉ tl (a ++ b) := fun ha hb hm => by
    rw [tl_append, List.mem_append] at hm
    exact hm.elim ha hb
  cases v with
  | number i => exact itxt_sp
  | name n => exact low_free h.low (by decide)
  | field n c => exact app (app (low_free h.1.low (by decide)) hd) (low_free (col_low h.2) (by decide))
  | own c => exact app (app (by rw [tl_own]; decide) hd) (low_free (col_low h) (by decide))
  | next c => exact app (app (by rw [tl_next]; decide) hd) (low_free (col_low h) (by decide))
def valParts (v : Sg) : Option Int → List Str
  | none => [sgText v]
  | some m => [sgText v, if m < 0 then ("-" : Str) else ("+" : Str), itxt ((m.natAbs : Nat) : Int)]
theorem abs_eq (m : Int) : (if m < 0 then -m else m) = ((m.natAbs : Nat) : Int) := by split <;> omega
theorem val_join (v : Sg) (o : Option Int) : valText v o = Txt.join " " (valParts v o) := by
  rw [join_eq]
  cases o with
  | none => rfl
  | some m =>
    show sgText v ++ (if m < 0 then " - " ++ itxt (0 - m) else " + " ++ itxt m) = sgText v ++ " " ++ ((if m < 0 then ("-" : Str) else ("+" : Str)) ++ " " ++ itxt ((m.natAbs : Nat) : Int))
    rw [valText_plus, abs_eq]
    apply ext_tl
    simp only [tl_append, List.append_assoc]
theorem val_split {v : Sg} (h : v.Ok) (o : Option Int) : Txt.split (valText v o) " " = valParts v o := by
  rw [val_join]
  refine split_join tl_sp (by decide +kernel) ?_ fun p hp => ?_
  · cases o <;> simp [valParts]
  · cases o with
    | none => rw [show valParts v none = [sgText v] from rfl, List.mem_singleton] at hp; rw [hp]; exact sg_sp h
    | some m =>
      simp only [valParts, List.mem_cons, List.not_mem_nil, or_false] at hp
      rcases hp with rfl | rfl | rfl
      · exact sg_sp h
      · by_cases c : m < 0
        · rw [if_pos c]; decide +kernel
        · rw [if_neg c]; decide +kernel
      · exact itxt_sp
theorem valText_len {v : Sg} (h : v.Ok) {o : Option Int} (ho : ∀ m, o = some m → Bnd m) : (valText v o).length ≤ 100 := by
  have hA := (sgText_len h).2
  cases o with
  | none => exact Nat.le_trans hA (by decide)
  | some m =>
    have hm := ho m rfl
    have h1 : (" - " : Str).length = 3 := by decide +kernel
    have h2 : (" + " : Str).length = 3 := by decide +kernel
    show (sgText v ++ (if m < 0 then " - " ++ itxt (0 - m) else " + " ++ itxt m)).length ≤ 100
    by_cases c : m < 0
    · have hn := itxt_len (i := 0 - m) (by unfold Bnd big at hm ⊢; omega)
      rw [if_pos c, len_app, len_app]; omega
    · have hn := itxt_len hm
      rw [if_neg c, len_app, len_app]; omega
theorem valText_cp {v : Sg} (h : v.Ok) (o : Option Int) : cpOk (valText v o) = true := by
  cases o with
  | none => exact sgText_cp h
  | some m =>
    show cpOk (sgText v ++ (if m < 0 then " - " ++ itxt (0 - m) else " + " ++ itxt m)) = true
    by_cases c : m < 0
    · rw [if_pos c]; exact app_cp (sgText_cp h) (app_cp (by decide +kernel) (itxt_cp _))
    · rw [if_neg c]; exact app_cp (sgText_cp h) (app_cp (by decide +kernel) (itxt_cp _))
theorem read_value {v : Sg} (h : v.Ok) {o : Option Int} (ho : ∀ m, o = some m → Bnd m) (bg : List Dt) : sread_value [.str (valText v o)] bg = some (vald v o, bg) := by
  have hlen := valText_len h ho
  let ws : List Dt := (valParts v o).map Dt.str
  let s0 : Sta := ⟨[some (.dat (.str (valText v o))), none, none], bg⟩
  let s1 : Sta := ⟨[some (.dat (.str (valText v o))), some (.dat (.lst ws)), none], bg⟩
  let s2 : Sta := ⟨[some (.dat (.str (valText v o))), some (.dat (.lst ws)), some (.dat v.d)], bg⟩
  let s3 : Sta := ⟨[some (.dat (.str (valText v o))), some (.dat (.lst ws)), some (.dat (vald v o))], bg⟩
  have esp : mM1 gSplit (mVar 0) (mC (.str " ")) s0 = some (.lst ws, s0) := by
    refine mm1 (s1 := s0) (s2 := s0) (a := valText v o) (y := .str " ") rfl rfl ?_
    show (if ((" " : Str).length == 0) = false ∧ (valText v o).length + 2 ≤ sizeLine then some (Dt.lst ((Txt.split (valText v o) " ").map Dt.str)) else none) = _
    rw [if_pos ⟨by decide +kernel, line_of (by omega)⟩, val_split h o]
  have e0 : gIx (.lst ws) (.int 0) = some (.str (sgText v)) := by
    show gIx (.lst ((valParts v o).map Dt.str)) (.int 0) = _
    cases o <;> rfl
  have ers : mApp sread_single_ (mCons (m2 gIx (mVar 1) (mC (.int 0))) mNil) s1 = some (v.d, s1) :=
    mapp (s1 := s1) (ds := [.str (sgText v)]) (mcons (s1 := s1) (m2_eq (s1 := s1) (s2 := s1) (x := .lst ws) (y := .int 0) rfl rfl e0) rfl) (read_single h bg)
  have e4 : kIf (mB (m2 gEq (mCall gLen (mCons (mVar 1) mNil)) (mC (.int 3)))) (kAsg (mTup (mCons (mC (.str "plus")) (mCons (mVar 2) (mCons (mApp sread_signed_ (mCons (m2 gIx (mVar 1) (mC (.int 1))) (mCons (m2 gIx (mVar 1) (mC (.int 2))) mNil))) mNil)))) (hName 2)) kSkip s2 = some (.nx, s3) := by
    cases o with
    | none => rw [kif_f (s1 := s2) rfl]; rfl
    | some m =>
      rw [kif_t (s1 := s2) rfl]
      refine kasg (s1 := s2) (d := vald v (some m)) ?_ rfl
      have hm := ho m rfl
      have hn : m.natAbs ≤ 1000000000000000000000000000000 := by unfold Bnd big at hm; omega
      refine mtup (mcons (s1 := s2) rfl (mcons (s1 := s2) rfl (mcons (s1 := s2) (x := .int m) ?_ rfl)))
      refine mapp (s1 := s2) (ds := [.str (if m < 0 then ("-" : Str) else ("+" : Str)), .str (itxt ((m.natAbs : Nat) : Int))]) rfl ?_
      by_cases c : m < 0
      · rw [if_pos c]
        rw [read_signed (n := m.natAbs) (neg := true) hn minus_in minus_eq (fun _ => by omega) bg]
        have : (if true = true then -((m.natAbs : Nat) : Int) else ((m.natAbs : Nat) : Int)) = m := by rw [if_pos rfl]; omega
        rw [this]
      · rw [if_neg c]
        rw [read_signed (n := m.natAbs) (neg := false) hn plus_in plus_eq (fun e => by cases e) bg]
        have : (if false = true then -((m.natAbs : Nat) : Int) else ((m.natAbs : Nat) : Int)) = m := by rw [if_neg Bool.false_ne_true]; omega
        rw [this]
  have e5 : mOrB (mB (m2 gNin (mCall gLen (mCons (mVar 1) mNil)) (mTup (mCons (mC (.int 1)) (mCons (mC (.int 3)) mNil))))) (mNotB (mB (mApp sis_value (mCons (mVar 2) mNil)))) s3 = some (false, s3) := by
    rw [or_f (s1 := s3)]
    · exact mNotB_eq (mBt (mapp (s1 := s3) (ds := [vald v o]) rfl (value_ok h ho bg)))
    · cases o <;> rfl
  unfold sread_value
  refine fnd (s1 := s3) ?_
  show kSeq _ _ s0 = _
  rw [kseq (s1 := s0) (by rw [kif_f (s1 := s0) rfl]; rfl), kseq (s1 := s1) (kasg esp rfl), kseq (s1 := s2) (kasg ers rfl), kseq e4, kseq (s1 := s3) (by rw [kif_f e5]; rfl)]
  rfl
/-! ### what the law draws -/
theorem far_ok {bg : List Dt} (h : BagOk bg) : ∃ i bg', sLfar [.bag] bg = some (.int i, bg') ∧ Bnd i ∧ BagOk bg' := by
  obtain ⟨r, bg1, e1, r0, r1, hb1⟩ := pull_ok h (n := 1000000000) (by decide) (by decide)
  obtain ⟨q, bg2, e2, q0, q1, hb2⟩ := pull_ok hb1 (n := 11) (by decide) (by decide)
  let rows : List Dt := [.int 0, .int 1, .int (0 - 1), .int 2, .int (5 - q), .int (r - 10 ^ 8), .int (10 ^ 30 - r), .int (r - 10 ^ 30)]
  obtain ⟨d, bg3, e3, hd, hb3⟩ := any_ok hb2 (rows := rows) (by simp [rows]) (by simp [rows])
  have hi : ∃ i, d = .int i ∧ Bnd i := by
    simp only [rows, List.mem_cons, List.not_mem_nil, or_false] at hd
    unfold Bnd big
    rcases hd with rfl | rfl | rfl | rfl | rfl | rfl | rfl | rfl <;> exact ⟨_, rfl, by omega, by omega⟩
  obtain ⟨i, rfl, hi⟩ := hi
  refine ⟨i, bg3, ?_, hi, hb3⟩
  let s0 : Sta := ⟨[some (.dat .bag), none], bg⟩
  let s1 : Sta := ⟨[some (.dat .bag), some (.dat (.int r))], bg1⟩
  let s2 : Sta := ⟨[some (.dat .bag), some (.dat (.int r))], bg2⟩
  unfold sLfar
  refine fnd (s1 := { s2 with bag := bg3 }) ?_
  show kSeq _ _ s0 = _
  rw [kseq (s1 := s1) (kasg (s1 := { s0 with bag := bg1 }) (mapp (s1 := s0) (ds := [.bag, .int 1000000000]) rfl e1) rfl)]
  refine kret (mapp (s1 := s2) (ds := [.bag, .lst rows]) ?_ e3)
  refine mcons (s1 := s1) rfl (mcons (s1 := s2) (mlst (mcons (s1 := s1) rfl (mcons (s1 := s1) rfl (mcons (s1 := s1) rfl (mcons (s1 := s1) rfl (mcons (s1 := s2) (x := .int (5 - q)) ?_ (mcons (s1 := s2) rfl (mcons (s1 := s2) rfl (mcons (s1 := s2) rfl rfl)))))))) (by simp [rows])) rfl)
  exact m2_eq (s1 := s1) (s2 := s2) (x := .int 5) (y := .int q) rfl (mapp (s1 := s1) (ds := [.bag, .int 11]) rfl e2) rfl

theorem in_one (c : Nat) (z : Str) : gIn (.str ⟨#[c]⟩) (.str z) = some (.bl (decide (c ∈ z.cps.toList))) := by
  show some (Dt.bl (inS ⟨#[c]⟩ z)) = _
  unfold inS
  rw [PySem.StrLaws.found_one]
theorem abc_mem (c : Nat) : decide (c ∈ abc.cps.toList) = (decide (97 ≤ c) && decide (c ≤ 122)) := by
  have e : abc.cps.toList = [97, 98, 99, 100, 101, 102, 103, 104, 105, 106, 107, 108, 109, 110, 111, 112, 113, 114, 115, 116, 117, 118, 119, 120, 121, 122] := by decide +kernel
  rw [e, Bool.eq_iff_iff, Bool.and_eq_true, decide_eq_true_eq, decide_eq_true_eq, decide_eq_true_eq]
  simp only [List.mem_cons, List.not_mem_nil, or_false]
  omega
theorem law_is_name (z : Str) (bg : List Dt) (hz : z.length ≤ 100000) : sLis_name [.str z] bg = some (.bl (nameB z), bg) := by
  let s : Sta := ⟨[some (.dat (.str z)), none], bg⟩
  have hl : gLen [.str z] = some (.int (z.length : Nat)) := glen_str (Nat.le_trans hz (by decide))
  have elen : mCall gLen (mCons (mVar 0) mNil) s = some (.int (z.length : Nat), s) := mcall (s1 := s) (l := [.str z]) rfl hl
  have ech : mChain oLe oLe (mC (.int 1)) (mCall gLen (mCons (mVar 0) mNil)) (mC (.int 6)) s = some (.bl (decide (1 ≤ z.length) && decide (z.length ≤ 6)), s) := by
    by_cases h1 : 1 ≤ z.length
    · rw [decide_eq_true h1, Bool.true_and]
      refine mchain_t (s1 := s) (s2 := s) (s3 := s) (x := .int 1) (y := .int (z.length : Nat)) (z := .int 6) rfl elen (by show some (Dt.bl (decide ((1 : Int) ≤ (z.length : Nat)))) = _; rw [decide_eq_true (by omega)]) rfl ?_
      show some (Dt.bl (decide (((z.length : Nat) : Int) ≤ 6))) = _
      congr 2
      exact decide_eq_decide.mpr (by omega)
    · rw [decide_eq_false h1, Bool.false_and]
      exact mchain_f (s1 := s) (s2 := s) (x := .int 1) (y := .int (z.length : Nat)) rfl elen (by show some (Dt.bl (decide ((1 : Int) ≤ (z.length : Nat)))) = _; rw [decide_eq_false (by omega)])
  have ein : mB (m2 gIn (mVar 0) (mApp sLreserved mNil)) s = some (resv.contains z, s) := by
    refine mBt (m2_eq (s1 := s) (s2 := s) (x := .str z) (y := .lst (resv.map Dt.str)) rfl rfl ?_)
    rw [in_resv]
    congr 2
    rw [List.contains_eq_any_beq]
    congr 1
    funext r
    exact Bool.beq_comm
  have ecomp : mCall gAll (mCons (mComp [1] (wStr (mVar 0)) (hName 1) mYes (m2 gIn (mVar 1) (mC (.str "abcdefghijklmnopqrstuvwxyz")))) mNil) s = some (.bl (lowB z), s) := by
    have e : mComp [1] (wStr (mVar 0)) (hName 1) mYes (m2 gIn (mVar 1) (mC (.str "abcdefghijklmnopqrstuvwxyz"))) s = some (.lst ((z.cps.toList.map fun c => Dt.str ⟨#[c]⟩).map fun d => .bl (letB d)), s) := by
      refine mcomp (s1 := s) (l := z.cps.toList.map fun c => Dt.str ⟨#[c]⟩) rfl (by rw [List.length_map]; simpa [Str.length] using hz) (comp_map (fun d => .bl (letB d)) _ fun d hd => ?_)
      obtain ⟨c, hc, rfl⟩ := List.mem_map.mp hd
      let s' : Sta := ⟨[some (.dat (.str z)), some (.dat (.str ⟨#[c]⟩))], bg⟩
      refine ⟨s', s', s', rfl, rfl, m2_eq (s1 := s') (s2 := s') (x := .str ⟨#[c]⟩) (y := .str abc) rfl rfl ?_, rfl⟩
      rw [in_one, abc_mem, letB_c]
    refine mcall (mcons e rfl) ?_
    rw [gall_map, List.all_map]
    congr 2
    unfold lowB
    congr 1
    funext c
    exact letB_c c
  unfold sLis_name
  refine fnd (s1 := s) ?_
  show kSeq _ _ s = _
  have ec : mOrB (mNotB (mB (mIsi isStr (mVar 0)))) (mOrB (mNotB (mB (mChain oLe oLe (mC (.int 1)) (mCall gLen (mCons (mVar 0) mNil)) (mC (.int 6))))) (mB (m2 gIn (mVar 0) (mApp sLreserved mNil)))) s = some (!(decide (1 ≤ z.length) && decide (z.length ≤ 6)) || resv.contains z, s) := by
    rw [or_f (s1 := s) rfl]
    cases hb : decide (1 ≤ z.length) && decide (z.length ≤ 6) with
    | false => rw [hb] at ech; exact or_t (mNotB_eq (mBt ech))
    | true => rw [hb] at ech; rw [or_f (mNotB_eq (mBt ech))]; exact ein
  cases hb : !(decide (1 ≤ z.length) && decide (z.length ≤ 6)) || resv.contains z with
  | true =>
    rw [hb] at ec
    have en : nameB z = false := by
      unfold nameB
      rw [Bool.or_eq_true] at hb
      rcases hb with hb | hb
      · rw [Bool.not_eq_true'] at hb; rw [Bool.and_assoc (lowB z), hb]; simp
      · rw [hb]; simp
    unfold kSeq
    rw [kif_t ec, en]
    rfl
  | false =>
    rw [hb] at ec
    have en : nameB z = lowB z := by
      rw [Bool.or_eq_false_iff] at hb
      unfold nameB
      have h1 := hb.1
      rw [Bool.not_eq_false'] at h1
      rw [Bool.and_assoc (lowB z), h1, hb.2]; simp
    rw [kseq (s1 := s) (by rw [kif_f ec]; rfl), en]
    exact kret ecomp
theorem not_name {d : Dt} (h : isStr d = false) (bg : List Dt) : sis_name [d] bg = some (.bl false, bg) := by
  let s : Sta := ⟨[some (.dat d), none], bg⟩
  unfold sis_name
  refine fnd (s1 := s) ?_
  show kSeq _ _ s = _
  unfold kSeq
  rw [kif_t (s1 := s) (or_t (mNotB_eq (b := false) (mBt (show mIsi isStr (mVar 0) s = some (.bl false, s) by show some (Dt.bl (isStr d), s) = _; rw [h]))))]
  rfl
theorem not_value {d : Dt} (h : isTup d = false) (bg : List Dt) : sis_value [d] bg = some (.bl false, bg) := by
  let s : Sta := ⟨[some (.dat d)], bg⟩
  have ht : mB (mIsi isTup (mVar 0)) s = some (false, s) := by show some (isTup d, s) = _; rw [h]
  have h2 : sis_single_ [d] bg = some (.bl false, bg) := by
    let t : Sta := ⟨[some (.dat d), none, none], bg⟩
    have ht2 : mB (mIsi isTup (mVar 0)) t = some (false, t) := by show some (isTup d, t) = _; rw [h]
    unfold sis_single_
    refine fnd (s1 := t) ?_
    show kSeq _ _ t = _
    unfold kSeq
    rw [kif_t (mNotB_eq ht2)]
    rfl
  unfold sis_value
  refine fnd (s1 := s) ?_
  show kSeq _ _ s = _
  rw [kseq (s1 := s) (by rw [kif_f (and_f ht)]; rfl)]
  exact kret (mapp (s1 := s) (ds := [d]) rfl h2)
theorem some_string {bg : List Dt} (h : BagOk bg) : ∃ z bg', sLsome_string [.bag] bg = some (.str z, bg') ∧ z.length ≤ 1000 ∧ cpOk z = true ∧ BagOk bg' := by
  obtain ⟨r, bg1, e1, r0, r1, hb1⟩ := pull_ok h (n := 4) (by decide) (by decide)
  let s0 : Sta := ⟨[some (.dat .bag), none, none, none], bg⟩
  let s1 : Sta := ⟨[some (.dat .bag), none, none, none], bg1⟩
  have ec : mB (m2 gEq (mApp sLpull (mCons (mVar 0) (mCons (mC (.int 4)) mNil))) (mC (.int 0))) s0 = some (r == 0, s1) :=
    mBt (m2_eq (s1 := s1) (s2 := s1) (x := .int r) (y := .int 0) (mapp (s1 := s0) (ds := [.bag, .int 4]) rfl e1) rfl eqII)
  have resLen : ∀ z ∈ resv, z.length ≤ 10 := by decide +kernel
  have resCp : ∀ z ∈ resv, cpOk z = true := by decide +kernel
  by_cases hz : r = 0
  · obtain ⟨d, bg2, e2, hd, hb2⟩ := any_ok hb1 (rows := resv.map Dt.str) (by decide) (by decide)
    obtain ⟨d', bg3, e3, hd', hb3⟩ := any_ok hb2 (rows := [.str "", .str "", .str "a"]) (by simp) (by simp)
    obtain ⟨z, hz1, rfl⟩ := List.mem_map.mp hd
    have hz2 : ∃ y : Str, d' = .str y ∧ y.length ≤ 10 ∧ cpOk y = true := by
      simp only [List.mem_cons, List.not_mem_nil, or_false] at hd'
      rcases hd' with rfl | rfl | rfl <;> exact ⟨_, rfl, by decide +kernel, by decide +kernel⟩
    obtain ⟨y, rfl, hy1, hy2⟩ := hz2
    have hl := resLen z hz1
    refine ⟨z ++ y, bg3, ?_, by rw [len_app]; omega, app_cp (resCp z hz1) hy2, hb3⟩
    unfold sLsome_string
    refine fnd (s1 := { s0 with bag := bg3 }) ?_
    show kSeq _ _ s0 = _
    unfold kSeq
    rw [kif_t (s1 := s1) (by rw [ec, hz]; rfl), kret (s1 := { s0 with bag := bg3 }) (d := .str (z ++ y))]
    · rfl
    · exact m2_eq (s1 := { s0 with bag := bg2 }) (s2 := { s0 with bag := bg3 }) (x := .str z) (y := .str y) (mapp (s1 := s1) (ds := [.bag, .lst (resv.map Dt.str)]) rfl e2) (mapp (s1 := { s0 with bag := bg2 }) (ds := [.bag, .lst [.str "", .str "", .str "a"]]) rfl e3) (gadd_l (by omega))
  · obtain ⟨q, bg2, e2, q0, q1, hb2⟩ := pull_ok hb1 (n := 9) (by decide) (by decide)
    obtain ⟨rs, bg3, e3, l3, p3, hb3⟩ := comp_all (sl0 := [some (.dat .bag), none, none, none]) (h := hName 3) (t := mYes) (e := mApp sLany (mCons (mVar 0) (mCons (mC (.str "abcdefghijklmnopqrstuvwxyz")) mNil))) (fun _ => True) (fun d => ∃ z, d = .str z ∧ (Low z ∧ z.length = 1)) (fun d bg _ hb => by
      obtain ⟨c, bg', e, hc, hb'⟩ := any_str hb (z := abc) (by rw [len_abc]; decide) (by rw [len_abc]; decide)
      refine ⟨_, _, .str ⟨#[c]⟩, ⟨[some (.dat .bag), none, none, some (.dat d)], bg'⟩, rfl, rfl, ?_, ⟨_, rfl, fun k hk => ?_, rfl⟩, hb'⟩
      · exact mapp (s1 := ⟨[some (.dat .bag), none, none, some (.dat d)], bg⟩) rfl e
      · have : k = c := by simpa using hk
        rw [this]
        exact low_abc c hc) (rngD 0 q.toNat) bg2 (fun _ _ => trivial) hb2
    rw [rng_len] at l3
    obtain ⟨ss, rfl, hss⟩ := strs_of p3
    rw [List.length_map] at l3
    have hj := low_join (l := ss) fun z hz => (hss z hz).1
    rw [sum_ones fun z hz => (hss z hz).2, l3] at hj
    have hjn := gjoin_ok (ss := ss) (by rw [sum_ones fun z hz => (hss z hz).2, l3]; omega)
    generalize Str.join "" ss = stem at hj hjn
    obtain ⟨hlow, hlen⟩ := hj
    obtain ⟨at_, bg4, e4, a0, a1, hb4⟩ := pull_ok hb3 (n := (stem.length : Nat) + 1) (by omega) (by omega)
    obtain ⟨i, rfl⟩ : ∃ i : Nat, at_ = (i : Int) := ⟨at_.toNat, by omega⟩
    have hi : i ≤ stem.length := by omega
    obtain ⟨d, bg5, e5, hd, hb5⟩ := any_ok hb4 (rows := [.str "", .str "", .str "", .str "A", .str "1", .str " ", .str ".", .str "_", .str "\n"]) (by simp) (by simp)
    have hz2 : ∃ y : Str, d = .str y ∧ y.length ≤ 10 ∧ cpOk y = true := by
      simp only [List.mem_cons, List.not_mem_nil, or_false] at hd
      rcases hd with rfl | rfl | rfl | rfl | rfl | rfl | rfl | rfl | rfl <;> exact ⟨_, rfl, by decide +kernel, by decide +kernel⟩
    obtain ⟨y, rfl, hy1, hy2⟩ := hz2
    have hcut := len_cut (z := stem) hi
    let t2 : Sta := ⟨[some (.dat .bag), some (.dat (.str stem)), none, none], bg3⟩
    let t3 : Sta := ⟨[some (.dat .bag), some (.dat (.str stem)), some (.dat (.int (i : Nat))), none], bg4⟩
    refine ⟨cutS stem none (some (i : Nat)) ++ y ++ cutS stem (some (i : Nat)) none, bg5, ?_, by rw [len_app, len_app]; omega, app_cp (app_cp (cp_low (low_cut hlow _ _)) hy2) (cp_low (low_cut hlow _ _)), hb5⟩
    unfold sLsome_string
    refine fnd (s1 := { t3 with bag := bg5 }) ?_
    show kSeq _ _ s0 = _
    rw [kseq (s1 := s1) (by rw [kif_f (s1 := s1) (by rw [ec, beq_eq_false_iff_ne.mpr hz])]; rfl), kseq (s1 := t2), kseq (s1 := t3)]
    · refine kret (m2_eq (s1 := { t3 with bag := bg5 }) (s2 := { t3 with bag := bg5 }) (x := .str (cutS stem none (some (i : Nat)) ++ y)) (y := .str (cutS stem (some (i : Nat)) none)) (m2_eq (s1 := t3) (s2 := { t3 with bag := bg5 }) (x := .str (cutS stem none (some (i : Nat)))) (y := .str y) ?_ ?_ (gadd_l (by omega))) ?_ (gadd_l (by rw [len_app]; omega)))
      · exact msl (s1 := t3) (s2 := t3) (s3 := t3) (x := .str stem) rfl rfl rfl (gsl_str (by omega))
      · exact mapp (s1 := t3) (ds := [.bag, .lst [.str "", .str "", .str "", .str "A", .str "1", .str " ", .str ".", .str "_", .str "\n"]]) rfl e5
      · exact msl (s1 := { t3 with bag := bg5 }) (s2 := { t3 with bag := bg5 }) (s3 := { t3 with bag := bg5 }) (x := .str stem) rfl rfl rfl (gsl_str (by omega))
    · refine kasg (s1 := { t2 with bag := bg4 }) (d := .int (i : Nat)) (mapp (s1 := t2) (ds := [.bag, .int ((stem.length : Nat) + 1)]) ?_ e4) rfl
      refine mcons (s1 := t2) rfl (mcons (s1 := t2) (m2_eq (s1 := t2) (s2 := t2) (x := .int (stem.length : Nat)) (y := .int 1) (mcall (s1 := t2) (l := [.str stem]) rfl (glen_str (line_of (by omega)))) rfl rfl) rfl)
    · refine kasg (s1 := { s1 with bag := bg3 }) (d := .str stem) ?_ rfl
      refine mm1 (s1 := s1) (s2 := { s1 with bag := bg3 }) (a := "") (y := .lst (ss.map Dt.str)) rfl ?_ hjn
      refine mcomp (s1 := { s1 with bag := bg2 }) (l := rngD 0 q.toNat) ?_ (by rw [rng_len]; omega) e3
      refine mrng1 ?_ q0 (by omega)
      exact mcons (s1 := { s1 with bag := bg2 }) (mapp (s1 := s1) (ds := [.bag, .int 9]) rfl e2) rfl

theorem vals_of {rs : List Dt} (h : ∀ r ∈ rs, ∃ (v : Sg) (m : Int), r = vald v (some m) ∧ v.Ok ∧ Bnd m) : ∃ vs : List (Sg × Option Int), rs = vs.map (fun (p : Sg × Option Int) => vald p.1 p.2) ∧ ∀ p ∈ vs, p.1.Ok ∧ ∀ m, p.2 = some m → Bnd m := by
  induction rs with
  | nil => exact ⟨[], rfl, by simp⟩
  | cons r rs ih =>
    obtain ⟨v, m, rfl, hv, hm⟩ := h r (List.mem_cons_self ..)
    obtain ⟨vs, rfl, hs⟩ := ih fun x hx => h x (List.mem_cons_of_mem _ hx)
    refine ⟨(v, some m) :: vs, rfl, fun p hp => ?_⟩
    rcases List.mem_cons.mp hp with rfl | hp
    · exact ⟨hv, fun j e => by cases e; exact hm⟩
    · exact hs p hp
theorem all_values {bg : List Dt} (h : BagOk bg) {n0 n1 n2 : Str} (h0 : NameOk n0) (h1 : NameOk n1) (h2 : NameOk n2) : ∃ (vs : List (Sg × Option Int)) (bg' : List Dt), sLall_values [.bag, .lst [.str n0, .str n1, .str n2]] bg = some (.lst (vs.map fun (p : Sg × Option Int) => vald p.1 p.2), bg') ∧
    (∀ p ∈ vs, p.1.Ok ∧ ∀ m, p.2 = some m → Bnd m) ∧ BagOk bg' := by
  obtain ⟨d, bg1, e1, hd, hb1⟩ := any_ok h (rows := [.str n0, .str "key"]) (by simp) (by simp)
  have hc : ∃ c, d = .str c ∧ ColOk c := by
    simp only [List.mem_cons, List.not_mem_nil, or_false] at hd
    rcases hd with rfl | rfl
    · exact ⟨_, rfl, .inr h0⟩
    · exact ⟨_, rfl, .inl rfl⟩
  obtain ⟨c, rfl, hc⟩ := hc
  obtain ⟨i, bg2, e2, hi, hb2⟩ := far_ok hb1
  let gs : List Sg := [.number i, .name n1, .field n2 c, .own c, .next c]
  have hgs : ∀ v ∈ gs, v.Ok := fun v hv => by
    simp only [gs, List.mem_cons, List.not_mem_nil, or_false] at hv
    rcases hv with rfl | rfl | rfl | rfl | rfl
    · exact hi
    · exact h1
    · exact ⟨h2, hc⟩
    · exact hc
    · exact hc
  let names : Dt := .lst [.str n0, .str n1, .str n2]
  let s0 : Sta := ⟨[some (.dat .bag), some (.dat names), none, none, none], bg⟩
  let s1 : Sta := ⟨[some (.dat .bag), some (.dat names), some (.dat (.str c)), none, none], bg1⟩
  let s2 : Sta := ⟨[some (.dat .bag), some (.dat names), some (.dat (.str c)), some (.dat (.lst (gs.map Sg.d))), none], bg2⟩
  obtain ⟨rs, bg3, e3, l3, p3, hb3⟩ := comp_all (sl0 := [some (.dat .bag), some (.dat names), some (.dat (.str c)), some (.dat (.lst (gs.map Sg.d))), none]) (h := hName 4) (t := mYes) (e := mTup (mCons (mC (.str "plus")) (mCons (mVar 4) (mCons (mApp sLfar (mCons (mVar 0) mNil)) mNil))))
    (fun d => ∃ v : Sg, v.Ok ∧ d = v.d) (fun r => ∃ (v : Sg) (m : Int), r = vald v (some m) ∧ v.Ok ∧ Bnd m) (fun d bg hd hb => by
      obtain ⟨v, hv, rfl⟩ := hd
      obtain ⟨m, bg', e, hm, hb'⟩ := far_ok hb
      let t : Sta := ⟨[some (.dat .bag), some (.dat names), some (.dat (.str c)), some (.dat (.lst (gs.map Sg.d))), some (.dat v.d)], bg⟩
      refine ⟨t, t, vald v (some m), { t with bag := bg' }, rfl, rfl, ?_, ⟨v, m, rfl, hv, hm⟩, hb'⟩
      exact mtup (mcons (s1 := t) rfl (mcons (s1 := t) rfl (mcons (s1 := { t with bag := bg' }) (mapp (s1 := t) (ds := [.bag]) rfl e) rfl)))) (gs.map Sg.d) bg2 (fun d hd => by
      obtain ⟨v, hv, rfl⟩ := List.mem_map.mp hd
      exact ⟨v, hgs v hv, rfl⟩) hb2
  obtain ⟨vs, rfl, hvs⟩ := vals_of p3
  have l5 : (vs.map fun (p : Sg × Option Int) => vald p.1 p.2).length = 5 := l3
  refine ⟨gs.map (fun v => (v, none)) ++ vs, bg3, ?_, fun p hp => ?_, hb3⟩
  · have em : (gs.map (fun v => ((v, none) : Sg × Option Int)) ++ vs).map (fun (p : Sg × Option Int) => vald p.1 p.2) = gs.map Sg.d ++ vs.map fun (p : Sg × Option Int) => vald p.1 p.2 := by
      rw [List.map_append, List.map_map]; rfl
    rw [em]
    unfold sLall_values
    refine fnd (s1 := { s2 with bag := bg3 }) ?_
    show kSeq _ _ s0 = _
    rw [kseq (s1 := s1), kseq (s1 := s2)]
    · refine kret (m2_eq (s1 := s2) (s2 := { s2 with bag := bg3 }) (x := .lst (gs.map Sg.d)) (y := .lst (vs.map fun (p : Sg × Option Int) => vald p.1 p.2)) rfl (mcomp (s1 := s2) (l := gs.map Sg.d) rfl (by simp [gs]) e3) ?_)
      show (if (gs.map Sg.d).length + (vs.map fun (p : Sg × Option Int) => vald p.1 p.2).length ≤ sizeLine then some (Dt.lst (gs.map Sg.d ++ vs.map fun (p : Sg × Option Int) => vald p.1 p.2)) else none) = _
      rw [if_pos (line_of (by rw [l5]; simp [gs]))]
    · refine kasg (s1 := { s1 with bag := bg2 }) (d := .lst (gs.map Sg.d)) (mlst (mcons (s1 := { s1 with bag := bg2 }) (x := (Sg.number i).d) (mtup (mcons (s1 := s1) rfl (mcons (s1 := { s1 with bag := bg2 }) (x := .int i) (mapp (s1 := s1) (ds := [.bag]) rfl e2) rfl))) rfl) (by simp [gs])) rfl
    · refine kasg (s1 := { s0 with bag := bg1 }) (d := .str c) (mapp (s1 := s0) (ds := [.bag, .lst [.str n0, .str "key"]]) rfl e1) rfl
  · rcases List.mem_append.mp hp with hp | hp
    · obtain ⟨v, hv, rfl⟩ := List.mem_map.mp hp
      exact ⟨hgs v hv, fun m e => by cases e⟩
    · exact hvs p hp
theorem loop_mem {h : Dt → Sta → Option Sta} {b : DMs} (Pd : Dt → Prop) (I : Sta → Prop) (hs : ∀ d s, Pd d → I s → ∃ s1 r s2, h d s = some s1 ∧ b s1 = some (r, s2) ∧ (r = .nx ∨ r = .ct) ∧ I s2) : ∀ (l : List Dt) (s : Sta), (∀ d ∈ l, Pd d) → I s → ∃ s', loopD h b l s = some (.nx, s') ∧ I s'
  | [], s, _, hi => ⟨s, rfl, hi⟩
  | d :: l, s, hp, hi => by
    obtain ⟨s1, r, s2, e1, e2, hr, h2⟩ := hs d s (hp d (List.mem_cons_self ..)) hi
    obtain ⟨s', e3, h3⟩ := loop_mem Pd I hs l s2 (fun z hz => hp z (List.mem_cons_of_mem _ hz)) h2
    refine ⟨s', ?_, h3⟩
    unfold loopD
    rw [e1, Option.bind_some, e2, Option.bind_some]
    rcases hr with rfl | rfl <;> exact e3
theorem kfor_lst {f : DM Dt} {h : Dt → Sta → Option Sta} {b : DMs} {s s1 s' : Sta} {l : List Dt} {r : Res} (h1 : f s = some (.lst l, s1)) (e : loopD h b l s1 = some (r, s')) : kFor (wLst f) h b s = some (r, s') := by
  unfold kFor wLst
  rw [h1]
  exact e
theorem list_of_val (v : Sg) (o : Option Int) : ∃ l, gListOf [vald v o] = some (.lst l) := by
  cases o with
  | some m => exact ⟨_, rfl⟩
  | none => cases v <;> exact ⟨_, rfl⟩
theorem val_str (v : Sg) (o : Option Int) : isStr (vald v o) = false := by
  cases o with
  | some m => rfl
  | none => cases v <;> rfl
end DL

namespace DL
open PySem PySem.Spec PyProof.Rows L2
variable [Tabs]
open TL
/-! ### conditions as data, their texts and words -/
inductive Cp where
  | le | lt | eq
def Cp.form : Cp → Str
  | .le => "atmost"
  | .lt => "below"
  | .eq => "same"
def Cp.sign : Cp → Str
  | .le => "<="
  | .lt => "<"
  | .eq => "="
inductive Cn where
  | tru | cmp (k : Cp) (v : Sg) (o : Option Int) (w : Sg) (p : Option Int) | fnd (r : Str) | nt (c : Cn) | bin (k : Bool) (a b : Cn)
def bw : Bool → Str
  | true => "and"
  | false => "or"
def Cn.d : Cn → Dt
  | .tru => .tup [.str "true"]
  | .cmp k v o w p => .tup [.str k.form, vald v o, vald w p]
  | .fnd r => .tup [.str "found", .str r]
  | .nt c => .tup [.str "not", c.d]
  | .bin k a b => .tup [.str (bw k), a.d, b.d]
def Cn.Ok : Cn → Prop
  | .tru => True
  | .cmp _ v o w p => v.Ok ∧ (∀ m, o = some m → Bnd m) ∧ w.Ok ∧ ∀ m, p = some m → Bnd m
  | .fnd r => NameOk r
  | .nt c => c.Ok
  | .bin _ a b => a.Ok ∧ b.Ok
def Cn.dep : Cn → Nat
  | .nt c => c.dep + 1
  | .bin _ a b => max a.dep b.dep + 1
  | _ => 1
def Cn.size : Cn → Nat
  | .nt c => c.size + 1
  | .bin _ a b => a.size + b.size + 1
  | _ => 1
def Cn.text : Cn → Str
  | .tru => "true"
  | .cmp k v o w p => valText v o ++ " " ++ k.sign ++ " " ++ valText w p
  | .fnd r => "found " ++ r
  | .nt c => "not " ++ c.text
  | .bin k a b => "(" ++ a.text ++ " " ++ bw k ++ " " ++ b.text ++ ")"
def Cn.toks : Cn → List Str
  | .tru => [("true" : Str)]
  | .cmp k v o w p => valParts v o ++ (k.sign :: valParts w p)
  | .fnd r => [("found" : Str), r]
  | .nt c => ("not" : Str) :: c.toks
  | .bin k a b => ("(" : Str) :: (a.toks ++ (bw k :: (b.toks ++ [(")" : Str)])))
theorem parts_ne (v : Sg) (o : Option Int) : valParts v o ≠ [] := by cases o <;> simp [valParts]
theorem toks_ne : ∀ c : Cn, c.toks ≠ []
  | .tru => by simp [Cn.toks]
  | .cmp k v o w p => by simp [Cn.toks]
  | .fnd r => by simp [Cn.toks]
  | .nt c => by simp [Cn.toks]
  | .bin k a b => by simp [Cn.toks]
theorem size_dep : ∀ c : Cn, c.size + 1 ≤ 2 ^ c.dep
  | .tru => by simp [Cn.size, Cn.dep]
  | .cmp .. => by simp [Cn.size, Cn.dep]
  | .fnd _ => by simp [Cn.size, Cn.dep]
  | .nt c => by
    have h := size_dep c
    show c.size + 1 + 1 ≤ 2 ^ (c.dep + 1)
    rw [Nat.pow_succ]
    have : 1 ≤ c.size + 1 := by omega
    omega
  | .bin _ a b => by
    have h1 := size_dep a
    have h2 := size_dep b
    have e1 : 2 ^ a.dep ≤ 2 ^ (max a.dep b.dep) := Nat.pow_le_pow_right (by decide) (Nat.le_max_left _ _)
    have e2 : 2 ^ b.dep ≤ 2 ^ (max a.dep b.dep) := Nat.pow_le_pow_right (by decide) (Nat.le_max_right _ _)
    show a.size + b.size + 1 + 1 ≤ 2 ^ (max a.dep b.dep + 1)
    rw [Nat.pow_succ]
    omega
theorem sgText_tl {v : Sg} (h : v.Ok) {c : Nat} (hc : c ∈ tl (sgText v)) : c = 45 ∨ c = 46 ∨ (48 ≤ c ∧ c ≤ 57) ∨ (97 ≤ c ∧ c ≤ 122) := by
  have low : ∀ {z : Str}, Low z → c ∈ tl z → 97 ≤ c ∧ c ≤ 122 := fun h m => h c m
  have dotted : ∀ {a b : Str}, Low a → Low b → c ∈ tl (a ++ "." ++ b) → c = 45 ∨ c = 46 ∨ (48 ≤ c ∧ c ≤ 57) ∨ (97 ≤ c ∧ c ≤ 122) := fun {a b} ha hb m => by
    rw [tl_append, tl_append, tl_dot] at m
    simp only [List.mem_append, List.mem_singleton] at m
    rcases m with (m | m) | m
    · exact .inr (.inr (.inr (low ha m)))
    · exact .inr (.inl m)
    · exact .inr (.inr (.inr (low hb m)))
  cases v with
  | number i =>
    rcases itxt_mem (i := i) hc with z | z
    · exact .inl z
    · exact .inr (.inr (.inl z))
  | name n => exact .inr (.inr (.inr (low (show NameOk n from h).low hc)))
  | field n c' => exact dotted h.1.low (col_low h.2) hc
  | own c' => exact dotted (lowB_iff.mp (by decide +kernel)) (col_low h) hc
  | next c' => exact dotted (lowB_iff.mp (by decide +kernel)) (col_low h) hc
theorem sign_tl (k : Cp) {c : Nat} (hc : c ∈ tl k.sign) : c = 60 ∨ c = 61 := by
  cases k
  · have : tl Cp.le.sign = [60, 61] := by decide +kernel
    rw [this] at hc; simp at hc; omega
  · have : tl Cp.lt.sign = [60] := by decide +kernel
    rw [this] at hc; simp at hc; omega
  · have : tl Cp.eq.sign = [61] := by decide +kernel
    rw [this] at hc; simp at hc; omega
theorem bw_tl (k : Bool) {c : Nat} (hc : c ∈ tl (bw k)) : 97 ≤ c ∧ c ≤ 122 := by
  cases k
  · exact (lowB_iff.mp (by decide +kernel) : Low "or") c hc
  · exact (lowB_iff.mp (by decide +kernel) : Low "and") c hc
/-- what a sign of a value's words is -/
def okc (c : Nat) : Prop := c = 43 ∨ c = 45 ∨ c = 46 ∨ (48 ≤ c ∧ c ≤ 57) ∨ (97 ≤ c ∧ c ≤ 122)
theorem part_tl {v : Sg} (h : v.Ok) (o : Option Int) {z : Str} (hz : z ∈ valParts v o) {c : Nat} (hc : c ∈ tl z) : okc c := by
  have s0 : ∀ {c}, c ∈ tl (sgText v) → okc c := fun {c} m => by
    rcases sgText_tl h m with z | z | z | z
    · exact .inr (.inl z)
    · exact .inr (.inr (.inl z))
    · exact .inr (.inr (.inr (.inl z)))
    · exact .inr (.inr (.inr (.inr z)))
  cases o with
  | none =>
    rw [show valParts v none = [sgText v] from rfl, List.mem_singleton] at hz
    rw [hz] at hc
    exact s0 hc
  | some m =>
    simp only [valParts, List.mem_cons, List.not_mem_nil, or_false] at hz
    rcases hz with rfl | rfl | rfl
    · exact s0 hc
    · by_cases k : m < 0
      · rw [if_pos k, show tl "-" = [45] by decide +kernel, List.mem_singleton] at hc
        exact .inr (.inl hc)
      · rw [if_neg k, show tl "+" = [43] by decide +kernel, List.mem_singleton] at hc
        exact .inl hc
    · rcases itxt_mem hc with z | z
      · exact .inr (.inl z)
      · exact .inr (.inr (.inr (.inl z)))
theorem toks_sp : ∀ {c : Cn}, c.Ok → ∀ z ∈ c.toks, 32 ∉ tl z
  | .tru, _, z, hz => by
    rw [show Cn.tru.toks = [("true" : Str)] from rfl, List.mem_singleton] at hz
    rw [hz]; decide +kernel
  | .cmp k v o w p, h, z, hz => by
    rcases List.mem_append.mp hz with hz | hz
    · intro hc; have := part_tl h.1 o hz hc; unfold okc at this; omega
    · rcases List.mem_cons.mp hz with rfl | hz
      · intro hc; have := sign_tl k hc; omega
      · intro hc; have := part_tl h.2.2.1 p hz hc; unfold okc at this; omega
  | .fnd r, h, z, hz => by
    simp only [Cn.toks, List.mem_cons, List.not_mem_nil, or_false] at hz
    rcases hz with rfl | rfl
    · decide +kernel
    · exact low_free (show NameOk z from h).low (by decide)
  | .nt c, h, z, hz => by
    rcases List.mem_cons.mp hz with rfl | hz
    · decide +kernel
    · exact toks_sp (c := c) h z hz
  | .bin k a b, h, z, hz => by
    rcases List.mem_cons.mp hz with rfl | hz
    · decide +kernel
    rcases List.mem_append.mp hz with hz | hz
    · exact toks_sp (c := a) h.1 z hz
    rcases List.mem_cons.mp hz with rfl | hz
    · intro hc; have := bw_tl k hc; omega
    rcases List.mem_append.mp hz with hz | hz
    · exact toks_sp (c := b) h.2 z hz
    · rw [List.mem_singleton] at hz; rw [hz]; decide +kernel
theorem toks_cp : ∀ {c : Cn}, c.Ok → ∀ z ∈ c.toks, cpOk z = true
  | .tru, _, z, hz => by
    rw [show Cn.tru.toks = [("true" : Str)] from rfl, List.mem_singleton] at hz
    rw [hz]; decide +kernel
  | .cmp k v o w p, h, z, hz => by
    rcases List.mem_append.mp hz with hz | hz
    · exact cp_tl fun c hc => by have := part_tl h.1 o hz hc; unfold okc at this; omega
    · rcases List.mem_cons.mp hz with rfl | hz
      · exact cp_tl fun c hc => by have := sign_tl k hc; omega
      · exact cp_tl fun c hc => by have := part_tl h.2.2.1 p hz hc; unfold okc at this; omega
  | .fnd r, h, z, hz => by
    simp only [Cn.toks, List.mem_cons, List.not_mem_nil, or_false] at hz
    rcases hz with rfl | rfl
    · decide +kernel
    · exact cp_low (show NameOk z from h).low
  | .nt c, h, z, hz => by
    rcases List.mem_cons.mp hz with rfl | hz
    · decide +kernel
    · exact toks_cp (c := c) h z hz
  | .bin k a b, h, z, hz => by
    rcases List.mem_cons.mp hz with rfl | hz
    · decide +kernel
    rcases List.mem_append.mp hz with hz | hz
    · exact toks_cp (c := a) h.1 z hz
    rcases List.mem_cons.mp hz with rfl | hz
    · cases k <;> decide +kernel
    rcases List.mem_append.mp hz with hz | hz
    · exact toks_cp (c := b) h.2 z hz
    · rw [List.mem_singleton] at hz; rw [hz]; decide +kernel
/-! the two replaces, and split -/
def r1 (c : Nat) : List Nat := if c = 40 then [40, 32] else [c]
def r2 (c : Nat) : List Nat := if c = 41 then [32, 41] else [c]
theorem replL_one {a : Nat} {z : List Nat} : ∀ l : List Nat, PySem.StrLaws.replL [a] z l = l.flatMap fun c => if c = a then z else [c]
  | [] => by rw [PySem.StrLaws.replL_nil]; rfl
  | c :: r => by
    rw [List.flatMap_cons]
    by_cases h : c = a
    · subst h
      rw [PySem.StrLaws.replL_hit (by simp) (by simp), if_pos rfl]
      show z ++ PySem.StrLaws.replL [c] z r = _
      rw [replL_one r]
    · rw [PySem.StrLaws.replL_miss (by simp [h]), if_neg h, replL_one r]
      rfl
def rr (c : Nat) : List Nat := if c = 40 then [40, 32] else if c = 41 then [32, 41] else [c]
def rep2 (x : Str) : Str := Txt.replace (Txt.replace x "(" "( ") ")" " )"
theorem tl_rep2 (x : Str) : tl (rep2 x) = (tl x).flatMap rr := by
  unfold rep2
  have e1 : tl (Txt.replace x "(" "( ") = (tl x).flatMap fun c => if c = 40 then [40, 32] else [c] := by
    have := PySem.StrLaws.replace_list (x := x) (y := "(") (z := "( ") (by decide +kernel)
    rw [show ("(" : Str).cps.toList = [40] by decide +kernel, show ("( " : Str).cps.toList = [40, 32] by decide +kernel, replL_one] at this
    exact this
  have e2 : ∀ y : Str, tl (Txt.replace y ")" " )") = (tl y).flatMap fun c => if c = 41 then [32, 41] else [c] := fun y => by
    have := PySem.StrLaws.replace_list (x := y) (y := ")") (z := " )") (by decide +kernel)
    rw [show (")" : Str).cps.toList = [41] by decide +kernel, show (" )" : Str).cps.toList = [32, 41] by decide +kernel, replL_one] at this
    exact this
  rw [e2, e1, List.flatMap_assoc]
  congr 1
  funext c
  unfold rr
  by_cases h : c = 40
  · subst h; rfl
  · rw [if_neg h, if_neg h]
    by_cases h2 : c = 41
    · subst h2; rfl
    · rw [if_neg h2]; simp [h2]
theorem flat_id {l : List Nat} (h : ∀ c ∈ l, c ≠ 40 ∧ c ≠ 41) : l.flatMap rr = l := by
  induction l with
  | nil => rfl
  | cons c r ih =>
    rw [List.flatMap_cons, ih fun x hx => h x (List.mem_cons_of_mem _ hx)]
    obtain ⟨h1, h2⟩ := h c (List.mem_cons_self ..)
    unfold rr
    rw [if_neg h1, if_neg h2]
    rfl
theorem joinL_cons {S p : List Nat} {r : List (List Nat)} (h : r ≠ []) : joinL S (p :: r) = p ++ (S ++ joinL S r) := by
  cases r with
  | nil => exact absurd rfl h
  | cons q r => rfl
theorem joinL_app {S : List Nat} : ∀ {l m : List (List Nat)}, l ≠ [] → m ≠ [] → joinL S (l ++ m) = joinL S l ++ (S ++ joinL S m)
  | [], _, h, _ => absurd rfl h
  | [p], m, _, hm => by
    show joinL S (p :: m) = p ++ _
    exact joinL_cons hm
  | p :: q :: r, m, _, hm => by
    show joinL S (p :: (q :: r ++ m)) = joinL S (p :: q :: r) ++ _
    rw [joinL_cons (by simp), joinL_app (l := q :: r) (by simp) hm, joinL_cons (p := p) (r := q :: r) (by simp)]
    simp only [List.append_assoc]
theorem mapne {l : List Str} (h : l ≠ []) : l.map tl ≠ [] := fun e => h (List.map_eq_nil_iff.mp e)
theorem parts_join (v : Sg) (o : Option Int) : joinL [32] ((valParts v o).map tl) = tl (valText v o) := by
  rw [val_join, join_eq, tl_join, tl_sp]
theorem val_free {v : Sg} (h : v.Ok) (o : Option Int) : ∀ c ∈ tl (valText v o), c ≠ 40 ∧ c ≠ 41 := by
  rw [← parts_join]
  intro c hc
  have gen : ∀ (l : List (List Nat)), (∀ p ∈ l, ∀ c ∈ p, c ≠ 40 ∧ c ≠ 41) → ∀ c ∈ joinL [32] l, c ≠ 40 ∧ c ≠ 41 := by
    intro l
    induction l with
    | nil => intro _ c hc; cases hc
    | cons p r ih =>
      intro hp c hc
      cases r with
      | nil => exact hp p (List.mem_cons_self ..) c hc
      | cons q r =>
        rw [joinL_cons (by simp)] at hc
        rcases List.mem_append.mp hc with hc | hc
        · exact hp p (List.mem_cons_self ..) c hc
        rcases List.mem_append.mp hc with hc | hc
        · rw [List.mem_singleton] at hc; omega
        · exact ih (fun p hp' => hp p (List.mem_cons_of_mem _ hp')) c hc
  refine gen _ (fun p hp c hc => ?_) c hc
  obtain ⟨z, hz, rfl⟩ := List.mem_map.mp hp
  have := part_tl h o hz hc
  unfold okc at this
  omega
theorem words_of : ∀ {c : Cn}, c.Ok → (tl c.text).flatMap rr = joinL [32] (c.toks.map tl)
  | .tru, _ => by decide +kernel
  | .cmp k v o w p, h => by
    show (tl (valText v o ++ " " ++ k.sign ++ " " ++ valText w p)).flatMap rr = joinL [32] ((valParts v o ++ (k.sign :: valParts w p)).map tl)
    rw [List.map_append, List.map_cons, joinL_app (mapne (parts_ne v o)) (by simp), joinL_cons (mapne (parts_ne w p)), parts_join, parts_join]
    simp only [tl_append, tl_sp, List.flatMap_append]
    rw [flat_id (val_free h.1 o), flat_id (val_free h.2.2.1 p), flat_id (l := tl k.sign) (fun c hc => by have := sign_tl k hc; omega), flat_id (l := [32]) (by simp)]
    simp only [List.append_assoc]
  | .fnd r, h => by
    show (tl ("found " ++ r)).flatMap rr = joinL [32] [tl "found", tl r]
    rw [tl_append, List.flatMap_append, flat_id (l := tl r) (fun c hc => by have := (show NameOk r from h).low c hc; unfold letter at this; omega)]
    rw [show (tl "found ").flatMap rr = tl "found" ++ [32] by decide +kernel, List.append_assoc]
    rfl
  | .nt c, h => by
    show (tl ("not " ++ c.text)).flatMap rr = joinL [32] (tl "not" :: c.toks.map tl)
    rw [tl_append, List.flatMap_append, words_of (c := c) h, joinL_cons (mapne (toks_ne c)), show (tl "not ").flatMap rr = tl "not" ++ [32] by decide +kernel, List.append_assoc]
  | .bin k a b, h => by
    show (tl ("(" ++ a.text ++ " " ++ bw k ++ " " ++ b.text ++ ")")).flatMap rr = joinL [32] (tl "(" :: (a.toks ++ (bw k :: (b.toks ++ [(")" : Str)]))).map tl)
    have n1 := mapne (toks_ne a)
    have n2 := mapne (toks_ne b)
    simp only [List.map_append, List.map_cons, List.map_nil]
    rw [joinL_cons (p := tl "(") (by simp), joinL_app n1 (by simp), joinL_cons (p := tl (bw k)) (by simp), joinL_app n2 (by simp)]
    simp only [tl_append, List.flatMap_append]
    rw [words_of (c := a) h.1, words_of (c := b) h.2, flat_id (l := tl (bw k)) (fun c hc => by have := bw_tl k hc; omega), show (tl "(").flatMap rr = tl "(" ++ [32] by decide +kernel, show (tl ")").flatMap rr = [32] ++ tl ")" by decide +kernel, show (tl " ").flatMap rr = [32] by decide +kernel]
    show _ = _
    simp only [List.append_assoc, joinL]
theorem split_text {c : Cn} (h : c.Ok) : Txt.split (rep2 c.text) " " = c.toks := by
  have e : rep2 c.text = Txt.join " " c.toks := ext_tl (by rw [tl_rep2, words_of h, join_eq, tl_join, tl_sp])
  rw [e]
  exact split_join tl_sp (by decide +kernel) (toks_ne c) (toks_sp h)
theorem rep_len (x : Str) : (rep2 x).length ≤ 2 * x.length ∧ (Txt.replace x "(" "( ").length ≤ 2 * x.length := by
  have gen : ∀ (f : Nat → List Nat) (l : List Nat), (∀ c, (f c).length ≤ 2) → (l.flatMap f).length ≤ 2 * l.length := fun f l hf => by
    induction l with
    | nil => simp
    | cons c r ih =>
      rw [List.flatMap_cons, List.length_append, List.length_cons]
      have := hf c
      omega
  refine ⟨?_, ?_⟩
  · rw [len_tl, len_tl, tl_rep2]
    exact gen rr _ fun c => by unfold rr; split <;> (try split) <;> simp
  · have := PySem.StrLaws.replace_list (x := x) (y := "(") (z := "( ") (by decide +kernel)
    rw [show ("(" : Str).cps.toList = [40] by decide +kernel, show ("( " : Str).cps.toList = [40, 32] by decide +kernel, replL_one] at this
    rw [len_tl, len_tl]
    show (Txt.replace x "(" "( ").cps.toList.length ≤ _
    rw [this]
    exact gen _ _ fun c => by split <;> simp
theorem text_len : ∀ {c : Cn}, c.Ok → 1 ≤ c.text.length ∧ c.text.length + 20 ≤ 300 * 2 ^ c.dep
  | .tru, _ => by
    have : (Cn.tru).text.length = 4 := by decide +kernel
    rw [this]; simp [Cn.dep]
  | .cmp k v o w p, h => by
    have h1 := valText_len h.1 h.2.1
    have h2 := valText_len h.2.2.1 h.2.2.2
    show 1 ≤ (valText v o ++ " " ++ k.sign ++ " " ++ valText w p).length ∧ (valText v o ++ " " ++ k.sign ++ " " ++ valText w p).length + 20 ≤ 300 * 2 ^ 1
    simp only [len_app]
    have e1 : (" " : Str).length = 1 := by decide +kernel
    have e2 : k.sign.length ≤ 2 := by cases k <;> decide +kernel
    omega
  | .fnd r, h => by
    have h1 := (show NameOk r from h).few
    show 1 ≤ ("found " ++ r).length ∧ ("found " ++ r).length + 20 ≤ 300 * 2 ^ 1
    simp only [len_app]
    have e1 : ("found " : Str).length = 6 := by decide +kernel
    omega
  | .nt c, h => by
    have ih := text_len (c := c) h
    show 1 ≤ ("not " ++ c.text).length ∧ ("not " ++ c.text).length + 20 ≤ 300 * 2 ^ (c.dep + 1)
    simp only [len_app]
    have e1 : ("not " : Str).length = 4 := by decide +kernel
    rw [Nat.pow_succ]
    omega
  | .bin k a b, h => by
    have h1 := text_len (c := a) h.1
    have h2 := text_len (c := b) h.2
    have e1 : 2 ^ a.dep ≤ 2 ^ (max a.dep b.dep) := Nat.pow_le_pow_right (by decide) (Nat.le_max_left _ _)
    have e2 : 2 ^ b.dep ≤ 2 ^ (max a.dep b.dep) := Nat.pow_le_pow_right (by decide) (Nat.le_max_right _ _)
    show 1 ≤ ("(" ++ a.text ++ " " ++ bw k ++ " " ++ b.text ++ ")").length ∧ ("(" ++ a.text ++ " " ++ bw k ++ " " ++ b.text ++ ")").length + 20 ≤ 300 * 2 ^ (max a.dep b.dep + 1)
    simp only [len_app]
    have e3 : ("(" : Str).length = 1 := by decide +kernel
    have e4 : (" " : Str).length = 1 := by decide +kernel
    have e5 : (")" : Str).length = 1 := by decide +kernel
    have e6 : (bw k).length ≤ 3 := by cases k <;> decide +kernel
    rw [Nat.pow_succ]
    omega
theorem text_cp : ∀ {c : Cn}, c.Ok → cpOk c.text = true
  | .tru, _ => by decide +kernel
  | .cmp k v o w p, h => app_cp (app_cp (app_cp (app_cp (valText_cp h.1 o) (by decide +kernel)) (by cases k <;> decide +kernel)) (by decide +kernel)) (valText_cp h.2.2.1 p)
  | .fnd r, h => app_cp (by decide +kernel) (cp_low (show NameOk r from h).low)
  | .nt c, h => app_cp (by decide +kernel) (text_cp (c := c) h)
  | .bin k a b, h => app_cp (app_cp (app_cp (app_cp (app_cp (app_cp (by decide +kernel) (text_cp (c := a) h.1)) (by decide +kernel)) (by cases k <;> decide +kernel)) (by decide +kernel)) (text_cp (c := b) h.2)) (by decide +kernel)
theorem okD_cn : ∀ {c : Cn}, c.Ok → ∀ n : Nat, okD (c.dep + 3 + n) c.d = true
  | .tru, _, n => by
    show okD (1 + 3 + n) (.tup [.str "true"]) = true
    rw [show 1 + 3 + n = (n + 3) + 1 by omega]
    show ((decide (1 ≤ 1000)) && (cpOk "true" && true)) = true
    decide +kernel
  | .cmp k v o w p, h, n => by
    show okD (1 + 3 + n) (.tup [.str k.form, vald v o, vald w p]) = true
    rw [show 1 + 3 + n = (n + 3) + 1 by omega]
    show ((decide (3 ≤ 1000)) && (cpOk k.form && (okD (n + 3) (vald v o) && (okD (n + 3) (vald w p) && true)))) = true
    rw [okD_vald h.1, okD_vald h.2.2.1]
    have e : (true && (cpOk k.form && (true && (true && true)))) = true := by clear h; cases k <;> decide +kernel
    exact e
  | .fnd r, h, n => by
    show okD (1 + 3 + n) (.tup [.str "found", .str r]) = true
    rw [show 1 + 3 + n = (n + 3) + 1 by omega]
    show ((decide (2 ≤ 1000)) && (cpOk "found" && (cpOk r && true))) = true
    rw [cp_low (show NameOk r from h).low]
    exact (by decide +kernel : (true && (cpOk "found" && (true && true))) = true)
  | .nt c, h, n => by
    show okD (c.dep + 1 + 3 + n) (.tup [.str "not", c.d]) = true
    rw [show c.dep + 1 + 3 + n = (c.dep + 2 + n) + 1 + 1 by omega]
    show ((decide (2 ≤ 1000)) && (cpOk "not" && (okD (c.dep + 2 + n + 1) c.d && true))) = true
    rw [show c.dep + 2 + n + 1 = c.dep + 3 + n by omega, okD_cn (c := c) h n]
    exact (by decide +kernel : (true && (cpOk "not" && (true && true))) = true)
  | .bin k a b, h, n => by
    show okD (max a.dep b.dep + 1 + 3 + n) (.tup [.str (bw k), a.d, b.d]) = true
    rw [show max a.dep b.dep + 1 + 3 + n = (max a.dep b.dep + 2 + n) + 1 + 1 by omega]
    show ((decide (3 ≤ 1000)) && (cpOk (bw k) && (okD (max a.dep b.dep + 2 + n + 1) a.d && (okD (max a.dep b.dep + 2 + n + 1) b.d && true)))) = true
    have e1 : max a.dep b.dep + 2 + n + 1 = a.dep + 3 + (max a.dep b.dep - a.dep + n) := by have := Nat.le_max_left a.dep b.dep; omega
    have e2 : max a.dep b.dep + 2 + n + 1 = b.dep + 3 + (max a.dep b.dep - b.dep + n) := by have := Nat.le_max_right a.dep b.dep; omega
    have h1 : okD (max a.dep b.dep + 2 + n + 1) a.d = true := by rw [e1]; exact okD_cn (c := a) h.1 _
    have h2 : okD (max a.dep b.dep + 2 + n + 1) b.d = true := by rw [e2]; exact okD_cn (c := b) h.2 _
    rw [h1, h2]
    have e : ∀ k : Bool, (true && (cpOk (bw k) && (true && (true && true)))) = true := by decide +kernel
    exact e k
def s_SIGNS : List (Str × Str) := [("atmost", "<="), ("below", "<"), ("same", "=")]
def s_FORMS : List (Str × Str) := [("<=", "atmost"), ("<", "below"), ("=", "same")]
def s_DEEPEST : Dt := .int 6
def sis_condition_itself_ : FD := fnD 2 (kSeq (kIf (mOrB (mNotB (mB (mIsi isTup (mVar 0)))) (mB (m2 gNin (mCall gLen (mCons (mVar 0) mNil)) (mTup (mCons (mC (.int 1)) (mCons (mC (.int 2)) (mCons (mC (.int 3)) mNil))))))) (kRet (mC (.bl false))) kSkip)
    (kSeq (kAsg (m2 gIx (mVar 0) (mC (.int 0))) (hName 1))
    (kSeq (kIf (mB (m2 gEq (mCall gLen (mCons (mVar 0) mNil)) (mC (.int 1)))) (kRet (m2 gEq (mVar 1) (mC (.str "true")))) kSkip)
    (kSeq (kIf (mB (m2 gEq (mCall gLen (mCons (mVar 0) mNil)) (mC (.int 2)))) (kRet (mOrV (m2 gEq (mVar 1) (mC (.str "not"))) (mAndV (m2 gEq (mVar 1) (mC (.str "found"))) (mApp sis_name (mCons (m2 gIx (mVar 0) (mC (.int 1))) mNil))))) kSkip)
    (kSeq (kIf (mAndB (mB (mIsi isStr (mVar 1))) (mB (mKIn s_SIGNS (mVar 1)))) (kRet (mAndV (mApp sis_value (mCons (m2 gIx (mVar 0) (mC (.int 1))) mNil)) (mApp sis_value (mCons (m2 gIx (mVar 0) (mC (.int 2))) mNil)))) kSkip)
    (kRet (m2 gIn (mVar 1) (mTup (mCons (mC (.str "and")) (mCons (mC (.str "or")) mNil))))))))))
def splaces_ : FD := fnD 1 (kSeq (kIf (mB (m2 gIn (m2 gIx (mVar 0) (mC (.int 0))) (mTup (mCons (mC (.str "not")) (mCons (mC (.str "and")) (mCons (mC (.str "or")) mNil)))))) (kRet (m2 gRgL (mC (.int 1)) (mCall gLen (mCons (mVar 0) mNil)))) kSkip)
    (kRet (mLst mNil)))
def schecked_parts_ : FD := fnD 6 (kSeq (kOwn 1 mNil)
    (kSeq (kOwn 2 (mCons (mTup (mCons (mTup mNil) (mCons (mVar 0) mNil))) mNil))
    (kSeq (whileD (mTruOwn 2) (kSeq (kAsg (mPop 2) (hTup 2 (hCons (hName 3) (hCons (hName 4) hNil))))
    (kSeq (kIf (mOrB (mB (m2 oGe (mCall gLen (mCons (mVar 3) mNil)) (mC s_DEEPEST))) (mNotB (mB (mApp sis_condition_itself_ (mCons (mVar 4) mNil))))) (fun _ => none) kSkip)
    (kSeq (kDrop (mAppend 1 (mTup (mCons (mVar 3) (mCons (mVar 4) mNil)))))
    (kDrop (mExtend 2 (mComp [5] (wRev (mApp splaces_ (mCons (mVar 4) mNil))) (hName 5) mYes (mTup (mCons (mTup (mStar (mVar 3) (mCons (mVar 5) mNil))) (mCons (m2 gIx (mVar 4) (mVar 5)) mNil))))))))) 200)
    (kRet (mMove 1)))))
def stext_B (R : FD) : FD := fnD 2 (kSeq (kAsg (m2 gIx (mVar 0) (mC (.int 0))) (hName 1))
    (kSeq (kIf (mB (m2 gEq (mVar 1) (mC (.str "true")))) (kRet (mC (.str "true"))) kSkip)
    (kSeq (kIf (mB (m2 gEq (mVar 1) (mC (.str "found")))) (kRet (mJoined [(mC (.str "found ")), (mFmt (m2 gIx (mVar 0) (mC (.int 1))))])) kSkip)
    (kSeq (kIf (mB (m2 gEq (mVar 1) (mC (.str "not")))) (kRet (mJoined [(mC (.str "not ")), (mFmt (mApp R (mCons (m2 gIx (mVar 0) (mC (.int 1))) mNil)))])) kSkip)
    (kSeq (kIf (mB (mKIn s_SIGNS (mVar 1))) (kRet (mJoined [(mFmt (mApp svalue_text (mCons (m2 gIx (mVar 0) (mC (.int 1))) mNil))), (mC (.str " ")), (mFmt (mKIx s_SIGNS (mVar 1))), (mC (.str " ")), (mFmt (mApp svalue_text (mCons (m2 gIx (mVar 0) (mC (.int 2))) mNil)))])) kSkip)
    (kRet (mJoined [(mC (.str "(")), (mFmt (mApp R (mCons (m2 gIx (mVar 0) (mC (.int 1))) mNil))), (mC (.str " ")), (mFmt (mVar 1)), (mC (.str " ")), (mFmt (mApp R (mCons (m2 gIx (mVar 0) (mC (.int 2))) mNil))), (mC (.str ")"))])))))))
def stext_ : Nat → FD
  | 0 => fun _ _ => none
  | n + 1 => stext_B (stext_ n)
def scondition_text : FD := fnD 1 (kSeq (kDrop (mApp schecked_parts_ (mCons (mVar 0) mNil)))
    (kRet (mApp (stext_ 8) (mCons (mVar 0) mNil))))
def sword_ : FD := fnD 2 (kRet (mIf (mB (m2 oLt (mVar 1) (mCall gLen (mCons (mVar 0) mNil)))) (m2 gIx (mVar 0) (mVar 1)) (mC (.str ""))))
def sread_operand_ : FD := fnD 3 (kSeq (kAsg (mIf (mB (m2 gIn (mApp sword_ (mCons (mVar 0) (mCons (m2 gAdd (mVar 1) (mC (.int 1))) mNil))) (mTup (mCons (mC (.str "+")) (mCons (mC (.str "-")) mNil))))) (mC (.int 3)) (mC (.int 1))) (hName 2))
    (kRet (mTup (mCons (mApp sread_value (mCons (mM1 gJoin (mC (.str " ")) (mSl (mVar 0) (mPart (mVar 1)) (mPart (m2 gAdd (mVar 1) (mVar 2))))) mNil)) (mCons (m2 gAdd (mVar 1) (mVar 2)) mNil)))))
def sread_comparison_ : FD := fnD 7 (kSeq (kAsg (mApp sread_operand_ (mCons (mVar 0) (mCons (mVar 1) mNil))) (hTup 2 (hCons (hName 3) (hCons (hName 4) hNil))))
    (kSeq (kAsg (mApp sword_ (mCons (mVar 0) (mCons (mVar 4) mNil))) (hName 2))
    (kSeq (kIf (mB (mKNin s_FORMS (mVar 2))) (fun _ => none) kSkip)
    (kSeq (kAsg (mApp sread_operand_ (mCons (mVar 0) (mCons (m2 gAdd (mVar 4) (mC (.int 1))) mNil))) (hTup 2 (hCons (hName 5) (hCons (hName 6) hNil))))
    (kRet (mTup (mCons (mTup (mCons (mKIx s_FORMS (mVar 2)) (mCons (mVar 3) (mCons (mVar 5) mNil)))) (mCons (mVar 6) mNil))))))))
def sread_found_ : FD := fnD 3 (kSeq (kAsg (mApp sword_ (mCons (mVar 0) (mCons (mVar 1) mNil))) (hName 2))
    (kSeq (kIf (mNotB (mB (mApp sis_name (mCons (mVar 2) mNil)))) (fun _ => none) kSkip)
    (kRet (mTup (mCons (mTup (mCons (mC (.str "found")) (mCons (mVar 2) mNil))) (mCons (m2 gAdd (mVar 1) (mC (.int 1))) mNil))))))
def sread_joined_B (R : FD) : FD := fnD 8 (kSeq (kAsg (mApp R (mCons (mVar 0) (mCons (mVar 1) (mCons (mVar 2) mNil)))) (hTup 2 (hCons (hName 4) (hCons (hName 5) hNil))))
    (kSeq (kAsg (mApp sword_ (mCons (mVar 0) (mCons (mVar 5) mNil))) (hName 3))
    (kSeq (kIf (mB (m2 gNin (mVar 3) (mTup (mCons (mC (.str "and")) (mCons (mC (.str "or")) mNil))))) (fun _ => none) kSkip)
    (kSeq (kAsg (mApp R (mCons (mVar 0) (mCons (m2 gAdd (mVar 5) (mC (.int 1))) (mCons (mVar 2) mNil)))) (hTup 2 (hCons (hName 6) (hCons (hName 7) hNil))))
    (kSeq (kIf (mB (m2 gNe (mApp sword_ (mCons (mVar 0) (mCons (mVar 7) mNil))) (mC (.str ")")))) (fun _ => none) kSkip)
    (kRet (mTup (mCons (mTup (mCons (mVar 3) (mCons (mVar 4) (mCons (mVar 6) mNil)))) (mCons (m2 gAdd (mVar 7) (mC (.int 1))) mNil)))))))))
def sread_part_B (R : FD) : FD := fnD 6 (kSeq (kIf (mB (m2 oGt (mVar 2) (mC s_DEEPEST))) (fun _ => none) kSkip)
    (kSeq (kAsg (mApp sword_ (mCons (mVar 0) (mCons (mVar 1) mNil))) (hName 3))
    (kSeq (kIf (mB (m2 gEq (mVar 3) (mC (.str "true")))) (kRet (mTup (mCons (mTup (mCons (mC (.str "true")) mNil)) (mCons (m2 gAdd (mVar 1) (mC (.int 1))) mNil)))) kSkip)
    (kSeq (kIf (mB (m2 gEq (mVar 3) (mC (.str "found")))) (kRet (mApp sread_found_ (mCons (mVar 0) (mCons (m2 gAdd (mVar 1) (mC (.int 1))) mNil)))) kSkip)
    (kSeq (kIf (mB (m2 gEq (mVar 3) (mC (.str "not")))) (kSeq (kAsg (mApp R (mCons (mVar 0) (mCons (m2 gAdd (mVar 1) (mC (.int 1))) (mCons (m2 gAdd (mVar 2) (mC (.int 1))) mNil)))) (hTup 2 (hCons (hName 4) (hCons (hName 5) hNil))))
    (kRet (mTup (mCons (mTup (mCons (mC (.str "not")) (mCons (mVar 4) mNil))) (mCons (mVar 5) mNil))))) kSkip)
    (kSeq (kIf (mB (m2 gEq (mVar 3) (mC (.str "(")))) (kRet (mApp (sread_joined_B R) (mCons (mVar 0) (mCons (m2 gAdd (mVar 1) (mC (.int 1))) (mCons (m2 gAdd (mVar 2) (mC (.int 1))) mNil))))) kSkip)
    (kRet (mApp sread_comparison_ (mCons (mVar 0) (mCons (mVar 1) mNil))))))))))
def sread_part_ : Nat → FD
  | 0 => fun _ _ => none
  | n + 1 => sread_part_B (sread_part_ n)
def sread_condition : FD := fnD 4 (kSeq (kIf (mNotB (mB (mIsi isStr (mVar 0)))) (fun _ => none) kSkip)
    (kSeq (kAsg (mM1 gSplit (mRepC ")" " )" (mRepC "(" "( " (mVar 0))) (mC (.str " "))) (hName 1))
    (kSeq (kAsg (mApp (sread_part_ 8) (mCons (mVar 1) (mCons (mC (.int 0)) (mCons (mC (.int 1)) mNil)))) (hTup 2 (hCons (hName 2) (hCons (hName 3) hNil))))
    (kSeq (kIf (mB (m2 gNe (mVar 3) (mCall gLen (mCons (mVar 1) mNil)))) (fun _ => none) kSkip)
    (kRet (mVar 2))))))
def sLcondition_textB (R : FD) : FD := fnD 3 (kSeq (kAsg (m2 gIx (mVar 0) (mC (.int 0))) (hName 1))
    (kSeq (kIf (mB (m2 gIn (mVar 1) (mTup (mCons (mC (.str "and")) (mCons (mC (.str "or")) mNil))))) (kRet (m2 gAdd (m2 gAdd (m2 gAdd (m2 gAdd (m2 gAdd (m2 gAdd (mC (.str "(")) (mApp R (mCons (m2 gIx (mVar 0) (mC (.int 1))) mNil))) (mC (.str " "))) (mVar 1)) (mC (.str " "))) (mApp R (mCons (m2 gIx (mVar 0) (mC (.int 2))) mNil))) (mC (.str ")")))) kSkip)
    (kSeq (kIf (mB (m2 gEq (mVar 1) (mC (.str "not")))) (kRet (m2 gAdd (mC (.str "not ")) (mApp R (mCons (m2 gIx (mVar 0) (mC (.int 1))) mNil)))) kSkip)
    (kSeq (kIf (mB (m2 gEq (mVar 1) (mC (.str "found")))) (kRet (m2 gAdd (mC (.str "found ")) (m2 gIx (mVar 0) (mC (.int 1))))) kSkip)
    (kSeq (kAsg (mC (dicS [("atmost", " <= "), ("below", " < "), ("same", " = ")])) (hName 2))
    (kRet (mIf (mB (m2 gEq (mVar 1) (mC (.str "true")))) (mC (.str "true")) (m2 gAdd (m2 gAdd (mApp (sLvalue_text 3) (mCons (m2 gIx (mVar 0) (mC (.int 1))) mNil)) (m2 gDget (mVar 2) (mVar 1))) (mApp (sLvalue_text 3) (mCons (m2 gIx (mVar 0) (mC (.int 2))) mNil))))))))))
def sLcondition_text : Nat → FD
  | 0 => fun _ _ => none
  | n + 1 => sLcondition_textB (sLcondition_text n)
def sLsome_value : FD := fnD 3 (kSeq (kAsg (mApp sLany (mCons (mVar 0) (mCons (m2 gAdd (mVar 1) (mLst (mCons (mTup (mCons (mC (.str "number")) (mCons (mApp sLnear (mCons (mVar 0) mNil)) mNil))) mNil))) mNil))) (hName 2))
    (kRet (mIf (mB (m2 gEq (mApp sLpull (mCons (mVar 0) (mCons (mC (.int 3)) mNil))) (mC (.int 0)))) (mTup (mCons (mC (.str "plus")) (mCons (mVar 2) (mCons (mApp sLnear (mCons (mVar 0) mNil)) mNil)))) (mVar 2))))
def sLsome_compared : FD := fnD 3 (kSeq (kAsg (mIf (mB (m2 gNe (mVar 1) (mLst mNil))) (mApp sLany (mCons (mVar 0) (mCons (mVar 1) mNil))) (mTup (mCons (mC (.str "number")) (mCons (mApp sLnear (mCons (mVar 0) mNil)) mNil)))) (hName 2))
    (kSeq (kIf (mB (m2 gEq (mApp sLpull (mCons (mVar 0) (mCons (mC (.int 4)) mNil))) (mC (.int 0)))) (kAsg (mTup (mCons (mC (.str "plus")) (mCons (mVar 2) (mCons (mApp sLnear (mCons (mVar 0) mNil)) mNil)))) (hName 2)) kSkip)
    (kRet (mTup (mCons (mApp sLany (mCons (mVar 0) (mCons (mLst (mCons (mC (.str "atmost")) (mCons (mC (.str "below")) (mCons (mC (.str "below")) (mCons (mC (.str "same")) mNil))))) mNil))) (mCons (mVar 2) (mCons (mApp sLsome_value (mCons (mVar 0) (mCons (mVar 1) mNil))) mNil)))))))
def sLsome_conditionB (R : FD) : FD := fnD 5 (kSeq (kAsg (mIf (mB (m2 oGt (mVar 2) (mC (.int 0)))) (mApp sLpull (mCons (mVar 0) (mCons (mC (.int 7)) mNil))) (mApp sLpull (mCons (mVar 0) (mCons (mC (.int 3)) mNil)))) (hName 3))
    (kSeq (kIf (mB (m2 oLt (mVar 3) (mC (.int 1)))) (kRet (mTup (mCons (mC (.str "true")) mNil))) kSkip)
    (kSeq (kIf (mB (m2 oLt (mVar 3) (mC (.int 4)))) (kRet (mApp sLsome_compared (mCons (mVar 0) (mCons (mVar 1) mNil)))) kSkip)
    (kSeq (kIf (mB (m2 gEq (mVar 3) (mC (.int 4)))) (kRet (mTup (mCons (mC (.str "not")) (mCons (mApp R (mCons (mVar 0) (mCons (mVar 1) (mCons (m2 gSub0 (mVar 2) (mC (.int 1))) mNil)))) mNil)))) kSkip)
    (kSeq (kAsg (mIf (mB (m2 gEq (mVar 3) (mC (.int 5)))) (mC (.str "and")) (mC (.str "or"))) (hName 4))
    (kRet (mTup (mCons (mVar 4) (mCons (mApp R (mCons (mVar 0) (mCons (mVar 1) (mCons (m2 gSub0 (mVar 2) (mC (.int 1))) mNil)))) (mCons (mApp R (mCons (mVar 0) (mCons (mVar 1) (mCons (m2 gSub0 (mVar 2) (mC (.int 1))) mNil)))) mNil))))))))))
def sLsome_condition : Nat → FD
  | 0 => fun _ _ => none
  | n + 1 => sLsome_conditionB (sLsome_condition n)
/-! ### texts, as the functions make them -/
theorem ginN {a x y : Str} {r : Bool} (h : (!(x == a || (y == a || false))) = r) : gNin (.str a) (.tup [.str x, .str y]) = some (.bl r) := congrArg (fun b => some (Dt.bl b)) h
theorem line_big {n : Nat} (h : n ≤ 1000000) : n ≤ sizeLine := Nat.le_trans h (by decide)
theorem gaddS {a b : Str} (h : a.length + b.length ≤ 1000000) : gAdd (.str a) (.str b) = some (.str (a ++ b)) := by
  show (if a.length + b.length ≤ sizeLine then some (Dt.str (a ++ b)) else none) = _
  rw [if_pos (line_big h)]
theorem mif_t {c : DM Bool} {f g : DM Dt} {s s1 : Sta} (h : c s = some (true, s1)) : mIf c f g s = f s1 := by unfold mIf; rw [h]; rfl
theorem mif_f {c : DM Bool} {f g : DM Dt} {s s1 : Sta} (h : c s = some (false, s1)) : mIf c f g s = g s1 := by unfold mIf; rw [h]; rfl
theorem kskip (s : Sta) : kSkip s = some (.nx, s) := rfl
/-- an if whose test is false: it goes on -/
theorem kifs {c : DM Bool} {f : DMs} {g : DMs} {s : Sta} (h : c s = some (false, s)) : kSeq (kIf c f kSkip) g s = g s := by rw [kseq (s1 := s) (by rw [kif_f h]; rfl)]
theorem kifr {c : DM Bool} {f : DM Dt} {g : DMs} {s s1 s2 : Sta} {d : Dt} (h : c s = some (true, s1)) (e : f s1 = some (d, s2)) : kSeq (kIf c (kRet f) kSkip) g s = some (.rt d, s2) := by
  unfold kSeq
  rw [kif_t h, kret e]
  rfl
theorem dep_pow {c : Cn} {n : Nat} (h : c.dep ≤ n) (hn : n ≤ 8) : 300 * 2 ^ c.dep ≤ 76800 := by
  have : 2 ^ c.dep ≤ 2 ^ 8 := Nat.pow_le_pow_right (by decide) (Nat.le_trans h hn)
  omega
theorem len6 : (" " : Str).length = 1 ∧ ("(" : Str).length = 1 ∧ (")" : Str).length = 1 ∧ ("not " : Str).length = 4 ∧ ("found " : Str).length = 6 := by decide +kernel
theorem bw_len (k : Bool) : (bw k).length ≤ 3 := by cases k <;> decide +kernel
def Cp.mid : Cp → Str
  | .le => " <= "
  | .lt => " < "
  | .eq => " = "
theorem mid_len (k : Cp) : k.mid.length ≤ 4 := by cases k <;> decide +kernel
theorem mid_eq (k : Cp) : (" " : Str) ++ k.sign ++ " " = k.mid := by cases k <;> decide +kernel
theorem look_hit {k : Key} {ks : List Key} {d : Dt} {l : List Dt} : lookD (k :: ks) (d :: l) k = some d := by unfold lookD; rw [if_pos rfl]
theorem look_miss {k x : Key} {ks : List Key} {d : Dt} {l : List Dt} (h : k ≠ x) : lookD (k :: ks) (d :: l) x = lookD ks l x := by
  show (if k = x then some d else lookD ks l x) = _
  rw [if_neg h]
theorem str_ne {a b : Str} (h : (a == b) = false) : (Sum.inr a : Key) ≠ Sum.inr b := fun z => by
  cases z
  rw [beq_self_eq_true] at h
  cases h
theorem dget_mid (k : Cp) : gDget (dicS [("atmost", " <= "), ("below", " < "), ("same", " = ")]) (.str k.form) = some (.str k.mid) := by
  cases k
  · have e : lookD [(.inr "atmost" : Key), .inr "below", .inr "same"] [.str " <= ", .str " < ", .str " = "] (.inr "atmost" : Key) = some (.str " <= ") := look_hit
    exact e
  · have e : lookD [(.inr "atmost" : Key), .inr "below", .inr "same"] [.str " <= ", .str " < ", .str " = "] (.inr "below" : Key) = some (.str " < ") := by
      rw [look_miss (str_ne (by decide +kernel)), look_hit]
    exact e
  · have e : lookD [(.inr "atmost" : Key), .inr "below", .inr "same"] [.str " <= ", .str " < ", .str " = "] (.inr "same" : Key) = some (.str " = ") := by
      rw [look_miss (str_ne (by decide +kernel)), look_miss (str_ne (by decide +kernel)), look_hit]
    exact e
theorem law_cond_text : ∀ (n : Nat) {c : Cn}, c.Ok → c.dep ≤ n → n ≤ 8 → ∀ bg, sLcondition_text n [c.d] bg = some (.str c.text, bg)
  | 0, c, _, hd, _, _ => by cases c <;> simp [Cn.dep] at hd
  | n + 1, c, h, hd, hn, bg => by
    show sLcondition_textB (sLcondition_text n) [c.d] bg = _
    obtain ⟨l1, l2, l3, l4, l5⟩ := len6
    unfold sLcondition_textB
    cases c with
    | tru =>
      let t : Sta := ⟨[some (.dat Cn.tru.d), some (.dat (.str "true")), none], bg⟩
      let u : Sta := ⟨[some (.dat Cn.tru.d), some (.dat (.str "true")), some (.dat (dicS [("atmost", " <= "), ("below", " < "), ("same", " = ")]))], bg⟩
      refine fnd (s1 := u) ?_
      rw [kseq (s1 := t) rfl, kifs (s := t) (mBt (m2_eq (s1 := t) (s2 := t) (x := .str "true") (y := .tup [.str "and", .str "or"]) rfl rfl (gin2 (by decide +kernel))))]
      rw [kifs (s := t) (mBt (m2_eq (s1 := t) (s2 := t) (x := .str "true") (y := .str "not") rfl rfl (tag (by decide +kernel) (by decide +kernel) (by decide +kernel))))]
      rw [kifs (s := t) (mBt (m2_eq (s1 := t) (s2 := t) (x := .str "true") (y := .str "found") rfl rfl (tag (by decide +kernel) (by decide +kernel) (by decide +kernel))))]
      rw [kseq (s1 := u) rfl]
      refine kret ?_
      rw [mif_t (s1 := u) (mBt (m2_eq (s1 := u) (s2 := u) (x := .str "true") (y := .str "true") rfl rfl (tag (by decide +kernel) (by decide +kernel) (by decide +kernel))))]
      rfl
    | fnd r =>
      let t : Sta := ⟨[some (.dat (Cn.fnd r).d), some (.dat (.str "found")), none], bg⟩
      refine fnd (s1 := t) ?_
      have hr : r.length ≤ 6 := (show NameOk r from h).few
      rw [kseq (s1 := t) rfl, kifs (s := t) (mBt (m2_eq (s1 := t) (s2 := t) (x := .str "found") (y := .tup [.str "and", .str "or"]) rfl rfl (gin2 (by decide +kernel))))]
      rw [kifs (s := t) (mBt (m2_eq (s1 := t) (s2 := t) (x := .str "found") (y := .str "not") rfl rfl (tag (by decide +kernel) (by decide +kernel) (by decide +kernel))))]
      exact kifr (s1 := t) (s2 := t) (mBt (m2_eq (s1 := t) (s2 := t) (x := .str "found") (y := .str "found") rfl rfl (tag (by decide +kernel) (by decide +kernel) (by decide +kernel)))) (m2_eq (s1 := t) (s2 := t) (x := .str "found ") (y := .str r) rfl rfl (gaddS (by omega)))
    | nt c =>
      let t : Sta := ⟨[some (.dat (Cn.nt c).d), some (.dat (.str "not")), none], bg⟩
      refine fnd (s1 := t) ?_
      have hd' : c.dep ≤ n := by have : (Cn.nt c).dep = c.dep + 1 := rfl; omega
      have hl := text_len (c := c) h
      have hp := dep_pow hd' (by omega)
      rw [kseq (s1 := t) rfl, kifs (s := t) (mBt (m2_eq (s1 := t) (s2 := t) (x := .str "not") (y := .tup [.str "and", .str "or"]) rfl rfl (gin2 (by decide +kernel))))]
      exact kifr (s1 := t) (s2 := t) (mBt (m2_eq (s1 := t) (s2 := t) (x := .str "not") (y := .str "not") rfl rfl (tag (by decide +kernel) (by decide +kernel) (by decide +kernel)))) (m2_eq (s1 := t) (s2 := t) (x := .str "not ") (y := .str c.text) rfl (mapp (s1 := t) (ds := [c.d]) rfl (law_cond_text n (c := c) h hd' (by omega) bg)) (gaddS (by omega)))
    | bin k a b =>
      let t : Sta := ⟨[some (.dat (Cn.bin k a b).d), some (.dat (.str (bw k))), none], bg⟩
      refine fnd (s1 := t) ?_
      have e0 : (Cn.bin k a b).dep = max a.dep b.dep + 1 := rfl
      have q1 := Nat.le_max_left a.dep b.dep
      have q2 := Nat.le_max_right a.dep b.dep
      have ha : a.dep ≤ n := by omega
      have hb : b.dep ≤ n := by omega
      have la := text_len (c := a) h.1
      have lb := text_len (c := b) h.2
      have pa := dep_pow ha (by omega)
      have pb := dep_pow hb (by omega)
      have lk := bw_len k
      rw [kseq (s1 := t) rfl]
      refine kifr (s1 := t) (s2 := t) (mBt (m2_eq (s1 := t) (s2 := t) (x := .str (bw k)) (y := .tup [.str "and", .str "or"]) rfl rfl (gin2 (by cases k <;> decide +kernel)))) ?_
      have ea : mApp (sLcondition_text n) (mCons (m2 gIx (mVar 0) (mC (.int 1))) mNil) t = some (.str a.text, t) := mapp (s1 := t) (ds := [a.d]) rfl (law_cond_text n (c := a) h.1 ha (by omega) bg)
      have eb : mApp (sLcondition_text n) (mCons (m2 gIx (mVar 0) (mC (.int 2))) mNil) t = some (.str b.text, t) := mapp (s1 := t) (ds := [b.d]) rfl (law_cond_text n (c := b) h.2 hb (by omega) bg)
      refine m2_eq (s1 := t) (s2 := t) (x := .str ("(" ++ a.text ++ " " ++ bw k ++ " " ++ b.text)) (y := .str ")") ?_ rfl (gaddS (by simp only [len_app]; omega))
      refine m2_eq (s1 := t) (s2 := t) (x := .str ("(" ++ a.text ++ " " ++ bw k ++ " ")) (y := .str b.text) ?_ eb (gaddS (by simp only [len_app]; omega))
      refine m2_eq (s1 := t) (s2 := t) (x := .str ("(" ++ a.text ++ " " ++ bw k)) (y := .str " ") ?_ rfl (gaddS (by simp only [len_app]; omega))
      refine m2_eq (s1 := t) (s2 := t) (x := .str ("(" ++ a.text ++ " ")) (y := .str (bw k)) ?_ rfl (gaddS (by simp only [len_app]; omega))
      refine m2_eq (s1 := t) (s2 := t) (x := .str ("(" ++ a.text)) (y := .str " ") ?_ rfl (gaddS (by simp only [len_app]; omega))
      exact m2_eq (s1 := t) (s2 := t) (x := .str "(") (y := .str a.text) rfl ea (gaddS (by omega))
    | cmp k v o w p =>
      let t : Sta := ⟨[some (.dat (Cn.cmp k v o w p).d), some (.dat (.str k.form)), none], bg⟩
      let u : Sta := ⟨[some (.dat (Cn.cmp k v o w p).d), some (.dat (.str k.form)), some (.dat (dicS [("atmost", " <= "), ("below", " < "), ("same", " = ")]))], bg⟩
      refine fnd (s1 := u) ?_
      have ck : cpOk k.form = true := by cases k <;> decide +kernel
      have h1 := valText_len h.1 h.2.1
      have h2 := valText_len h.2.2.1 h.2.2.2
      have h3 := mid_len k
      rw [kseq (s1 := t) rfl, kifs (s := t) (mBt (m2_eq (s1 := t) (s2 := t) (x := .str k.form) (y := .tup [.str "and", .str "or"]) rfl rfl (gin2 (by cases k <;> decide +kernel))))]
      rw [kifs (s := t) (mBt (m2_eq (s1 := t) (s2 := t) (x := .str k.form) (y := .str "not") rfl rfl (tag ck (by decide +kernel) (by cases k <;> decide +kernel))))]
      rw [kifs (s := t) (mBt (m2_eq (s1 := t) (s2 := t) (x := .str k.form) (y := .str "found") rfl rfl (tag ck (by decide +kernel) (by cases k <;> decide +kernel))))]
      rw [kseq (s1 := u) rfl]
      refine kret ?_
      rw [mif_f (s1 := u) (mBt (m2_eq (s1 := u) (s2 := u) (x := .str k.form) (y := .str "true") rfl rfl (tag ck (by decide +kernel) (by cases k <;> decide +kernel))))]
      have e : (Cn.cmp k v o w p).text = valText v o ++ k.mid ++ valText w p := by
        show valText v o ++ " " ++ k.sign ++ " " ++ valText w p = _
        rw [← mid_eq]
        apply ext_tl
        simp only [tl_append, List.append_assoc]
      rw [e]
      refine m2_eq (s1 := u) (s2 := u) (x := .str (valText v o ++ k.mid)) (y := .str (valText w p)) ?_ (mapp (s1 := u) (ds := [vald w p]) rfl (law_text h.2.2.1 h.2.2.2 bg)) (gaddS (by simp only [len_app]; omega))
      exact m2_eq (s1 := u) (s2 := u) (x := .str (valText v o)) (y := .str k.mid) (mapp (s1 := u) (ds := [vald v o]) rfl (law_text h.1 h.2.1 bg)) (m2_eq (s1 := u) (s2 := u) (x := dicS [("atmost", " <= "), ("below", " < "), ("same", " = ")]) (y := .str k.form) rfl rfl (dget_mid k)) (gaddS (by omega))
/-! f-strings of many parts -/
inductive Js (s : Sta) : List (DM Dt) → List Str → Prop
  | nil : Js s [] []
  | cons {f : DM Dt} {y : Str} {fs : List (DM Dt)} {ys : List Str} (h : f s = some (.str y, s)) (r : Js s fs ys) : Js s (f :: fs) (y :: ys)
theorem js_ok {s : Sta} : ∀ {fs : List (DM Dt)} {ys : List Str} (acc : Str), Js s fs ys → acc.length + (ys.map (·.length)).sum ≤ 1000000 → mJs fs acc s = some (ys.foldl (· ++ ·) acc, s)
  | _, _, acc, .nil, _ => rfl
  | _, _, acc, .cons (y := y) (ys := ys) h r, hl => by
    rw [List.map_cons, List.sum_cons] at hl
    have e : (acc ++ y).length = acc.length + y.length := len_app
    exact mjs h (line_big (by omega)) (js_ok (acc ++ y) r (by omega))
theorem joinedN {s : Sta} {fs : List (DM Dt)} {ys : List Str} (h : Js s fs ys) (hl : (ys.map (·.length)).sum ≤ 1000000) : mJoined fs s = some (.str (ys.foldl (· ++ ·) Str.empty), s) :=
  mjoined (js_ok Str.empty h (by have : Str.empty.length = 0 := rfl; omega))
theorem mfmtS {f : DM Dt} {s : Sta} {y : Str} (h : f s = some (.str y, s)) (hl : y.length ≤ 1000000) : mFmt f s = some (.str y, s) := mfmt_s h (line_big hl)
theorem tbl_get (k : Cp) : tblGet s_SIGNS k.form = some k.sign := by cases k <;> decide +kernel
theorem tbl_form (k : Cp) : tblGet s_FORMS k.sign = some k.form := by cases k <;> decide +kernel
theorem kin_t {s : Sta} {f : DM Dt} {z w : Str} {l : List (Str × Str)} (h : f s = some (.str z, s)) (e : tblGet l z = some w) : mKIn l f s = some (.bl true, s) := by
  unfold mKIn; rw [h]; show some (Dt.bl (tblGet l z).isSome, s) = _; rw [e]; rfl
theorem kin_f {s : Sta} {f : DM Dt} {z : Str} {l : List (Str × Str)} (h : f s = some (.str z, s)) (e : tblGet l z = none) : mKIn l f s = some (.bl false, s) := by
  unfold mKIn; rw [h]; show some (Dt.bl (tblGet l z).isSome, s) = _; rw [e]; rfl
theorem knin_t {s : Sta} {f : DM Dt} {z w : Str} {l : List (Str × Str)} (h : f s = some (.str z, s)) (e : tblGet l z = some w) : mKNin l f s = some (.bl false, s) := by
  unfold mKNin; rw [h]; show some (Dt.bl !(tblGet l z).isSome, s) = _; rw [e]; rfl
theorem kix {s : Sta} {f : DM Dt} {z w : Str} {l : List (Str × Str)} (h : f s = some (.str z, s)) (e : tblGet l z = some w) : mKIx l f s = some (.str w, s) := by
  unfold mKIx; rw [h]; show (tblGet l z).bind _ = _; rw [e]; rfl
theorem text_ok : ∀ (n : Nat) {c : Cn}, c.Ok → c.dep ≤ n → n ≤ 8 → ∀ bg, stext_ n [c.d] bg = some (.str c.text, bg)
  | 0, c, _, hd, _, _ => by cases c <;> simp [Cn.dep] at hd
  | n + 1, c, h, hd, hn, bg => by
    show stext_B (stext_ n) [c.d] bg = _
    obtain ⟨l1, l2, l3, l4, l5⟩ := len6
    unfold stext_B
    cases c with
    | tru =>
      let t : Sta := ⟨[some (.dat Cn.tru.d), some (.dat (.str "true"))], bg⟩
      refine fnd (s1 := t) ?_
      rw [kseq (s1 := t) rfl]
      exact kifr (s1 := t) (s2 := t) (mBt (m2_eq (s1 := t) (s2 := t) (x := .str "true") (y := .str "true") rfl rfl (tag (by decide +kernel) (by decide +kernel) (by decide +kernel)))) rfl
    | fnd r =>
      let t : Sta := ⟨[some (.dat (Cn.fnd r).d), some (.dat (.str "found"))], bg⟩
      refine fnd (s1 := t) ?_
      have hr : r.length ≤ 6 := (show NameOk r from h).few
      rw [kseq (s1 := t) rfl]
      rw [kifs (s := t) (mBt (m2_eq (s1 := t) (s2 := t) (x := .str "found") (y := .str "true") rfl rfl (tag (by decide +kernel) (by decide +kernel) (by decide +kernel))))]
      refine kifr (s1 := t) (s2 := t) (mBt (m2_eq (s1 := t) (s2 := t) (x := .str "found") (y := .str "found") rfl rfl (tag (by decide +kernel) (by decide +kernel) (by decide +kernel)))) ?_
      have e := joinedN (s := t) (fs := [(mC (.str "found ")), (mFmt (m2 gIx (mVar 0) (mC (.int 1))))]) (ys := ["found ", r]) (.cons rfl (.cons (mfmtS (f := m2 gIx (mVar 0) (mC (.int 1))) rfl (by omega)) .nil)) (by simp only [List.map_cons, List.map_nil, List.sum_cons, List.sum_nil]; omega)
      rw [e]
      show some (Dt.str (Str.empty ++ "found " ++ r), t) = some (Dt.str ("found " ++ r), t)
      rw [empty_app]
    | nt c =>
      let t : Sta := ⟨[some (.dat (Cn.nt c).d), some (.dat (.str "not"))], bg⟩
      refine fnd (s1 := t) ?_
      have hd' : c.dep ≤ n := by have : (Cn.nt c).dep = c.dep + 1 := rfl; omega
      have hl := text_len (c := c) h
      have hp := dep_pow hd' (by omega)
      rw [kseq (s1 := t) rfl]
      rw [kifs (s := t) (mBt (m2_eq (s1 := t) (s2 := t) (x := .str "not") (y := .str "true") rfl rfl (tag (by decide +kernel) (by decide +kernel) (by decide +kernel))))]
      rw [kifs (s := t) (mBt (m2_eq (s1 := t) (s2 := t) (x := .str "not") (y := .str "found") rfl rfl (tag (by decide +kernel) (by decide +kernel) (by decide +kernel))))]
      refine kifr (s1 := t) (s2 := t) (mBt (m2_eq (s1 := t) (s2 := t) (x := .str "not") (y := .str "not") rfl rfl (tag (by decide +kernel) (by decide +kernel) (by decide +kernel)))) ?_
      have ec : mApp (stext_ n) (mCons (m2 gIx (mVar 0) (mC (.int 1))) mNil) t = some (.str c.text, t) := mapp (s1 := t) (ds := [c.d]) rfl (text_ok n (c := c) h hd' (by omega) bg)
      have e := joinedN (s := t) (fs := [(mC (.str "not ")), (mFmt (mApp (stext_ n) (mCons (m2 gIx (mVar 0) (mC (.int 1))) mNil)))]) (ys := ["not ", c.text]) (.cons rfl (.cons (mfmtS ec (by omega)) .nil)) (by simp only [List.map_cons, List.map_nil, List.sum_cons, List.sum_nil]; omega)
      rw [e]
      show some (Dt.str (Str.empty ++ "not " ++ c.text), t) = some (Dt.str ("not " ++ c.text), t)
      rw [empty_app]
    | bin k a b =>
      let t : Sta := ⟨[some (.dat (Cn.bin k a b).d), some (.dat (.str (bw k)))], bg⟩
      refine fnd (s1 := t) ?_
      have e0 : (Cn.bin k a b).dep = max a.dep b.dep + 1 := rfl
      have q1 := Nat.le_max_left a.dep b.dep
      have q2 := Nat.le_max_right a.dep b.dep
      have ha : a.dep ≤ n := by omega
      have hb : b.dep ≤ n := by omega
      have la := text_len (c := a) h.1
      have lb := text_len (c := b) h.2
      have pa := dep_pow ha (by omega)
      have pb := dep_pow hb (by omega)
      have lk := bw_len k
      have ck : cpOk (bw k) = true := by cases k <;> decide +kernel
      rw [kseq (s1 := t) rfl]
      rw [kifs (s := t) (mBt (m2_eq (s1 := t) (s2 := t) (x := .str (bw k)) (y := .str "true") rfl rfl (tag ck (by decide +kernel) (by cases k <;> decide +kernel))))]
      rw [kifs (s := t) (mBt (m2_eq (s1 := t) (s2 := t) (x := .str (bw k)) (y := .str "found") rfl rfl (tag ck (by decide +kernel) (by cases k <;> decide +kernel))))]
      rw [kifs (s := t) (mBt (m2_eq (s1 := t) (s2 := t) (x := .str (bw k)) (y := .str "not") rfl rfl (tag ck (by decide +kernel) (by cases k <;> decide +kernel))))]
      rw [kifs (s := t) (mBt (kin_f (s := t) (z := bw k) rfl (by cases k <;> decide +kernel)))]
      refine kret ?_
      have ea : mApp (stext_ n) (mCons (m2 gIx (mVar 0) (mC (.int 1))) mNil) t = some (.str a.text, t) := mapp (s1 := t) (ds := [a.d]) rfl (text_ok n (c := a) h.1 ha (by omega) bg)
      have eb : mApp (stext_ n) (mCons (m2 gIx (mVar 0) (mC (.int 2))) mNil) t = some (.str b.text, t) := mapp (s1 := t) (ds := [b.d]) rfl (text_ok n (c := b) h.2 hb (by omega) bg)
      have e := joinedN (s := t) (ys := ["(", a.text, " ", bw k, " ", b.text, ")"]) (.cons (f := mC (.str "(")) rfl (.cons (mfmtS ea (by omega)) (.cons (f := mC (.str " ")) rfl (.cons (mfmtS (f := mVar 1) rfl (by omega)) (.cons (f := mC (.str " ")) rfl (.cons (mfmtS eb (by omega)) (.cons (f := mC (.str ")")) rfl .nil))))))) (by simp only [List.map_cons, List.map_nil, List.sum_cons, List.sum_nil]; omega)
      rw [e]
      show some (Dt.str (Str.empty ++ "(" ++ a.text ++ " " ++ bw k ++ " " ++ b.text ++ ")"), t) = some (Dt.str ("(" ++ a.text ++ " " ++ bw k ++ " " ++ b.text ++ ")"), t)
      rw [empty_app]
    | cmp k v o w p =>
      let t : Sta := ⟨[some (.dat (Cn.cmp k v o w p).d), some (.dat (.str k.form))], bg⟩
      refine fnd (s1 := t) ?_
      have ck : cpOk k.form = true := by cases k <;> decide +kernel
      have h1 := valText_len h.1 h.2.1
      have h2 := valText_len h.2.2.1 h.2.2.2
      have h3 : k.sign.length ≤ 2 := by cases k <;> decide +kernel
      rw [kseq (s1 := t) rfl]
      rw [kifs (s := t) (mBt (m2_eq (s1 := t) (s2 := t) (x := .str k.form) (y := .str "true") rfl rfl (tag ck (by decide +kernel) (by cases k <;> decide +kernel))))]
      rw [kifs (s := t) (mBt (m2_eq (s1 := t) (s2 := t) (x := .str k.form) (y := .str "found") rfl rfl (tag ck (by decide +kernel) (by cases k <;> decide +kernel))))]
      rw [kifs (s := t) (mBt (m2_eq (s1 := t) (s2 := t) (x := .str k.form) (y := .str "not") rfl rfl (tag ck (by decide +kernel) (by cases k <;> decide +kernel))))]
      refine kifr (s1 := t) (s2 := t) (mBt (kin_t (s := t) (z := k.form) rfl (tbl_get k))) ?_
      have ea : mApp svalue_text (mCons (m2 gIx (mVar 0) (mC (.int 1))) mNil) t = some (.str (valText v o), t) := mapp (s1 := t) (ds := [vald v o]) rfl (value_text h.1 h.2.1 bg)
      have eb : mApp svalue_text (mCons (m2 gIx (mVar 0) (mC (.int 2))) mNil) t = some (.str (valText w p), t) := mapp (s1 := t) (ds := [vald w p]) rfl (value_text h.2.2.1 h.2.2.2 bg)
      have ek : mKIx s_SIGNS (mVar 1) t = some (.str k.sign, t) := kix (z := k.form) rfl (tbl_get k)
      have e := joinedN (s := t) (ys := [valText v o, " ", k.sign, " ", valText w p]) (.cons (mfmtS ea (by omega)) (.cons (f := mC (.str " ")) rfl (.cons (mfmtS ek (by omega)) (.cons (f := mC (.str " ")) rfl (.cons (mfmtS eb (by omega)) .nil))))) (by simp only [List.map_cons, List.map_nil, List.sum_cons, List.sum_nil]; omega)
      rw [e]
      show some (Dt.str (Str.empty ++ valText v o ++ " " ++ k.sign ++ " " ++ valText w p), t) = some (Dt.str (valText v o ++ " " ++ k.sign ++ " " ++ valText w p), t)
      rw [empty_app]
end DL

namespace DL
open PySem PySem.Spec PyProof.Rows L2
variable [Tabs]
/-! ### the parts of a condition, checked -/
theorem gin3 {a x y z : Str} {r : Bool} (h : (x == a || (y == a || (z == a || false))) = r) : gIn (.str a) (.tup [.str x, .str y, .str z]) = some (.bl r) := congrArg (fun b => some (Dt.bl b)) h
theorem kifsO {c1 c2 : DM Bool} {f : DMs} {g : DMs} {s : Sta} (h1 : c1 s = some (false, s)) (h2 : c2 s = some (false, s)) : kSeq (kIf (mOrB c1 c2) f kSkip) g s = g s := kifs (by rw [or_f h1]; exact h2)
theorem n1 : gNin (.int 1) (.tup [.int 1, .int 2, .int 3]) = some (.bl false) := rfl
theorem n2 : gNin (.int 2) (.tup [.int 1, .int 2, .int 3]) = some (.bl false) := rfl
theorem n3 : gNin (.int 3) (.tup [.int 1, .int 2, .int 3]) = some (.bl false) := rfl
theorem e11 : gEq (.int 1) (.int 1) = some (.bl true) := rfl
theorem e21 : gEq (.int 2) (.int 1) = some (.bl false) := rfl
theorem e22 : gEq (.int 2) (.int 2) = some (.bl true) := rfl
theorem e31 : gEq (.int 3) (.int 1) = some (.bl false) := rfl
theorem e32 : gEq (.int 3) (.int 2) = some (.bl false) := rfl
theorem itself_ok {c : Cn} (h : c.Ok) (bg : List Dt) : sis_condition_itself_ [c.d] bg = some (.bl true, bg) := by
  unfold sis_condition_itself_
  cases c with
  | tru =>
    let t0 : Sta := ⟨[some (.dat Cn.tru.d), none], bg⟩
    let t : Sta := ⟨[some (.dat Cn.tru.d), some (.dat (.str "true"))], bg⟩
    refine fnd (s1 := t) ?_
    show kSeq _ _ t0 = _
    rw [kifsO (c1 := mNotB (mB (mIsi isTup (mVar 0)))) (s := t0) rfl (mBt (m2_eq (s1 := t0) (s2 := t0) (x := .int 1) (y := .tup [.int 1, .int 2, .int 3]) rfl rfl n1)), kseq (s1 := t) rfl]
    exact kifr (s1 := t) (s2 := t) (mBt (m2_eq (s1 := t) (s2 := t) (x := .int 1) (y := .int 1) rfl rfl e11)) (m2_eq (s1 := t) (s2 := t) (x := .str "true") (y := .str "true") rfl rfl (tag (by decide +kernel) (by decide +kernel) (by decide +kernel)))
  | fnd r =>
    let t0 : Sta := ⟨[some (.dat (Cn.fnd r).d), none], bg⟩
    let t : Sta := ⟨[some (.dat (Cn.fnd r).d), some (.dat (.str "found"))], bg⟩
    refine fnd (s1 := t) ?_
    show kSeq _ _ t0 = _
    rw [kifsO (c1 := mNotB (mB (mIsi isTup (mVar 0)))) (s := t0) rfl (mBt (m2_eq (s1 := t0) (s2 := t0) (x := .int 2) (y := .tup [.int 1, .int 2, .int 3]) rfl rfl n2)), kseq (s1 := t) rfl]
    rw [kifs (s := t) (mBt (m2_eq (s1 := t) (s2 := t) (x := .int 2) (y := .int 1) rfl rfl e21))]
    refine kifr (s1 := t) (s2 := t) (mBt (m2_eq (s1 := t) (s2 := t) (x := .int 2) (y := .int 2) rfl rfl e22)) ?_
    rw [orV_f (s1 := t) (m2_eq (s1 := t) (s2 := t) (x := .str "found") (y := .str "not") rfl rfl (tag (by decide +kernel) (by decide +kernel) (by decide +kernel)))]
    rw [andV_t (s1 := t) (m2_eq (s1 := t) (s2 := t) (x := .str "found") (y := .str "found") rfl rfl (tag (by decide +kernel) (by decide +kernel) (by decide +kernel)))]
    exact mapp (s1 := t) (ds := [.str r]) rfl (is_name_ok h bg)
  | nt d =>
    let t0 : Sta := ⟨[some (.dat (Cn.nt d).d), none], bg⟩
    let t : Sta := ⟨[some (.dat (Cn.nt d).d), some (.dat (.str "not"))], bg⟩
    refine fnd (s1 := t) ?_
    show kSeq _ _ t0 = _
    rw [kifsO (c1 := mNotB (mB (mIsi isTup (mVar 0)))) (s := t0) rfl (mBt (m2_eq (s1 := t0) (s2 := t0) (x := .int 2) (y := .tup [.int 1, .int 2, .int 3]) rfl rfl n2)), kseq (s1 := t) rfl]
    rw [kifs (s := t) (mBt (m2_eq (s1 := t) (s2 := t) (x := .int 2) (y := .int 1) rfl rfl e21))]
    exact kifr (s1 := t) (s2 := t) (mBt (m2_eq (s1 := t) (s2 := t) (x := .int 2) (y := .int 2) rfl rfl e22)) (orV_t (s1 := t) (m2_eq (s1 := t) (s2 := t) (x := .str "not") (y := .str "not") rfl rfl (tag (by decide +kernel) (by decide +kernel) (by decide +kernel))))
  | cmp k v o w p =>
    let t0 : Sta := ⟨[some (.dat (Cn.cmp k v o w p).d), none], bg⟩
    let t : Sta := ⟨[some (.dat (Cn.cmp k v o w p).d), some (.dat (.str k.form))], bg⟩
    refine fnd (s1 := t) ?_
    show kSeq _ _ t0 = _
    rw [kifsO (c1 := mNotB (mB (mIsi isTup (mVar 0)))) (s := t0) rfl (mBt (m2_eq (s1 := t0) (s2 := t0) (x := .int 3) (y := .tup [.int 1, .int 2, .int 3]) rfl rfl n3)), kseq (s1 := t) rfl]
    rw [kifs (s := t) (mBt (m2_eq (s1 := t) (s2 := t) (x := .int 3) (y := .int 1) rfl rfl e31))]
    rw [kifs (s := t) (mBt (m2_eq (s1 := t) (s2 := t) (x := .int 3) (y := .int 2) rfl rfl e32))]
    refine kifr (s1 := t) (s2 := t) (by rw [and_t (s1 := t) rfl]; exact mBt (kin_t (s := t) (z := k.form) rfl (tbl_get k))) ?_
    rw [andV_t (s1 := t) (mapp (s1 := t) (ds := [vald v o]) rfl (value_ok h.1 h.2.1 bg))]
    exact mapp (s1 := t) (ds := [vald w p]) rfl (value_ok h.2.2.1 h.2.2.2 bg)
  | bin k a b =>
    let t0 : Sta := ⟨[some (.dat (Cn.bin k a b).d), none], bg⟩
    let t : Sta := ⟨[some (.dat (Cn.bin k a b).d), some (.dat (.str (bw k)))], bg⟩
    refine fnd (s1 := t) ?_
    show kSeq _ _ t0 = _
    rw [kifsO (c1 := mNotB (mB (mIsi isTup (mVar 0)))) (s := t0) rfl (mBt (m2_eq (s1 := t0) (s2 := t0) (x := .int 3) (y := .tup [.int 1, .int 2, .int 3]) rfl rfl n3)), kseq (s1 := t) rfl]
    rw [kifs (s := t) (mBt (m2_eq (s1 := t) (s2 := t) (x := .int 3) (y := .int 1) rfl rfl e31))]
    rw [kifs (s := t) (mBt (m2_eq (s1 := t) (s2 := t) (x := .int 3) (y := .int 2) rfl rfl e32))]
    rw [kifs (c := mAndB (mB (mIsi isStr (mVar 1))) (mB (mKIn s_SIGNS (mVar 1)))) (s := t) (by rw [and_t (s1 := t) rfl]; exact mBt (kin_f (s := t) (z := bw k) rfl (by clear h; cases k <;> decide +kernel)))]
    exact kret (m2_eq (s1 := t) (s2 := t) (x := .str (bw k)) (y := .tup [.str "and", .str "or"]) rfl rfl (gin2 (by clear h; cases k <;> decide +kernel)))
def plc : Cn → List Dt
  | .nt _ => [.int 1]
  | .bin _ _ _ => [.int 1, .int 2]
  | _ => []
theorem places_ok (c : Cn) (bg : List Dt) : splaces_ [c.d] bg = some (.lst (plc c), bg) := by
  unfold splaces_
  let t : Sta := ⟨[some (.dat c.d)], bg⟩
  have no : ∀ {z : Str}, gIx c.d (.int 0) = some (.str z) → (("not" : Str) == z || (("and" : Str) == z || (("or" : Str) == z || false))) = false → fnD 1 (kSeq (kIf (mB (m2 gIn (m2 gIx (mVar 0) (mC (.int 0))) (mTup (mCons (mC (.str "not")) (mCons (mC (.str "and")) (mCons (mC (.str "or")) mNil)))))) (kRet (m2 gRgL (mC (.int 1)) (mCall gLen (mCons (mVar 0) mNil)))) kSkip)
    (kRet (mLst mNil))) [c.d] bg = some (.lst [], bg) := fun {z} e h => by
    refine fnd (s1 := t) ?_
    show kSeq _ _ t = _
    rw [kifs (s := t) (mBt (m2_eq (s1 := t) (s2 := t) (x := .str z) (y := .tup [.str "not", .str "and", .str "or"]) (m2_eq (s1 := t) (s2 := t) (x := c.d) (y := .int 0) rfl rfl e) rfl (gin3 h)))]
    rfl
  have yes : ∀ {z : Str} {n : Int} {l : List Dt}, gIx c.d (.int 0) = some (.str z) → (("not" : Str) == z || (("and" : Str) == z || (("or" : Str) == z || false))) = true → gLen [c.d] = some (.int n) → gRgL (.int 1) (.int n) = some (.lst l) → fnD 1 (kSeq (kIf (mB (m2 gIn (m2 gIx (mVar 0) (mC (.int 0))) (mTup (mCons (mC (.str "not")) (mCons (mC (.str "and")) (mCons (mC (.str "or")) mNil)))))) (kRet (m2 gRgL (mC (.int 1)) (mCall gLen (mCons (mVar 0) mNil)))) kSkip)
    (kRet (mLst mNil))) [c.d] bg = some (.lst l, bg) := fun {z n l} e h e2 e3 => by
    refine fnd (s1 := t) ?_
    exact kifr (s1 := t) (s2 := t) (mBt (m2_eq (s1 := t) (s2 := t) (x := .str z) (y := .tup [.str "not", .str "and", .str "or"]) (m2_eq (s1 := t) (s2 := t) (x := c.d) (y := .int 0) rfl rfl e) rfl (gin3 h))) (m2_eq (s1 := t) (s2 := t) (x := .int 1) (y := .int n) rfl (mcall (s1 := t) (l := [c.d]) rfl e2) e3)
  cases c with
  | tru => exact no (z := "true") rfl (by decide +kernel)
  | fnd r => exact no (z := "found") rfl (by decide +kernel)
  | cmp k v o w p => exact no (z := k.form) rfl (by cases k <;> decide +kernel)
  | nt d => exact yes (z := "not") (n := 2) rfl (by decide +kernel) rfl rfl
  | bin k a b => exact yes (z := bw k) (n := 3) rfl (by cases k <;> decide +kernel) rfl rfl
def enc (p : List Dt × Cn) : Dt := .tup [.tup p.1, p.2.d]
def kids (pth : List Dt) : Cn → List (List Dt × Cn)
  | .nt c => [(pth ++ [.int 1], c)]
  | .bin _ a b => [(pth ++ [.int 2], b), (pth ++ [.int 1], a)]
  | _ => []
def chkBody : DMs := (kSeq (kAsg (mPop 2) (hTup 2 (hCons (hName 3) (hCons (hName 4) hNil))))
    (kSeq (kIf (mOrB (mB (m2 oGe (mCall gLen (mCons (mVar 3) mNil)) (mC s_DEEPEST))) (mNotB (mB (mApp sis_condition_itself_ (mCons (mVar 4) mNil))))) (fun _ => none) kSkip)
    (kSeq (kDrop (mAppend 1 (mTup (mCons (mVar 3) (mCons (mVar 4) mNil)))))
    (kDrop (mExtend 2 (mComp [5] (wRev (mApp splaces_ (mCons (mVar 4) mNil))) (hName 5) mYes (mTup (mCons (mTup (mStar (mVar 3) (mCons (mVar 5) mNil))) (mCons (m2 gIx (mVar 4) (mVar 5)) mNil)))))))))
theorem kids_map (pth : List Dt) (c : Cn) : ((plc c).reverse.map fun d => Dt.tup [.tup (pth ++ [d]), (gIx c.d d).getD .non]) = (kids pth c).map enc := by
  cases c <;> rfl
theorem kdrop {f : DM Dt} {s s1 : Sta} {d : Dt} (h : f s = some (d, s1)) : kDrop f s = some (.nx, s1) := by unfold kDrop; rw [h]; rfl
theorem chk_step {c0 : Dt} {prs stk : List Dt} {pth : List Dt} {c : Cn} {x3 x4 x5 : Option Slo} {bg : List Dt} (h : c.Ok) (hd : pth.length + c.dep ≤ 6) (hp : prs.length ≤ 1000) (hs : stk.length ≤ 1000) :
    chkBody ⟨[some (.dat c0), some (.own prs), some (.own (stk ++ [enc (pth, c)])), x3, x4, x5], bg⟩ = some (.nx, ⟨[some (.dat c0), some (.own (prs ++ [enc (pth, c)])), some (.own (stk ++ (kids pth c).map enc)), some (.dat (.tup pth)), some (.dat c.d), x5], bg⟩) := by
  have h1 : 1 ≤ c.dep := by cases c <;> simp [Cn.dep]
  let s0 : Sta := ⟨[some (.dat c0), some (.own prs), some (.own (stk ++ [enc (pth, c)])), x3, x4, x5], bg⟩
  let s1 : Sta := ⟨[some (.dat c0), some (.own prs), some (.own stk), x3, x4, x5], bg⟩
  let s2 : Sta := ⟨[some (.dat c0), some (.own prs), some (.own stk), some (.dat (.tup pth)), some (.dat c.d), x5], bg⟩
  let s3 : Sta := ⟨[some (.dat c0), some (.own (prs ++ [enc (pth, c)])), some (.own stk), some (.dat (.tup pth)), some (.dat c.d), x5], bg⟩
  have e1 : mPop 2 s0 = some (enc (pth, c), s1) := by
    show ((stk ++ [enc (pth, c)])[(stk ++ [enc (pth, c)]).length - 1]?).bind _ = _
    have e : (stk ++ [enc (pth, c)])[(stk ++ [enc (pth, c)]).length - 1]? = some (enc (pth, c)) := by simp
    rw [e, Option.bind_some, List.dropLast_concat]
    rfl
  unfold chkBody
  rw [kseq (s1 := s2) (kasg (s1 := s1) (d := enc (pth, c)) e1 rfl)]
  have e2 : m2 oGe (mCall gLen (mCons (mVar 3) mNil)) (mC s_DEEPEST) s2 = some (.bl false, s2) := by
    refine m2_eq (s1 := s2) (s2 := s2) (x := .int (pth.length : Nat)) (y := .int 6) rfl rfl ?_
    show some (Dt.bl (decide ((6 : Int) ≤ (pth.length : Nat)))) = _
    rw [decide_eq_false (by omega)]
  rw [kifsO (s := s2) (mBt e2) (mNotB_eq (b := true) (mBt (mapp (s1 := s2) (ds := [c.d]) rfl (itself_ok h bg))))]
  have e3 : mAppend 1 (mTup (mCons (mVar 3) (mCons (mVar 4) mNil))) s2 = some (.non, s3) := by
    show (if prs.length < 100000 then _ else _) = _
    rw [if_pos (by omega)]
    rfl
  rw [kseq (s1 := s3) (kdrop e3)]
  let sl0 : List (Option Slo) := [some (.dat c0), none, none, some (.dat (.tup pth)), some (.dat c.d), none]
  have e4 : mComp [5] (wRev (mApp splaces_ (mCons (mVar 4) mNil))) (hName 5) mYes (mTup (mCons (mTup (mStar (mVar 3) (mCons (mVar 5) mNil))) (mCons (m2 gIx (mVar 4) (mVar 5)) mNil))) s3 = some (.lst ((kids pth c).map enc), s3) := by
    rw [← kids_map]
    have ep : wRev (mApp splaces_ (mCons (mVar 4) mNil)) s3 = some ((plc c).reverse, s3) := by
      unfold wRev
      rw [mapp (s1 := s3) (ds := [c.d]) rfl (places_ok c bg)]
      rfl
    refine mcomp (s1 := s3) (l := (plc c).reverse) ep (by cases c <;> simp [plc]) (comp_map (sl0 := sl0) (fun d => Dt.tup [.tup (pth ++ [d]), (gIx c.d d).getD .non]) _ fun d hd => ?_)
    let u : Sta := ⟨[some (.dat c0), none, none, some (.dat (.tup pth)), some (.dat c.d), some (.dat d)], bg⟩
    have eg : gIx c.d d = some ((gIx c.d d).getD .non) := by
      cases c with
      | nt e =>
        simp only [plc, List.reverse_cons, List.reverse_nil, List.nil_append, List.mem_singleton] at hd
        subst hd; rfl
      | bin k a b =>
        simp only [plc, List.reverse_cons, List.reverse_nil, List.nil_append, List.cons_append, List.mem_cons, List.not_mem_nil, or_false] at hd
        rcases hd with rfl | rfl <;> rfl
      | _ => simp [plc] at hd
    refine ⟨u, u, u, rfl, rfl, ?_, rfl⟩
    exact mtup (s1 := u) (mcons (s1 := u) (mtup (s1 := u) (xs := pth ++ [d]) rfl (by simp only [List.length_append, List.length_singleton]; omega)) (mcons (s1 := u) (m2_eq (s1 := u) (s2 := u) (x := c.d) (y := d) rfl rfl eg) rfl))
  refine kdrop (d := .non) ?_
  unfold mExtend
  rw [e4, Option.bind_some]
  have hk : (kids pth c).length ≤ 2 := by cases c <;> simp [kids]
  show (if stk.length + ((kids pth c).map enc).length ≤ 100000 then _ else _) = _
  rw [if_pos (by rw [List.length_map]; omega)]
  rfl
def sizes : List (List Dt × Cn) → Nat
  | [] => 0
  | p :: r => p.2.size + sizes r
theorem sizes_app : ∀ l m, sizes (l ++ m) = sizes l + sizes m
  | [], m => by simp [sizes]
  | p :: l, m => by show p.2.size + sizes (l ++ m) = p.2.size + sizes l + sizes m; rw [sizes_app l m]; omega
theorem size_pos (c : Cn) : 1 ≤ c.size := by cases c <;> simp [Cn.size]
theorem sizes_len : ∀ l : List (List Dt × Cn), l.length ≤ sizes l
  | [] => Nat.le_refl _
  | p :: l => by
    have h1 := sizes_len l
    have h2 := size_pos p.2
    show l.length + 1 ≤ p.2.size + sizes l
    omega
theorem kids_size (pth : List Dt) (c : Cn) : sizes (kids pth c) + 1 = c.size := by
  cases c <;> simp [kids, sizes, Cn.size] <;> omega
theorem chk_loop {c0 : Dt} {bg : List Dt} : ∀ (n : Nat) (stk : List (List Dt × Cn)) (prs : List Dt) (x3 x4 x5 : Option Slo), (∀ p ∈ stk, p.2.Ok ∧ p.1.length + p.2.dep ≤ 6) → sizes stk < n → prs.length + sizes stk ≤ 500 →
    ∃ prs' x3' x4' x5', whileD (mTruOwn 2) chkBody n ⟨[some (.dat c0), some (.own prs), some (.own (stk.map enc)), x3, x4, x5], bg⟩ = some (.nx, ⟨[some (.dat c0), some (.own prs'), some (.own []), x3', x4', x5'], bg⟩)
  | 0, _, _, _, _, _, _, h, _ => absurd h (Nat.not_lt_zero _)
  | n + 1, stk, prs, x3, x4, x5, hok, hn, hb => by
    by_cases hs : stk = []
    · subst hs
      exact ⟨prs, x3, x4, x5, rfl⟩
    · obtain ⟨r, p, rfl⟩ : ∃ r p, stk = r ++ [p] := ⟨stk.dropLast, stk.getLast hs, (List.dropLast_concat_getLast hs).symm⟩
      obtain ⟨pth, c⟩ := p
      rw [sizes_app] at hn hb
      have e1 : sizes [(pth, c)] = c.size := by simp [sizes]
      rw [e1] at hn hb
      have k1 := kids_size pth c
      have k2 := sizes_len r
      have k3 := size_pos c
      obtain ⟨ho, hd⟩ := hok (pth, c) (by simp)
      have hd : pth.length + c.dep ≤ 6 := hd
      have st := chk_step (c0 := c0) (prs := prs) (stk := r.map enc) (x3 := x3) (x4 := x4) (x5 := x5) (bg := bg) ho hd (by omega) (by rw [List.length_map]; omega)
      have em : r.map enc ++ (kids pth c).map enc = (r ++ kids pth c).map enc := by rw [List.map_append]
      rw [em] at st
      obtain ⟨prs', y3, y4, y5, e⟩ := chk_loop n (r ++ kids pth c) (prs ++ [enc (pth, c)]) (some (.dat (.tup pth))) (some (.dat c.d)) x5 (fun p hp => by
        rcases List.mem_append.mp hp with hp | hp
        · exact hok p (List.mem_append_left _ hp)
        · cases c with
          | nt d =>
            simp only [kids, List.mem_singleton] at hp
            subst hp
            refine ⟨ho, ?_⟩
            have : (Cn.nt d).dep = d.dep + 1 := rfl
            simp only [List.length_append, List.length_singleton]
            omega
          | bin k a b =>
            simp only [kids, List.mem_cons, List.not_mem_nil, or_false] at hp
            have : (Cn.bin k a b).dep = max a.dep b.dep + 1 := rfl
            have q1 := Nat.le_max_left a.dep b.dep
            have q2 := Nat.le_max_right a.dep b.dep
            rcases hp with rfl | rfl
            · refine ⟨ho.2, ?_⟩
              simp only [List.length_append, List.length_singleton]
              omega
            · refine ⟨ho.1, ?_⟩
              simp only [List.length_append, List.length_singleton]
              omega
          | _ => simp [kids] at hp) (by rw [sizes_app]; omega) (by rw [sizes_app, List.length_append, List.length_singleton]; omega)
      refine ⟨prs', y3, y4, y5, ?_⟩
      unfold whileD
      have et : mTruOwn 2 (⟨[some (.dat c0), some (.own prs), some (.own ((r ++ [(pth, c)]).map enc)), x3, x4, x5], bg⟩ : Sta) = some (true, ⟨[some (.dat c0), some (.own prs), some (.own ((r ++ [(pth, c)]).map enc)), x3, x4, x5], bg⟩) := by
        have : ((r ++ [(pth, c)]).map enc).isEmpty = false := by simp
        show some (!((r ++ [(pth, c)]).map enc).isEmpty, _) = _
        rw [this]
        rfl
      rw [et, Option.bind_some, if_pos rfl, List.map_append]
      show (chkBody ⟨[some (.dat c0), some (.own prs), some (.own (r.map enc ++ [enc (pth, c)])), x3, x4, x5], bg⟩).bind _ = _
      rw [st]
      exact e
theorem checked_ok {c : Cn} (h : c.Ok) (hd : c.dep ≤ 6) (bg : List Dt) : ∃ l, schecked_parts_ [c.d] bg = some (.lst l, bg) := by
  have hz := size_dep c
  have hp : 2 ^ c.dep ≤ 2 ^ 6 := Nat.pow_le_pow_right (by decide) hd
  obtain ⟨prs, y3, y4, y5, e⟩ := chk_loop (c0 := c.d) (bg := bg) 200 [([], c)] [] none none none (fun p hp => by
    rw [List.mem_singleton] at hp
    subst hp
    exact ⟨h, by simpa using hd⟩) (by simp only [sizes]; omega) (by simp only [sizes, List.length_nil]; omega)
  refine ⟨prs, ?_⟩
  unfold schecked_parts_
  refine fnd (s1 := ⟨[some (.dat c.d), some (.dat (.lst prs)), some (.own []), y3, y4, y5], bg⟩) ?_
  rw [kseq (s1 := ⟨[some (.dat c.d), some (.own []), none, none, none, none], bg⟩) rfl]
  rw [kseq (s1 := ⟨[some (.dat c.d), some (.own []), some (.own ([(([] : List Dt), c)].map enc)), none, none, none], bg⟩) rfl]
  unfold chkBody at e
  refine (kseq e).trans ?_
  exact kret rfl
theorem cond_text {c : Cn} (h : c.Ok) (hd : c.dep ≤ 6) (bg : List Dt) : scondition_text [c.d] bg = some (.str c.text, bg) := by
  unfold scondition_text
  let t : Sta := ⟨[some (.dat c.d)], bg⟩
  obtain ⟨l, e⟩ := checked_ok h hd bg
  refine fnd (s1 := t) ?_
  rw [kseq (s1 := t) (kdrop (mapp (s1 := t) (ds := [c.d]) rfl e))]
  exact kret (mapp (s1 := t) (ds := [c.d]) rfl (text_ok 8 h (by omega) (by decide) bg))
end DL

namespace DL
open PySem PySem.Spec PyProof.Rows L2
variable [Tabs]
open TL
/-! ### reading -/
def wd (ws : List Str) (i : Nat) : Str := (ws.drop i).head?.getD ""
theorem drop_one {ws : List Str} {i : Nat} {x : Str} {l : List Str} (h : ws.drop i = x :: l) : ws[i]? = some x ∧ ws.drop (i + 1) = l ∧ i < ws.length := by
  have hi : i < ws.length := by
    by_cases c : i < ws.length
    · exact c
    · rw [List.drop_eq_nil_of_le (by omega)] at h; cases h
  rw [List.drop_eq_getElem_cons hi] at h
  injection h with h1 h2
  exact ⟨by rw [List.getElem?_eq_getElem hi, h1], h2, hi⟩
theorem drop_app {ws : List Str} {i : Nat} {l m : List Str} (h : ws.drop i = l ++ m) : ws.drop (i + l.length) = m := by
  rw [← List.drop_drop, h, List.drop_left]
theorem wd_some {ws : List Str} {i : Nat} {x : Str} (h : ws[i]? = some x) : wd ws i = x := by
  have hi := (List.getElem?_eq_some_iff.mp h).1
  unfold wd
  rw [List.drop_eq_getElem_cons hi]
  rw [List.getElem?_eq_getElem hi] at h
  exact Option.some.inj h
theorem word_ok (ws : List Str) (i : Nat) (bg : List Dt) : sword_ [.lst (ws.map Dt.str), .int (i : Nat)] bg = some (.str (wd ws i), bg) := by
  unfold sword_
  let t : Sta := ⟨[some (.dat (.lst (ws.map Dt.str))), some (.dat (.int (i : Nat)))], bg⟩
  refine fnd (s1 := t) (kret ?_)
  show mIf _ _ _ t = _
  have e : m2 oLt (mVar 1) (mCall gLen (mCons (mVar 0) mNil)) t = some (.bl (decide ((i : Int) < ((ws.map Dt.str).length : Nat))), t) := m2_eq (s1 := t) (s2 := t) (x := .int (i : Nat)) (y := .int ((ws.map Dt.str).length : Nat)) rfl rfl rfl
  by_cases c : i < ws.length
  · rw [mif_t (s1 := t) (mBt (by rw [e, decide_eq_true (by rw [List.length_map]; omega)]))]
    refine m2_eq (s1 := t) (s2 := t) (x := .lst (ws.map Dt.str)) (y := .int (i : Nat)) rfl rfl ?_
    show atI (ws.map Dt.str) (i : Nat) = _
    rw [ati_nat (by omega) (by rw [List.length_map]; omega), Int.toNat_natCast, List.getElem?_map, List.getElem?_eq_getElem c, wd_some (List.getElem?_eq_getElem c)]
    rfl
  · rw [mif_f (s1 := t) (mBt (by rw [e, decide_eq_false (by rw [List.length_map]; omega)]))]
    unfold wd
    rw [List.drop_eq_nil_of_le (by omega)]
    rfl
/-- what may follow a value -/
def Fol (rest : List Str) : Prop := (("+" : Str) == rest.head?.getD "" || (("-" : Str) == rest.head?.getD "" || false)) = false
theorem six {n i d : Nat} (h : i ≤ n) : HT.sIx n d (some (i : Nat)) = i := by
  rw [HT.sIx_nat]
  omega
theorem cut_words {ws l m : List Str} {i : Nat} (h : ws.drop i = l ++ m) (hi : i ≤ ws.length) : cutD (ws.map Dt.str) (some (i : Nat)) (some ((i + l.length : Nat) : Int)) = l.map Dt.str := by
  have hl : i + l.length ≤ ws.length := by
    have := congrArg List.length h
    rw [List.length_drop, List.length_append] at this
    omega
  unfold cutD
  rw [six (by rw [List.length_map]; exact hl), six (by rw [List.length_map]; exact hi), ← List.map_drop, h, List.map_append, show i + l.length - i = l.length by omega]
  rw [List.take_append_of_le_length (by simp), List.take_of_length_le (by simp)]
theorem parts_len (v : Sg) (o : Option Int) : (valParts v o).length = 1 ∨ (valParts v o).length = 3 := by cases o <;> simp [valParts]
theorem gjoinS {ss : List Str} (h : (ss.map (·.length)).sum + ss.length ≤ 1000000) : gJoin " " (.lst (ss.map Dt.str)) = some (.str (Txt.join " " ss)) := by
  show (gJoin.txts (ss.map Dt.str)).bind _ = _
  rw [txts_map, Option.bind_some, if_pos]
  have e : (" " : Str).length = 1 := by decide +kernel
  rw [e]
  omega
theorem strJoin_len : ∀ ss : List Str, (ss.map (·.length)).sum ≤ (Str.join " " ss).length
  | [] => Nat.zero_le _
  | [z] => by simp [Str.join]
  | x :: z :: r => by
    have h := strJoin_len (z :: r)
    show x.length + ((z :: r).map (·.length)).sum ≤ (x ++ " " ++ Str.join " " (z :: r)).length
    rw [len_app, len_app]
    omega
theorem parts_sum {v : Sg} (h : v.Ok) {o : Option Int} (ho : ∀ m, o = some m → Bnd m) : ((valParts v o).map (·.length)).sum + (valParts v o).length ≤ 1000000 := by
  have h1 := strJoin_len (valParts v o)
  have h2 := valText_len h ho
  rw [val_join, join_eq] at h2
  rcases parts_len v o with h3 | h3 <;> omega
theorem operand_ok {ws rest : List Str} {i : Nat} {v : Sg} (h : v.Ok) {o : Option Int} (ho : ∀ m, o = some m → Bnd m) (hw : ws.drop i = valParts v o ++ rest) (hf : Fol rest) (bg : List Dt) :
    sread_operand_ [.lst (ws.map Dt.str), .int (i : Nat)] bg = some (.tup [vald v o, .int ((i + (valParts v o).length : Nat))], bg) := by
  unfold sread_operand_
  let W : Dt := .lst (ws.map Dt.str)
  let t : Sta := ⟨[some (.dat W), some (.dat (.int (i : Nat))), none], bg⟩
  let u : Sta := ⟨[some (.dat W), some (.dat (.int (i : Nat))), some (.dat (.int ((valParts v o).length : Nat)))], bg⟩
  have hi : i ≤ ws.length := by
    obtain ⟨x, l, e⟩ : ∃ x l, valParts v o = x :: l := by cases o <;> exact ⟨_, _, rfl⟩
    rw [e] at hw
    exact Nat.le_of_lt (drop_one hw).2.2
  have ew : mApp sword_ (mCons (mVar 0) (mCons (m2 gAdd (mVar 1) (mC (.int 1))) mNil)) t = some (.str (wd ws (i + 1)), t) := mapp (s1 := t) (ds := [W, .int ((i + 1 : Nat))]) rfl (word_ok ws (i + 1) bg)
  have eif : mIf (mB (m2 gIn (mApp sword_ (mCons (mVar 0) (mCons (m2 gAdd (mVar 1) (mC (.int 1))) mNil))) (mTup (mCons (mC (.str "+")) (mCons (mC (.str "-")) mNil))))) (mC (.int 3)) (mC (.int 1)) t = some (.int ((valParts v o).length : Nat), t) := by
    cases o with
    | none =>
      have e1 : wd ws (i + 1) = rest.head?.getD "" := by
        unfold wd
        have e := drop_app (l := valParts v none) hw
        rw [show i + (valParts v none).length = i + 1 from rfl] at e
        rw [e]
      rw [mif_f (s1 := t) (mBt (m2_eq (s1 := t) (s2 := t) (x := .str (wd ws (i + 1))) (y := .tup [.str "+", .str "-"]) ew rfl (gin2 (by rw [e1]; exact hf))))]
      rfl
    | some m =>
      have e1 : wd ws (i + 1) = if m < 0 then ("-" : Str) else ("+" : Str) := by
        obtain ⟨_, h2, _⟩ := drop_one (l := (if m < 0 then ("-" : Str) else ("+" : Str)) :: itxt ((m.natAbs : Nat) : Int) :: rest) hw
        exact wd_some (drop_one h2).1
      rw [mif_t (s1 := t) (mBt (m2_eq (s1 := t) (s2 := t) (x := .str (wd ws (i + 1))) (y := .tup [.str "+", .str "-"]) ew rfl (gin2 (by rw [e1]; split <;> decide +kernel))))]
      rfl
  refine fnd (s1 := u) ?_
  show kSeq _ _ t = _
  rw [kseq (s1 := u) (kasg (s1 := t) eif rfl)]
  refine kret (mtup (s1 := u) (mcons (s1 := u) (mapp (s1 := u) (ds := [.str (valText v o)]) (mcons (s1 := u) ?_ rfl) (read_value h ho bg)) (mcons (s1 := u) rfl rfl)))
  refine mm1 (s1 := u) (s2 := u) (a := " ") (y := .lst ((valParts v o).map Dt.str)) rfl ?_ ?_
  · exact msl (s1 := u) (s2 := u) (s3 := u) (x := W) (lo := some (i : Nat)) (hi := some ((i + (valParts v o).length : Nat) : Int)) rfl rfl rfl (by
      show some (Dt.lst (cutD (ws.map Dt.str) _ _)) = _
      rw [cut_words hw hi])
  · rw [gjoinS (parts_sum h ho), val_join]
theorem sign_cp (k : Cp) : cpOk k.sign = true := by cases k <;> decide +kernel
theorem sign_fol (k : Cp) (l : List Str) : Fol (k.sign :: l) := by
  show (("+" : Str) == k.sign || (("-" : Str) == k.sign || false)) = false
  cases k <;> decide +kernel
theorem comparison_ok {ws rest : List Str} {i : Nat} {k : Cp} {v w : Sg} {o p : Option Int} (h : (Cn.cmp k v o w p).Ok) (hw : ws.drop i = (Cn.cmp k v o w p).toks ++ rest) (hf : Fol rest) (bg : List Dt) :
    sread_comparison_ [.lst (ws.map Dt.str), .int (i : Nat)] bg = some (.tup [(Cn.cmp k v o w p).d, .int ((i + (Cn.cmp k v o w p).toks.length : Nat))], bg) := by
  unfold sread_comparison_
  let W : Dt := .lst (ws.map Dt.str)
  have hw1 : ws.drop i = valParts v o ++ (k.sign :: (valParts w p ++ rest)) := by
    rw [hw]
    show (valParts v o ++ (k.sign :: valParts w p)) ++ rest = _
    simp
  obtain ⟨g1, g2, _⟩ := drop_one (drop_app hw1)
  let j : Nat := i + (valParts v o).length
  let t0 : Sta := ⟨[some (.dat W), some (.dat (.int (i : Nat))), none, none, none, none, none], bg⟩
  let t1 : Sta := ⟨[some (.dat W), some (.dat (.int (i : Nat))), none, some (.dat (vald v o)), some (.dat (.int (j : Nat))), none, none], bg⟩
  let t2 : Sta := ⟨[some (.dat W), some (.dat (.int (i : Nat))), some (.dat (.str k.sign)), some (.dat (vald v o)), some (.dat (.int (j : Nat))), none, none], bg⟩
  let t3 : Sta := ⟨[some (.dat W), some (.dat (.int (i : Nat))), some (.dat (.str k.sign)), some (.dat (vald v o)), some (.dat (.int (j : Nat))), some (.dat (vald w p)), some (.dat (.int ((j + 1 + (valParts w p).length : Nat))))], bg⟩
  refine fnd (s1 := t3) ?_
  show kSeq _ _ t0 = _
  rw [kseq (s1 := t1) (kasg (s1 := t0) (mapp (s1 := t0) (ds := [W, .int (i : Nat)]) rfl (operand_ok h.1 h.2.1 hw1 (sign_fol k _) bg)) rfl)]
  have ew : mApp sword_ (mCons (mVar 0) (mCons (mVar 4) mNil)) t1 = some (.str k.sign, t1) := by
    rw [mapp (s1 := t1) (ds := [W, .int (j : Nat)]) rfl (word_ok ws j bg), wd_some g1]
  rw [kseq (s1 := t2) (kasg (s1 := t1) ew rfl)]
  rw [kifs (s := t2) (mBt (knin_t (s := t2) (z := k.sign) rfl (tbl_form k)))]
  rw [kseq (s1 := t3) (kasg (s1 := t2) (mapp (s1 := t2) (ds := [W, .int ((j + 1 : Nat))]) rfl (operand_ok h.2.2.1 h.2.2.2 g2 hf bg)) rfl)]
  have el : i + (Cn.cmp k v o w p).toks.length = j + 1 + (valParts w p).length := by
    show i + (valParts v o ++ (k.sign :: valParts w p)).length = _
    rw [List.length_append, List.length_cons]
    omega
  rw [el]
  exact kret (mtup (s1 := t3) (mcons (s1 := t3) (mtup (s1 := t3) (mcons (s1 := t3) (kix (z := k.sign) rfl (tbl_form k)) (mcons (s1 := t3) rfl (mcons (s1 := t3) rfl rfl)))) (mcons (s1 := t3) rfl rfl)))
theorem found_ok {ws rest : List Str} {i : Nat} {r : Str} (h : NameOk r) (hw : ws.drop i = r :: rest) (bg : List Dt) : sread_found_ [.lst (ws.map Dt.str), .int (i : Nat)] bg = some (.tup [(Cn.fnd r).d, .int ((i + 1 : Nat))], bg) := by
  unfold sread_found_
  let W : Dt := .lst (ws.map Dt.str)
  obtain ⟨g1, _, _⟩ := drop_one hw
  let t0 : Sta := ⟨[some (.dat W), some (.dat (.int (i : Nat))), none], bg⟩
  let t1 : Sta := ⟨[some (.dat W), some (.dat (.int (i : Nat))), some (.dat (.str r))], bg⟩
  refine fnd (s1 := t1) ?_
  show kSeq _ _ t0 = _
  have ew : mApp sword_ (mCons (mVar 0) (mCons (mVar 1) mNil)) t0 = some (.str r, t0) := by
    rw [mapp (s1 := t0) (ds := [W, .int (i : Nat)]) rfl (word_ok ws i bg), wd_some g1]
  rw [kseq (s1 := t1) (kasg (s1 := t0) ew rfl)]
  rw [kifs (s := t1) (mNotB_eq (b := true) (mBt (mapp (s1 := t1) (ds := [.str r]) rfl (is_name_ok h bg))))]
  rfl
theorem sg_ne {v : Sg} (h : v.Ok) {w : Str} (hw : nameB w = false) (hd : 46 ∉ tl w) (hc : ∀ c ∈ tl w, c = 40 ∨ 97 ≤ c) : (sgText v == w) = false := by
  refine beq_eq_false_iff_ne.mpr fun e => ?_
  have dot : ∀ {a b : Str}, 46 ∈ tl (a ++ "." ++ b) := fun {a b} => by
    rw [tl_append, tl_append, tl_dot]
    simp
  cases v with
  | number i =>
    have hl := (sgText_len h).1
    have hl' : 1 ≤ (tl (itxt i)).length := by rw [← len_tl]; exact hl
    obtain ⟨c, hcm⟩ : ∃ c, c ∈ tl (itxt i) := by
      cases q : tl (itxt i) with
      | nil => rw [q] at hl'; simp at hl'
      | cons c r => exact ⟨c, List.mem_cons_self ..⟩
    have h1 := itxt_mem hcm
    have h2 := hc c (by rw [← e]; exact hcm)
    omega
  | name n =>
    have : nameB n = true := nameB_iff.mpr h
    rw [show n = w from e, hw] at this
    cases this
  | field n c => exact hd (by rw [← e]; exact dot)
  | own c => exact hd (by rw [← e]; exact dot)
  | next c => exact hd (by rw [← e]; exact dot)
theorem ne_true {v : Sg} (h : v.Ok) : (sgText v == "true") = false := sg_ne h (by decide +kernel) (by decide +kernel) (by decide +kernel)
theorem ne_found {v : Sg} (h : v.Ok) : (sgText v == "found") = false := sg_ne h (by decide +kernel) (by decide +kernel) (by decide +kernel)
theorem ne_not {v : Sg} (h : v.Ok) : (sgText v == "not") = false := sg_ne h (by decide +kernel) (by decide +kernel) (by decide +kernel)
theorem ne_par {v : Sg} (h : v.Ok) : (sgText v == "(") = false := sg_ne h (by decide +kernel) (by decide +kernel) (by decide +kernel)
theorem dep_pos (c : Cn) : 1 ≤ c.dep := by cases c <;> simp [Cn.dep]
theorem bw_fol (k : Bool) (l : List Str) : Fol (bw k :: l) := by
  show (("+" : Str) == bw k || (("-" : Str) == bw k || false)) = false
  cases k <;> decide +kernel
theorem par_fol (l : List Str) : Fol ((")" : Str) :: l) := by
  show (("+" : Str) == ")" || (("-" : Str) == ")" || false)) = false
  decide +kernel
theorem joined_ok {R : FD} {ws rest : List Str} {i d : Nat} {k : Bool} {a b : Cn}
    (ha : ∀ bg, R [.lst (ws.map Dt.str), .int (i : Nat), .int (d : Nat)] bg = some (.tup [a.d, .int ((i + a.toks.length : Nat))], bg))
    (hb : ∀ bg, R [.lst (ws.map Dt.str), .int ((i + a.toks.length + 1 : Nat)), .int (d : Nat)] bg = some (.tup [b.d, .int ((i + a.toks.length + 1 + b.toks.length : Nat))], bg))
    (hw : ws.drop i = a.toks ++ (bw k :: (b.toks ++ ((")" : Str) :: rest)))) (bg : List Dt) :
    sread_joined_B R [.lst (ws.map Dt.str), .int (i : Nat), .int (d : Nat)] bg = some (.tup [(Cn.bin k a b).d, .int ((i + a.toks.length + 1 + b.toks.length + 1 : Nat))], bg) := by
  unfold sread_joined_B
  let W : Dt := .lst (ws.map Dt.str)
  obtain ⟨g1, g2, _⟩ := drop_one (drop_app hw)
  obtain ⟨g3, _, _⟩ := drop_one (drop_app g2)
  let j : Nat := i + a.toks.length
  let m : Nat := j + 1 + b.toks.length
  let t0 : Sta := ⟨[some (.dat W), some (.dat (.int (i : Nat))), some (.dat (.int (d : Nat))), none, none, none, none, none], bg⟩
  let t1 : Sta := ⟨[some (.dat W), some (.dat (.int (i : Nat))), some (.dat (.int (d : Nat))), none, some (.dat a.d), some (.dat (.int (j : Nat))), none, none], bg⟩
  let t2 : Sta := ⟨[some (.dat W), some (.dat (.int (i : Nat))), some (.dat (.int (d : Nat))), some (.dat (.str (bw k))), some (.dat a.d), some (.dat (.int (j : Nat))), none, none], bg⟩
  let t3 : Sta := ⟨[some (.dat W), some (.dat (.int (i : Nat))), some (.dat (.int (d : Nat))), some (.dat (.str (bw k))), some (.dat a.d), some (.dat (.int (j : Nat))), some (.dat b.d), some (.dat (.int (m : Nat)))], bg⟩
  refine fnd (s1 := t3) ?_
  show kSeq _ _ t0 = _
  rw [kseq (s1 := t1) (kasg (s1 := t0) (mapp (s1 := t0) (ds := [W, .int (i : Nat), .int (d : Nat)]) rfl (ha bg)) rfl)]
  have ew : mApp sword_ (mCons (mVar 0) (mCons (mVar 5) mNil)) t1 = some (.str (bw k), t1) := by
    rw [mapp (s1 := t1) (ds := [W, .int (j : Nat)]) rfl (word_ok ws j bg), wd_some g1]
  rw [kseq (s1 := t2) (kasg (s1 := t1) ew rfl)]
  rw [kifs (s := t2) (mBt (m2_eq (s1 := t2) (s2 := t2) (x := .str (bw k)) (y := .tup [.str "and", .str "or"]) rfl rfl (ginN (by cases k <;> decide +kernel))))]
  rw [kseq (s1 := t3) (kasg (s1 := t2) (mapp (s1 := t2) (ds := [W, .int ((j + 1 : Nat)), .int (d : Nat)]) rfl (hb bg)) rfl)]
  have ew2 : mApp sword_ (mCons (mVar 0) (mCons (mVar 7) mNil)) t3 = some (.str ")", t3) := by
    rw [mapp (s1 := t3) (ds := [W, .int (m : Nat)]) rfl (word_ok ws m bg), wd_some g3]
  rw [kifs (s := t3) (mBt (m2_eq (s1 := t3) (s2 := t3) (x := .str ")") (y := .str ")") ew2 rfl (tagN (r := true) (by decide +kernel) (by decide +kernel) (by decide +kernel))))]
  rfl
theorem gtD {d : Nat} (h : d ≤ 6) : oGt (.int (d : Nat)) s_DEEPEST = some (.bl false) := by
  show some (Dt.bl (decide ((6 : Int) < (d : Nat)))) = _
  rw [decide_eq_false (by omega)]
theorem part_ok : ∀ (n : Nat) {c : Cn}, c.Ok → c.dep ≤ n → ∀ {ws rest : List Str} {i d : Nat}, d + c.dep ≤ 7 → ws.drop i = c.toks ++ rest → Fol rest → ∀ bg,
    sread_part_ n [.lst (ws.map Dt.str), .int (i : Nat), .int (d : Nat)] bg = some (.tup [c.d, .int ((i + c.toks.length : Nat))], bg)
  | 0, c, _, hd, _, _, _, _, _, _, _, _ => by have := dep_pos c; omega
  | n + 1, c, h, hn, ws, rest, i, d, hd, hw, hf, bg => by
    show sread_part_B (sread_part_ n) _ bg = _
    unfold sread_part_B
    have hp := dep_pos c
    let W : Dt := .lst (ws.map Dt.str)
    let t0 : Sta := ⟨[some (.dat W), some (.dat (.int (i : Nat))), some (.dat (.int (d : Nat))), none, none, none], bg⟩
    let t (z : Str) : Sta := ⟨[some (.dat W), some (.dat (.int (i : Nat))), some (.dat (.int (d : Nat))), some (.dat (.str z)), none, none], bg⟩
    have start : ∀ (z : Str) (g : DMs), wd ws i = z → kSeq (kIf (mB (m2 oGt (mVar 2) (mC s_DEEPEST))) (fun _ => none) kSkip) (kSeq (kAsg (mApp sword_ (mCons (mVar 0) (mCons (mVar 1) mNil))) (hName 3)) g) t0 = g (t z) := fun z g e => by
      rw [kifs (s := t0) (mBt (m2_eq (s1 := t0) (s2 := t0) (x := .int (d : Nat)) (y := s_DEEPEST) rfl rfl (gtD (by omega))))]
      rw [kseq (s1 := t z) (kasg (s1 := t0) (d := .str z) (by rw [mapp (s1 := t0) (ds := [W, .int (i : Nat)]) rfl (word_ok ws i bg), e]) rfl)]
    have eq_f : ∀ {z w : Str}, cpOk z = true → cpOk w = true → (z == w) = false → mB (m2 gEq (mVar 3) (mC (.str w))) (t z) = some (false, t z) := fun {z w} h1 h2 h3 => mBt (m2_eq (s1 := t z) (s2 := t z) (x := .str z) (y := .str w) rfl rfl (tag h1 h2 h3))
    have eq_t : ∀ {z w : Str}, cpOk z = true → cpOk w = true → (z == w) = true → mB (m2 gEq (mVar 3) (mC (.str w))) (t z) = some (true, t z) := fun {z w} h1 h2 h3 => mBt (m2_eq (s1 := t z) (s2 := t z) (x := .str z) (y := .str w) rfl rfl (tag h1 h2 h3))
    cases c with
    | tru =>
      obtain ⟨g1, _, _⟩ := drop_one (x := "true") (l := rest) hw
      refine fnd (s1 := t "true") ((start "true" _ (wd_some g1)).trans ?_)
      exact kifr (s1 := t "true") (s2 := t "true") (eq_t (by decide +kernel) (by decide +kernel) (by decide +kernel)) rfl
    | fnd r =>
      obtain ⟨g1, g2, _⟩ := drop_one (x := "found") (l := r :: rest) hw
      refine fnd (s1 := t "found") ((start "found" _ (wd_some g1)).trans ?_)
      rw [kifs (s := t "found") (eq_f (by decide +kernel) (by decide +kernel) (by decide +kernel))]
      exact kifr (s1 := t "found") (s2 := t "found") (eq_t (by decide +kernel) (by decide +kernel) (by decide +kernel)) (mapp (s1 := t "found") (ds := [W, .int ((i + 1 : Nat))]) rfl (found_ok h g2 bg))
    | nt c =>
      obtain ⟨g1, g2, _⟩ := drop_one (x := "not") (l := c.toks ++ rest) hw
      have e0 : (Cn.nt c).dep = c.dep + 1 := rfl
      have ih := part_ok n (c := c) h (by omega) (ws := ws) (rest := rest) (i := i + 1) (d := d + 1) (by omega) g2 hf bg
      let u : Sta := ⟨[some (.dat W), some (.dat (.int (i : Nat))), some (.dat (.int (d : Nat))), some (.dat (.str "not")), some (.dat c.d), some (.dat (.int ((i + 1 + c.toks.length : Nat))))], bg⟩
      refine fnd (s1 := u) ((start "not" _ (wd_some g1)).trans ?_)
      rw [kifs (s := t "not") (eq_f (by decide +kernel) (by decide +kernel) (by decide +kernel))]
      rw [kifs (s := t "not") (eq_f (by decide +kernel) (by decide +kernel) (by decide +kernel))]
      have el : i + (Cn.nt c).toks.length = i + 1 + c.toks.length := by show i + (c.toks.length + 1) = _; omega
      rw [el]
      unfold kSeq
      rw [kif_t (eq_t (by decide +kernel) (by decide +kernel) (by decide +kernel))]
      have e1 : kAsg (mApp (sread_part_ n) (mCons (mVar 0) (mCons (m2 gAdd (mVar 1) (mC (.int 1))) (mCons (m2 gAdd (mVar 2) (mC (.int 1))) mNil)))) (hTup 2 (hCons (hName 4) (hCons (hName 5) hNil))) (t "not") = some (.nx, u) := kasg (s1 := t "not") (mapp (s1 := t "not") (ds := [W, .int ((i + 1 : Nat)), .int ((d + 1 : Nat))]) rfl ih) rfl
      rw [e1]
      rfl
    | bin k a b =>
      have e0 : (Cn.bin k a b).dep = max a.dep b.dep + 1 := rfl
      have q1 := Nat.le_max_left a.dep b.dep
      have q2 := Nat.le_max_right a.dep b.dep
      have hw' : ws.drop i = ("(" : Str) :: (a.toks ++ (bw k :: (b.toks ++ ((")" : Str) :: rest)))) := by
        rw [hw]
        show (("(" : Str) :: (a.toks ++ (bw k :: (b.toks ++ [(")" : Str)])))) ++ rest = _
        simp
      obtain ⟨g1, g2, _⟩ := drop_one hw'
      have g3 := (drop_one (drop_app g2)).2.1
      refine fnd (s1 := t "(") ((start "(" _ (wd_some g1)).trans ?_)
      rw [kifs (s := t "(") (eq_f (by decide +kernel) (by decide +kernel) (by decide +kernel))]
      rw [kifs (s := t "(") (eq_f (by decide +kernel) (by decide +kernel) (by decide +kernel))]
      rw [kifs (s := t "(") (eq_f (by decide +kernel) (by decide +kernel) (by decide +kernel))]
      have el : i + (Cn.bin k a b).toks.length = i + 1 + a.toks.length + 1 + b.toks.length + 1 := by
        show i + (("(" : Str) :: (a.toks ++ (bw k :: (b.toks ++ [(")" : Str)])))).length = _
        simp only [List.length_cons, List.length_append, List.length_nil]
        omega
      rw [el]
      refine kifr (s1 := t "(") (s2 := t "(") (eq_t (by decide +kernel) (by decide +kernel) (by decide +kernel)) (mapp (s1 := t "(") (ds := [W, .int ((i + 1 : Nat)), .int ((d + 1 : Nat))]) rfl ?_)
      exact joined_ok (a := a) (b := b) (k := k) (fun bg => part_ok n (c := a) h.1 (by omega) (by omega) g2 (bw_fol k _) bg) (fun bg => part_ok n (c := b) h.2 (by omega) (by omega) g3 (par_fol rest) bg) g2 bg
    | cmp k v o w p =>
      have hz : wd ws i = sgText v := by
        cases o with
        | none => exact wd_some (drop_one (x := sgText v) (l := (k.sign :: valParts w p) ++ rest) hw).1
        | some m => exact wd_some (drop_one (x := sgText v) hw).1
      have cz := sgText_cp h.1
      refine fnd (s1 := t (sgText v)) ((start (sgText v) _ hz).trans ?_)
      rw [kifs (s := t (sgText v)) (eq_f cz (by decide +kernel) (ne_true h.1))]
      rw [kifs (s := t (sgText v)) (eq_f cz (by decide +kernel) (ne_found h.1))]
      rw [kifs (s := t (sgText v)) (eq_f cz (by decide +kernel) (ne_not h.1))]
      rw [kifs (s := t (sgText v)) (eq_f cz (by decide +kernel) (ne_par h.1))]
      exact kret (mapp (s1 := t (sgText v)) (ds := [W, .int (i : Nat)]) rfl (comparison_ok h hw hf bg))
theorem read_cond {c : Cn} (h : c.Ok) (hd : c.dep ≤ 6) (hl : c.text.length ≤ 100000) (bg : List Dt) : sread_condition [.str c.text] bg = some (c.d, bg) := by
  unfold sread_condition
  let W : Dt := .lst (c.toks.map Dt.str)
  let t0 : Sta := ⟨[some (.dat (.str c.text)), none, none, none], bg⟩
  let t1 : Sta := ⟨[some (.dat (.str c.text)), some (.dat W), none, none], bg⟩
  let t2 : Sta := ⟨[some (.dat (.str c.text)), some (.dat W), some (.dat c.d), some (.dat (.int (c.toks.length : Nat)))], bg⟩
  refine fnd (s1 := t2) ?_
  show kSeq _ _ t0 = _
  rw [kifs (c := mNotB (mB (mIsi isStr (mVar 0)))) (s := t0) rfl]
  obtain ⟨r1, r2⟩ := rep_len c.text
  have e1 : mRepC "(" "( " (mVar 0) t0 = some (.str (Txt.replace c.text "(" "( "), t0) := by
    show (if c.text.length + (c.text.length + 1) * ("( " : Str).length ≤ 16777216 then _ else _) = _
    have e : ("( " : Str).length = 2 := by decide +kernel
    rw [e, if_pos (by omega)]
  have e2 : mRepC ")" " )" (mRepC "(" "( " (mVar 0)) t0 = some (.str (rep2 c.text), t0) := by
    unfold mRepC at e1 ⊢
    rw [e1]
    show (if (Txt.replace c.text "(" "( ").length + ((Txt.replace c.text "(" "( ").length + 1) * (" )" : Str).length ≤ 16777216 then _ else _) = _
    have e : (" )" : Str).length = 2 := by decide +kernel
    rw [e, if_pos (by omega)]
    rfl
  have e3 : mM1 gSplit (mRepC ")" " )" (mRepC "(" "( " (mVar 0))) (mC (.str " ")) t0 = some (W, t0) := by
    refine mm1 (s1 := t0) (s2 := t0) (a := rep2 c.text) (y := .str " ") e2 rfl ?_
    show (if ((" " : Str).length == 0) = false ∧ (rep2 c.text).length + 2 ≤ sizeLine then _ else _) = _
    rw [if_pos ⟨by decide +kernel, line_big (by omega)⟩, split_text h]
  rw [kseq (s1 := t1) (kasg (s1 := t0) e3 rfl)]
  have e4 := part_ok 8 h (by omega) (ws := c.toks) (rest := []) (i := 0) (d := 1) (by omega) (by simp) (by show _ = _; decide +kernel) bg
  rw [Nat.zero_add] at e4
  rw [kseq (s1 := t2) (kasg (s1 := t1) (mapp (s1 := t1) (ds := [W, .int 0, .int 1]) rfl e4) rfl)]
  have e5 : gNe (.int (c.toks.length : Nat)) (.int ((c.toks.map Dt.str).length : Nat)) = some (.bl false) := by
    rw [List.length_map]
    show some (Dt.bl !(((c.toks.length : Nat) : Int) == (c.toks.length : Nat))) = _
    rw [beq_self_eq_true]
    rfl
  rw [kifs (s := t2) (mBt (m2_eq (s1 := t2) (s2 := t2) (x := .int (c.toks.length : Nat)) (y := .int ((c.toks.map Dt.str).length : Nat)) rfl rfl e5))]
  rfl
end DL

namespace DL
open PySem PySem.Spec PyProof.Rows L2
variable [Tabs]
open TL
/-! ### what is checked by like can be compared -/
theorem plains_all : ∀ l : List Dt, plains l = l.all plain
  | [] => rfl
  | d :: l => by show (plain d && plains l) = _; rw [plains_all l]; rfl
theorem can_all : ∀ l : List Dt, (∀ d ∈ l, PyData.canLay0 (toPy d) = true) → PyData.canLayAll0 (toPys l) = true
  | [], _ => rfl
  | d :: l, h => by
    show (PyData.canLay0 (toPy d) && PyData.canLayAll0 (toPys l)) = true
    rw [h d (List.mem_cons_self ..), can_all l fun x hx => h x (List.mem_cons_of_mem _ hx)]
    rfl
theorem depth_all {n : Nat} : ∀ l : List Dt, (∀ d ∈ l, (toPy d).depth ≤ n) → PyData.depthAll (toPys l) ≤ n
  | [], _ => Nat.zero_le _
  | d :: l, h => by
    show max (toPy d).depth (PyData.depthAll (toPys l)) ≤ n
    exact Nat.max_le.mpr ⟨h d (List.mem_cons_self ..), depth_all l fun x hx => h x (List.mem_cons_of_mem _ hx)⟩
theorem ok_eq : ∀ (n : Nat) (d : Dt), okD n d = true → plain d = true ∧ PyData.canLay0 (toPy d) = true ∧ (toPy d).depth ≤ n
  | 0, d, h => by cases d <;> cases h
  | n + 1, d, h => by
    have seq : ∀ l : List Dt, (decide (l.length ≤ 1000) && l.all (okD n)) = true → plains l = true ∧ PyData.canLayAll0 (toPys l) = true ∧ PyData.depthAll (toPys l) + 1 ≤ n + 1 := fun l h => by
      rw [Bool.and_eq_true] at h
      have h2 := List.all_eq_true.mp h.2
      refine ⟨?_, can_all l fun d hd => (ok_eq n d (h2 d hd)).2.1, Nat.succ_le_succ (depth_all l fun d hd => (ok_eq n d (h2 d hd)).2.2)⟩
      rw [plains_all]
      exact List.all_eq_true.mpr fun d hd => (ok_eq n d (h2 d hd)).1
    cases d with
    | tup l => unfold okD at h; exact seq l h
    | lst l => unfold okD at h; exact seq l h
    | bag => cases h
    | dic ks l => cases h
    | str z => unfold okD at h; exact ⟨rfl, h, Nat.zero_le _⟩
    | non => exact ⟨rfl, rfl, Nat.zero_le _⟩
    | bl b => exact ⟨rfl, rfl, Nat.zero_le _⟩
    | int i => exact ⟨rfl, rfl, Nat.zero_le _⟩
theorem eqOk_of {n : Nat} {d : Dt} (h : okD n d = true) (hn : n ≤ 64) : eqOk d = true := by
  obtain ⟨h1, h2, h3⟩ := ok_eq n d h
  unfold eqOk SeqAt.shaped
  rw [h1, h2, decide_eq_true (by omega)]
  rfl
/-! ### values and conditions that are drawn -/
def PoolOk (pool : List Sg) : Prop := (∀ v ∈ pool, v.Ok) ∧ pool ≠ [] ∧ pool.length ≤ 900
theorem pool_len {pool : List Sg} (h : PoolOk pool) : 0 < (pool.map Sg.d).length ∧ (pool.map Sg.d).length ≤ 900 := by
  rw [List.length_map]
  exact ⟨List.length_pos_iff.mpr h.2.1, h.2.2⟩
theorem gaddL {a b : List Dt} (h : a.length + b.length ≤ 1000000) : gAdd (.lst a) (.lst b) = some (.lst (a ++ b)) := by
  show (if a.length + b.length ≤ sizeLine then some (Dt.lst (a ++ b)) else none) = _
  rw [if_pos (line_big h)]
theorem some_value {pool : List Sg} (hp : PoolOk pool) {bg : List Dt} (h : BagOk bg) : ∃ (v : Sg) (o : Option Int) (bg' : List Dt), sLsome_value [.bag, .lst (pool.map Sg.d)] bg = some (vald v o, bg') ∧ v.Ok ∧ (∀ m, o = some m → Bnd m) ∧ BagOk bg' := by
  obtain ⟨l0, l1⟩ := pool_len hp
  obtain ⟨i, bg1, e1, i0, i1, hb1⟩ := near_ok h
  have hi : (Sg.number i).Ok := by show Bnd i; unfold Bnd big; omega
  obtain ⟨d, bg2, e2, hd, hb2⟩ := any_ok hb1 (rows := pool.map Sg.d ++ [(Sg.number i).d]) (by simp) (by simp only [List.length_append, List.length_singleton]; omega)
  have hv : ∃ v : Sg, d = v.d ∧ v.Ok := by
    rcases List.mem_append.mp hd with hd | hd
    · obtain ⟨v, hv, rfl⟩ := List.mem_map.mp hd
      exact ⟨v, rfl, hp.1 v hv⟩
    · rw [List.mem_singleton] at hd
      exact ⟨_, hd, hi⟩
  obtain ⟨v, rfl, hv⟩ := hv
  obtain ⟨r, bg3, e3, r0, r1, hb3⟩ := pull_ok hb2 (n := 3) (by decide) (by decide)
  let P : Dt := .lst (pool.map Sg.d)
  let s0 : Sta := ⟨[some (.dat .bag), some (.dat P), none], bg⟩
  let s1 : Sta := ⟨[some (.dat .bag), some (.dat P), some (.dat v.d)], bg2⟩
  let s2 : Sta := { s1 with bag := bg3 }
  have ea : mApp sLany (mCons (mVar 0) (mCons (m2 gAdd (mVar 1) (mLst (mCons (mTup (mCons (mC (.str "number")) (mCons (mApp sLnear (mCons (mVar 0) mNil)) mNil))) mNil))) mNil)) s0 = some (v.d, { s0 with bag := bg2 }) := by
    refine mapp (s1 := { s0 with bag := bg1 }) (ds := [.bag, .lst (pool.map Sg.d ++ [(Sg.number i).d])]) (mcons (s1 := s0) rfl (mcons (s1 := { s0 with bag := bg1 }) ?_ rfl)) e2
    refine m2_eq (s1 := s0) (s2 := { s0 with bag := bg1 }) (x := P) (y := .lst [(Sg.number i).d]) rfl ?_ (gaddL (by simp only [List.length_singleton]; omega))
    exact mlst (mcons (s1 := { s0 with bag := bg1 }) (x := (Sg.number i).d) (mtup (mcons (s1 := s0) rfl (mcons (s1 := { s0 with bag := bg1 }) (x := .int i) (mapp (s1 := s0) (ds := [.bag]) rfl e1) rfl))) rfl)
  have ep : m2 gEq (mApp sLpull (mCons (mVar 0) (mCons (mC (.int 3)) mNil))) (mC (.int 0)) s1 = some (.bl (r == 0), s2) := m2_eq (s1 := s2) (s2 := s2) (x := .int r) (y := .int 0) (mapp (s1 := s1) (ds := [.bag, .int 3]) rfl e3) rfl eqII
  unfold sLsome_value
  by_cases c : r = 0
  · obtain ⟨m, bg4, e4, m0, m1, hb4⟩ := near_ok hb3
    refine ⟨v, some m, bg4, ?_, hv, fun m' e => by cases e; unfold Bnd big; omega, hb4⟩
    refine fnd (s1 := { s1 with bag := bg4 }) ?_
    show kSeq _ _ s0 = _
    rw [kseq (s1 := s1) (kasg (s1 := { s0 with bag := bg2 }) ea rfl)]
    refine kret ?_
    rw [mif_t (s1 := s2) (mBt (by rw [ep, beq_iff_eq.mpr c]))]
    exact mtup (mcons (s1 := s2) rfl (mcons (s1 := s2) rfl (mcons (s1 := { s1 with bag := bg4 }) (mapp (s1 := s2) (ds := [.bag]) rfl e4) rfl)))
  · refine ⟨v, none, bg3, ?_, hv, (fun m' e => by cases e), hb3⟩
    refine fnd (s1 := s2) ?_
    show kSeq _ _ s0 = _
    rw [kseq (s1 := s1) (kasg (s1 := { s0 with bag := bg2 }) ea rfl)]
    refine kret ?_
    rw [mif_f (s1 := s2) (mBt (by rw [ep, beq_eq_false_iff_ne.mpr c]))]
    rfl
theorem pool_ne {pool : List Sg} (hp : PoolOk pool) : gNe (.lst (pool.map Sg.d)) (.lst []) = some (.bl true) := by
  obtain ⟨h1, h2, h3⟩ := hp
  have ok : okD 3 (.lst (pool.map Sg.d)) = true := by
    show (decide ((pool.map Sg.d).length ≤ 1000) && (pool.map Sg.d).all (okD 2)) = true
    rw [decide_eq_true (by rw [List.length_map]; omega), Bool.true_and]
    refine List.all_eq_true.mpr fun d hd => ?_
    obtain ⟨v, hv, rfl⟩ := List.mem_map.mp hd
    exact okD_d (h1 v hv) 0
  unfold gNe
  rw [eqOk_of ok (by decide), eqOk_of (d := .lst []) (n := 1) rfl (by decide)]
  cases pool with
  | nil => exact absurd rfl h2
  | cons v r => rfl
theorem some_compared {pool : List Sg} (hp : PoolOk pool) {bg : List Dt} (h : BagOk bg) : ∃ (c : Cn) (bg' : List Dt), sLsome_compared [.bag, .lst (pool.map Sg.d)] bg = some (c.d, bg') ∧ c.Ok ∧ c.dep ≤ 1 ∧ BagOk bg' := by
  obtain ⟨l0, l1⟩ := pool_len hp
  obtain ⟨d, bg1, e1, hd, hb1⟩ := any_ok h (rows := pool.map Sg.d) l0 (by omega)
  obtain ⟨v, hv, rfl⟩ := List.mem_map.mp hd
  have hv := hp.1 v hv
  obtain ⟨r, bg2, e2, r0, r1, hb2⟩ := pull_ok hb1 (n := 4) (by decide) (by decide)
  let P : Dt := .lst (pool.map Sg.d)
  let s0 : Sta := ⟨[some (.dat .bag), some (.dat P), none], bg⟩
  let s1 : Sta := ⟨[some (.dat .bag), some (.dat P), some (.dat v.d)], bg1⟩
  let s2 : Sta := { s1 with bag := bg2 }
  have ea : mIf (mB (m2 gNe (mVar 1) (mLst mNil))) (mApp sLany (mCons (mVar 0) (mCons (mVar 1) mNil))) (mTup (mCons (mC (.str "number")) (mCons (mApp sLnear (mCons (mVar 0) mNil)) mNil))) s0 = some (v.d, { s0 with bag := bg1 }) := by
    rw [mif_t (s1 := s0) (mBt (m2_eq (s1 := s0) (s2 := s0) (x := P) (y := .lst []) rfl rfl (pool_ne hp)))]
    exact mapp (s1 := s0) (ds := [.bag, P]) rfl e1
  have ep : m2 gEq (mApp sLpull (mCons (mVar 0) (mCons (mC (.int 4)) mNil))) (mC (.int 0)) s1 = some (.bl (r == 0), s2) := m2_eq (s1 := s2) (s2 := s2) (x := .int r) (y := .int 0) (mapp (s1 := s1) (ds := [.bag, .int 4]) rfl e2) rfl eqII
  have rest : ∀ (o : Option Int) (bg3 : List Dt), (∀ m, o = some m → Bnd m) → BagOk bg3 → ∃ (c : Cn) (s' : Sta), kRet (mTup (mCons (mApp sLany (mCons (mVar 0) (mCons (mLst (mCons (mC (.str "atmost")) (mCons (mC (.str "below")) (mCons (mC (.str "below")) (mCons (mC (.str "same")) mNil))))) mNil))) (mCons (mVar 2) (mCons (mApp sLsome_value (mCons (mVar 0) (mCons (mVar 1) mNil))) mNil)))) ⟨[some (.dat .bag), some (.dat P), some (.dat (vald v o))], bg3⟩ = some (.rt c.d, s') ∧ c.Ok ∧ c.dep ≤ 1 ∧ BagOk s'.bag := fun o bg3 ho hb3 => by
    obtain ⟨z, bg4, e4, hz, hb4⟩ := any_ok hb3 (rows := [.str "atmost", .str "below", .str "below", .str "same"]) (by simp) (by simp)
    obtain ⟨w, p, bg5, e5, hw, hpm, hb5⟩ := some_value hp hb4
    have hk : ∃ k : Cp, z = .str k.form := by
      simp only [List.mem_cons, List.not_mem_nil, or_false] at hz
      rcases hz with rfl | rfl | rfl | rfl
      · exact ⟨.le, rfl⟩
      · exact ⟨.lt, rfl⟩
      · exact ⟨.lt, rfl⟩
      · exact ⟨.eq, rfl⟩
    obtain ⟨k, rfl⟩ := hk
    let t : Sta := ⟨[some (.dat .bag), some (.dat P), some (.dat (vald v o))], bg3⟩
    refine ⟨.cmp k v o w p, { t with bag := bg5 }, kret ?_, ⟨hv, ho, hw, hpm⟩, Nat.le_refl _, hb5⟩
    exact mtup (mcons (s1 := { t with bag := bg4 }) (mapp (s1 := t) (ds := [.bag, .lst [.str "atmost", .str "below", .str "below", .str "same"]]) rfl e4) (mcons (s1 := { t with bag := bg4 }) rfl (mcons (s1 := { t with bag := bg5 }) (mapp (s1 := { t with bag := bg4 }) (ds := [.bag, P]) rfl e5) rfl)))
  unfold sLsome_compared
  by_cases c : r = 0
  · obtain ⟨m, bg3, e3, m0, m1, hb3⟩ := near_ok hb2
    obtain ⟨cn, s', e4, h1, h2, h3⟩ := rest (some m) bg3 (fun m' e => by cases e; unfold Bnd big; omega) hb3
    refine ⟨cn, s'.bag, fnd (s1 := s') ?_, h1, h2, h3⟩
    show kSeq _ _ s0 = _
    rw [kseq (s1 := s1) (kasg (s1 := { s0 with bag := bg1 }) ea rfl)]
    rw [kseq (s1 := ⟨[some (.dat .bag), some (.dat P), some (.dat (vald v (some m)))], bg3⟩)]
    · exact e4
    · rw [kif_t (s1 := s2) (mBt (by rw [ep, beq_iff_eq.mpr c]))]
      exact kasg (s1 := { s1 with bag := bg3 }) (mtup (mcons (s1 := s2) rfl (mcons (s1 := s2) rfl (mcons (s1 := { s1 with bag := bg3 }) (mapp (s1 := s2) (ds := [.bag]) rfl e3) rfl)))) rfl
  · obtain ⟨cn, s', e4, h1, h2, h3⟩ := rest none bg2 (fun m' e => by cases e) hb2
    refine ⟨cn, s'.bag, fnd (s1 := s') ?_, h1, h2, h3⟩
    show kSeq _ _ s0 = _
    rw [kseq (s1 := s1) (kasg (s1 := { s0 with bag := bg1 }) ea rfl)]
    rw [kseq (s1 := s2)]
    · exact e4
    · rw [kif_f (s1 := s2) (mBt (by rw [ep, beq_eq_false_iff_ne.mpr c]))]
      rfl
theorem oltI {a b : Int} : oLt (.int a) (.int b) = some (.bl (decide (a < b))) := rfl
theorem ogtI {a b : Int} : oGt (.int a) (.int b) = some (.bl (decide (b < a))) := rfl
theorem sub1 (e : Nat) : gSub0 (.int ((e + 1 : Nat))) (.int 1) = some (.int (e : Nat)) := by
  show some (Dt.int (((e + 1 : Nat) : Int) - 1)) = _
  congr 2
  omega
theorem some_condition {pool : List Sg} (hp : PoolOk pool) : ∀ (n deep : Nat), deep < n → ∀ {bg : List Dt}, BagOk bg → ∃ (c : Cn) (bg' : List Dt), sLsome_condition n [.bag, .lst (pool.map Sg.d), .int (deep : Nat)] bg = some (c.d, bg') ∧ c.Ok ∧ c.dep ≤ deep + 1 ∧ BagOk bg'
  | 0, deep, h, _, _ => absurd h (Nat.not_lt_zero _)
  | n + 1, deep, hn, bg, hb => by
    let P : Dt := .lst (pool.map Sg.d)
    let s0 : Sta := ⟨[some (.dat .bag), some (.dat P), some (.dat (.int (deep : Nat))), none, none], bg⟩
    let st (r : Int) (x : Option Slo) (b : List Dt) : Sta := ⟨[some (.dat .bag), some (.dat P), some (.dat (.int (deep : Nat))), some (.dat (.int r)), x], b⟩
    have way : ∃ (r : Int) (bg1 : List Dt), mIf (mB (m2 oGt (mVar 2) (mC (.int 0)))) (mApp sLpull (mCons (mVar 0) (mCons (mC (.int 7)) mNil))) (mApp sLpull (mCons (mVar 0) (mCons (mC (.int 3)) mNil))) s0 = some (.int r, { s0 with bag := bg1 }) ∧ 0 ≤ r ∧ (4 ≤ r → 0 < deep) ∧ BagOk bg1 := by
      have eg : m2 oGt (mVar 2) (mC (.int 0)) s0 = some (.bl (decide ((0 : Int) < (deep : Nat))), s0) := m2_eq (s1 := s0) (s2 := s0) (x := .int (deep : Nat)) (y := .int 0) rfl rfl ogtI
      by_cases c : 0 < deep
      · obtain ⟨r, bg1, e1, r0, r1, hb1⟩ := pull_ok hb (n := 7) (by decide) (by decide)
        refine ⟨r, bg1, ?_, r0, fun _ => c, hb1⟩
        rw [mif_t (s1 := s0) (mBt (by rw [eg, decide_eq_true (by omega)]))]
        exact mapp (s1 := s0) (ds := [.bag, .int 7]) rfl e1
      · obtain ⟨r, bg1, e1, r0, r1, hb1⟩ := pull_ok hb (n := 3) (by decide) (by decide)
        refine ⟨r, bg1, ?_, r0, fun h => by omega, hb1⟩
        rw [mif_f (s1 := s0) (mBt (by rw [eg, decide_eq_false (by omega)]))]
        exact mapp (s1 := s0) (ds := [.bag, .int 3]) rfl e1
    obtain ⟨r, bg1, e1, r0, r4, hb1⟩ := way
    let t : Sta := st r none bg1
    have elt : ∀ k : Int, mB (m2 oLt (mVar 3) (mC (.int k))) t = some (decide (r < k), t) := fun k => mBt (m2_eq (s1 := t) (s2 := t) (x := .int r) (y := .int k) rfl rfl oltI)
    have eeq : ∀ k : Int, mB (m2 gEq (mVar 3) (mC (.int k))) t = some (r == k, t) := fun k => mBt (m2_eq (s1 := t) (s2 := t) (x := .int r) (y := .int k) rfl rfl eqII)
    show ∃ (c : Cn) (bg' : List Dt), sLsome_conditionB (sLsome_condition n) [.bag, P, .int (deep : Nat)] bg = some (c.d, bg') ∧ _
    unfold sLsome_conditionB
    by_cases c1 : r < 1
    · refine ⟨.tru, bg1, fnd (s1 := t) ?_, trivial, by simp [Cn.dep], hb1⟩
      show kSeq _ _ s0 = _
      rw [kseq (s1 := t) (kasg (s1 := { s0 with bag := bg1 }) e1 rfl)]
      exact kifr (s1 := t) (s2 := t) (by rw [elt, decide_eq_true c1]) rfl
    · by_cases c2 : r < 4
      · obtain ⟨c, bg2, e2, h1, h2, hb2⟩ := some_compared hp hb1
        refine ⟨c, bg2, fnd (s1 := { t with bag := bg2 }) ?_, h1, by omega, hb2⟩
        show kSeq _ _ s0 = _
        rw [kseq (s1 := t) (kasg (s1 := { s0 with bag := bg1 }) e1 rfl)]
        rw [kifs (s := t) (by rw [elt, decide_eq_false c1])]
        exact kifr (s1 := t) (s2 := { t with bag := bg2 }) (by rw [elt, decide_eq_true c2]) (mapp (s1 := t) (ds := [.bag, P]) rfl e2)
      · obtain ⟨e, rfl⟩ : ∃ e, deep = e + 1 := ⟨deep - 1, by have := r4 (by omega); omega⟩
        obtain ⟨a, bg2, e2, a1, a2, hb2⟩ := some_condition hp n e (by omega) hb1
        by_cases c3 : r = 4
        · refine ⟨.nt a, bg2, fnd (s1 := { t with bag := bg2 }) ?_, a1, by show a.dep + 1 ≤ _; omega, hb2⟩
          show kSeq _ _ s0 = _
          rw [kseq (s1 := t) (kasg (s1 := { s0 with bag := bg1 }) e1 rfl)]
          rw [kifs (s := t) (by rw [elt, decide_eq_false c1]), kifs (s := t) (by rw [elt, decide_eq_false c2])]
          refine kifr (s1 := t) (s2 := { t with bag := bg2 }) (by rw [eeq, beq_iff_eq.mpr c3]) ?_
          exact mtup (mcons (s1 := t) rfl (mcons (s1 := { t with bag := bg2 }) (mapp (s1 := t) (ds := [.bag, P, .int (e : Nat)]) (mcons (s1 := t) rfl (mcons (s1 := t) rfl (mcons (s1 := t) (m2_eq (s1 := t) (s2 := t) (x := .int ((e + 1 : Nat))) (y := .int 1) rfl rfl (sub1 e)) rfl))) e2) rfl))
        · obtain ⟨b, bg3, e3, b1, b2, hb3⟩ := some_condition hp n e (by omega) hb2
          let k : Bool := r == 5
          let u : Sta := st r (some (.dat (.str (bw k)))) bg1
          refine ⟨.bin k a b, bg3, fnd (s1 := { u with bag := bg3 }) ?_, ⟨a1, b1⟩, by show max a.dep b.dep + 1 ≤ _; have := Nat.max_le.mpr ⟨a2, b2⟩; omega, hb3⟩
          show kSeq _ _ s0 = _
          rw [kseq (s1 := t) (kasg (s1 := { s0 with bag := bg1 }) e1 rfl)]
          rw [kifs (s := t) (by rw [elt, decide_eq_false c1]), kifs (s := t) (by rw [elt, decide_eq_false c2]), kifs (s := t) (by rw [eeq, beq_eq_false_iff_ne.mpr c3])]
          have ek : mIf (mB (m2 gEq (mVar 3) (mC (.int 5)))) (mC (.str "and")) (mC (.str "or")) t = some (.str (bw k), t) := by
            by_cases c5 : r = 5
            · rw [mif_t (s1 := t) (by rw [eeq, beq_iff_eq.mpr c5])]
              have : k = true := beq_iff_eq.mpr c5
              rw [this]
              rfl
            · rw [mif_f (s1 := t) (by rw [eeq, beq_eq_false_iff_ne.mpr c5])]
              have : k = false := beq_eq_false_iff_ne.mpr c5
              rw [this]
              rfl
          rw [kseq (s1 := u) (kasg (s1 := t) ek rfl)]
          refine kret (mtup (mcons (s1 := u) rfl (mcons (s1 := { u with bag := bg2 }) ?_ (mcons (s1 := { u with bag := bg3 }) ?_ rfl))))
          · exact mapp (s1 := u) (ds := [.bag, P, .int (e : Nat)]) (mcons (s1 := u) rfl (mcons (s1 := u) rfl (mcons (s1 := u) (m2_eq (s1 := u) (s2 := u) (x := .int ((e + 1 : Nat))) (y := .int 1) rfl rfl (sub1 e)) rfl))) e2
          · exact mapp (s1 := { u with bag := bg2 }) (ds := [.bag, P, .int (e : Nat)]) (mcons (s1 := { u with bag := bg2 }) rfl (mcons (s1 := { u with bag := bg2 }) rfl (mcons (s1 := { u with bag := bg2 }) (m2_eq (s1 := { u with bag := bg2 }) (s2 := { u with bag := bg2 }) (x := .int ((e + 1 : Nat))) (y := .int 1) rfl rfl (sub1 e)) rfl))) e3
theorem loop_count {h : Dt → Sta → Option Sta} {b : DMs} (I : Nat → Sta → Prop) (hs : ∀ k d s, I k s → ∃ s1 s2, h d s = some s1 ∧ b s1 = some (.nx, s2) ∧ I (k + 1) s2) : ∀ (l : List Dt) (k : Nat) (s : Sta), I k s → ∃ s', loopD h b l s = some (.nx, s') ∧ I (k + l.length) s'
  | [], k, s, hi => ⟨s, rfl, hi⟩
  | d :: l, k, s, hi => by
    obtain ⟨s1, s2, e1, e2, i2⟩ := hs k d s hi
    obtain ⟨s', e3, i3⟩ := loop_count I hs l (k + 1) s2 i2
    refine ⟨s', ?_, by rw [List.length_cons]; rw [show k + (l.length + 1) = k + 1 + l.length by omega]; exact i3⟩
    unfold loopD
    rw [e1, Option.bind_some, e2]
    exact e3
end DL

namespace DL
open PySem PySem.Spec PyProof.Rows L2
variable [Tabs]
open TL
/-! ### any text read as a value -/
theorem tl_cut (z : Str) (lo hi : Option Int) : tl (cutS z lo hi) = ((tl z).drop (HT.sIx z.length 0 lo)).take (HT.sIx z.length z.length hi - HT.sIx z.length 0 lo) := rfl
theorem tl_from (z : Str) {i : Nat} : tl (cutS z (some (i : Nat)) none) = (tl z).drop i := by
  rw [tl_cut, HT.sIx_nat, HT.sIx_none, List.take_of_length_le (by rw [List.length_drop, len_tl]; omega), len_tl]
  by_cases h : i ≤ (tl z).length
  · rw [show min i (tl z).length = i by omega]
  · rw [show min i (tl z).length = (tl z).length by omega, List.drop_eq_nil_of_le (by omega), List.drop_eq_nil_of_le (by omega)]
theorem tl_to (z : Str) {i : Nat} : tl (cutS z none (some (i : Nat))) = (tl z).take i := by
  rw [tl_cut, HT.sIx_nat, HT.sIx_none, len_tl]
  by_cases h : i ≤ (tl z).length
  · rw [show min i (tl z).length - 0 = i by omega]; rfl
  · rw [show min i (tl z).length - 0 = (tl z).length by omega, List.take_of_length_le (by show (tl z).length ≤ _; omega), List.take_of_length_le (by omega)]; rfl
theorem cp_mem {z : Str} (h : cpOk z = true) {c : Nat} (hc : c ∈ tl z) : c < 1114112 := by
  unfold cpOk at h
  rw [← Array.all_toList, List.all_eq_true] at h
  exact of_decide_eq_true (h c hc)
theorem cp_sub {z y : Str} (h : cpOk z = true) (hs : ∀ c ∈ tl y, c ∈ tl z) : cpOk y = true := cp_tl fun c hc => cp_mem h (hs c hc)
theorem dv_lt : ∀ (l : List Nat) (a : Nat), NumText.AllDigits l → l.foldl (fun acc c => acc * 10 + (c - 48)) a < (a + 1) * 10 ^ l.length
  | [], a, _ => by simp
  | c :: r, a, h => by
    have hc := h.head
    have ih := dv_lt r (a * 10 + (c - 48)) h.tail
    rw [List.foldl_cons, List.length_cons, Nat.pow_succ]
    refine Nat.lt_of_lt_of_le ih ?_
    rw [show (a + 1) * (10 ^ r.length * 10) = ((a + 1) * 10) * 10 ^ r.length by rw [Nat.mul_comm (10 ^ r.length) 10, Nat.mul_assoc]]
    exact Nat.mul_le_mul_right _ (by omega)
theorem in_p : (!(("+" : Str) == "+" || (("-" : Str) == "+" || false))) = false := by decide +kernel
theorem in_m : (!(("+" : Str) == "-" || (("-" : Str) == "-" || false))) = false := by decide +kernel
theorem read_signed_any {sg w : Str} (hg : cpOk sg = true) (hw : cpOk w = true) (hl : w.length ≤ 100000) (bg : List Dt) :
    ∃ r, sread_signed_ [.str sg, .str w] bg = some (r, bg) ∧ (r = .non ∨ ∃ n : Nat, w = itxt (n : Nat) ∧ n < 10 ^ 31 ∧ (sg = "+" ∧ r = .int (n : Nat) ∨ sg = "-" ∧ 0 < n ∧ r = .int (-((n : Nat) : Int)))) := by
  let s0 : Sta := ⟨[some (.dat (.str sg)), some (.dat (.str w)), none, none], bg⟩
  have elen : mCall gLen (mCons (mVar 1) mNil) s0 = some (.int (w.length : Nat), s0) := mcall (s1 := s0) (l := [.str w]) rfl (glen_str (Nat.le_trans hl (by decide)))
  have ech : mChain oLe oLe (mC (.int 1)) (mCall gLen (mCons (mVar 1) mNil)) (mC s_MOST_DIGITS) s0 = some (.bl (decide (1 ≤ w.length) && decide (w.length ≤ 31)), s0) := by
    by_cases h1 : 1 ≤ w.length
    · rw [decide_eq_true h1, Bool.true_and]
      refine mchain_t (s1 := s0) (s2 := s0) (s3 := s0) (x := .int 1) (y := .int (w.length : Nat)) (z := .int 31) rfl elen (by show some (Dt.bl (decide ((1 : Int) ≤ (w.length : Nat)))) = _; rw [decide_eq_true (by omega)]) rfl ?_
      show some (Dt.bl (decide (((w.length : Nat) : Int) ≤ 31))) = _
      congr 2
      exact decide_eq_decide.mpr (by omega)
    · rw [decide_eq_false h1, Bool.false_and]
      exact mchain_f (s1 := s0) (s2 := s0) (x := .int 1) (y := .int (w.length : Nat)) rfl elen (by show some (Dt.bl (decide ((1 : Int) ≤ (w.length : Nat)))) = _; rw [decide_eq_false (by omega)])
  have ecomp : mComp [3] (wStr (mVar 1)) (hName 3) mYes (mNotV (mChain oLe oLe (mC (.str "0")) (mVar 3) (mC (.str "9")))) s0 = some (.lst ((w.cps.toList.map fun c => Dt.str ⟨#[c]⟩).map fun d => .bl (!(digB d))), s0) := by
    refine mcomp (s1 := s0) (l := w.cps.toList.map fun c => Dt.str ⟨#[c]⟩) rfl (by rw [List.length_map]; simpa [Str.length] using hl) (comp_map (fun d => .bl (!(digB d))) _ fun d hd => ?_)
    obtain ⟨c, hc, rfl⟩ := List.mem_map.mp hd
    let s' : Sta := ⟨[some (.dat (.str sg)), some (.dat (.str w)), none, some (.dat (.str ⟨#[c]⟩))], bg⟩
    refine ⟨s', s', s', rfl, rfl, mNotV_eq ?_, rfl⟩
    by_cases h : strLt ⟨#[c]⟩ "0" = true
    · have e1 : digB (.str ⟨#[c]⟩) = false := by show (!strLt ⟨#[c]⟩ "0" && !strLt "9" ⟨#[c]⟩) = _; rw [h]; rfl
      rw [e1]
      exact mchain_f (s1 := s') (s2 := s') (x := .str "0") (y := .str ⟨#[c]⟩) rfl rfl (by show some (Dt.bl !(strLt ⟨#[c]⟩ "0")) = _; rw [h]; rfl)
    · rw [Bool.not_eq_true] at h
      have e1 : digB (.str ⟨#[c]⟩) = !(strLt "9" ⟨#[c]⟩) := by show (!strLt ⟨#[c]⟩ "0" && !strLt "9" ⟨#[c]⟩) = _; rw [h]; rfl
      rw [e1]
      exact mchain_t (s1 := s') (s2 := s') (s3 := s') (x := .str "0") (y := .str ⟨#[c]⟩) (z := .str "9") rfl rfl (by show some (Dt.bl !(strLt ⟨#[c]⟩ "0")) = _; rw [h]; rfl) rfl rfl
  let nd : Bool := w.cps.toList.any ((fun d => !(digB d)) ∘ fun c => Dt.str ⟨#[c]⟩)
  have eany : mCall gAny (mCons (mComp [3] (wStr (mVar 1)) (hName 3) mYes (mNotV (mChain oLe oLe (mC (.str "0")) (mVar 3) (mC (.str "9"))))) mNil) s0 = some (.bl nd, s0) := by
    refine mcall (mcons ecomp rfl) ?_
    rw [gany_map, List.any_map]
  have non_of : mOrB (mNotB (mB (mChain oLe oLe (mC (.int 1)) (mCall gLen (mCons (mVar 1) mNil)) (mC s_MOST_DIGITS)))) (mB (mCall gAny (mCons (mComp [3] (wStr (mVar 1)) (hName 3) mYes (mNotV (mChain oLe oLe (mC (.str "0")) (mVar 3) (mC (.str "9"))))) mNil))) s0 = some (true, s0) → sread_signed_ [.str sg, .str w] bg = some (.non, bg) := fun h => by
    unfold sread_signed_
    refine fnd (s1 := s0) ?_
    show kSeq _ _ s0 = _
    exact kifr h rfl
  by_cases hb : (decide (1 ≤ w.length) && decide (w.length ≤ 31)) = true
  · by_cases hn : nd = true
    · refine ⟨.non, non_of ?_, .inl rfl⟩
      rw [or_f (mNotB_eq (b := true) (mBt (by rw [ech, hb])))]
      exact mBt (by rw [eany, hn])
    · rw [Bool.not_eq_true] at hn
      rw [Bool.and_eq_true, decide_eq_true_eq, decide_eq_true_eq] at hb
      have ec1 : mOrB (mNotB (mB (mChain oLe oLe (mC (.int 1)) (mCall gLen (mCons (mVar 1) mNil)) (mC s_MOST_DIGITS)))) (mB (mCall gAny (mCons (mComp [3] (wStr (mVar 1)) (hName 3) mYes (mNotV (mChain oLe oLe (mC (.str "0")) (mVar 3) (mC (.str "9"))))) mNil))) s0 = some (false, s0) := by
        rw [or_f (mNotB_eq (b := true) (mBt (by rw [ech, decide_eq_true hb.1, decide_eq_true hb.2]; rfl)))]
        exact mBt (by rw [eany, hn])
      have ad : NumText.AllDigits (tl w) := fun c hc => by
        have := List.any_eq_false.mp hn c hc
        have h2 : (!(digB (.str ⟨#[c]⟩))) = false := by simpa using this
        rw [digB_c, Bool.not_eq_false', Bool.and_eq_true, decide_eq_true_eq, decide_eq_true_eq] at h2
        exact h2
      have hne : tl w ≠ [] := fun e => by have := len_tl w; rw [e] at this; simp at this; omega
      let k : Nat := NumText.digitsVal (tl w)
      have ek : PySem.intText? w = some ((k : Nat) : Int) := PySem.intText_digits ad hne (by omega)
      have hk : k < 10 ^ 31 := by
        have h1 := dv_lt (tl w) 0 ad
        have h2 : (10 : Nat) ^ (tl w).length ≤ 10 ^ 31 := Nat.pow_le_pow_right (by decide) (by rw [← len_tl]; exact hb.2)
        show List.foldl _ 0 _ < _
        omega
      have lk : ((k : Nat) : Int).natAbs.log2 < 1920 := by
        rw [Int.natAbs_natCast]
        by_cases h0 : k = 0
        · rw [h0]; decide
        · rw [Nat.log2_lt h0]; exact Nat.lt_of_lt_of_le hk (by decide)
      let s1 : Sta := ⟨[some (.dat (.str sg)), some (.dat (.str w)), some (.dat (.int (k : Nat))), none], bg⟩
      have eint : mCall gIntS (mCons (mVar 1) mNil) s0 = some (.int (k : Nat), s0) := by
        refine mcall (s1 := s0) (l := [.str w]) rfl ?_
        show (if w.length ≤ 640 then (PySem.intText? w).bind fun n => some (Dt.int n) else none) = _
        rw [if_pos (by omega), ek]
        rfl
      have estr : mCall gStr (mCons (mVar 2) mNil) s1 = some (.str (itxt (k : Nat)), s1) := by
        refine mcall (s1 := s1) (l := [.int (k : Nat)]) rfl ?_
        show (if ((k : Nat) : Int).natAbs.log2 < 1920 then some (Dt.str (toString ((k : Nat) : Int))) else none) = _
        rw [if_pos lk]
      have start : ∀ g : DMs, kSeq (kIf (mOrB (mNotB (mB (mChain oLe oLe (mC (.int 1)) (mCall gLen (mCons (mVar 1) mNil)) (mC s_MOST_DIGITS)))) (mB (mCall gAny (mCons (mComp [3] (wStr (mVar 1)) (hName 3) mYes (mNotV (mChain oLe oLe (mC (.str "0")) (mVar 3) (mC (.str "9"))))) mNil)))) (kRet (mC .non)) kSkip) (kSeq (kAsg (mCall gIntS (mCons (mVar 1) mNil)) (hName 2)) g) s0 = g s1 := fun g => by
        rw [kifs ec1, kseq (s1 := s1) (kasg eint rfl)]
      have c1 : mB (m2 gNe (mCall gStr (mCons (mVar 2) mNil)) (mVar 1)) s1 = some (!(itxt (k : Nat) == w), s1) := mBt (m2_eq (s1 := s1) (s2 := s1) (x := .str (itxt (k : Nat))) (y := .str w) estr rfl (tagN (itxt_cp _) hw rfl))
      have c2 : mB (m2 gNin (mVar 0) (mTup (mCons (mC (.str "+")) (mCons (mC (.str "-")) mNil)))) s1 = some (!(("+" : Str) == sg || (("-" : Str) == sg || false)), s1) := mBt (m2_eq (s1 := s1) (s2 := s1) (x := .str sg) (y := .tup [.str "+", .str "-"]) rfl rfl (ginN rfl))
      have c3 : mB (m2 gEq (mVar 0) (mC (.str "-"))) s1 = some (sg == "-", s1) := mBt (m2_eq (s1 := s1) (s2 := s1) (x := .str sg) (y := .str "-") rfl rfl (tag hg (by decide +kernel) rfl))
      have c4 : mB (m2 gEq (mVar 2) (mC (.int 0))) s1 = some (((k : Nat) : Int) == 0, s1) := mBt (m2_eq (s1 := s1) (s2 := s1) (x := .int (k : Nat)) (y := .int 0) rfl rfl eqII)
      let c : DM Bool := mOrB (mB (m2 gNe (mCall gStr (mCons (mVar 2) mNil)) (mVar 1))) (mOrB (mB (m2 gNin (mVar 0) (mTup (mCons (mC (.str "+")) (mCons (mC (.str "-")) mNil))))) (mAndB (mB (m2 gEq (mVar 0) (mC (.str "-")))) (mB (m2 gEq (mVar 2) (mC (.int 0))))))
      have no : c s1 = some (true, s1) → sread_signed_ [.str sg, .str w] bg = some (.non, bg) := fun h => by
        unfold sread_signed_
        refine fnd (s1 := s1) ?_
        show kSeq _ _ s0 = _
        rw [start]
        exact kifr h rfl
      have yes : ∀ neg : Bool, (sg == "-") = neg → c s1 = some (false, s1) → sread_signed_ [.str sg, .str w] bg = some (.int (if neg = true then -((k : Nat) : Int) else (k : Nat)), bg) := fun neg hneg h => by
        unfold sread_signed_
        refine fnd (s1 := s1) ?_
        show kSeq _ _ s0 = _
        rw [start, kifs h]
        refine kret ?_
        unfold mIf
        rw [c3, hneg]
        cases neg <;> rfl
      by_cases e1 : (itxt (k : Nat) == w) = true
      · have ew : w = itxt (k : Nat) := (beq_iff_eq.mp e1).symm
        by_cases e2 : sg = "+"
        · have n1 : (sg == "-") = false := by rw [e2]; decide +kernel
          refine ⟨.int (k : Nat), yes false n1 ?_, .inr ⟨k, ew, hk, .inl ⟨e2, rfl⟩⟩⟩
          show mOrB _ _ s1 = _
          rw [or_f (s1 := s1) (by rw [c1, e1]; rfl), or_f (s1 := s1) (by rw [c2, e2, in_p])]
          exact and_f (by rw [c3, n1])
        · by_cases e3 : sg = "-"
          · have n1 : (sg == "-") = true := by rw [e3]; decide +kernel
            by_cases e4 : k = 0
            · refine ⟨.non, no ?_, .inl rfl⟩
              show mOrB _ _ s1 = _
              rw [or_f (s1 := s1) (by rw [c1, e1]; rfl), or_f (s1 := s1) (by rw [c2, e3, in_m]), and_t (s1 := s1) (by rw [c3, n1]), c4, e4]
              rfl
            · refine ⟨.int (-((k : Nat) : Int)), yes true n1 ?_, .inr ⟨k, ew, hk, .inr ⟨e3, by omega, rfl⟩⟩⟩
              show mOrB _ _ s1 = _
              rw [or_f (s1 := s1) (by rw [c1, e1]; rfl), or_f (s1 := s1) (by rw [c2, e3, in_m]), and_t (s1 := s1) (by rw [c3, n1]), c4, beq_eq_false_iff_ne.mpr (by omega)]
          · refine ⟨.non, no ?_, .inl rfl⟩
            show mOrB _ _ s1 = _
            have f1 : (("+" : Str) == sg) = false := beq_eq_false_iff_ne.mpr fun e => e2 e.symm
            have f2 : (("-" : Str) == sg) = false := beq_eq_false_iff_ne.mpr fun e => e3 e.symm
            rw [or_f (s1 := s1) (by rw [c1, e1]; rfl)]
            exact or_t (by rw [c2, f1, f2]; rfl)
      · rw [Bool.not_eq_true] at e1
        exact ⟨.non, no (or_t (by rw [c1, e1]; rfl)), .inl rfl⟩
  · rw [Bool.not_eq_true] at hb
    refine ⟨.non, non_of (or_t (mNotB_eq (b := false) (mBt ?_))), .inl rfl⟩
    rw [ech, hb]
def colB (c : Str) : Bool := (c == "key") || nameB c
theorem colB_iff {c : Str} : colB c = true ↔ ColOk c := by
  unfold colB ColOk
  rw [Bool.or_eq_true, beq_iff_eq, nameB_iff]
theorem is_column_str {z : Str} (hz : cpOk z = true) (hl : z.length ≤ 100000) (bg : List Dt) : sis_column [.str z] bg = some (.bl (colB z), bg) := by
  let s : Sta := ⟨[some (.dat (.str z))], bg⟩
  unfold sis_column
  refine fnd (s1 := s) (kret ?_)
  have e : m2 gEq (mVar 0) (mC (.str "key")) s = some (.bl (z == "key"), s) := m2_eq (s1 := s) (s2 := s) (x := .str z) (y := .str "key") rfl rfl (tag hz (by decide +kernel) rfl)
  unfold colB
  cases h : z == "key" with
  | true => rw [h] at e; exact orV_t e
  | false =>
    rw [h] at e
    show mOrV _ _ s = _
    rw [orV_f e]
    exact mapp (s1 := s) (ds := [.str z]) rfl (is_name_str z bg hl)
def bndB (i : Int) : Bool := decide (-big ≤ i) && decide (i ≤ big)
theorem bndB_iff {i : Int} : bndB i = true ↔ Bnd i := by
  unfold bndB Bnd
  rw [Bool.and_eq_true, decide_eq_true_eq, decide_eq_true_eq]
theorem is_bounded_int (i : Int) (bg : List Dt) : sis_bounded_ [.int i] bg = some (.bl (bndB i), bg) := by
  let s : Sta := ⟨[some (.dat (.int i))], bg⟩
  unfold sis_bounded_
  refine fnd (s1 := s) (kret ?_)
  rw [andV_t (s1 := s) (mapp (s1 := s) (ds := [.int i]) rfl (bg := bg) (d := .bl true) rfl)]
  unfold bndB
  by_cases h : -big ≤ i
  · rw [decide_eq_true h, Bool.true_and]
    exact mchain_t (s1 := s) (s2 := s) (s3 := s) (x := .int (-big)) (y := .int i) (z := .int big) rfl rfl (by show some (Dt.bl (decide (-big ≤ i))) = _; rw [decide_eq_true h]) rfl rfl
  · rw [decide_eq_false h, Bool.false_and]
    exact mchain_f (s1 := s) (s2 := s) (x := .int (-big)) (y := .int i) rfl rfl (by show some (Dt.bl (decide (-big ≤ i))) = _; rw [decide_eq_false h])
theorem is_bounded_non (bg : List Dt) : sis_bounded_ [.non] bg = some (.bl false, bg) := rfl
theorem single2B {a : Str} {b : Dt} {bg : List Dt} {r : Bool} (ha : cpOk a = true) {k : Nat} (hk : k = 0 ∧ (a == "number") = true ∧ sis_bounded_ [b] bg = some (.bl r, bg) ∨ k = 1 ∧ (a == "number") = false ∧ (a == "name") = true ∧ sis_name [b] bg = some (.bl r, bg) ∨
    k = 2 ∧ (a == "number") = false ∧ (a == "name") = false ∧ gIn (.str a) (.tup [.str "own", .str "next"]) = some (.bl true) ∧ sis_column [b] bg = some (.bl r, bg)) : sis_single_ [.tup [.str a, b]] bg = some (.bl r, bg) := by
  let s : Sta := ⟨[some (.dat (.tup [.str a, b])), some (.dat (.str a)), some (.dat b)], bg⟩
  let s0 : Sta := ⟨[some (.dat (.tup [.str a, b])), none, none], bg⟩
  unfold sis_single_
  refine fnd (s1 := s) ?_
  show kSeq _ _ s0 = _
  rw [kseq (s1 := s0) rfl, kseq (s1 := s0) rfl, kseq (s1 := s0) rfl, kseq (s1 := s) rfl]
  have t1 : ∀ r, (a == "number") = r → mB (m2 gEq (mVar 1) (mC (.str "number"))) s = some (r, s) := fun r h => mBt (m2_eq (s1 := s) (s2 := s) (x := .str a) (y := .str "number") rfl rfl (tag ha (by decide +kernel) h))
  have t2 : ∀ r, (a == "name") = r → mB (m2 gEq (mVar 1) (mC (.str "name"))) s = some (r, s) := fun r h => mBt (m2_eq (s1 := s) (s2 := s) (x := .str a) (y := .str "name") rfl rfl (tag ha (by decide +kernel) h))
  rcases hk with ⟨_, h1, h2⟩ | ⟨_, h1, h2, h3⟩ | ⟨_, h1, h2, h3, h4⟩
  · exact kifr (t1 _ h1) (mapp (s1 := s) (ds := [b]) rfl h2)
  · rw [kifs (t1 _ h1)]
    exact kifr (t2 _ h2) (mapp (s1 := s) (ds := [b]) rfl h3)
  · rw [kifs (t1 _ h1), kifs (t2 _ h2)]
    refine kret ?_
    rw [andV_t (s1 := s) (m2_eq (s1 := s) (s2 := s) (x := .str a) (y := .tup [.str "own", .str "next"]) rfl rfl h3)]
    exact mapp (s1 := s) (ds := [b]) rfl h4
theorem single3B {n c : Str} (hn : n.length ≤ 100000) (hc : cpOk c = true) (hl : c.length ≤ 100000) (bg : List Dt) : sis_single_ [.tup [.str "field", .str n, .str c]] bg = some (.bl (nameB n && colB c), bg) := by
  let s : Sta := ⟨[some (.dat (.tup [.str "field", .str n, .str c])), none, none], bg⟩
  unfold sis_single_
  refine fnd (s1 := s) ?_
  show kSeq _ _ s = _
  rw [kseq (s1 := s) rfl]
  refine kifr (s1 := s) rfl ?_
  rw [andV_t (s1 := s) (m2_eq (s1 := s) (s2 := s) (x := .str "field") (y := .str "field") rfl rfl (tag (by decide +kernel) (by decide +kernel) (by decide +kernel)))]
  have e := mapp (s := s) (f := mCons (m2 gIx (mVar 0) (mC (.int 1))) mNil) (s1 := s) (ds := [.str n]) rfl (is_name_str n bg hn)
  cases h : nameB n with
  | true => rw [h] at e; rw [andV_t e, Bool.true_and]; exact mapp (s1 := s) (ds := [.str c]) rfl (is_column_str hc hl bg)
  | false => rw [h] at e; rw [andV_f e, Bool.false_and]
theorem value2 {a : Str} {b : Dt} {r : Bool} {bg : List Dt} (h : sis_single_ [.tup [.str a, b]] bg = some (.bl r, bg)) : sis_value [.tup [.str a, b]] bg = some (.bl r, bg) := by
  let s : Sta := ⟨[some (.dat (.tup [.str a, b]))], bg⟩
  unfold sis_value
  refine fnd (s1 := s) ?_
  show kSeq _ _ s = _
  rw [kifs (s := s) (by rw [and_t (s1 := s) rfl]; exact and_f rfl)]
  exact kret (mapp (s1 := s) (ds := [.tup [.str a, b]]) rfl h)
theorem value3 {x y : Dt} {r : Bool} {bg : List Dt} (h : sis_single_ [.tup [.str "field", x, y]] bg = some (.bl r, bg)) : sis_value [.tup [.str "field", x, y]] bg = some (.bl r, bg) := by
  let s : Sta := ⟨[some (.dat (.tup [.str "field", x, y]))], bg⟩
  unfold sis_value
  refine fnd (s1 := s) ?_
  show kSeq _ _ s = _
  rw [kifs (s := s) (by
    rw [and_t (s1 := s) rfl, and_t (s1 := s) rfl]
    exact mBt (m2_eq (s1 := s) (s2 := s) (x := .str "field") (y := .str "plus") rfl rfl (tag (r := false) (by decide +kernel) (by decide +kernel) (by decide +kernel))))]
  exact kret (mapp (s1 := s) (ds := [.tup [.str "field", x, y]]) rfl h)
theorem valueP {x m : Dt} {r q : Bool} {bg : List Dt} (h : sis_single_ [x] bg = some (.bl r, bg)) (h2 : sis_bounded_ [m] bg = some (.bl q, bg)) : sis_value [.tup [.str "plus", x, m]] bg = some (.bl (r && q), bg) := by
  let s : Sta := ⟨[some (.dat (.tup [.str "plus", x, m]))], bg⟩
  unfold sis_value
  refine fnd (s1 := s) ?_
  show kSeq _ _ s = _
  refine kifr (s1 := s) ?_ ?_
  · rw [and_t (s1 := s) rfl, and_t (s1 := s) rfl]
    exact mBt (m2_eq (s1 := s) (s2 := s) (x := .str "plus") (y := .str "plus") rfl rfl (tag (r := true) (by decide +kernel) (by decide +kernel) (by decide +kernel)))
  · have e := mapp (s := s) (f := mCons (m2 gIx (mVar 0) (mC (.int 1))) mNil) (s1 := s) (ds := [x]) rfl h
    cases r with
    | true => rw [andV_t e, Bool.true_and]; exact mapp (s1 := s) (ds := [m]) rfl h2
    | false => rw [andV_f e, Bool.false_and]
theorem partL {w : Str} (hl : w.length ≤ 100000) : gPartition w (.str ".") = some (.tup [.str (Txt.partition w ".").1, .str (Txt.partition w ".").2.1, .str (Txt.partition w ".").2.2]) := by
  show (if (("." : Str).length == 0) = false ∧ w.length ≤ sizeLine then some (Dt.tup [.str (Txt.partition w ".").1, .str (Txt.partition w ".").2.1, .str (Txt.partition w ".").2.2]) else none) = _
  rw [if_pos ⟨by decide +kernel, line_big (by omega)⟩]
theorem itxt_big {n : Nat} (h : ((n : Nat) : Int) = n) : itxt (n : Nat) = itxt ((n : Nat) : Int) := rfl
theorem own_next {a : Str} (h : (("own" : Str) == a || (("next" : Str) == a || false)) = true) : a = "own" ∨ a = "next" := by
  rw [Bool.or_eq_true, Bool.or_eq_true] at h
  rcases h with h | h | h
  · exact .inl (beq_iff_eq.mp h).symm
  · exact .inr (beq_iff_eq.mp h).symm
  · cases h
theorem read_single_any {w : Str} (hw : cpOk w = true) (hl : w.length ≤ 100000) (bg : List Dt) :
    ∃ r, sread_single_ [.str w] bg = some (r, bg) ∧ ∃ ok : Bool, sis_single_ [r] bg = some (.bl ok, bg) ∧ sis_value [r] bg = some (.bl ok, bg) ∧ (ok = true → ∃ v : Sg, v.Ok ∧ r = v.d ∧ sgText v = w) := by
  let s0 : Sta := ⟨[some (.dat (.str w)), none, none, none], bg⟩
  let st (a b c : Str) : Sta := ⟨[some (.dat (.str w)), some (.dat (.str a)), some (.dat (.str b)), some (.dat (.str c))], bg⟩
  have start : ∀ a b c, Txt.partition w "." = (a, b, c) → kAsg (mM1 gPartition (mVar 0) (mC (.str "."))) (hTup 3 (hCons (hName 1) (hCons (hName 2) (hCons (hName 3) hNil)))) s0 = some (.nx, st a b c) := fun a b c e =>
    kasg (s1 := s0) (mm1 (s1 := s0) (s2 := s0) (a := w) (y := .str ".") rfl rfl (d := .tup [.str a, .str b, .str c]) (by rw [partL hl, e])) rfl
  have tin : ∀ a b c r, (("own" : Str) == a || (("next" : Str) == a || false)) = r → mB (m2 gIn (mVar 1) (mTup (mCons (mC (.str "own")) (mCons (mC (.str "next")) mNil)))) (st a b c) = some (r, st a b c) := fun a b c r e =>
    mBt (m2_eq (s1 := st a b c) (s2 := st a b c) (x := .str a) (y := .tup [.str "own", .str "next"]) rfl rfl (gin2 e))
  have tno : ∀ a c, mTru (mVar 2) (st a Str.empty c) = some (false, st a Str.empty c) := fun a c => rfl
  have tyes : ∀ a c, mTru (mVar 2) (st a "." c) = some (true, st a "." c) := fun a c => by
    have e : mVar 2 (st a "." c) = some (.str ".", st a "." c) := rfl
    unfold mTru
    rw [e, Option.bind_some]
    have : truD (.str ".") = some true := by
      show (if ("." : Str).length ≤ sizeLine then some ((("." : Str).length : Int) != 0) else none) = _
      rw [if_pos (line_of (by decide +kernel))]
      decide +kernel
    show (truD (.str ".")).bind _ = _
    rw [this]
    rfl
  unfold sread_single_
  by_cases h46 : 46 ∈ tl w
  · obtain ⟨la, lb, ew, hn⟩ := List.eq_append_cons_of_mem h46
    let a : Str := ⟨la.toArray⟩
    let b : Str := ⟨lb.toArray⟩
    have e : w = a ++ "." ++ b := ext_tl (by rw [tl_append, tl_append, tl_dot, ew]; show _ = la ++ [46] ++ lb; simp)
    have ha : cpOk a = true := cp_sub hw fun c hc => by rw [ew]; exact List.mem_append_left _ hc
    have hb : cpOk b = true := cp_sub hw fun c hc => by rw [ew]; exact List.mem_append_right _ (List.mem_cons_of_mem _ hc)
    have la' : a.length ≤ 100000 := by rw [e, len_app, len_app] at hl; omega
    have lb' : b.length ≤ 100000 := by rw [e, len_app, len_app] at hl; omega
    have ep : Txt.partition w "." = (a, ("." : Str), b) := by rw [e]; exact partition_app tl_dot hn
    by_cases hin : (("own" : Str) == a || (("next" : Str) == a || false)) = true
    · refine ⟨.tup [.str a, .str b], ?_, colB b, ?_⟩
      · refine fnd (s1 := st a "." b) ?_
        show kSeq _ _ s0 = _
        rw [kseq (start _ _ _ ep)]
        exact kifr (tin _ _ _ _ hin) (mtup (mcons (s1 := st a "." b) rfl (mcons (s1 := st a "." b) rfl rfl)))
      · have hs : sis_single_ [.tup [.str a, .str b]] bg = some (.bl (colB b), bg) := by
          refine single2B ha (k := 2) (.inr (.inr ⟨rfl, ?_, ?_, gin2 hin, is_column_str hb lb' bg⟩))
          · rcases own_next hin with h | h <;> rw [h] <;> decide +kernel
          · rcases own_next hin with h | h <;> rw [h] <;> decide +kernel
        refine ⟨hs, value2 hs, fun hok => ?_⟩
        have hc := colB_iff.mp hok
        rcases own_next hin with h | h
        · exact ⟨.own b, hc, by show _ = Dt.tup _; rw [h], by rw [e, h]; rfl⟩
        · exact ⟨.next b, hc, by show _ = Dt.tup _; rw [h], by rw [e, h]; rfl⟩
    · rw [Bool.not_eq_true] at hin
      refine ⟨.tup [.str "field", .str a, .str b], ?_, nameB a && colB b, ?_⟩
      · refine fnd (s1 := st a "." b) ?_
        show kSeq _ _ s0 = _
        rw [kseq (start _ _ _ ep), kifs (tin _ _ _ _ hin)]
        exact kifr (tyes _ _) (mtup (mcons (s1 := st a "." b) rfl (mcons (s1 := st a "." b) rfl (mcons (s1 := st a "." b) rfl rfl))))
      · have hs := single3B (n := a) (c := b) la' hb lb' bg
        refine ⟨hs, value3 hs, fun hok => ?_⟩
        rw [Bool.and_eq_true] at hok
        exact ⟨.field a b, ⟨nameB_iff.mp hok.1, colB_iff.mp hok.2⟩, rfl, e.symm⟩
  · have ep : Txt.partition w "." = (w, Str.empty, Str.empty) := partition_none tl_dot h46
    let s : Sta := st w Str.empty Str.empty
    by_cases hin : (("own" : Str) == w || (("next" : Str) == w || false)) = true
    · refine ⟨.tup [.str w, .str Str.empty], ?_, false, ?_⟩
      · refine fnd (s1 := s) ?_
        show kSeq _ _ s0 = _
        rw [kseq (start _ _ _ ep)]
        exact kifr (tin _ _ _ _ hin) (mtup (mcons (s1 := s) rfl (mcons (s1 := s) rfl rfl)))
      · have hs : sis_single_ [.tup [.str w, .str Str.empty]] bg = some (.bl false, bg) := by
          refine single2B hw (k := 2) (.inr (.inr ⟨rfl, ?_, ?_, gin2 hin, ?_⟩))
          · rcases own_next hin with h | h <;> rw [h] <;> decide +kernel
          · rcases own_next hin with h | h <;> rw [h] <;> decide +kernel
          · rw [is_column_str (by decide +kernel) (by decide +kernel), show colB Str.empty = false by decide +kernel]
        exact ⟨hs, value2 hs, fun h => by cases h⟩
    · rw [Bool.not_eq_true] at hin
      have tname : mB (mApp sis_name (mCons (mVar 0) mNil)) s = some (nameB w, s) := mBt (mapp (s1 := s) (ds := [.str w]) rfl (is_name_str _ bg hl))
      by_cases hnm : nameB w = true
      · refine ⟨.tup [.str "name", .str w], ?_, true, ?_⟩
        · refine fnd (s1 := s) ?_
          show kSeq _ _ s0 = _
          rw [kseq (start _ _ _ ep), kifs (tin _ _ _ _ hin), kifs (tno _ _)]
          exact kifr (by rw [tname, hnm]) (mtup (mcons (s1 := s) rfl (mcons (s1 := s) rfl rfl)))
        · have hv : (Sg.name w).Ok := nameB_iff.mp hnm
          exact ⟨single_ok hv bg, value_ok (o := none) hv (fun _ h => by cases h) bg, fun _ => ⟨.name w, hv, rfl, rfl⟩⟩
      · rw [Bool.not_eq_true] at hnm
        have tst : mB (mM1 gStarts (mVar 0) (mC (.str "-"))) s = some (decide ((tl w)[0]? = some 45), s) := by
          refine mBt (mm1 (s1 := s) (s2 := s) (a := w) (y := .str "-") rfl rfl ?_)
          show some (Dt.bl (Txt.startswith w "-")) = _
          rw [starts_dash]
        have head : ∀ g : DMs, kSeq (kAsg (mM1 gPartition (mVar 0) (mC (.str "."))) (hTup 3 (hCons (hName 1) (hCons (hName 2) (hCons (hName 3) hNil)))))
            (kSeq (kIf (mB (m2 gIn (mVar 1) (mTup (mCons (mC (.str "own")) (mCons (mC (.str "next")) mNil))))) (kRet (mTup (mCons (mVar 1) (mCons (mVar 3) mNil)))) kSkip)
            (kSeq (kIf (mTru (mVar 2)) (kRet (mTup (mCons (mC (.str "field")) (mCons (mVar 1) (mCons (mVar 3) mNil))))) kSkip)
            (kSeq (kIf (mB (mApp sis_name (mCons (mVar 0) mNil))) (kRet (mTup (mCons (mC (.str "name")) (mCons (mVar 0) mNil)))) kSkip) g))) s0 = g s := fun g => by
          rw [kseq (start _ _ _ ep), kifs (tin _ _ _ _ hin), kifs (tno _ _), kifs (s := s) (by rw [tname, hnm])]
        have numb : ∀ (q : Dt), (q = .non ∨ ∃ i : Int, q = .int i ∧ itxt i = w) → ∃ ok : Bool, sis_single_ [.tup [.str "number", q]] bg = some (.bl ok, bg) ∧ sis_value [.tup [.str "number", q]] bg = some (.bl ok, bg) ∧ (ok = true → ∃ v : Sg, v.Ok ∧ Dt.tup [.str "number", q] = v.d ∧ sgText v = w) := fun q hq => by
          rcases hq with rfl | ⟨i, rfl, ei⟩
          · have hs : sis_single_ [.tup [.str "number", .non]] bg = some (.bl false, bg) := single2B (by decide +kernel) (k := 0) (.inl ⟨rfl, by decide +kernel, is_bounded_non bg⟩)
            exact ⟨false, hs, value2 hs, fun h => by cases h⟩
          · have hs : sis_single_ [.tup [.str "number", .int i]] bg = some (.bl (bndB i), bg) := single2B (by decide +kernel) (k := 0) (.inl ⟨rfl, by decide +kernel, is_bounded_int i bg⟩)
            exact ⟨bndB i, hs, value2 hs, fun h => ⟨.number i, bndB_iff.mp h, rfl, ei⟩⟩
        by_cases hd : (tl w)[0]? = some 45
        · let y : Str := cutS w (some 1) none
          have ty : tl y = (tl w).drop 1 := tl_from w (i := 1)
          have hy : cpOk y = true := cp_sub hw fun c hc => by rw [ty] at hc; exact List.mem_of_mem_drop hc
          have hyl : y.length ≤ 100000 := by rw [len_tl, ty, List.length_drop, ← len_tl]; omega
          obtain ⟨q, e1, hq⟩ := read_signed_any (sg := "-") (w := y) (by decide +kernel) hy hyl bg
          refine ⟨.tup [.str "number", q], ?_, numb q ?_⟩
          · refine fnd (s1 := s) ?_
            show kSeq _ _ s0 = _
            rw [head]
            refine kifr (by rw [tst, decide_eq_true hd]) (mtup (mcons (s1 := s) rfl (mcons (s1 := s) (x := q) (mapp (s1 := s) (ds := [.str "-", .str y]) (mcons (s1 := s) rfl (mcons (s1 := s) (msl (s1 := s) (s2 := s) (s3 := s) (x := .str w) (lo := some 1) (hi := none) rfl rfl rfl ?_) rfl)) e1) rfl)))
            show (if w.length ≤ sizeLine then some (Dt.str (cutS w (some 1) none)) else none) = _
            rw [if_pos (line_big (by omega))]
          · rcases hq with hq | ⟨n, en, _, hq⟩
            · exact .inl hq
            · rcases hq with ⟨h1, _⟩ | ⟨_, h0, h2⟩
              · exact absurd h1 (by decide +kernel)
              · refine .inr ⟨_, h2, ext_tl ?_⟩
                obtain ⟨m, rfl⟩ : ∃ m, n = m + 1 := ⟨n - 1, by omega⟩
                have e3 : (-(((m + 1 : Nat) : Nat) : Int)) = Int.negSucc m := rfl
                rw [e3, itxt_neg, ← itxt_nat, ← en, ty]
                cases ht : tl w with
                | nil => rw [ht] at hd; simp at hd
                | cons c r =>
                  rw [ht] at hd
                  simp at hd
                  rw [hd]
                  rfl
        · obtain ⟨q, e1, hq⟩ := read_signed_any (sg := "+") (w := w) (by decide +kernel) hw hl bg
          refine ⟨.tup [.str "number", q], ?_, numb q ?_⟩
          · refine fnd (s1 := s) ?_
            show kSeq _ _ s0 = _
            rw [head, kifs (s := s) (by rw [tst, decide_eq_false hd])]
            exact kret (mtup (mcons (s1 := s) rfl (mcons (s1 := s) (x := q) (mapp (s1 := s) (ds := [.str "+", .str w]) rfl e1) rfl)))
          · rcases hq with hq | ⟨n, en, _, hq⟩
            · exact .inl hq
            · rcases hq with ⟨_, h2⟩ | ⟨h1, _⟩
              · exact .inr ⟨_, h2, en.symm⟩
              · exact absurd h1 (by decide +kernel)
open DX
def sXread_value : FDX := fnDX 3 (kSeqX (kIfX (mNotB (mB (mIsi isStr (mVar 0)))) (kRaise "InvalidText") (kVal kSkip))
    (kSeqX (kVal (kAsg (mM1 gSplit (mVar 0) (mC (.str " "))) (hName 1)))
    (kSeqX (kVal (kAsg (mApp sread_single_ (mCons (m2 gIx (mVar 1) (mC (.int 0))) mNil)) (hName 2)))
    (kSeqX (kVal (kIf (mB (m2 gEq (mCall gLen (mCons (mVar 1) mNil)) (mC (.int 3)))) (kAsg (mTup (mCons (mC (.str "plus")) (mCons (mVar 2) (mCons (mApp sread_signed_ (mCons (m2 gIx (mVar 1) (mC (.int 1))) (mCons (m2 gIx (mVar 1) (mC (.int 2))) mNil))) mNil)))) (hName 2)) kSkip))
    (kSeqX (kIfX (mOrB (mB (m2 gNin (mCall gLen (mCons (mVar 1) mNil)) (mTup (mCons (mC (.int 1)) (mCons (mC (.int 3)) mNil))))) (mNotB (mB (mApp sis_value (mCons (mVar 2) mNil))))) (kRaise "InvalidText") (kVal kSkip))
    (kVal (kRet (mVar 2))))))))
def sXread_operand_ : FDX := fnDX 3 (kSeqX (kVal (kAsg (mIf (mB (m2 gIn (mApp sword_ (mCons (mVar 0) (mCons (m2 gAdd (mVar 1) (mC (.int 1))) mNil))) (mTup (mCons (mC (.str "+")) (mCons (mC (.str "-")) mNil))))) (mC (.int 3)) (mC (.int 1))) (hName 2)))
    (kRetX (mTupX (mConsX (mAppX sXread_value (mCons (mM1 gJoin (mC (.str " ")) (mSl (mVar 0) (mPart (mVar 1)) (mPart (m2 gAdd (mVar 1) (mVar 2))))) mNil)) (mValA (mCons (m2 gAdd (mVar 1) (mVar 2)) mNil))))))
def sXread_comparison_ : FDX := fnDX 7 (kSeqX (kAsgG (mAppX sXread_operand_ (mCons (mVar 0) (mCons (mVar 1) mNil))) (hTup 2 (hCons (hName 3) (hCons (hName 4) hNil))))
    (kSeqX (kVal (kAsg (mApp sword_ (mCons (mVar 0) (mCons (mVar 4) mNil))) (hName 2)))
    (kSeqX (kIfX (mB (mKNin s_FORMS (mVar 2))) (kRaise "InvalidText") (kVal kSkip))
    (kSeqX (kAsgG (mAppX sXread_operand_ (mCons (mVar 0) (mCons (m2 gAdd (mVar 4) (mC (.int 1))) mNil))) (hTup 2 (hCons (hName 5) (hCons (hName 6) hNil))))
    (kVal (kRet (mTup (mCons (mTup (mCons (mKIx s_FORMS (mVar 2)) (mCons (mVar 3) (mCons (mVar 5) mNil)))) (mCons (mVar 6) mNil)))))))))
def sXread_found_ : FDX := fnDX 3 (kSeqX (kVal (kAsg (mApp sword_ (mCons (mVar 0) (mCons (mVar 1) mNil))) (hName 2)))
    (kSeqX (kIfX (mNotB (mB (mApp sis_name (mCons (mVar 2) mNil)))) (kRaise "InvalidText") (kVal kSkip))
    (kVal (kRet (mTup (mCons (mTup (mCons (mC (.str "found")) (mCons (mVar 2) mNil))) (mCons (m2 gAdd (mVar 1) (mC (.int 1))) mNil)))))))
def sXread_joined_B (R : FDX) : FDX := fnDX 8 (kSeqX (kAsgG (mAppX R (mCons (mVar 0) (mCons (mVar 1) (mCons (mVar 2) mNil)))) (hTup 2 (hCons (hName 4) (hCons (hName 5) hNil))))
    (kSeqX (kVal (kAsg (mApp sword_ (mCons (mVar 0) (mCons (mVar 5) mNil))) (hName 3)))
    (kSeqX (kIfX (mB (m2 gNin (mVar 3) (mTup (mCons (mC (.str "and")) (mCons (mC (.str "or")) mNil))))) (kRaise "InvalidText") (kVal kSkip))
    (kSeqX (kAsgG (mAppX R (mCons (mVar 0) (mCons (m2 gAdd (mVar 5) (mC (.int 1))) (mCons (mVar 2) mNil)))) (hTup 2 (hCons (hName 6) (hCons (hName 7) hNil))))
    (kSeqX (kIfX (mB (m2 gNe (mApp sword_ (mCons (mVar 0) (mCons (mVar 7) mNil))) (mC (.str ")")))) (kRaise "InvalidText") (kVal kSkip))
    (kVal (kRet (mTup (mCons (mTup (mCons (mVar 3) (mCons (mVar 4) (mCons (mVar 6) mNil)))) (mCons (m2 gAdd (mVar 7) (mC (.int 1))) mNil))))))))))
def sXread_part_B (R : FDX) : FDX := fnDX 6 (kSeqX (kIfX (mB (m2 oGt (mVar 2) (mC s_DEEPEST))) (kRaise "InvalidText") (kVal kSkip))
    (kSeqX (kVal (kAsg (mApp sword_ (mCons (mVar 0) (mCons (mVar 1) mNil))) (hName 3)))
    (kSeqX (kVal (kIf (mB (m2 gEq (mVar 3) (mC (.str "true")))) (kRet (mTup (mCons (mTup (mCons (mC (.str "true")) mNil)) (mCons (m2 gAdd (mVar 1) (mC (.int 1))) mNil)))) kSkip))
    (kSeqX (kIfX (mB (m2 gEq (mVar 3) (mC (.str "found")))) (kRetX (mAppX sXread_found_ (mCons (mVar 0) (mCons (m2 gAdd (mVar 1) (mC (.int 1))) mNil)))) (kVal kSkip))
    (kSeqX (kIfX (mB (m2 gEq (mVar 3) (mC (.str "not")))) (kSeqX (kAsgG (mAppX R (mCons (mVar 0) (mCons (m2 gAdd (mVar 1) (mC (.int 1))) (mCons (m2 gAdd (mVar 2) (mC (.int 1))) mNil)))) (hTup 2 (hCons (hName 4) (hCons (hName 5) hNil))))
    (kVal (kRet (mTup (mCons (mTup (mCons (mC (.str "not")) (mCons (mVar 4) mNil))) (mCons (mVar 5) mNil)))))) (kVal kSkip))
    (kSeqX (kIfX (mB (m2 gEq (mVar 3) (mC (.str "(")))) (kRetX (mAppX (sXread_joined_B R) (mCons (mVar 0) (mCons (m2 gAdd (mVar 1) (mC (.int 1))) (mCons (m2 gAdd (mVar 2) (mC (.int 1))) mNil))))) (kVal kSkip))
    (kRetX (mAppX sXread_comparison_ (mCons (mVar 0) (mCons (mVar 1) mNil))))))))))
def sXread_part_ : Nat → FDX
  | 0 => fun _ _ => none
  | n + 1 => sXread_part_B (sXread_part_ n)
def sXread_condition : FDX := fnDX 4 (kSeqX (kIfX (mNotB (mB (mIsi isStr (mVar 0)))) (kRaise "InvalidText") (kVal kSkip))
    (kSeqX (kVal (kAsg (mM1 gSplit (mRepC ")" " )" (mRepC "(" "( " (mVar 0))) (mC (.str " "))) (hName 1)))
    (kSeqX (kAsgG (mAppX (sXread_part_ 8) (mCons (mVar 1) (mCons (mC (.int 0)) (mCons (mC (.int 1)) mNil)))) (hTup 2 (hCons (hName 2) (hCons (hName 3) hNil))))
    (kSeqX (kIfX (mB (m2 gNe (mVar 3) (mCall gLen (mCons (mVar 1) mNil)))) (kRaise "InvalidText") (kVal kSkip))
    (kVal (kRet (mVar 2)))))))
/-! stepping, where it may raise -/
theorem kseqx {f g : DMsX} {s s1 : Sta} (h : f s = some (.nx, s1)) : kSeqX f g s = g s1 := by unfold kSeqX; rw [h]; rfl
theorem kseqx_e {f g : DMsX} {s s1 : Sta} {er : Er} (h : f s = some (.ex er, s1)) : kSeqX f g s = some (.ex er, s1) := by unfold kSeqX; rw [h]; rfl
theorem kseqx_r {f g : DMsX} {s s1 : Sta} {d : Dt} (h : f s = some (.rt d, s1)) : kSeqX f g s = some (.rt d, s1) := by unfold kSeqX; rw [h]; rfl
theorem kvalx {f : DMs} {s s1 : Sta} (h : f s = some (.nx, s1)) : kVal f s = some (.nx, s1) := by unfold kVal; rw [h]; rfl
theorem kvalr {f : DMs} {s s1 : Sta} {d : Dt} (h : f s = some (.rt d, s1)) : kVal f s = some (.rt d, s1) := by unfold kVal; rw [h]; rfl
theorem kifx_t {c : DM Bool} {f g : DMsX} {s s1 : Sta} (h : c s = some (true, s1)) : kIfX c f g s = f s1 := by unfold kIfX; rw [h]; rfl
theorem kifx_f {c : DM Bool} {f g : DMsX} {s s1 : Sta} (h : c s = some (false, s1)) : kIfX c f g s = g s1 := by unfold kIfX; rw [h]; rfl
/-- passed over -/
theorem xskip {c : DM Bool} {f g : DMsX} {s : Sta} (h : c s = some (false, s)) : kSeqX (kIfX c f (kVal kSkip)) g s = g s := by rw [kseqx (s1 := s) (by rw [kifx_f h]; rfl)]
/-- raised -/
theorem xraise {c : DM Bool} {g : DMsX} {x : Str} {s s1 : Sta} (h : c s = some (true, s1)) : kSeqX (kIfX c (kRaise x) (kVal kSkip)) g s = some (.ex ⟨x, []⟩, s1) := kseqx_e (by rw [kifx_t h]; rfl)
theorem xasg {f : DM Dt} {h : Dt → Sta → Option Sta} {g : DMsX} {s s1 s2 : Sta} {d : Dt} (h1 : f s = some (d, s1)) (h2 : h d s1 = some s2) : kSeqX (kVal (kAsg f h)) g s = g s2 := kseqx (kvalx (kasg h1 h2))
theorem fndx {n : Nat} {f : DMsX} {ds bg : List Dt} {d : Dt} {s1 : Sta} (h : f ⟨ds.map (fun d => some (.dat d)) ++ List.replicate (n - ds.length) none, bg⟩ = some (.rt d, s1)) : fnDX n f ds bg = some (.inl d, s1.bag) := by unfold fnDX; rw [h]; rfl
theorem fndx_e {n : Nat} {f : DMsX} {ds bg : List Dt} {er : Er} {s1 : Sta} (h : f ⟨ds.map (fun d => some (.dat d)) ++ List.replicate (n - ds.length) none, bg⟩ = some (.ex er, s1)) : fnDX n f ds bg = some (.inr er, s1.bag) := by unfold fnDX; rw [h]; rfl
theorem mappx {F : FDX} {f : DM (List Dt)} {s s1 : Sta} {ds bg : List Dt} {r : Dt ⊕ Er} (h : f s = some (ds, s1)) (hF : F ds s1.bag = some (r, bg)) : mAppX F f s = some (r, { s1 with bag := bg }) := by unfold mAppX; rw [h, Option.bind_some, hF]; rfl
theorem asgg {f : DMX} {h : Dt → Sta → Option Sta} {s s1 s2 : Sta} {d : Dt} (h1 : f s = some (.inl d, s1)) (h2 : h d s1 = some s2) : kAsgG f h s = some (.nx, s2) := by
  unfold kAsgG; rw [h1, Option.bind_some]; dsimp only; rw [h2]; rfl
theorem asgg_e {f : DMX} {h : Dt → Sta → Option Sta} {s s1 : Sta} {er : Er} (h1 : f s = some (.inr er, s1)) : kAsgG f h s = some (.ex er, s1) := by
  unfold kAsgG; rw [h1]; rfl
theorem kretx {f : DMX} {s s1 : Sta} {d : Dt} (h : f s = some (.inl d, s1)) : kRetX f s = some (.rt d, s1) := by unfold kRetX; rw [h]; rfl
theorem kretx_e {f : DMX} {s s1 : Sta} {er : Er} (h : f s = some (.inr er, s1)) : kRetX f s = some (.ex er, s1) := by unfold kRetX; rw [h]; rfl
abbrev IT : Er := ⟨"InvalidText", []⟩
/-! the text split at blanks -/
theorem spl_back : ∀ (l acc : List Nat), joinL [32] (spl [32] 0 acc l) = acc ++ l ∧ ((∀ c ∈ acc, c ≠ 32) → ∀ p ∈ spl [32] 0 acc l, (32 : Nat) ∉ p) ∧ spl [32] 0 acc l ≠ []
  | [], acc => by
    rw [spl_nil]
    refine ⟨by simp [joinL], fun h p hp => ?_, by simp⟩
    rw [List.mem_singleton] at hp
    rw [hp]
    exact fun hm => h 32 hm rfl
  | c :: r, acc => by
    by_cases e : c = 32
    · have hp : pre [32] (c :: r) = true := by rw [e]; exact pre_self [32] r
      rw [spl_hit hp]
      obtain ⟨h1, h2, h3⟩ := spl_back r []
      have e0 : ([32] : List Nat).length - 1 = 0 := rfl
      rw [e0]
      refine ⟨?_, fun h p hp => ?_, by simp⟩
      · rw [joinL_cons h3, h1, e]; rfl
      · rcases List.mem_cons.mp hp with rfl | hp
        · exact fun hm => h 32 hm rfl
        · exact h2 (fun _ hm => nomatch hm) p hp
    · have hp : pre [32] (c :: r) = false := pre_of_head [] r e
      rw [spl_miss hp]
      obtain ⟨h1, h2, h3⟩ := spl_back r (acc ++ [c])
      refine ⟨by rw [h1]; simp, fun h => h2 fun x hx => ?_, h3⟩
      rcases List.mem_append.mp hx with hx | hx
      · exact h x hx
      · rw [List.mem_singleton] at hx; rw [hx]; exact e
theorem split_any (x : Str) : Txt.join " " (Txt.split x " ") = x ∧ (∀ z ∈ Txt.split x " ", 32 ∉ tl z) ∧ Txt.split x " " ≠ [] := by
  have e : (Txt.split x " ").map tl = spl [32] 0 [] (tl x) := by
    have := split_spl x " " (by rw [tl_sp]; simp) (kind_ok (by decide +kernel))
    rwa [tl_sp] at this
  obtain ⟨h1, h2, h3⟩ := spl_back (tl x) []
  refine ⟨?_, fun z hz => ?_, fun h => ?_⟩
  · refine ext_tl ?_
    rw [join_eq, tl_join, tl_sp, e, h1]
    rfl
  · exact h2 (fun _ hm => nomatch hm) (tl z) (by rw [← e]; exact List.mem_map_of_mem hz)
  · rw [h] at e
    exact h3 e.symm
theorem join_mem : ∀ (ws : List Str), ∀ z ∈ ws, ∀ c ∈ tl z, c ∈ tl (Str.join " " ws)
  | [], _, hz => nomatch hz
  | [y], z, hz => by rw [List.mem_singleton] at hz; rw [hz]; exact fun c hc => hc
  | x :: y :: r, z, hz => fun c hc => by
    show c ∈ tl (x ++ " " ++ Str.join " " (y :: r))
    rw [tl_append, tl_append]
    rcases List.mem_cons.mp hz with rfl | hz
    · simp [hc]
    · exact List.mem_append_right _ (join_mem (y :: r) z hz c hc)
theorem mem_len : ∀ {ws : List Str} {z : Str}, z ∈ ws → z.length ≤ (ws.map (·.length)).sum
  | y :: r, z, h => by
    show z.length ≤ y.length + (r.map (·.length)).sum
    rcases List.mem_cons.mp h with rfl | h
    · omega
    · have := mem_len h
      omega
theorem nin13 (n : Nat) : gNin (.int (n : Nat)) (.tup [.int 1, .int 3]) = some (.bl (!(((1 : Int) == (n : Nat)) || (((3 : Int) == (n : Nat)) || false)))) := rfl
theorem read_value_any {t : Str} (ht : cpOk t = true) (hl : t.length ≤ 100000) (bg : List Dt) :
    (∃ (v : Sg) (o : Option Int), v.Ok ∧ (∀ m, o = some m → Bnd m) ∧ valText v o = t ∧ sXread_value [.str t] bg = some (.inl (vald v o), bg)) ∨ sXread_value [.str t] bg = some (.inr IT, bg) := by
  obtain ⟨h1, h2, h3⟩ := split_any t
  have hm : ∀ z ∈ Txt.split t " ", cpOk z = true ∧ z.length ≤ 100000 := fun z hz => by
    rw [join_eq] at h1
    refine ⟨cp_sub ht fun c hc => by rw [← h1]; exact join_mem _ z hz c hc, ?_⟩
    have a := mem_len hz
    have b := strJoin_len (Txt.split t " ")
    rw [h1] at b
    omega
  let s0 : Sta := ⟨[some (.dat (.str t)), none, none], bg⟩
  let s1 (ws : List Str) : Sta := ⟨[some (.dat (.str t)), some (.dat (.lst (ws.map Dt.str))), none], bg⟩
  let s2 (ws : List Str) (r : Dt) : Sta := ⟨[some (.dat (.str t)), some (.dat (.lst (ws.map Dt.str))), some (.dat r)], bg⟩
  have esp : mM1 gSplit (mVar 0) (mC (.str " ")) s0 = some (.lst ((Txt.split t " ").map Dt.str), s0) := by
    refine mm1 (s1 := s0) (s2 := s0) (a := t) (y := .str " ") rfl rfl ?_
    show (if ((" " : Str).length == 0) = false ∧ t.length + 2 ≤ sizeLine then some (Dt.lst ((Txt.split t " ").map Dt.str)) else none) = _
    rw [if_pos ⟨by decide +kernel, line_big (by omega)⟩]
  generalize hws : Txt.split t " " = ws at h1 h3 hm esp
  cases ws with
  | nil => exact absurd rfl h3
  | cons w0 rs =>
    obtain ⟨c0, l0⟩ := hm w0 (List.mem_cons_self ..)
    obtain ⟨r0, e0, ok, es, ev, hok⟩ := read_single_any c0 l0 bg
    have ers : mApp sread_single_ (mCons (m2 gIx (mVar 1) (mC (.int 0))) mNil) (s1 (w0 :: rs)) = some (r0, s1 (w0 :: rs)) :=
      mapp (s1 := s1 (w0 :: rs)) (ds := [.str w0]) (mcons (s1 := s1 (w0 :: rs)) (m2_eq (s1 := s1 (w0 :: rs)) (s2 := s1 (w0 :: rs)) (x := .lst ((w0 :: rs).map Dt.str)) (y := .int 0) rfl rfl (by show atI (Dt.str w0 :: rs.map Dt.str) ((0 : Nat) : Int) = _; rw [ati_nat (by omega) (by rw [List.length_cons]; omega)]; rfl)) rfl) e0
    have start : ∀ g : DMsX, kSeqX (kIfX (mNotB (mB (mIsi isStr (mVar 0)))) (kRaise "InvalidText") (kVal kSkip)) (kSeqX (kVal (kAsg (mM1 gSplit (mVar 0) (mC (.str " "))) (hName 1))) (kSeqX (kVal (kAsg (mApp sread_single_ (mCons (m2 gIx (mVar 1) (mC (.int 0))) mNil)) (hName 2))) g)) s0 = g (s2 (w0 :: rs) r0) := fun g => by
      rw [xskip (s := s0) rfl, xasg (s1 := s0) (s2 := s1 (w0 :: rs)) esp rfl, xasg (s1 := s1 (w0 :: rs)) (s2 := s2 (w0 :: rs) r0) ers rfl]
    let c : DM Bool := mOrB (mB (m2 gNin (mCall gLen (mCons (mVar 1) mNil)) (mTup (mCons (mC (.int 1)) (mCons (mC (.int 3)) mNil))))) (mNotB (mB (mApp sis_value (mCons (mVar 2) mNil))))
    have elen : ∀ d, mB (m2 gNin (mCall gLen (mCons (mVar 1) mNil)) (mTup (mCons (mC (.int 1)) (mCons (mC (.int 3)) mNil)))) (s2 (w0 :: rs) d) = some (!(((1 : Int) == ((w0 :: rs).map Dt.str).length) || (((3 : Int) == ((w0 :: rs).map Dt.str).length) || false)), s2 (w0 :: rs) d) := fun d =>
      mBt (m2_eq (s1 := s2 (w0 :: rs) d) (s2 := s2 (w0 :: rs) d) (x := .int (((w0 :: rs).map Dt.str).length : Nat)) (y := .tup [.int 1, .int 3]) rfl rfl (nin13 _))
    have eqn : ∀ d, mB (m2 gEq (mCall gLen (mCons (mVar 1) mNil)) (mC (.int 3))) (s2 (w0 :: rs) d) = some ((((w0 :: rs).map Dt.str).length : Int) == 3, s2 (w0 :: rs) d) := fun d =>
      mBt (m2_eq (s1 := s2 (w0 :: rs) d) (s2 := s2 (w0 :: rs) d) (x := .int (((w0 :: rs).map Dt.str).length : Nat)) (y := .int 3) rfl rfl eqII)
    have fin : ∀ (d : Dt) (q : Bool), sis_value [d] bg = some (.bl q, bg) → (!(((1 : Int) == ((w0 :: rs).map Dt.str).length) || (((3 : Int) == ((w0 :: rs).map Dt.str).length) || false))) = false → c (s2 (w0 :: rs) d) = some (!q, s2 (w0 :: rs) d) := fun d q hq hn => by
      show mOrB _ _ _ = _
      rw [or_f (s1 := s2 (w0 :: rs) d) (by rw [elen, hn])]
      exact mNotB_eq (mBt (mapp (s1 := s2 (w0 :: rs) d) (ds := [d]) rfl hq))
    have bad : ∀ d d' : Dt, (∀ g : DMsX, kSeqX (kVal (kIf (mB (m2 gEq (mCall gLen (mCons (mVar 1) mNil)) (mC (.int 3)))) (kAsg (mTup (mCons (mC (.str "plus")) (mCons (mVar 2) (mCons (mApp sread_signed_ (mCons (m2 gIx (mVar 1) (mC (.int 1))) (mCons (m2 gIx (mVar 1) (mC (.int 2))) mNil))) mNil)))) (hName 2)) kSkip)) g (s2 (w0 :: rs) d) = g (s2 (w0 :: rs) d')) → c (s2 (w0 :: rs) d') = some (true, s2 (w0 :: rs) d') → d = r0 → sXread_value [.str t] bg = some (.inr IT, bg) := fun d d' hg hc hd => by
      subst hd
      unfold sXread_value
      refine fndx_e (s1 := s2 (w0 :: rs) d') ?_
      show kSeqX _ _ s0 = _
      rw [start, hg]
      exact xraise hc
    have good : ∀ d d' : Dt, (∀ g : DMsX, kSeqX (kVal (kIf (mB (m2 gEq (mCall gLen (mCons (mVar 1) mNil)) (mC (.int 3)))) (kAsg (mTup (mCons (mC (.str "plus")) (mCons (mVar 2) (mCons (mApp sread_signed_ (mCons (m2 gIx (mVar 1) (mC (.int 1))) (mCons (m2 gIx (mVar 1) (mC (.int 2))) mNil))) mNil)))) (hName 2)) kSkip)) g (s2 (w0 :: rs) d) = g (s2 (w0 :: rs) d')) → c (s2 (w0 :: rs) d') = some (false, s2 (w0 :: rs) d') → d = r0 → sXread_value [.str t] bg = some (.inl d', bg) := fun d d' hg hc hd => by
      subst hd
      unfold sXread_value
      refine fndx (s1 := s2 (w0 :: rs) d') ?_
      show kSeqX _ _ s0 = _
      rw [start, hg, xskip (c := c) hc]
      exact kvalr (kret rfl)
    have pass : (((w0 :: rs).map Dt.str).length : Int) ≠ 3 → ∀ g : DMsX, kSeqX (kVal (kIf (mB (m2 gEq (mCall gLen (mCons (mVar 1) mNil)) (mC (.int 3)))) (kAsg (mTup (mCons (mC (.str "plus")) (mCons (mVar 2) (mCons (mApp sread_signed_ (mCons (m2 gIx (mVar 1) (mC (.int 1))) (mCons (m2 gIx (mVar 1) (mC (.int 2))) mNil))) mNil)))) (hName 2)) kSkip)) g (s2 (w0 :: rs) r0) = g (s2 (w0 :: rs) r0) := fun hn g =>
      kseqx (kvalx (by rw [kif_f (s1 := s2 (w0 :: rs) r0) (by rw [eqn, beq_eq_false_iff_ne.mpr hn])]; rfl))
    match rs, h1, hm, fin, bad, good, pass, elen with
    | [], h1, hm, fin, bad, good, pass, elen =>
      have et : w0 = t := by rw [join_eq] at h1; exact h1
      have f := fin r0 ok ev rfl
      cases ok with
      | true =>
        obtain ⟨v, hv, rfl, hs⟩ := hok rfl
        exact .inl ⟨v, none, hv, (fun _ h => by cases h), hs.trans et, good _ _ (pass (by show (1 : Int) ≠ 3; decide)) f rfl⟩
      | false => exact .inr (bad _ _ (pass (by show (1 : Int) ≠ 3; decide)) f rfl)
    | [w1], h1, hm, fin, bad, good, pass, elen =>
      refine .inr (bad r0 r0 (pass (by show (2 : Int) ≠ 3; decide)) ?_ rfl)
      exact or_t (by rw [elen]; rfl)
    | w1 :: w2 :: w3 :: r, h1, hm, fin, bad, good, pass, elen =>
      have hlen : (((w0 :: w1 :: w2 :: w3 :: r).map Dt.str).length : Int) = (r.length : Int) + 4 := by
        rw [List.length_map]
        show ((r.length + 1 + 1 + 1 + 1 : Nat) : Int) = _
        omega
      refine .inr (bad r0 r0 (pass (by rw [hlen]; omega)) ?_ rfl)
      refine or_t ?_
      rw [elen, hlen, beq_eq_false_iff_ne.mpr (by omega), beq_eq_false_iff_ne.mpr (by omega)]
      rfl
    | [w1, w2], h1, hm, fin, bad, good, pass, elen =>
      obtain ⟨c1, l1⟩ := hm w1 (by simp)
      obtain ⟨c2, l2⟩ := hm w2 (by simp)
      obtain ⟨m, em, hmm⟩ := read_signed_any c1 c2 l2 bg
      let d' : Dt := .tup [.str "plus", r0, m]
      have hg : ∀ g : DMsX, kSeqX (kVal (kIf (mB (m2 gEq (mCall gLen (mCons (mVar 1) mNil)) (mC (.int 3)))) (kAsg (mTup (mCons (mC (.str "plus")) (mCons (mVar 2) (mCons (mApp sread_signed_ (mCons (m2 gIx (mVar 1) (mC (.int 1))) (mCons (m2 gIx (mVar 1) (mC (.int 2))) mNil))) mNil)))) (hName 2)) kSkip)) g (s2 [w0, w1, w2] r0) = g (s2 [w0, w1, w2] d') := fun g => by
        refine kseqx (kvalx ?_)
        rw [kif_t (s1 := s2 [w0, w1, w2] r0) rfl]
        exact kasg (s1 := s2 [w0, w1, w2] r0) (mtup (mcons (s1 := s2 [w0, w1, w2] r0) rfl (mcons (s1 := s2 [w0, w1, w2] r0) rfl (mcons (s1 := s2 [w0, w1, w2] r0) (mapp (s1 := s2 [w0, w1, w2] r0) (ds := [.str w1, .str w2]) rfl em) rfl)))) rfl
      have et : w0 ++ " " ++ (w1 ++ " " ++ w2) = t := by rw [join_eq] at h1; exact h1
      rcases hmm with rfl | ⟨n, en, _, hsg⟩
      · have f := fin d' (ok && false) (valueP es (is_bounded_non bg)) rfl
        rw [Bool.and_false] at f
        exact .inr (bad _ _ hg f rfl)
      · have key : ∀ i : Int, m = .int i → (∀ v : Sg, sgText v = w0 → valText v (some i) = t) → (∃ (v : Sg) (o : Option Int), v.Ok ∧ (∀ m, o = some m → Bnd m) ∧ valText v o = t ∧ sXread_value [.str t] bg = some (.inl (vald v o), bg)) ∨ sXread_value [.str t] bg = some (.inr IT, bg) := fun i hi hv => by
          subst hi
          have f := fin d' (ok && bndB i) (valueP es (is_bounded_int i bg)) rfl
          cases hq : ok && bndB i with
          | false => rw [hq] at f; exact .inr (bad _ _ hg f rfl)
          | true =>
            rw [hq] at f
            rw [Bool.and_eq_true] at hq
            obtain ⟨v, hvo, hr, hs⟩ := hok hq.1
            have gd := good r0 d' hg f rfl
            refine .inl ⟨v, some i, hvo, (fun m hm => by cases hm; exact bndB_iff.mp hq.2), hv v hs, ?_⟩
            rw [gd]
            show some ((Sum.inl (Dt.tup [.str "plus", r0, .int i]) : Dt ⊕ Er), bg) = _
            rw [hr]
            rfl
        rcases hsg with ⟨hp, hi⟩ | ⟨hp, h0, hi⟩
        · refine key _ hi fun v hs => ?_
          show sgText v ++ (if ((n : Nat) : Int) < 0 then " - " ++ itxt (0 - ((n : Nat) : Int)) else " + " ++ itxt (n : Nat)) = t
          rw [if_neg (by omega), hs, ← et, en, hp]
          refine ext_tl ?_
          simp only [tl_append, List.append_assoc]
          rw [show tl " + " = tl " " ++ (tl "+" ++ tl " ") by decide +kernel]
          simp only [List.append_assoc]
        · refine key _ hi fun v hs => ?_
          show sgText v ++ (if (-((n : Nat) : Int)) < 0 then " - " ++ itxt (0 - -((n : Nat) : Int)) else " + " ++ itxt (-((n : Nat) : Int))) = t
          rw [if_pos (by omega), hs, ← et, en, hp, show (0 - -((n : Nat) : Int)) = (n : Nat) by omega]
          refine ext_tl ?_
          simp only [tl_append, List.append_assoc]
          rw [show tl " - " = tl " " ++ (tl "-" ++ tl " ") by decide +kernel]
          simp only [List.append_assoc]
/-! what is read where nothing raises is read here -/
def Up (f : DMs) (g : DMsX) : Prop := ∀ s r s', f s = some (r, s') → g s = some (toX r, s')
def UpE (f : DM Dt) (g : DMX) : Prop := ∀ s d s', f s = some (d, s') → g s = some (.inl d, s')
def UpF (F : FD) (G : FDX) : Prop := ∀ ds bg d bg', F ds bg = some (d, bg') → G ds bg = some (.inl d, bg')
theorem up_val {f : DMs} : Up f (kVal f) := fun s r s' h => by unfold kVal; rw [h]; rfl
theorem up_none {g : DMsX} : Up (fun _ => none) g := fun s r s' h => by cases h
theorem up_seq {a b : DMs} {a' b' : DMsX} (h1 : Up a a') (h2 : Up b b') : Up (kSeq a b) (kSeqX a' b') := fun s r s' h => by
  unfold kSeq at h
  obtain ⟨⟨q, s1⟩, e, h⟩ := Option.bind_eq_some_iff.mp h
  unfold kSeqX
  rw [h1 _ _ _ e, Option.bind_some]
  cases q with
  | nx => exact h2 _ _ _ h
  | bk => cases h; rfl
  | ct => cases h; rfl
  | rt d => cases h; rfl
theorem up_if {c : DM Bool} {a b : DMs} {a' b' : DMsX} (h1 : Up a a') (h2 : Up b b') : Up (kIf c a b) (kIfX c a' b') := fun s r s' h => by
  unfold kIf at h
  obtain ⟨⟨q, s1⟩, e, h⟩ := Option.bind_eq_some_iff.mp h
  unfold kIfX
  rw [e, Option.bind_some]
  cases q with
  | true => exact h1 _ _ _ h
  | false => exact h2 _ _ _ h
theorem up_app {F : FD} {G : FDX} {a : DM (List Dt)} (h : UpF F G) : UpE (mApp F a) (mAppX G a) := fun s d s' e => by
  unfold mApp at e
  obtain ⟨⟨ds, s1⟩, e1, e⟩ := Option.bind_eq_some_iff.mp e
  obtain ⟨⟨q, bg⟩, e2, e⟩ := Option.bind_eq_some_iff.mp e
  cases e
  unfold mAppX
  rw [e1, Option.bind_some, h _ _ _ _ e2]
  rfl
theorem up_ret {f : DM Dt} {g : DMX} (h : UpE f g) : Up (kRet f) (kRetX g) := fun s r s' e => by
  unfold kRet at e
  obtain ⟨⟨q, s1⟩, e1, e⟩ := Option.bind_eq_some_iff.mp e
  cases e
  unfold kRetX
  rw [h _ _ _ e1]
  rfl
theorem up_asg {f : DM Dt} {g : DMX} {t : Dt → Sta → Option Sta} (h : UpE f g) : Up (kAsg f t) (kAsgG g t) := fun s r s' e => by
  unfold kAsg at e
  obtain ⟨⟨q, s1⟩, e1, e⟩ := Option.bind_eq_some_iff.mp e
  obtain ⟨s2, e2, e⟩ := Option.bind_eq_some_iff.mp e
  cases e
  exact asgg (h _ _ _ e1) e2
theorem up_fn {n : Nat} {f : DMs} {g : DMsX} (h : Up f g) : UpF (fnD n f) (fnDX n g) := fun ds bg d bg' e => by
  unfold fnD at e
  obtain ⟨⟨q, s1⟩, e1, e⟩ := Option.bind_eq_some_iff.mp e
  unfold fnDX
  rw [h _ _ _ e1, Option.bind_some]
  cases q with
  | nx => cases e; rfl
  | rt d => cases e; rfl
  | bk => cases e
  | ct => cases e
theorem up_pair {f : DM Dt} {f' : DMX} {g : DM (List Dt)} (h : UpE f f') : UpE (mTup (mCons f g)) (mTupX (mConsX f' (mValA g))) := fun s d s' e => by
  unfold mTup at e
  obtain ⟨⟨ds, s1⟩, e1, e⟩ := Option.bind_eq_some_iff.mp e
  unfold mCons at e1
  obtain ⟨⟨x, s2⟩, e2, e1⟩ := Option.bind_eq_some_iff.mp e1
  obtain ⟨⟨xs, s3⟩, e3, e1⟩ := Option.bind_eq_some_iff.mp e1
  cases e1
  unfold mTupX mConsX mValA
  rw [h _ _ _ e2, Option.bind_some]
  dsimp only
  rw [e3, Option.bind_some]
  dsimp only at e ⊢
  by_cases hl : (x :: xs).length ≤ 1000
  · rw [if_pos hl] at e
    cases e
    rw [Option.bind_some]
    dsimp only
    rw [Option.bind_some]
    dsimp only
    rw [if_pos hl]
  · rw [if_neg hl] at e
    cases e
theorem up_read_value : UpF sread_value sXread_value := up_fn (up_seq (up_if up_none up_val) (up_seq up_val (up_seq up_val (up_seq up_val (up_seq (up_if up_none up_val) up_val)))))
theorem up_operand : UpF sread_operand_ sXread_operand_ := up_fn (up_seq up_val (up_ret (up_pair (up_app up_read_value))))
theorem up_comparison : UpF sread_comparison_ sXread_comparison_ := up_fn (up_seq (up_asg (up_app up_operand)) (up_seq up_val (up_seq (up_if up_none up_val) (up_seq (up_asg (up_app up_operand)) up_val))))
theorem up_found : UpF sread_found_ sXread_found_ := up_fn (up_seq up_val (up_seq (up_if up_none up_val) up_val))
theorem up_joined {R : FD} {G : FDX} (h : UpF R G) : UpF (sread_joined_B R) (sXread_joined_B G) := up_fn (up_seq (up_asg (up_app h)) (up_seq up_val (up_seq (up_if up_none up_val) (up_seq (up_asg (up_app h)) (up_seq (up_if up_none up_val) up_val)))))
theorem up_part : ∀ n, UpF (sread_part_ n) (sXread_part_ n)
  | 0 => fun _ _ _ _ h => by cases h
  | n + 1 => up_fn (up_seq (up_if up_none up_val) (up_seq up_val (up_seq up_val (up_seq (up_if (up_ret (up_app up_found)) up_val)
      (up_seq (up_if (up_seq (up_asg (up_app (up_part n))) up_val) up_val) (up_seq (up_if (up_ret (up_app (up_joined (up_part n)))) up_val) (up_ret (up_app up_comparison))))))))
theorem up_condition : UpF sread_condition sXread_condition := up_fn (up_seq (up_if up_none up_val) (up_seq up_val (up_seq (up_asg (up_app (up_part 8))) (up_seq (up_if up_none up_val) up_val))))
theorem read_value_x {v : Sg} (h : v.Ok) {o : Option Int} (ho : ∀ m, o = some m → Bnd m) (bg : List Dt) : sXread_value [.str (valText v o)] bg = some (.inl (vald v o), bg) := up_read_value _ _ _ _ (read_value h ho bg)
theorem read_cond_x {c : Cn} (h : c.Ok) (hd : c.dep ≤ 6) (hl : c.text.length ≤ 100000) (bg : List Dt) : sXread_condition [.str c.text] bg = some (.inl c.d, bg) := up_condition _ _ _ _ (read_cond h hd hl bg)
end DL


namespace DL
open PySem PySem.Spec PyProof.Rows L2
variable [Tabs]
open TL
open DX
/-! ### any words read as a condition -/
structure Wds (ws : List Str) : Prop where
  cp : ∀ z ∈ ws, cpOk z = true
  sp : ∀ z ∈ ws, 32 ∉ tl z
  len : (ws.map (·.length)).sum + ws.length ≤ 100000
theorem wd_cases (ws : List Str) (i : Nat) : wd ws i = "" ∧ ws.length ≤ i ∨ wd ws i ∈ ws ∧ ws.drop i = wd ws i :: ws.drop (i + 1) := by
  by_cases h : i < ws.length
  · refine .inr ?_
    have e := List.drop_eq_getElem_cons h
    have e2 : wd ws i = ws[i] := wd_some (List.getElem?_eq_getElem h)
    rw [e2]
    exact ⟨List.getElem_mem h, e⟩
  · refine .inl ⟨?_, by omega⟩
    unfold wd
    rw [List.drop_eq_nil_of_le (by omega)]
    rfl
theorem wd_cp {ws : List Str} (h : Wds ws) (i : Nat) : cpOk (wd ws i) = true := by
  rcases wd_cases ws i with ⟨e, _⟩ | ⟨e, _⟩
  · rw [e]; decide +kernel
  · exact h.cp _ e
theorem wd_len {ws : List Str} (h : Wds ws) (i : Nat) : (wd ws i).length ≤ 100000 := by
  rcases wd_cases ws i with ⟨e, _⟩ | ⟨e, _⟩
  · rw [e]; decide +kernel
  · have := mem_len e
    have := h.len
    omega
theorem wd_drop {ws : List Str} {i : Nat} (h : wd ws i ≠ "") : ws.drop i = wd ws i :: ws.drop (i + 1) := by
  rcases wd_cases ws i with ⟨e, _⟩ | ⟨_, e⟩
  · exact absurd e h
  · exact e
theorem cut_any (ds : List Dt) (i m : Nat) : cutD ds (some (i : Nat)) (some ((i + m : Nat) : Int)) = (ds.drop i).take m := by
  unfold cutD
  rw [HT.sIx_nat, HT.sIx_nat]
  by_cases h : i ≤ ds.length
  · rw [show min i ds.length = i by omega]
    by_cases h2 : i + m ≤ ds.length
    · rw [show min (i + m) ds.length - i = m by omega]
    · rw [List.take_of_length_le (by rw [List.length_drop]; omega), List.take_of_length_le (by rw [List.length_drop]; omega)]
  · rw [List.drop_eq_nil_of_le (by omega), List.drop_eq_nil_of_le (by omega), List.take_nil, List.take_nil]
theorem join_len : ∀ ss : List Str, (Str.join " " ss).length ≤ (ss.map (·.length)).sum + ss.length
  | [] => by decide +kernel
  | [z] => by simp [Str.join]
  | x :: z :: r => by
    have h := join_len (z :: r)
    have e : (" " : Str).length = 1 := by decide +kernel
    show (x ++ " " ++ Str.join " " (z :: r)).length ≤ x.length + ((z :: r).map (·.length)).sum + (r.length + 1 + 1)
    rw [len_app, len_app, e]
    have : (z :: r).length = r.length + 1 := rfl
    omega
theorem join_sub : ∀ (ss : List Str) (c : Nat), c ∈ tl (Str.join " " ss) → c = 32 ∨ ∃ z ∈ ss, c ∈ tl z
  | [], c, h => by cases h
  | [z], c, h => .inr ⟨z, List.mem_singleton.mpr rfl, h⟩
  | x :: z :: r, c, h => by
    have h' : c ∈ tl (x ++ " " ++ Str.join " " (z :: r)) := h
    rw [tl_append, tl_append, tl_sp] at h'
    rcases List.mem_append.mp h' with h' | h'
    · rcases List.mem_append.mp h' with h' | h'
      · exact .inr ⟨x, List.mem_cons_self .., h'⟩
      · rw [List.mem_singleton] at h'; exact .inl h'
    · rcases join_sub (z :: r) c h' with h2 | ⟨y, hy, h2⟩
      · exact .inl h2
      · exact .inr ⟨y, List.mem_cons_of_mem _ hy, h2⟩
theorem sum_take (l : List Nat) (n : Nat) : (l.take n).sum ≤ l.sum ∧ (l.drop n).sum ≤ l.sum := by
  have h : (l.take n).sum + (l.drop n).sum = l.sum := by rw [← List.sum_append, List.take_append_drop]
  omega
theorem valText_pos {v : Sg} (h : v.Ok) (o : Option Int) : 1 ≤ (valText v o).length := by
  have h1 := (sgText_len h).1
  cases o with
  | none => exact h1
  | some m =>
    show 1 ≤ (sgText v ++ _).length
    rw [len_app]
    omega
theorem operand_any {ws : List Str} (hw : Wds ws) (i : Nat) (bg : List Dt) :
    (∃ (v : Sg) (o : Option Int) (rest : List Str), v.Ok ∧ (∀ m, o = some m → Bnd m) ∧ ws.drop i = valParts v o ++ rest ∧ sXread_operand_ [.lst (ws.map Dt.str), .int (i : Nat)] bg = some (.inl (.tup [vald v o, .int ((i + (valParts v o).length : Nat))]), bg)) ∨
      sXread_operand_ [.lst (ws.map Dt.str), .int (i : Nat)] bg = some (.inr IT, bg) := by
  let W : Dt := .lst (ws.map Dt.str)
  let t : Sta := ⟨[some (.dat W), some (.dat (.int (i : Nat))), none], bg⟩
  let u (m : Nat) : Sta := ⟨[some (.dat W), some (.dat (.int (i : Nat))), some (.dat (.int (m : Nat)))], bg⟩
  have ew : mApp sword_ (mCons (mVar 0) (mCons (m2 gAdd (mVar 1) (mC (.int 1))) mNil)) t = some (.str (wd ws (i + 1)), t) := mapp (s1 := t) (ds := [W, .int ((i + 1 : Nat))]) rfl (word_ok ws (i + 1) bg)
  obtain ⟨many, emany, hmany⟩ : ∃ many : Nat, mIf (mB (m2 gIn (mApp sword_ (mCons (mVar 0) (mCons (m2 gAdd (mVar 1) (mC (.int 1))) mNil))) (mTup (mCons (mC (.str "+")) (mCons (mC (.str "-")) mNil))))) (mC (.int 3)) (mC (.int 1)) t = some (.int (many : Nat), t) ∧ (many = 1 ∨ many = 3 ∧ i + 1 < ws.length) := by
    have ec : mB (m2 gIn (mApp sword_ (mCons (mVar 0) (mCons (m2 gAdd (mVar 1) (mC (.int 1))) mNil))) (mTup (mCons (mC (.str "+")) (mCons (mC (.str "-")) mNil)))) t = some ((("+" : Str) == wd ws (i + 1) || (("-" : Str) == wd ws (i + 1) || false)), t) := mBt (m2_eq (s1 := t) (s2 := t) (x := .str (wd ws (i + 1))) (y := .tup [.str "+", .str "-"]) ew rfl (gin2 rfl))
    cases hc : (("+" : Str) == wd ws (i + 1) || (("-" : Str) == wd ws (i + 1) || false)) with
    | true =>
      refine ⟨3, by rw [mif_t (s1 := t) (by rw [ec, hc])]; rfl, .inr ⟨rfl, ?_⟩⟩
      rcases wd_cases ws (i + 1) with ⟨e, _⟩ | ⟨e, e2⟩
      · rw [e] at hc
        exact absurd hc (by decide +kernel)
      · have := congrArg List.length e2
        rw [List.length_drop, List.length_cons] at this
        omega
    | false => exact ⟨1, by rw [mif_f (s1 := t) (by rw [ec, hc])]; rfl, .inl rfl⟩
  let l : List Str := (ws.drop i).take many
  have hl : (l.map (·.length)).sum + l.length ≤ 100000 := by
    have h1 := hw.len
    have h2 := (sum_take (ws.map (·.length)) i).2
    have h3 := (sum_take ((ws.map (·.length)).drop i) many).1
    have h4 : l.map (·.length) = ((ws.map (·.length)).drop i).take many := by rw [List.map_take, List.map_drop]
    have h5 : l.length ≤ ws.length := by show (List.take many (ws.drop i)).length ≤ _; rw [List.length_take, List.length_drop]; omega
    rw [h4]
    omega
  have hsub : ∀ z ∈ l, z ∈ ws := fun z hz => List.mem_of_mem_drop (List.mem_of_mem_take hz)
  let x : Str := Txt.join " " l
  have hx : cpOk x = true := cp_tl fun c hc => by
    have hc' : c ∈ tl (Str.join " " l) := by rw [← join_eq]; exact hc
    rcases join_sub l c hc' with e | ⟨z, hz, e⟩
    · omega
    · exact cp_mem (hw.cp z (hsub z hz)) e
  have hxl : x.length ≤ 100000 := by
    have := join_len l
    show (Txt.join " " l).length ≤ _
    rw [join_eq]
    omega
  have eread : ∀ r, sXread_value [.str x] bg = some (r, bg) → mAppX sXread_value (mCons (mM1 gJoin (mC (.str " ")) (mSl (mVar 0) (mPart (mVar 1)) (mPart (m2 gAdd (mVar 1) (mVar 2))))) mNil) (u many) = some (r, u many) := fun r hr => by
    refine mappx (s1 := u many) (ds := [.str x]) (mcons (s1 := u many) ?_ rfl) hr
    refine mm1 (s1 := u many) (s2 := u many) (a := " ") (y := .lst (l.map Dt.str)) rfl ?_ ?_
    · exact msl (s1 := u many) (s2 := u many) (s3 := u many) (x := W) (lo := some (i : Nat)) (hi := some ((i + many : Nat) : Int)) rfl rfl rfl (by
        show some (Dt.lst (cutD (ws.map Dt.str) _ _)) = _
        rw [cut_any, ← List.map_drop, ← List.map_take])
    · exact gjoinS (by omega)
  rcases read_value_any hx hxl bg with ⟨v, o, hv, ho, ht, hr⟩ | hr
  · have hne : l ≠ [] := fun e => by
      have h1 := valText_pos hv o
      rw [ht] at h1
      have : x = Str.empty := by show Txt.join " " l = _; rw [e]; rfl
      rw [this] at h1
      exact absurd h1 (by decide +kernel)
    have el : l = valParts v o := by
      rw [← val_split hv o, ht]
      exact (split_join tl_sp (by decide +kernel) hne fun z hz => hw.sp z (hsub z hz)).symm
    refine .inl ⟨v, o, (ws.drop i).drop many, hv, ho, ?_, ?_⟩
    · rw [← el]
      exact (List.take_append_drop many (ws.drop i)).symm
    · have elen : (valParts v o).length = many := by
        have h1 := parts_len v o
        rw [← el] at h1 ⊢
        have h2 : l.length = min many (ws.length - i) := by show (List.take many (ws.drop i)).length = _; rw [List.length_take, List.length_drop]
        omega
      rw [elen]
      unfold sXread_operand_
      refine fndx (s1 := u many) ?_
      show kSeqX _ _ t = _
      rw [xasg (s1 := t) (s2 := u many) emany rfl]
      refine kretx ?_
      unfold mTupX mConsX
      rw [eread _ hr]
      rfl
  · refine .inr ?_
    unfold sXread_operand_
    refine fndx_e (s1 := u many) ?_
    show kSeqX _ _ t = _
    rw [xasg (s1 := t) (s2 := u many) emany rfl]
    refine kretx_e ?_
    unfold mTupX mConsX
    rw [eread _ hr]
    rfl
end DL


namespace DL
open PySem PySem.Spec PyProof.Rows L2
variable [Tabs]
open TL
open DX
def PartRes (ws : List Str) (i : Nat) (P : Cn → Prop) (G : Option ((Dt ⊕ Er) × List Dt)) (bg : List Dt) : Prop :=
  (∃ (c : Cn) (rest : List Str), c.Ok ∧ P c ∧ ws.drop i = c.toks ++ rest ∧ G = some (.inl (.tup [c.d, .int ((i + c.toks.length : Nat))]), bg)) ∨ G = some (.inr IT, bg)
theorem tbl_some {z : Str} : tblGet s_FORMS z = none ∨ ∃ k : Cp, z = k.sign := by
  by_cases h1 : (("<=" : Str) == z) = true
  · exact .inr ⟨.le, (beq_iff_eq.mp h1).symm⟩
  by_cases h2 : (("<" : Str) == z) = true
  · exact .inr ⟨.lt, (beq_iff_eq.mp h2).symm⟩
  by_cases h3 : (("=" : Str) == z) = true
  · exact .inr ⟨.eq, (beq_iff_eq.mp h3).symm⟩
  refine .inl ?_
  show (if (("<=" : Str) == z) = true then _ else if (("<" : Str) == z) = true then _ else if (("=" : Str) == z) = true then _ else none) = none
  rw [if_neg h1, if_neg h2, if_neg h3]
theorem knin_n {s : Sta} {f : DM Dt} {z : Str} {l : List (Str × Str)} (h : f s = some (.str z, s)) (e : tblGet l z = none) : mKNin l f s = some (.bl true, s) := by
  unfold mKNin; rw [h]; show some (Dt.bl !(tblGet l z).isSome, s) = _; rw [e]; rfl
theorem comparison_any {ws : List Str} (hw : Wds ws) (i : Nat) (bg : List Dt) : PartRes ws i (fun c => c.dep = 1) (sXread_comparison_ [.lst (ws.map Dt.str), .int (i : Nat)] bg) bg := by
  let W : Dt := .lst (ws.map Dt.str)
  let t0 : Sta := ⟨[some (.dat W), some (.dat (.int (i : Nat))), none, none, none, none, none], bg⟩
  have A : ∀ r, sXread_operand_ [W, .int (i : Nat)] bg = some (r, bg) → mAppX sXread_operand_ (mCons (mVar 0) (mCons (mVar 1) mNil)) t0 = some (r, t0) := fun r h => mappx (s1 := t0) (ds := [W, .int (i : Nat)]) rfl h
  rcases operand_any hw i bg with ⟨v, o, rest, hv, ho, hd, hr⟩ | hr
  · let j : Nat := i + (valParts v o).length
    let t1 : Sta := ⟨[some (.dat W), some (.dat (.int (i : Nat))), none, some (.dat (vald v o)), some (.dat (.int (j : Nat))), none, none], bg⟩
    let t2 : Sta := ⟨[some (.dat W), some (.dat (.int (i : Nat))), some (.dat (.str (wd ws j))), some (.dat (vald v o)), some (.dat (.int (j : Nat))), none, none], bg⟩
    have start : ∀ g : DMsX, kSeqX (kAsgG (mAppX sXread_operand_ (mCons (mVar 0) (mCons (mVar 1) mNil))) (hTup 2 (hCons (hName 3) (hCons (hName 4) hNil)))) (kSeqX (kVal (kAsg (mApp sword_ (mCons (mVar 0) (mCons (mVar 4) mNil))) (hName 2))) g) t0 = g t2 := fun g => by
      rw [kseqx (s1 := t1) (asgg (A _ hr) rfl), xasg (s1 := t1) (s2 := t2) (mapp (s1 := t1) (ds := [W, .int (j : Nat)]) rfl (word_ok ws j bg)) rfl]
    rcases tbl_some (z := wd ws j) with hn | ⟨k, hk⟩
    · refine .inr ?_
      unfold sXread_comparison_
      refine fndx_e (s1 := t2) ?_
      show kSeqX _ _ t0 = _
      rw [start]
      exact xraise (mBt (knin_n (s := t2) (z := wd ws j) rfl hn))
    · have hne : wd ws j ≠ "" := by rw [hk]; cases k <;> decide +kernel
      have hdj := wd_drop hne
      have hdj2 : ws.drop j = rest := drop_app hd
      have B : ∀ r, sXread_operand_ [W, .int ((j + 1 : Nat))] bg = some (r, bg) → mAppX sXread_operand_ (mCons (mVar 0) (mCons (m2 gAdd (mVar 4) (mC (.int 1))) mNil)) t2 = some (r, t2) := fun r h => mappx (s1 := t2) (ds := [W, .int ((j + 1 : Nat))]) rfl h
      have skip : ∀ g : DMsX, kSeqX (kIfX (mB (mKNin s_FORMS (mVar 2))) (kRaise "InvalidText") (kVal kSkip)) g t2 = g t2 := fun g => xskip (mBt (knin_t (s := t2) (z := wd ws j) rfl (by rw [hk]; exact tbl_form k)))
      rcases operand_any hw (j + 1) bg with ⟨w, p, rest2, hw2, hp, hd2, hr2⟩ | hr2
      · let t3 : Sta := ⟨[some (.dat W), some (.dat (.int (i : Nat))), some (.dat (.str (wd ws j))), some (.dat (vald v o)), some (.dat (.int (j : Nat))), some (.dat (vald w p)), some (.dat (.int ((j + 1 + (valParts w p).length : Nat))))], bg⟩
        refine .inl ⟨.cmp k v o w p, rest2, ⟨hv, ho, hw2, hp⟩, rfl, ?_, ?_⟩
        · rw [hd, ← hdj2, hdj, hd2, hk]
          show _ = (valParts v o ++ (k.sign :: valParts w p)) ++ rest2
          simp
        · have el : i + (Cn.cmp k v o w p).toks.length = j + 1 + (valParts w p).length := by
            show i + (valParts v o ++ (k.sign :: valParts w p)).length = _
            rw [List.length_append, List.length_cons]
            omega
          rw [el]
          unfold sXread_comparison_
          refine fndx (s1 := t3) ?_
          show kSeqX _ _ t0 = _
          rw [start, skip, kseqx (s1 := t3) (asgg (B _ hr2) rfl)]
          exact kvalr (kret (mtup (s1 := t3) (mcons (s1 := t3) (mtup (s1 := t3) (mcons (s1 := t3) (kix (z := wd ws j) rfl (by rw [hk]; exact tbl_form k)) (mcons (s1 := t3) rfl (mcons (s1 := t3) rfl rfl)))) (mcons (s1 := t3) rfl rfl))))
      · refine .inr ?_
        unfold sXread_comparison_
        refine fndx_e (s1 := t2) ?_
        show kSeqX _ _ t0 = _
        rw [start, skip]
        exact kseqx_e (asgg_e (B _ hr2))
  · refine .inr ?_
    unfold sXread_comparison_
    refine fndx_e (s1 := t0) ?_
    show kSeqX _ _ t0 = _
    exact kseqx_e (asgg_e (A _ hr))
theorem name_ne {r : Str} (h : NameOk r) : r ≠ "" := fun e => by
  have := nameB_iff.mpr h
  rw [e] at this
  exact absurd this (by decide +kernel)
theorem found_any {ws : List Str} (hw : Wds ws) (i : Nat) (bg : List Dt) :
    (∃ (r : Str) (rest : List Str), NameOk r ∧ ws.drop i = r :: rest ∧ sXread_found_ [.lst (ws.map Dt.str), .int (i : Nat)] bg = some (.inl (.tup [(Cn.fnd r).d, .int ((i + 1 : Nat))]), bg)) ∨ sXread_found_ [.lst (ws.map Dt.str), .int (i : Nat)] bg = some (.inr IT, bg) := by
  let W : Dt := .lst (ws.map Dt.str)
  let t0 : Sta := ⟨[some (.dat W), some (.dat (.int (i : Nat))), none], bg⟩
  let t1 : Sta := ⟨[some (.dat W), some (.dat (.int (i : Nat))), some (.dat (.str (wd ws i)))], bg⟩
  have start : ∀ g : DMsX, kSeqX (kVal (kAsg (mApp sword_ (mCons (mVar 0) (mCons (mVar 1) mNil))) (hName 2))) g t0 = g t1 := fun g => xasg (s1 := t0) (s2 := t1) (mapp (s1 := t0) (ds := [W, .int (i : Nat)]) rfl (word_ok ws i bg)) rfl
  have en : mB (mApp sis_name (mCons (mVar 2) mNil)) t1 = some (nameB (wd ws i), t1) := mBt (mapp (s1 := t1) (ds := [.str (wd ws i)]) rfl (is_name_str _ bg (wd_len hw i)))
  cases hn : nameB (wd ws i) with
  | true =>
    have hok := nameB_iff.mp hn
    refine .inl ⟨wd ws i, _, hok, wd_drop (name_ne hok), ?_⟩
    unfold sXread_found_
    refine fndx (s1 := t1) ?_
    show kSeqX _ _ t0 = _
    rw [start, xskip (s := t1) (mNotB_eq (b := true) (by rw [en, hn]))]
    exact kvalr rfl
  | false =>
    refine .inr ?_
    unfold sXread_found_
    refine fndx_e (s1 := t1) ?_
    show kSeqX _ _ t0 = _
    rw [start]
    exact xraise (mNotB_eq (b := false) (by rw [en, hn]))
theorem joined_any {R : FDX} {ws : List Str} {d : Nat} (hw : Wds ws) (hR : ∀ i bg, PartRes ws i (fun c => d + c.dep ≤ 7) (R [.lst (ws.map Dt.str), .int (i : Nat), .int (d : Nat)] bg) bg) (i : Nat) (bg : List Dt) :
    (∃ (k : Bool) (a b : Cn) (rest : List Str), a.Ok ∧ b.Ok ∧ d + a.dep ≤ 7 ∧ d + b.dep ≤ 7 ∧ ws.drop i = a.toks ++ (bw k :: (b.toks ++ ((")" : Str) :: rest))) ∧ sXread_joined_B R [.lst (ws.map Dt.str), .int (i : Nat), .int (d : Nat)] bg = some (.inl (.tup [(Cn.bin k a b).d, .int ((i + a.toks.length + 1 + b.toks.length + 1 : Nat))]), bg)) ∨
      sXread_joined_B R [.lst (ws.map Dt.str), .int (i : Nat), .int (d : Nat)] bg = some (.inr IT, bg) := by
  let W : Dt := .lst (ws.map Dt.str)
  let t0 : Sta := ⟨[some (.dat W), some (.dat (.int (i : Nat))), some (.dat (.int (d : Nat))), none, none, none, none, none], bg⟩
  have A : ∀ r, R [W, .int (i : Nat), .int (d : Nat)] bg = some (r, bg) → mAppX R (mCons (mVar 0) (mCons (mVar 1) (mCons (mVar 2) mNil))) t0 = some (r, t0) := fun r h => mappx (s1 := t0) (ds := [W, .int (i : Nat), .int (d : Nat)]) rfl h
  rcases hR i bg with ⟨a, rest, ha, hda, hd, hr⟩ | hr
  · let j : Nat := i + a.toks.length
    have hdj : ws.drop j = rest := drop_app hd
    let t1 : Sta := ⟨[some (.dat W), some (.dat (.int (i : Nat))), some (.dat (.int (d : Nat))), none, some (.dat a.d), some (.dat (.int (j : Nat))), none, none], bg⟩
    let t2 : Sta := ⟨[some (.dat W), some (.dat (.int (i : Nat))), some (.dat (.int (d : Nat))), some (.dat (.str (wd ws j))), some (.dat a.d), some (.dat (.int (j : Nat))), none, none], bg⟩
    have start : ∀ g : DMsX, kSeqX (kAsgG (mAppX R (mCons (mVar 0) (mCons (mVar 1) (mCons (mVar 2) mNil)))) (hTup 2 (hCons (hName 4) (hCons (hName 5) hNil)))) (kSeqX (kVal (kAsg (mApp sword_ (mCons (mVar 0) (mCons (mVar 5) mNil))) (hName 3))) g) t0 = g t2 := fun g => by
      rw [kseqx (s1 := t1) (asgg (A _ hr) rfl), xasg (s1 := t1) (s2 := t2) (mapp (s1 := t1) (ds := [W, .int (j : Nat)]) rfl (word_ok ws j bg)) rfl]
    have ein : mB (m2 gNin (mVar 3) (mTup (mCons (mC (.str "and")) (mCons (mC (.str "or")) mNil)))) t2 = some (!(("and" : Str) == wd ws j || (("or" : Str) == wd ws j || false)), t2) := mBt (m2_eq (s1 := t2) (s2 := t2) (x := .str (wd ws j)) (y := .tup [.str "and", .str "or"]) rfl rfl (ginN rfl))
    cases hin : (!(("and" : Str) == wd ws j || (("or" : Str) == wd ws j || false))) with
    | true =>
      refine .inr ?_
      unfold sXread_joined_B
      refine fndx_e (s1 := t2) ?_
      show kSeqX _ _ t0 = _
      rw [start]
      exact xraise (by rw [ein, hin])
    | false =>
      obtain ⟨k, hk⟩ : ∃ k, wd ws j = bw k := by
        rw [Bool.not_eq_false', Bool.or_eq_true, Bool.or_eq_true] at hin
        rcases hin with h | h | h
        · exact ⟨true, (beq_iff_eq.mp h).symm⟩
        · exact ⟨false, (beq_iff_eq.mp h).symm⟩
        · cases h
      have hne : wd ws j ≠ "" := by rw [hk]; cases k <;> decide +kernel
      have hj := wd_drop hne
      have skip : ∀ g : DMsX, kSeqX (kIfX (mB (m2 gNin (mVar 3) (mTup (mCons (mC (.str "and")) (mCons (mC (.str "or")) mNil))))) (kRaise "InvalidText") (kVal kSkip)) g t2 = g t2 := fun g => xskip (by rw [ein, hin])
      have B : ∀ r, R [W, .int ((j + 1 : Nat)), .int (d : Nat)] bg = some (r, bg) → mAppX R (mCons (mVar 0) (mCons (m2 gAdd (mVar 5) (mC (.int 1))) (mCons (mVar 2) mNil))) t2 = some (r, t2) := fun r h => mappx (s1 := t2) (ds := [W, .int ((j + 1 : Nat)), .int (d : Nat)]) rfl h
      rcases hR (j + 1) bg with ⟨b, rest2, hb, hdb, hd2, hr2⟩ | hr2
      · let m : Nat := j + 1 + b.toks.length
        have hdm : ws.drop m = rest2 := drop_app hd2
        let t3 : Sta := ⟨[some (.dat W), some (.dat (.int (i : Nat))), some (.dat (.int (d : Nat))), some (.dat (.str (wd ws j))), some (.dat a.d), some (.dat (.int (j : Nat))), some (.dat b.d), some (.dat (.int (m : Nat)))], bg⟩
        have ee : mB (m2 gNe (mApp sword_ (mCons (mVar 0) (mCons (mVar 7) mNil))) (mC (.str ")"))) t3 = some (!(wd ws m == ")"), t3) := mBt (m2_eq (s1 := t3) (s2 := t3) (x := .str (wd ws m)) (y := .str ")") (mapp (s1 := t3) (ds := [W, .int (m : Nat)]) rfl (word_ok ws m bg)) rfl (tagN (wd_cp hw m) (by decide +kernel) rfl))
        cases he : wd ws m == ")" with
        | true =>
          have hm : wd ws m = ")" := beq_iff_eq.mp he
          have hmd := wd_drop (ws := ws) (i := m) (by rw [hm]; decide +kernel)
          refine .inl ⟨k, a, b, ws.drop (m + 1), ha, hb, hda, hdb, ?_, ?_⟩
          · rw [hd, ← hdj, hj, hd2, ← hdm, hmd, hk, hm]
          · unfold sXread_joined_B
            refine fndx (s1 := t3) ?_
            show kSeqX _ _ t0 = _
            rw [start, skip, kseqx (s1 := t3) (asgg (B _ hr2) rfl), xskip (s := t3) (by rw [ee, he]; rfl)]
            have e3 : mVar 3 t3 = some (.str (bw k), t3) := by show some (Dt.str (wd ws j), t3) = _; rw [hk]
            exact kvalr (kret (mtup (s1 := t3) (mcons (s1 := t3) (mtup (s1 := t3) (mcons (s1 := t3) e3 (mcons (s1 := t3) rfl (mcons (s1 := t3) rfl rfl)))) (mcons (s1 := t3) rfl rfl))))
        | false =>
          refine .inr ?_
          unfold sXread_joined_B
          refine fndx_e (s1 := t3) ?_
          show kSeqX _ _ t0 = _
          rw [start, skip, kseqx (s1 := t3) (asgg (B _ hr2) rfl)]
          exact xraise (by rw [ee, he]; rfl)
      · refine .inr ?_
        unfold sXread_joined_B
        refine fndx_e (s1 := t2) ?_
        show kSeqX _ _ t0 = _
        rw [start, skip]
        exact kseqx_e (asgg_e (B _ hr2))
  · refine .inr ?_
    unfold sXread_joined_B
    refine fndx_e (s1 := t0) ?_
    show kSeqX _ _ t0 = _
    exact kseqx_e (asgg_e (A _ hr))
end DL


namespace DL
open PySem PySem.Spec PyProof.Rows L2
variable [Tabs]
open TL
open DX
theorem deep_gt (d : Nat) : oGt (.int (d : Nat)) s_DEEPEST = some (.bl (decide (6 < d))) := by
  show some (Dt.bl (decide ((6 : Int) < (d : Nat)))) = _
  congr 2
  exact decide_eq_decide.mpr (by omega)
theorem part_any {ws : List Str} (hw : Wds ws) : ∀ (n d : Nat), 8 ≤ n + d → 1 ≤ n → ∀ (i : Nat) (bg : List Dt), PartRes ws i (fun c => d + c.dep ≤ 7) (sXread_part_ n [.lst (ws.map Dt.str), .int (i : Nat), .int (d : Nat)] bg) bg
  | 0, d, _, h1, _, _ => by omega
  | n + 1, d, hn, _, i, bg => by
    show PartRes ws i _ (sXread_part_B (sXread_part_ n) _ bg) bg
    let W : Dt := .lst (ws.map Dt.str)
    let z : Str := wd ws i
    let t0 : Sta := ⟨[some (.dat W), some (.dat (.int (i : Nat))), some (.dat (.int (d : Nat))), none, none, none], bg⟩
    let t : Sta := ⟨[some (.dat W), some (.dat (.int (i : Nat))), some (.dat (.int (d : Nat))), some (.dat (.str z)), none, none], bg⟩
    have eg : mB (m2 oGt (mVar 2) (mC s_DEEPEST)) t0 = some (decide (6 < d), t0) := mBt (m2_eq (s1 := t0) (s2 := t0) (x := .int (d : Nat)) (y := s_DEEPEST) rfl rfl (deep_gt d))
    by_cases hd : 6 < d
    · refine .inr ?_
      unfold sXread_part_B
      refine fndx_e (s1 := t0) ?_
      show kSeqX _ _ t0 = _
      exact xraise (by rw [eg, decide_eq_true hd])
    · have start : ∀ g : DMsX, kSeqX (kIfX (mB (m2 oGt (mVar 2) (mC s_DEEPEST))) (kRaise "InvalidText") (kVal kSkip)) (kSeqX (kVal (kAsg (mApp sword_ (mCons (mVar 0) (mCons (mVar 1) mNil))) (hName 3))) g) t0 = g t := fun g => by
        rw [xskip (s := t0) (by rw [eg, decide_eq_false hd]), xasg (s1 := t0) (s2 := t) (mapp (s1 := t0) (ds := [W, .int (i : Nat)]) rfl (word_ok ws i bg)) rfl]
      have cz : cpOk z = true := wd_cp hw i
      have eqz : ∀ {w : Str} {r : Bool}, cpOk w = true → (z == w) = r → mB (m2 gEq (mVar 3) (mC (.str w))) t = some (r, t) := fun {w r} h2 h3 => mBt (m2_eq (s1 := t) (s2 := t) (x := .str z) (y := .str w) rfl rfl (tag cz h2 h3))
      cases e1 : z == "true" with
      | true =>
        have hz : wd ws i = "true" := beq_iff_eq.mp e1
        have hdr := wd_drop (ws := ws) (i := i) (by rw [hz]; decide +kernel)
        rw [hz] at hdr
        refine .inl ⟨.tru, _, trivial, by show d + 1 ≤ 7; omega, hdr, ?_⟩
        unfold sXread_part_B
        refine fndx (s1 := t) ?_
        show kSeqX _ _ t0 = _
        rw [start]
        exact kseqx_r (kvalr (by rw [kif_t (eqz (by decide +kernel) e1)]; rfl))
      | false =>
      have skip1 : ∀ g : DMsX, kSeqX (kVal (kIf (mB (m2 gEq (mVar 3) (mC (.str "true")))) (kRet (mTup (mCons (mTup (mCons (mC (.str "true")) mNil)) (mCons (m2 gAdd (mVar 1) (mC (.int 1))) mNil)))) kSkip)) g t = g t := fun g => kseqx (kvalx (by rw [kif_f (eqz (by decide +kernel) e1)]; rfl))
      cases e2 : z == "found" with
      | true =>
        have hz : wd ws i = "found" := beq_iff_eq.mp e2
        have hdr := wd_drop (ws := ws) (i := i) (by rw [hz]; decide +kernel)
        rw [hz] at hdr
        have A : ∀ r, sXread_found_ [W, .int ((i + 1 : Nat))] bg = some (r, bg) → mAppX sXread_found_ (mCons (mVar 0) (mCons (m2 gAdd (mVar 1) (mC (.int 1))) mNil)) t = some (r, t) := fun r h => mappx (s1 := t) (ds := [W, .int ((i + 1 : Nat))]) rfl h
        rcases found_any hw (i + 1) bg with ⟨r, rest, hr, hd2, hf⟩ | hf
        · refine .inl ⟨.fnd r, rest, hr, by show d + 1 ≤ 7; omega, by rw [hdr, hd2]; rfl, ?_⟩
          unfold sXread_part_B
          refine fndx (s1 := t) ?_
          show kSeqX _ _ t0 = _
          rw [start, skip1]
          exact kseqx_r (by rw [kifx_t (eqz (by decide +kernel) e2)]; exact kretx (A _ hf))
        · refine .inr ?_
          unfold sXread_part_B
          refine fndx_e (s1 := t) ?_
          show kSeqX _ _ t0 = _
          rw [start, skip1]
          exact kseqx_e (by rw [kifx_t (eqz (by decide +kernel) e2)]; exact kretx_e (A _ hf))
      | false =>
      have hn1 : 1 ≤ n := by omega
      have ih := part_any hw n (d + 1) (by omega) hn1
      cases e3 : z == "not" with
      | true =>
        have hz : wd ws i = "not" := beq_iff_eq.mp e3
        have hdr := wd_drop (ws := ws) (i := i) (by rw [hz]; decide +kernel)
        rw [hz] at hdr
        have A : ∀ r, sXread_part_ n [W, .int ((i + 1 : Nat)), .int ((d + 1 : Nat))] bg = some (r, bg) → mAppX (sXread_part_ n) (mCons (mVar 0) (mCons (m2 gAdd (mVar 1) (mC (.int 1))) (mCons (m2 gAdd (mVar 2) (mC (.int 1))) mNil))) t = some (r, t) := fun r h => mappx (s1 := t) (ds := [W, .int ((i + 1 : Nat)), .int ((d + 1 : Nat))]) rfl h
        rcases ih (i + 1) bg with ⟨c, rest, hc, hcd, hd2, hf⟩ | hf
        · let u : Sta := ⟨[some (.dat W), some (.dat (.int (i : Nat))), some (.dat (.int (d : Nat))), some (.dat (.str z)), some (.dat c.d), some (.dat (.int ((i + 1 + c.toks.length : Nat))))], bg⟩
          refine .inl ⟨.nt c, rest, hc, by show d + (c.dep + 1) ≤ 7; omega, by rw [hdr, hd2]; rfl, ?_⟩
          have el : i + (Cn.nt c).toks.length = i + 1 + c.toks.length := by show i + (c.toks.length + 1) = _; omega
          rw [el]
          unfold sXread_part_B
          refine fndx (s1 := u) ?_
          show kSeqX _ _ t0 = _
          rw [start, skip1, xskip (eqz (by decide +kernel) e2)]
          refine kseqx_r ?_
          rw [kifx_t (eqz (by decide +kernel) e3), kseqx (s1 := u) (asgg (A _ hf) rfl)]
          exact kvalr rfl
        · refine .inr ?_
          unfold sXread_part_B
          refine fndx_e (s1 := t) ?_
          show kSeqX _ _ t0 = _
          rw [start, skip1, xskip (eqz (by decide +kernel) e2)]
          refine kseqx_e ?_
          rw [kifx_t (eqz (by decide +kernel) e3)]
          exact kseqx_e (asgg_e (A _ hf))
      | false =>
      cases e4 : z == "(" with
      | true =>
        have hz : wd ws i = "(" := beq_iff_eq.mp e4
        have hdr := wd_drop (ws := ws) (i := i) (by rw [hz]; decide +kernel)
        rw [hz] at hdr
        have A : ∀ r, sXread_joined_B (sXread_part_ n) [W, .int ((i + 1 : Nat)), .int ((d + 1 : Nat))] bg = some (r, bg) → mAppX (sXread_joined_B (sXread_part_ n)) (mCons (mVar 0) (mCons (m2 gAdd (mVar 1) (mC (.int 1))) (mCons (m2 gAdd (mVar 2) (mC (.int 1))) mNil))) t = some (r, t) := fun r h => mappx (s1 := t) (ds := [W, .int ((i + 1 : Nat)), .int ((d + 1 : Nat))]) rfl h
        rcases joined_any hw ih (i + 1) bg with ⟨k, a, b, rest, ha, hb, hda, hdb, hd2, hf⟩ | hf
        · refine .inl ⟨.bin k a b, rest, ⟨ha, hb⟩, ?_, ?_, ?_⟩
          · show d + (max a.dep b.dep + 1) ≤ 7
            have := Nat.max_le.mpr ⟨show a.dep ≤ 6 - d by omega, show b.dep ≤ 6 - d by omega⟩
            omega
          · rw [hdr, hd2]
            show _ = (("(" : Str) :: (a.toks ++ (bw k :: (b.toks ++ [(")" : Str)])))) ++ rest
            simp
          · have el : i + (Cn.bin k a b).toks.length = i + 1 + a.toks.length + 1 + b.toks.length + 1 := by
              show i + (("(" : Str) :: (a.toks ++ (bw k :: (b.toks ++ [(")" : Str)])))).length = _
              simp only [List.length_cons, List.length_append, List.length_nil]
              omega
            rw [el]
            unfold sXread_part_B
            refine fndx (s1 := t) ?_
            show kSeqX _ _ t0 = _
            rw [start, skip1, xskip (eqz (by decide +kernel) e2), xskip (eqz (by decide +kernel) e3)]
            exact kseqx_r (by rw [kifx_t (eqz (by decide +kernel) e4)]; exact kretx (A _ hf))
        · refine .inr ?_
          unfold sXread_part_B
          refine fndx_e (s1 := t) ?_
          show kSeqX _ _ t0 = _
          rw [start, skip1, xskip (eqz (by decide +kernel) e2), xskip (eqz (by decide +kernel) e3)]
          exact kseqx_e (by rw [kifx_t (eqz (by decide +kernel) e4)]; exact kretx_e (A _ hf))
      | false =>
        have A : ∀ r, sXread_comparison_ [W, .int (i : Nat)] bg = some (r, bg) → mAppX sXread_comparison_ (mCons (mVar 0) (mCons (mVar 1) mNil)) t = some (r, t) := fun r h => mappx (s1 := t) (ds := [W, .int (i : Nat)]) rfl h
        rcases comparison_any hw i bg with ⟨c, rest, hc, hcd, hd2, hf⟩ | hf
        · refine .inl ⟨c, rest, hc, by show d + c.dep ≤ 7; have hcd' : c.dep = 1 := hcd; omega, hd2, ?_⟩
          unfold sXread_part_B
          refine fndx (s1 := t) ?_
          show kSeqX _ _ t0 = _
          rw [start, skip1, xskip (eqz (by decide +kernel) e2), xskip (eqz (by decide +kernel) e3), xskip (eqz (by decide +kernel) e4)]
          exact kretx (A _ hf)
        · refine .inr ?_
          unfold sXread_part_B
          refine fndx_e (s1 := t) ?_
          show kSeqX _ _ t0 = _
          rw [start, skip1, xskip (eqz (by decide +kernel) e2), xskip (eqz (by decide +kernel) e3), xskip (eqz (by decide +kernel) e4)]
          exact kretx_e (A _ hf)
theorem rr_head : ∀ l : List Nat, (l.flatMap rr).head? ≠ some 41
  | [] => by simp
  | c :: r => by
    rw [List.flatMap_cons]
    unfold rr
    by_cases h : c = 40
    · rw [if_pos h]; simp
    · rw [if_neg h]
      by_cases h2 : c = 41
      · rw [if_pos h2]; simp
      · rw [if_neg h2]; simpa using h2
theorem rr_nil : ∀ {l : List Nat}, l.flatMap rr = [] → l = []
  | [], _ => rfl
  | c :: r, h => by
    rw [List.flatMap_cons] at h
    have h1 := (List.append_eq_nil_iff.mp h).1
    unfold rr at h1
    split at h1
    · cases h1
    · split at h1 <;> cases h1
theorem rr_40 : rr 40 = [40, 32] := rfl
theorem rr_41 : rr 41 = [32, 41] := rfl
theorem rr_o {c : Nat} (h : c ≠ 40) (h2 : c ≠ 41) : rr c = [c] := by unfold rr; rw [if_neg h, if_neg h2]
theorem rr_inj : ∀ {l m : List Nat}, l.flatMap rr = m.flatMap rr → l = m
  | [], m, h => (rr_nil h.symm).symm
  | c :: r, [], h => rr_nil h
  | c :: r, d :: s, h => by
    rw [List.flatMap_cons, List.flatMap_cons] at h
    have go : c = d → c :: r = d :: s := fun e => by
      subst e
      rw [rr_inj (List.append_cancel_left h)]
    by_cases c1 : c = 40
    · subst c1
      by_cases d1 : d = 40
      · exact go d1.symm
      · by_cases d2 : d = 41
        · subst d2
          rw [rr_40, rr_41] at h
          simp at h
        · rw [rr_40, rr_o d1 d2] at h
          simp at h
          exact absurd h.1.symm d1
    · by_cases c2 : c = 41
      · subst c2
        by_cases d2 : d = 41
        · exact go d2.symm
        · by_cases d1 : d = 40
          · subst d1
            rw [rr_40, rr_41] at h
            simp at h
          · rw [rr_41, rr_o d1 d2] at h
            simp at h
            exact absurd (by rw [← h.2]; rfl) (rr_head s)
      · by_cases d1 : d = 40
        · subst d1
          rw [rr_40, rr_o c1 c2] at h
          simp at h
          exact absurd h.1 c1
        · by_cases d2 : d = 41
          · subst d2
            rw [rr_41, rr_o c1 c2] at h
            simp at h
            exact absurd (by rw [h.2]; rfl) (rr_head r)
          · rw [rr_o c1 c2, rr_o d1 d2] at h
            exact go (by simp at h; exact h.1)
theorem rep_text {c : Cn} (h : c.Ok) : rep2 c.text = Txt.join " " c.toks := ext_tl (by rw [tl_rep2, words_of h, join_eq, tl_join, tl_sp])
theorem join_eqlen : ∀ ss : List Str, ss ≠ [] → (Str.join " " ss).length + 1 = (ss.map (·.length)).sum + ss.length
  | [], h => absurd rfl h
  | [z], _ => by simp [Str.join]
  | x :: z :: r, _ => by
    have h := join_eqlen (z :: r) (by simp)
    have e : (" " : Str).length = 1 := by decide +kernel
    show (x ++ " " ++ Str.join " " (z :: r)).length + 1 = x.length + ((z :: r).map (·.length)).sum + (r.length + 1 + 1)
    rw [len_app, len_app, e]
    have : (z :: r).length = r.length + 1 := rfl
    omega
theorem rep_cp {x : Str} (h : cpOk x = true) : cpOk (rep2 x) = true := cp_tl fun c hc => by
  rw [tl_rep2] at hc
  obtain ⟨a, ha, hc⟩ := List.mem_flatMap.mp hc
  have := cp_mem h ha
  unfold rr at hc
  split at hc
  · simp at hc; omega
  · split at hc
    · simp at hc; omega
    · rw [List.mem_singleton] at hc; omega
theorem cond_any {t : Str} (ht : cpOk t = true) (hl : t.length ≤ 20000) (bg : List Dt) :
    (∃ c : Cn, c.Ok ∧ c.dep ≤ 6 ∧ c.text = t ∧ sXread_condition [.str t] bg = some (.inl c.d, bg)) ∨ sXread_condition [.str t] bg = some (.inr IT, bg) := by
  obtain ⟨h1, h2, h3⟩ := split_any (rep2 t)
  obtain ⟨r1, r2⟩ := rep_len t
  let ws := Txt.split (rep2 t) " "
  have hw : Wds ws := by
    rw [join_eq] at h1
    refine ⟨fun z hz => cp_sub (rep_cp ht) fun c hc => by rw [← h1]; exact join_mem _ z hz c hc, h2, ?_⟩
    have := join_eqlen ws h3
    show (ws.map (·.length)).sum + ws.length ≤ 100000
    have e : (Str.join " " ws).length = (rep2 t).length := by rw [h1]
    omega
  let W : Dt := .lst (ws.map Dt.str)
  let t0 : Sta := ⟨[some (.dat (.str t)), none, none, none], bg⟩
  let t1 : Sta := ⟨[some (.dat (.str t)), some (.dat W), none, none], bg⟩
  have e1 : mRepC "(" "( " (mVar 0) t0 = some (.str (Txt.replace t "(" "( "), t0) := by
    show (if t.length + (t.length + 1) * ("( " : Str).length ≤ 16777216 then _ else _) = _
    have e : ("( " : Str).length = 2 := by decide +kernel
    rw [e, if_pos (by omega)]
  have e2 : mRepC ")" " )" (mRepC "(" "( " (mVar 0)) t0 = some (.str (rep2 t), t0) := by
    unfold mRepC at e1 ⊢
    rw [e1]
    show (if (Txt.replace t "(" "( ").length + ((Txt.replace t "(" "( ").length + 1) * (" )" : Str).length ≤ 16777216 then _ else _) = _
    have e : (" )" : Str).length = 2 := by decide +kernel
    rw [e, if_pos (by omega)]
    rfl
  have e3 : mM1 gSplit (mRepC ")" " )" (mRepC "(" "( " (mVar 0))) (mC (.str " ")) t0 = some (W, t0) := by
    refine mm1 (s1 := t0) (s2 := t0) (a := rep2 t) (y := .str " ") e2 rfl ?_
    show (if ((" " : Str).length == 0) = false ∧ (rep2 t).length + 2 ≤ sizeLine then _ else _) = _
    rw [if_pos ⟨by decide +kernel, line_big (by omega)⟩]
  have start : ∀ g : DMsX, kSeqX (kIfX (mNotB (mB (mIsi isStr (mVar 0)))) (kRaise "InvalidText") (kVal kSkip)) (kSeqX (kVal (kAsg (mM1 gSplit (mRepC ")" " )" (mRepC "(" "( " (mVar 0))) (mC (.str " "))) (hName 1))) g) t0 = g t1 := fun g => by
    rw [xskip (s := t0) rfl, xasg (s1 := t0) (s2 := t1) e3 rfl]
  have A : ∀ r, sXread_part_ 8 [W, .int ((0 : Nat)), .int ((1 : Nat))] bg = some (r, bg) → mAppX (sXread_part_ 8) (mCons (mVar 1) (mCons (mC (.int 0)) (mCons (mC (.int 1)) mNil))) t1 = some (r, t1) := fun r h => mappx (s1 := t1) (ds := [W, .int ((0 : Nat)), .int ((1 : Nat))]) rfl h
  rcases part_any hw 8 1 (by omega) (by omega) 0 bg with ⟨c, rest, hc, hcd, hd, hr⟩ | hr
  · let t2 : Sta := ⟨[some (.dat (.str t)), some (.dat W), some (.dat c.d), some (.dat (.int ((0 + c.toks.length : Nat))))], bg⟩
    have en : mB (m2 gNe (mVar 3) (mCall gLen (mCons (mVar 1) mNil))) t2 = some (!(((0 + c.toks.length : Nat) : Int) == ((ws.map Dt.str).length : Nat)), t2) := mBt (m2_eq (s1 := t2) (s2 := t2) (x := .int ((0 + c.toks.length : Nat))) (y := .int ((ws.map Dt.str).length : Nat)) rfl rfl rfl)
    by_cases hq : c.toks.length = ws.length
    · have hrest : rest = [] := by
        have := congrArg List.length hd
        rw [List.length_append, List.length_drop] at this
        exact List.eq_nil_of_length_eq_zero (by omega)
      have hws : ws = c.toks := by
        rw [hrest, List.append_nil] at hd
        exact hd
      have htext : c.text = t := by
        have e4 : rep2 c.text = rep2 t := by rw [rep_text hc, ← hws]; exact h1
        have e5 := congrArg tl e4
        rw [tl_rep2, tl_rep2] at e5
        exact ext_tl (rr_inj e5)
      refine .inl ⟨c, hc, by have h7 : 1 + c.dep ≤ 7 := hcd; omega, htext, ?_⟩
      unfold sXread_condition
      refine fndx (s1 := t2) ?_
      show kSeqX _ _ t0 = _
      rw [start, kseqx (s1 := t2) (asgg (A _ hr) rfl), xskip (s := t2) (by rw [en, beq_iff_eq.mpr (by rw [List.length_map, hq]; omega)]; rfl)]
      exact kvalr rfl
    · refine .inr ?_
      unfold sXread_condition
      refine fndx_e (s1 := t2) ?_
      show kSeqX _ _ t0 = _
      rw [start, kseqx (s1 := t2) (asgg (A _ hr) rfl)]
      exact xraise (by rw [en, beq_eq_false_iff_ne.mpr (by rw [List.length_map]; omega)]; rfl)
  · refine .inr ?_
    unfold sXread_condition
    refine fndx_e (s1 := t1) ?_
    show kSeqX _ _ t0 = _
    rw [start]
    exact kseqx_e (asgg_e (A _ hr))
end DL


namespace DL
open PySem PySem.Spec PyProof.Rows L2
variable [Tabs]
open TL
open DX
/-! ### the law's own reader -/
def sLhalves : FD := fnD 3 (kRet (mComp [2] (wRng1 (mCons (mCall gLen (mCons (mVar 0) mNil)) mNil)) (hName 2) (mB (m2 gEq (mSl (mVar 0) (mPart (mVar 2)) (mPart (m2 gAdd (mVar 2) (mCall gLen (mCons (mVar 1) mNil))))) (mVar 1))) (mTup (mCons (mSl (mVar 0) mNoP (mPart (mVar 2))) (mCons (mSl (mVar 0) (mPart (m2 gAdd (mVar 2) (mCall gLen (mCons (mVar 1) mNil)))) mNoP) mNil)))))
def sLgood_value : FD := fnD 1 (kRet (m2 gEq (m2 gIx (mTry "" (mAppX sXread_value (mCons (mVar 0) mNil))) (mC (.int 0))) (mC (.str ""))))
theorem comp_filt {sl0 : List (Option Slo)} {h : Dt → Sta → Option Sta} {t : DM Bool} {e : DM Dt} (b : Dt → Bool) (g : Dt → Dt) {bg : List Dt} :
    ∀ (l : List Dt), (∀ d ∈ l, ∃ s1 s2, h d ⟨sl0, bg⟩ = some s1 ∧ t s1 = some (b d, s2) ∧ s2.bag = bg ∧ (b d = true → ∃ s3, e s2 = some (g d, s3) ∧ s3.bag = bg)) → compD sl0 h t e l bg = some ((l.filter b).map g, bg)
  | [], _ => rfl
  | d :: l, hs => by
    obtain ⟨s1, s2, e1, e2, e3, e4⟩ := hs d (List.mem_cons_self ..)
    have ih := comp_filt b g l fun z hz => hs z (List.mem_cons_of_mem _ hz)
    unfold compD
    rw [e1, Option.bind_some, e2, Option.bind_some]
    dsimp only
    cases hb : b d with
    | true =>
      obtain ⟨s3, e5, e6⟩ := e4 hb
      rw [if_pos rfl, e5, Option.bind_some]
      dsimp only
      rw [e6, ih, List.filter_cons_of_pos hb]
      rfl
    | false =>
      rw [if_neg Bool.false_ne_true, e3, ih, List.filter_cons_of_neg (by rw [hb]; exact Bool.false_ne_true)]
theorem tl_mid (z : Str) (i m : Nat) : tl (cutS z (some (i : Nat)) (some ((i + m : Nat) : Int))) = ((tl z).drop i).take m := by
  rw [tl_cut, HT.sIx_nat, HT.sIx_nat, len_tl]
  by_cases h : i ≤ (tl z).length
  · rw [show min i (tl z).length = i by omega]
    by_cases h2 : i + m ≤ (tl z).length
    · rw [show min (i + m) (tl z).length - i = m by omega]
    · rw [List.take_of_length_le (by rw [List.length_drop]; omega), List.take_of_length_le (by rw [List.length_drop]; omega)]
  · rw [List.drop_eq_nil_of_le (by omega), List.drop_eq_nil_of_le (by omega), List.take_nil, List.take_nil]
theorem gslL {z : Str} {lo hi : Option Int} (h : z.length ≤ 1000000) : gSl (.str z) lo hi = some (.str (cutS z lo hi)) := by
  show (if z.length ≤ sizeLine then some (Dt.str (cutS z lo hi)) else none) = _
  rw [if_pos (line_big h)]
def pairD (p : Str × Str) : Dt := .tup [.str p.1, .str p.2]
theorem halves_any {x w : Str} (hx : cpOk x = true) (hw : cpOk w = true) (hxl : x.length ≤ 90000) (hwl : w.length ≤ 1000) (hw0 : 0 < w.length) (bg : List Dt) :
    ∃ L : List (Str × Str), sLhalves [.str x, .str w] bg = some (.lst (L.map pairD), bg) ∧ L.length ≤ x.length ∧ ∀ p : Str × Str, p ∈ L ↔ x = p.1 ++ w ++ p.2 := by
  let s : Sta := ⟨[some (.dat (.str x)), some (.dat (.str w)), none], bg⟩
  let b : Dt → Bool := fun d => match d with
    | .int i => cutS x (some i) (some (i + (w.length : Nat))) == w
    | _ => false
  let g : Dt → Dt := fun d => match d with
    | .int i => pairD (cutS x none (some i), cutS x (some (i + (w.length : Nat))) none)
    | _ => .non
  have ecomp : mComp [2] (wRng1 (mCons (mCall gLen (mCons (mVar 0) mNil)) mNil)) (hName 2) (mB (m2 gEq (mSl (mVar 0) (mPart (mVar 2)) (mPart (m2 gAdd (mVar 2) (mCall gLen (mCons (mVar 1) mNil))))) (mVar 1))) (mTup (mCons (mSl (mVar 0) mNoP (mPart (mVar 2))) (mCons (mSl (mVar 0) (mPart (m2 gAdd (mVar 2) (mCall gLen (mCons (mVar 1) mNil)))) mNoP) mNil))) s = some (.lst (((rngD 0 x.length).filter b).map g), s) := by
    refine mcomp (s1 := s) (l := rngD 0 x.length) ?_ (by rw [rng_len]; omega) (comp_filt b g _ fun d hd => ?_)
    · exact mrng1 (j := (x.length : Nat)) (mcons (s1 := s) (mcall (s1 := s) (l := [.str x]) rfl (glen_str (line_big (by omega)))) rfl) (by omega) (by omega)
    · obtain ⟨i, hi, rfl⟩ := rng_mem hd
      let d : Dt := .int (0 + (i : Nat))
      let s' : Sta := ⟨[some (.dat (.str x)), some (.dat (.str w)), some (.dat d)], bg⟩
      have elen : mPart (m2 gAdd (mVar 2) (mCall gLen (mCons (mVar 1) mNil))) s' = some (some (0 + (i : Nat) + ((w.length : Nat) : Int)), s') := by
        unfold mPart
        rw [m2_eq (s1 := s') (s2 := s') (x := d) (y := .int (w.length : Nat)) (d := .int (0 + (i : Nat) + ((w.length : Nat) : Int))) rfl (mcall (s1 := s') (l := [.str w]) rfl (glen_str (line_big (by omega)))) rfl]
        rfl
      have e1 : mB (m2 gEq (mSl (mVar 0) (mPart (mVar 2)) (mPart (m2 gAdd (mVar 2) (mCall gLen (mCons (mVar 1) mNil))))) (mVar 1)) s' = some (b d, s') := by
        refine mBt (m2_eq (s1 := s') (s2 := s') (x := .str (cutS x (some (0 + (i : Nat))) (some (0 + (i : Nat) + ((w.length : Nat) : Int))))) (y := .str w) ?_ rfl (tag ?_ hw rfl))
        · exact msl (s1 := s') (s2 := s') (s3 := s') (x := .str x) (lo := some (0 + (i : Nat))) (hi := some (0 + (i : Nat) + ((w.length : Nat) : Int))) rfl rfl elen (gslL (by omega))
        · exact cp_sub hx fun c hc => by
            rw [tl_cut] at hc
            exact List.mem_of_mem_drop (List.mem_of_mem_take hc)
      refine ⟨s', s', rfl, e1, rfl, fun _ => ⟨s', ?_, rfl⟩⟩
      exact mtup (mcons (s1 := s') (msl (s1 := s') (s2 := s') (s3 := s') (x := .str x) (lo := none) (hi := some (0 + (i : Nat))) rfl rfl rfl (gslL (by omega)))
        (mcons (s1 := s') (msl (s1 := s') (s2 := s') (s3 := s') (x := .str x) (lo := some (0 + (i : Nat) + ((w.length : Nat) : Int))) (hi := none) rfl elen rfl (gslL (by omega))) rfl))
  let ks : List Nat := (List.range x.length).filter fun k => cutS x (some (k : Nat)) (some ((k + w.length : Nat) : Int)) == w
  let L : List (Str × Str) := ks.map fun k => (cutS x none (some (k : Nat)), cutS x (some ((k + w.length : Nat) : Int)) none)
  have er : rngD 0 x.length = (List.range x.length).map fun k => Dt.int ((k : Nat) : Int) := by
    unfold rngD
    congr 1
    funext k
    rw [Int.zero_add]
  have eL : ((rngD 0 x.length).filter b).map g = L.map pairD := by
    rw [er, List.filter_map, List.map_map, List.map_map]
    rfl
  refine ⟨L, ?_, ?_, fun p => ?_⟩
  · unfold sLhalves
    refine fnd (s1 := s) (kret ?_)
    show mComp _ _ _ _ _ s = _
    rw [ecomp, eL]
  · show (List.map _ ks).length ≤ _
    rw [List.length_map]
    refine Nat.le_trans (List.length_filter_le _ _) ?_
    rw [List.length_range]
    exact Nat.le_refl _
  · have hwt : (tl w).length = w.length := (len_tl w).symm
    constructor
    · intro hp
      obtain ⟨k, hk, rfl⟩ := List.mem_map.mp hp
      obtain ⟨_, hk2⟩ := List.mem_filter.mp hk
      have e1 := congrArg tl (beq_iff_eq.mp hk2)
      rw [tl_mid] at e1
      refine ext_tl ?_
      rw [tl_append, tl_append, tl_to, tl_from, ← e1, List.append_assoc, ← List.drop_drop, List.take_append_drop, List.take_append_drop]
    · intro hp
      have ex := congrArg tl hp
      rw [tl_append, tl_append] at ex
      refine List.mem_map.mpr ⟨p.1.length, List.mem_filter.mpr ⟨?_, ?_⟩, ?_⟩
      · rw [List.mem_range, len_tl x, ex, List.length_append, List.length_append, len_tl p.1, hwt]
        omega
      · refine beq_iff_eq.mpr (ext_tl ?_)
        rw [tl_mid, ex, len_tl p.1, List.append_assoc, List.drop_left, ← hwt, List.take_left]
      · refine Prod.ext (ext_tl ?_) (ext_tl ?_)
        · show tl (cutS x none (some ((p.1.length : Nat) : Int))) = _
          rw [tl_to, ex, len_tl p.1, List.append_assoc, List.take_left]
        · show tl (cutS x (some ((p.1.length + w.length : Nat) : Int)) none) = _
          rw [tl_from, ex, len_tl p.1, ← hwt, ← List.length_append, List.drop_left]
theorem mtry_l {e0 : Str} {f : DMX} {s s1 : Sta} {d : Dt} (h : f s = some (.inl d, s1)) : mTry e0 f s = some (.tup [.str e0, d], s1) := by unfold mTry; rw [h]; rfl
theorem mtry_r {e0 : Str} {f : DMX} {s s1 : Sta} {er : Er} (h : f s = some (.inr er, s1)) : mTry e0 f s = some (.tup [.str er.nm, .tup []], s1) := by unfold mTry; rw [h]; rfl
def GoodV (y : Str) : Prop := ∃ (v : Sg) (o : Option Int), v.Ok ∧ (∀ m, o = some m → Bnd m) ∧ valText v o = y
theorem good_value_any {y : Str} (hy : cpOk y = true) (hl : y.length ≤ 100000) (bg : List Dt) : ∃ b, sLgood_value [.str y] bg = some (.bl b, bg) ∧ (b = true ↔ GoodV y) := by
  let s : Sta := ⟨[some (.dat (.str y))], bg⟩
  have A : ∀ r, sXread_value [.str y] bg = some (r, bg) → mAppX sXread_value (mCons (mVar 0) mNil) s = some (r, s) := fun r h => mappx (s1 := s) (ds := [.str y]) rfl h
  rcases read_value_any hy hl bg with ⟨v, o, hv, ho, ht, hr⟩ | hr
  · refine ⟨true, ?_, fun _ => ⟨v, o, hv, ho, ht⟩, fun _ => rfl⟩
    unfold sLgood_value
    refine fnd (s1 := s) (kret ?_)
    exact m2_eq (s1 := s) (s2 := s) (x := .str "") (y := .str "") (m2_eq (s1 := s) (s2 := s) (x := .tup [.str "", vald v o]) (y := .int 0) (mtry_l (A _ hr)) rfl rfl) rfl (tag (by decide +kernel) (by decide +kernel) (by decide +kernel))
  · refine ⟨false, ?_, fun h => Bool.noConfusion h, fun ⟨v, o, hv, ho, ht⟩ => ?_⟩
    · unfold sLgood_value
      refine fnd (s1 := s) (kret ?_)
      exact m2_eq (s1 := s) (s2 := s) (x := .str "InvalidText") (y := .str "") (m2_eq (s1 := s) (s2 := s) (x := .tup [.str "InvalidText", .tup []]) (y := .int 0) (mtry_r (A _ hr)) rfl rfl) rfl (tag (by decide +kernel) (by decide +kernel) (by decide +kernel))
    · rw [← ht, read_value_x hv ho bg] at hr
      cases hr
end DL


namespace DL
open PySem PySem.Spec PyProof.Rows L2
variable [Tabs]
open TL
open DX
open Classical in
theorem any_pairs {s : Sta} {e : DM Dt} {f : DM Dt} {L : List (Str × Str)} {Q : Str × Str → Prop} (hl : L.length ≤ 100000) (hf : f s = some (.lst (L.map pairD), s))
    (he : ∀ p ∈ L, ∃ s1 b s', hName 4 (pairD p) ⟨wipeS (s.sl.map datOnly) [4], s.bag⟩ = some s1 ∧ e s1 = some (.bl b, s') ∧ s'.bag = s.bag ∧ (b = true ↔ Q p)) :
    ∃ b, mCall gAny (mCons (mComp [4] (wLst f) (hName 4) mYes e) mNil) s = some (.bl b, s) ∧ (b = true ↔ ∃ p ∈ L, Q p) := by
  let F : Dt → Bool := fun d => decide (∃ p ∈ L, d = pairD p ∧ Q p)
  have inj : ∀ {p q : Str × Str}, pairD p = pairD q → p = q := fun {p q} h => by
    unfold pairD at h
    injection h with h
    injection h with h1 h
    injection h with h2 _
    injection h1 with h1
    injection h2 with h2
    exact Prod.ext h1 h2
  have hF : ∀ p ∈ L, (F (pairD p) = true ↔ Q p) := fun p hp => by
    show decide _ = true ↔ _
    rw [decide_eq_true_eq]
    exact ⟨fun ⟨q, _, e, hq⟩ => by rw [inj e]; exact hq, fun hq => ⟨p, hp, rfl, hq⟩⟩
  refine ⟨(L.map pairD).any F, ?_, ?_⟩
  · refine mcall (s1 := s) (l := [.lst ((L.map pairD).map fun d => .bl (F d))]) (mcons (s1 := s) ?_ rfl) (gany_map F _)
    refine mcomp (s1 := s) (l := L.map pairD) (by unfold wLst; rw [hf]; rfl) (by rw [List.length_map]; exact hl) (comp_map (fun d => .bl (F d)) _ fun d hd => ?_)
    obtain ⟨p, hp, rfl⟩ := List.mem_map.mp hd
    obtain ⟨s1, b, s', h1, h2, h3, h4⟩ := he p hp
    refine ⟨s1, s1, s', h1, rfl, ?_, h3⟩
    rw [h2]
    have : b = F (pairD p) := by
      have h5 := hF p hp
      cases hb : b with
      | true => exact (h5.mpr (h4.mp hb)).symm
      | false =>
        cases hq : F (pairD p) with
        | false => rfl
        | true => rw [h4.mpr (h5.mp hq)] at hb; cases hb
    rw [this]
  · rw [List.any_eq_true]
    constructor
    · rintro ⟨d, hd, h⟩
      obtain ⟨p, hp, rfl⟩ := List.mem_map.mp hd
      exact ⟨p, hp, (hF p hp).mp h⟩
    · rintro ⟨p, hp, h⟩
      exact ⟨pairD p, List.mem_map_of_mem hp, (hF p hp).mpr h⟩
/-! first words -/
def fw (x : Str) : List Nat := (tl x).takeWhile fun c => c != 32
theorem tw_app : ∀ (l r : List Nat), 32 ∉ l → (l ++ 32 :: r).takeWhile (fun c => c != 32) = l
  | [], r, _ => by simp
  | c :: l, r, h => by
    have h1 : c ≠ 32 := fun e => h (by rw [e]; exact List.mem_cons_self ..)
    rw [List.cons_append, List.takeWhile_cons_of_pos (by simpa using h1), tw_app l r fun hm => h (List.mem_cons_of_mem _ hm)]
theorem fw_app {a b : Str} (h : 32 ∉ tl a) : fw (a ++ " " ++ b) = tl a := by
  unfold fw
  rw [tl_append, tl_append, tl_sp, List.append_assoc]
  exact tw_app (tl a) (tl b) h
theorem cmp_fw {k : Cp} {v w : Sg} {o p : Option Int} (h : v.Ok) : fw (Cn.cmp k v o w p).text = tl (sgText v) := by
  have hs := sg_sp h
  cases o with
  | none =>
    have e : (Cn.cmp k v none w p).text = sgText v ++ " " ++ (k.sign ++ " " ++ valText w p) := ext_tl (by
      show tl (sgText v ++ " " ++ k.sign ++ " " ++ valText w p) = _
      simp only [tl_append, List.append_assoc])
    rw [e, fw_app hs]
  | some m =>
    by_cases hm : m < 0
    · have e : (Cn.cmp k v (some m) w p).text = sgText v ++ " " ++ ("- " ++ itxt (0 - m) ++ " " ++ k.sign ++ " " ++ valText w p) := ext_tl (by
        show tl ((sgText v ++ (if m < 0 then " - " ++ itxt (0 - m) else " + " ++ itxt m)) ++ " " ++ k.sign ++ " " ++ valText w p) = _
        rw [if_pos hm]
        simp only [tl_append, List.append_assoc]
        rw [show tl " - " = tl " " ++ tl "- " by decide +kernel]
        simp only [List.append_assoc])
      rw [e, fw_app hs]
    · have e : (Cn.cmp k v (some m) w p).text = sgText v ++ " " ++ ("+ " ++ itxt m ++ " " ++ k.sign ++ " " ++ valText w p) := ext_tl (by
        show tl ((sgText v ++ (if m < 0 then " - " ++ itxt (0 - m) else " + " ++ itxt m)) ++ " " ++ k.sign ++ " " ++ valText w p) = _
        rw [if_neg hm]
        simp only [tl_append, List.append_assoc]
        rw [show tl " + " = tl " " ++ tl "+ " by decide +kernel]
        simp only [List.append_assoc])
      rw [e, fw_app hs]
theorem not_sp : ("not " : Str) = "not" ++ " " := by decide +kernel
theorem found_sp : ("found " : Str) = "found" ++ " " := by decide +kernel
theorem nt_fw (c : Cn) : fw (Cn.nt c).text = tl "not" := by
  show fw ("not " ++ c.text) = _
  rw [not_sp]
  exact fw_app (by decide +kernel)
theorem fnd_fw (r : Str) : fw (Cn.fnd r).text = tl "found" := by
  show fw ("found " ++ r) = _
  rw [found_sp]
  exact fw_app (by decide +kernel)
theorem tru_fw : fw (Cn.tru).text = tl "true" := by decide +kernel
theorem bin_hd (k : Bool) (a b : Cn) : (tl (Cn.bin k a b).text).head? = some 40 := by
  show (tl ("(" ++ a.text ++ " " ++ bw k ++ " " ++ b.text ++ ")")).head? = _
  simp only [tl_append]
  rw [show tl "(" = [40] by decide +kernel]
  rfl
theorem cmp_hd {k : Cp} {v w : Sg} {o p : Option Int} (h : v.Ok) : (tl (Cn.cmp k v o w p).text).head? ≠ some 40 := by
  have hp := (sgText_len h).1
  have e : ∃ r, tl (Cn.cmp k v o w p).text = tl (sgText v) ++ r := by
    cases o with
    | none => exact ⟨_, by show tl (sgText v ++ " " ++ k.sign ++ " " ++ valText w p) = _; simp only [tl_append, List.append_assoc]; rfl⟩
    | some m => exact ⟨_, by show tl ((sgText v ++ (if m < 0 then " - " ++ itxt (0 - m) else " + " ++ itxt m)) ++ " " ++ k.sign ++ " " ++ valText w p) = _; simp only [tl_append, List.append_assoc]; rfl⟩
  obtain ⟨r, e⟩ := e
  rw [e]
  cases ht : tl (sgText v) with
  | nil => rw [len_tl, ht] at hp; simp at hp
  | cons c l =>
    rw [List.cons_append]
    simp only [List.head?_cons]
    intro hc
    have hm : c ∈ tl (sgText v) := by rw [ht]; exact List.mem_cons_self ..
    have := sgText_tl h hm
    injection hc with hc
    omega
theorem cancel_l {a b c : Str} (h : a ++ b = a ++ c) : b = c := ext_tl (by
  have := congrArg tl h
  rw [tl_append, tl_append] at this
  exact List.append_cancel_left this)
theorem is_not {c : Cn} {y : Str} (h : c.Ok) (e : c.text = "not " ++ y) : ∃ c', c = .nt c' ∧ c'.text = y := by
  have hf : fw c.text = tl "not" := by rw [e, not_sp]; exact fw_app (by decide +kernel)
  cases c with
  | tru => rw [tru_fw] at hf; exact absurd hf (by decide +kernel)
  | fnd r => rw [fnd_fw] at hf; exact absurd hf (by decide +kernel)
  | nt c' => exact ⟨c', rfl, cancel_l e⟩
  | cmp k v o w p =>
    rw [cmp_fw h.1] at hf
    have := ne_not h.1
    rw [ext_tl hf] at this
    exact absurd this (by decide +kernel)
  | bin k a b =>
    have h1 := bin_hd k a b
    rw [e, tl_append, show tl "not " = [110, 111, 116, 32] by decide +kernel] at h1
    simp at h1
theorem is_found {c : Cn} {y : Str} (h : c.Ok) (e : c.text = "found " ++ y) : c = .fnd y := by
  have hf : fw c.text = tl "found" := by rw [e, found_sp]; exact fw_app (by decide +kernel)
  cases c with
  | tru => rw [tru_fw] at hf; exact absurd hf (by decide +kernel)
  | fnd r => rw [cancel_l (show ("found " : Str) ++ r = "found " ++ y from e)]
  | nt c' => rw [nt_fw] at hf; exact absurd hf (by decide +kernel)
  | cmp k v o w p =>
    rw [cmp_fw h.1] at hf
    have := ne_found h.1
    rw [ext_tl hf] at this
    exact absurd this (by decide +kernel)
  | bin k a b =>
    have h1 := bin_hd k a b
    rw [e, tl_append, show tl "found " = [102, 111, 117, 110, 100, 32] by decide +kernel] at h1
    simp at h1
theorem is_bin {c : Cn} {y : Str} (h : c.Ok) (e : c.text = "(" ++ y) : ∃ k a b, c = .bin k a b := by
  have hh : (tl c.text).head? = some 40 := by rw [e, tl_append, show tl "(" = [40] by decide +kernel]; rfl
  cases c with
  | tru => exact absurd hh (by decide +kernel)
  | fnd r =>
    rw [show (Cn.fnd r).text = "found " ++ r from rfl, tl_append, show tl "found " = [102, 111, 117, 110, 100, 32] by decide +kernel] at hh
    simp at hh
  | nt c' =>
    rw [show (Cn.nt c').text = "not " ++ c'.text from rfl, tl_append, show tl "not " = [110, 111, 116, 32] by decide +kernel] at hh
    simp at hh
  | cmp k v o w p => exact absurd hh (cmp_hd h.1)
  | bin k a b => exact ⟨k, a, b, rfl⟩
/-! brackets are even -/
theorem cnt_app (k : Nat) : ∀ l r : List Nat, cnt k (l ++ r) = cnt k l + cnt k r
  | [], r => by rw [cnt_nil]; simp
  | c :: l, r => by rw [List.cons_append, cnt_cons, cnt_cons, cnt_app k l r]; omega
theorem cnt_free (k : Nat) : ∀ l : List Nat, (∀ c ∈ l, c ≠ k) → cnt k l = 0
  | [], _ => cnt_nil k
  | c :: l, h => by rw [cnt_cons, cnt_free k l fun x hx => h x (List.mem_cons_of_mem _ hx), if_neg (h c (List.mem_cons_self ..))]; rfl
theorem even_text : ∀ {c : Cn}, c.Ok → cnt 40 (tl c.text) = cnt 41 (tl c.text)
  | .tru, _ => by decide +kernel
  | .fnd r, h => by
    show cnt 40 (tl ("found " ++ r)) = cnt 41 (tl ("found " ++ r))
    rw [tl_append, cnt_app, cnt_app, cnt_free 40 (tl r) fun c hc => by have := (show NameOk r from h).low c hc; unfold letter at this; omega, cnt_free 41 (tl r) fun c hc => by have := (show NameOk r from h).low c hc; unfold letter at this; omega]
    decide +kernel
  | .nt c, h => by
    show cnt 40 (tl ("not " ++ c.text)) = cnt 41 (tl ("not " ++ c.text))
    rw [tl_append, cnt_app, cnt_app, even_text (c := c) h]
    rw [show cnt 40 (tl "not ") = cnt 41 (tl "not ") by decide +kernel]
  | .cmp k v o w p, h => by
    have free : ∀ c ∈ tl (valText v o ++ " " ++ k.sign ++ " " ++ valText w p), c ≠ 40 ∧ c ≠ 41 := fun c hc => by
      simp only [tl_append, List.mem_append, tl_sp, List.mem_singleton] at hc
      rcases hc with (((hc | hc) | hc) | hc) | hc
      · exact val_free h.1 o c hc
      · omega
      · have := sign_tl k hc; omega
      · omega
      · exact val_free h.2.2.1 p c hc
    show cnt 40 (tl (valText v o ++ " " ++ k.sign ++ " " ++ valText w p)) = cnt 41 (tl (valText v o ++ " " ++ k.sign ++ " " ++ valText w p))
    rw [cnt_free 40 _ fun c hc => (free c hc).1, cnt_free 41 _ fun c hc => (free c hc).2]
  | .bin k a b, h => by
    show cnt 40 (tl ("(" ++ a.text ++ " " ++ bw k ++ " " ++ b.text ++ ")")) = cnt 41 (tl ("(" ++ a.text ++ " " ++ bw k ++ " " ++ b.text ++ ")"))
    simp only [tl_append, cnt_app]
    rw [even_text (c := a) h.1, even_text (c := b) h.2, show cnt 40 (tl "(") = 1 by decide +kernel, show cnt 41 (tl "(") = 0 by decide +kernel, show cnt 40 (tl ")") = 0 by decide +kernel, show cnt 41 (tl ")") = 1 by decide +kernel, show cnt 40 (tl " ") = 0 by decide +kernel, show cnt 41 (tl " ") = 0 by decide +kernel, cnt_free 40 (tl (bw k)) fun c hc => by have := bw_tl k hc; omega, cnt_free 41 (tl (bw k)) fun c hc => by have := bw_tl k hc; omega]
    omega
theorem count_40 (x : Str) : Txt.count x "(" = cnt 40 (tl x) := by
  rw [show ("(" : Str) = ⟨#[40]⟩ by decide +kernel]
  exact PyProof.Rows.count_is x 40
theorem count_41 (x : Str) : Txt.count x ")" = cnt 41 (tl x) := by
  rw [show (")" : Str) = ⟨#[41]⟩ by decide +kernel]
  exact PyProof.Rows.count_is x 41
end DL


namespace DL
open PySem PySem.Spec PyProof.Rows L2
variable [Tabs]
open TL
open DX
def sLgood_B (R : FD) : FD := fnD 5 (kSeq (kIf (mB (m2 oGt (mVar 1) (mC (.int 6)))) (kRet (mC (.bl false))) kSkip)
    (kSeq (kIf (mB (m2 gEq (mVar 0) (mC (.str "true")))) (kRet (mC (.bl true))) kSkip)
    (kSeq (kIf (mB (m2 gEq (mSl (mVar 0) mNoP (mPart (mC (.int 4)))) (mC (.str "not ")))) (kRet (mApp R (mCons (mSl (mVar 0) (mPart (mC (.int 4))) mNoP) (mCons (m2 gAdd (mVar 1) (mC (.int 1))) mNil)))) kSkip)
    (kSeq (kIf (mB (m2 gEq (mSl (mVar 0) mNoP (mPart (mC (.int 6)))) (mC (.str "found ")))) (kRet (mApp sLis_name (mCons (mSl (mVar 0) (mPart (mC (.int 6))) mNoP) mNil))) kSkip)
    (kSeq (kIf (mAndB (mB (m2 gEq (mSl (mVar 0) mNoP (mPart (mC (.int 1)))) (mC (.str "(")))) (mB (m2 gEq (mSl (mVar 0) (mPart (m2 gSub0 (mCall gLen (mCons (mVar 0) mNil)) (mC (.int 1)))) mNoP) (mC (.str ")"))))) (kSeq (kAsg (m2 gAdd (mApp sLhalves (mCons (mSl (mVar 0) (mPart (mC (.int 1))) (mPart (m2 gSub0 (mCall gLen (mCons (mVar 0) mNil)) (mC (.int 1))))) (mCons (mC (.str " and ")) mNil))) (mApp sLhalves (mCons (mSl (mVar 0) (mPart (mC (.int 1))) (mPart (m2 gSub0 (mCall gLen (mCons (mVar 0) mNil)) (mC (.int 1))))) (mCons (mC (.str " or ")) mNil)))) (hName 2))
    (kSeq (kAsg (mComp [4] (wLst (mVar 2)) (hName 4) (mAndB (mB (m2 gEq (mM1 gCount (m2 gIx (mVar 4) (mC (.int 0))) (mC (.str "("))) (mM1 gCount (m2 gIx (mVar 4) (mC (.int 0))) (mC (.str ")"))))) (mB (m2 gEq (mM1 gCount (m2 gIx (mVar 4) (mC (.int 1))) (mC (.str "("))) (mM1 gCount (m2 gIx (mVar 4) (mC (.int 1))) (mC (.str ")")))))) (mVar 4)) (hName 3))
    (kRet (mCall gAny (mCons (mComp [4] (wLst (mVar 3)) (hName 4) mYes (mAndV (mApp R (mCons (m2 gIx (mVar 4) (mC (.int 0))) (mCons (m2 gAdd (mVar 1) (mC (.int 1))) mNil))) (mApp R (mCons (m2 gIx (mVar 4) (mC (.int 1))) (mCons (m2 gAdd (mVar 1) (mC (.int 1))) mNil))))) mNil))))) kSkip)
    (kSeq (kAsg (m2 gAdd (m2 gAdd (mApp sLhalves (mCons (mVar 0) (mCons (mC (.str " <= ")) mNil))) (mApp sLhalves (mCons (mVar 0) (mCons (mC (.str " < ")) mNil)))) (mApp sLhalves (mCons (mVar 0) (mCons (mC (.str " = ")) mNil)))) (hName 2))
    (kRet (mCall gAny (mCons (mComp [4] (wLst (mVar 2)) (hName 4) mYes (mAndV (mApp sLgood_value (mCons (m2 gIx (mVar 4) (mC (.int 0))) mNil)) (mApp sLgood_value (mCons (m2 gIx (mVar 4) (mC (.int 1))) mNil)))) mNil)))))))))
def sLgood : Nat → FD
  | 0 => fun _ _ => none
  | n + 1 => sLgood_B (sLgood n)

/-- how it goes on -/
def gEven : DMs := (kSeq (kAsg (m2 gAdd (mApp sLhalves (mCons (mSl (mVar 0) (mPart (mC (.int 1))) (mPart (m2 gSub0 (mCall gLen (mCons (mVar 0) mNil)) (mC (.int 1))))) (mCons (mC (.str " and ")) mNil))) (mApp sLhalves (mCons (mSl (mVar 0) (mPart (mC (.int 1))) (mPart (m2 gSub0 (mCall gLen (mCons (mVar 0) mNil)) (mC (.int 1))))) (mCons (mC (.str " or ")) mNil)))) (hName 2)) (kAsg (mComp [4] (wLst (mVar 2)) (hName 4) (mAndB (mB (m2 gEq (mM1 gCount (m2 gIx (mVar 4) (mC (.int 0))) (mC (.str "("))) (mM1 gCount (m2 gIx (mVar 4) (mC (.int 0))) (mC (.str ")"))))) (mB (m2 gEq (mM1 gCount (m2 gIx (mVar 4) (mC (.int 1))) (mC (.str "("))) (mM1 gCount (m2 gIx (mVar 4) (mC (.int 1))) (mC (.str ")")))))) (mVar 4)) (hName 3)))
abbrev gst (x : Str) (d : Nat) (h e : Option Slo) (bg : List Dt) : Sta := ⟨[some (.dat (.str x)), some (.dat (.int (d : Nat))), h, e, none], bg⟩
theorem pref {x w : Str} : (cutS x none (some (w.length : Nat)) == w) = true ↔ ∃ y, x = w ++ y := by
  have hw : w.length = (tl w).length := len_tl w
  constructor
  · intro h
    have e := congrArg tl (beq_iff_eq.mp h)
    rw [tl_to] at e
    refine ⟨⟨((tl x).drop w.length).toArray⟩, ext_tl ?_⟩
    rw [tl_append, ← e]
    exact (List.take_append_drop _ _).symm
  · rintro ⟨y, rfl⟩
    refine beq_iff_eq.mpr (ext_tl ?_)
    rw [tl_to, tl_append, hw, List.take_left]
theorem cut_pref {w y : Str} : cutS (w ++ y) (some (w.length : Nat)) none = y := ext_tl (by rw [tl_from, tl_append, len_tl w, List.drop_left])
theorem cp_cut {x : Str} (h : cpOk x = true) (lo hi : Option Int) : cpOk (cutS x lo hi) = true := cp_sub h fun c hc => by
  rw [tl_cut] at hc
  exact List.mem_of_mem_drop (List.mem_of_mem_take hc)
theorem len_of_app {x a b c : Str} (h : x = a ++ b ++ c) : a.length ≤ x.length ∧ c.length ≤ x.length := by
  rw [h, len_app, len_app]; omega
theorem cp_of_app {x a b c : Str} (h : x = a ++ b ++ c) (hx : cpOk x = true) : cpOk a = true ∧ cpOk c = true :=
  ⟨cp_sub hx fun z hz => by rw [h, tl_append, tl_append]; simp [hz], cp_sub hx fun z hz => by rw [h, tl_append, tl_append]; simp [hz]⟩
def evB (p : Str × Str) : Bool := (Txt.count p.1 "(" == Txt.count p.1 ")") && (Txt.count p.2 "(" == Txt.count p.2 ")")
theorem even_of {p : Str × Str} : evB p = true ↔ cnt 40 (tl p.1) = cnt 41 (tl p.1) ∧ cnt 40 (tl p.2) = cnt 41 (tl p.2) := by
  unfold evB
  rw [Bool.and_eq_true, beq_iff_eq, beq_iff_eq, count_40, count_41, count_40, count_41]
theorem kseq_r {f g : DMs} {s s1 : Sta} {d : Dt} (h : f s = some (.rt d, s1)) : kSeq f g s = some (.rt d, s1) := by unfold kSeq; rw [h]; rfl
theorem good_any : ∀ (n d : Nat), 8 ≤ n + d → 1 ≤ n → ∀ {x : Str}, cpOk x = true → x.length ≤ 20000 → ∀ bg : List Dt, ∃ b, sLgood n [.str x, .int (d : Nat)] bg = some (.bl b, bg) ∧ (b = true ↔ ∃ c : Cn, c.Ok ∧ d + c.dep ≤ 7 ∧ c.text = x)
  | 0, d, _, h1, _, _, _, _ => by omega
  | n + 1, d, hn, _, x, hx, hl, bg => by
    show ∃ b, sLgood_B (sLgood n) _ bg = _ ∧ _
    let s0 : Sta := gst x d none none bg
    have eg : mB (m2 oGt (mVar 1) (mC (.int 6))) s0 = some (decide (6 < d), s0) := mBt (m2_eq (s1 := s0) (s2 := s0) (x := .int (d : Nat)) (y := .int 6) rfl rfl (deep_gt d))
    by_cases hd : 6 < d
    · refine ⟨false, ?_, fun h => (Bool.noConfusion h), fun ⟨c, _, h, _⟩ => by have := dep_pos c; omega⟩
      unfold sLgood_B
      refine fnd (s1 := s0) ?_
      show kSeq _ _ s0 = _
      exact kifr (by rw [eg, decide_eq_true hd]) rfl
    have skip0 : ∀ g : DMs, kSeq (kIf (mB (m2 oGt (mVar 1) (mC (.int 6)))) (kRet (mC (.bl false))) kSkip) g s0 = g s0 := fun g => kifs (by rw [eg, decide_eq_false hd])
    have hn1 : 1 ≤ n := by omega
    have ih : ∀ {y : Str}, cpOk y = true → y.length ≤ 20000 → ∀ bg : List Dt, ∃ b, sLgood n [.str y, .int ((d + 1 : Nat))] bg = some (.bl b, bg) ∧ (b = true ↔ ∃ c : Cn, c.Ok ∧ d + 1 + c.dep ≤ 7 ∧ c.text = y) := good_any n (d + 1) (by omega) hn1
    cases e1 : x == "true" with
    | true =>
      refine ⟨true, ?_, fun _ => ⟨.tru, trivial, by show d + 1 ≤ 7; omega, (beq_iff_eq.mp e1).symm⟩, fun _ => rfl⟩
      unfold sLgood_B
      refine fnd (s1 := s0) ?_
      show kSeq _ _ s0 = _
      rw [skip0]
      exact kifr (mBt (m2_eq (s1 := s0) (s2 := s0) (x := .str x) (y := .str "true") rfl rfl (tag hx (by decide +kernel) e1))) rfl
    | false =>
    have skip1 : ∀ g : DMs, kSeq (kIf (mB (m2 gEq (mVar 0) (mC (.str "true")))) (kRet (mC (.bl true))) kSkip) g s0 = g s0 := fun g => kifs (mBt (m2_eq (s1 := s0) (s2 := s0) (x := .str x) (y := .str "true") rfl rfl (tag hx (by decide +kernel) e1)))
    have p4 : mB (m2 gEq (mSl (mVar 0) mNoP (mPart (mC (.int 4)))) (mC (.str "not "))) s0 = some (cutS x none (some ((("not " : Str).length : Nat) : Int)) == "not ", s0) := by
      have e : (("not " : Str).length) = 4 := by decide +kernel
      rw [e]
      exact mBt (m2_eq (s1 := s0) (s2 := s0) (x := .str (cutS x none (some 4))) (y := .str "not ") (msl (s1 := s0) (s2 := s0) (s3 := s0) (x := .str x) (lo := none) (hi := some 4) rfl rfl rfl (gslL (by omega))) rfl (tag (cp_cut hx _ _) (by decide +kernel) rfl))
    cases e2 : cutS x none (some ((("not " : Str).length : Nat) : Int)) == "not " with
    | true =>
      obtain ⟨y, hy⟩ := pref.mp e2
      have ecut : cutS x (some 4) none = y := by
        have := cut_pref (w := "not ") (y := y)
        rw [← hy, show (("not " : Str).length) = 4 by decide +kernel] at this
        exact this
      have cy : cpOk y = true := cp_sub hx fun c hc => by rw [hy, tl_append]; exact List.mem_append_right _ hc
      have ly : y.length ≤ 20000 := by rw [hy, len_app] at hl; omega
      obtain ⟨b, eb, hb⟩ := ih cy ly bg
      refine ⟨b, ?_, ?_⟩
      · unfold sLgood_B
        refine fnd (s1 := s0) ?_
        show kSeq _ _ s0 = _
        rw [skip0, skip1]
        refine kifr (by rw [p4, e2]) (mapp (s1 := s0) (ds := [.str y, .int ((d + 1 : Nat))]) (mcons (s1 := s0) (msl (s1 := s0) (s2 := s0) (s3 := s0) (x := .str x) (lo := some 4) (hi := none) rfl rfl rfl ?_) (mcons (s1 := s0) rfl rfl)) eb)
        rw [gslL (by omega), ecut]
      · rw [hb]
        constructor
        · rintro ⟨c, h1, h2, h3⟩
          exact ⟨.nt c, h1, by show d + (c.dep + 1) ≤ 7; omega, by rw [hy, ← h3]; rfl⟩
        · rintro ⟨c, h1, h2, h3⟩
          obtain ⟨c', rfl, h4⟩ := is_not h1 (h3.trans hy)
          exact ⟨c', h1, by have h5 : d + (c'.dep + 1) ≤ 7 := h2; omega, h4⟩
    | false =>
    have p6 : mB (m2 gEq (mSl (mVar 0) mNoP (mPart (mC (.int 6)))) (mC (.str "found "))) s0 = some (cutS x none (some ((("found " : Str).length : Nat) : Int)) == "found ", s0) := by
      have e : (("found " : Str).length) = 6 := by decide +kernel
      rw [e]
      exact mBt (m2_eq (s1 := s0) (s2 := s0) (x := .str (cutS x none (some 6))) (y := .str "found ") (msl (s1 := s0) (s2 := s0) (s3 := s0) (x := .str x) (lo := none) (hi := some 6) rfl rfl rfl (gslL (by omega))) rfl (tag (cp_cut hx _ _) (by decide +kernel) rfl))
    cases e3 : cutS x none (some ((("found " : Str).length : Nat) : Int)) == "found " with
    | true =>
      obtain ⟨y, hy⟩ := pref.mp e3
      have ecut : cutS x (some 6) none = y := by
        have := cut_pref (w := "found ") (y := y)
        rw [← hy, show (("found " : Str).length) = 6 by decide +kernel] at this
        exact this
      have ly : y.length ≤ 20000 := by rw [hy, len_app] at hl; omega
      refine ⟨nameB y, ?_, ?_⟩
      · unfold sLgood_B
        refine fnd (s1 := s0) ?_
        show kSeq _ _ s0 = _
        rw [skip0, skip1, kifs (by rw [p4, e2])]
        refine kifr (by rw [p6, e3]) (mapp (s1 := s0) (ds := [.str y]) (mcons (s1 := s0) (msl (s1 := s0) (s2 := s0) (s3 := s0) (x := .str x) (lo := some 6) (hi := none) rfl rfl rfl ?_) rfl) (law_is_name y bg (by omega)))
        rw [gslL (by omega), ecut]
      · constructor
        · intro h
          exact ⟨.fnd y, nameB_iff.mp h, by show d + 1 ≤ 7; omega, hy.symm⟩
        · rintro ⟨c, h1, h2, h3⟩
          have := is_found h1 (h3.trans hy)
          subst this
          exact nameB_iff.mpr h1
    | false =>
    have skip3 : ∀ g : DMs, kSeq (kIf (mB (m2 gEq (mSl (mVar 0) mNoP (mPart (mC (.int 4)))) (mC (.str "not ")))) (kRet (mApp (sLgood n) (mCons (mSl (mVar 0) (mPart (mC (.int 4))) mNoP) (mCons (m2 gAdd (mVar 1) (mC (.int 1))) mNil)))) kSkip) (kSeq (kIf (mB (m2 gEq (mSl (mVar 0) mNoP (mPart (mC (.int 6)))) (mC (.str "found ")))) (kRet (mApp sLis_name (mCons (mSl (mVar 0) (mPart (mC (.int 6))) mNoP) mNil))) kSkip) g) s0 = g s0 := fun g => by
      rw [kifs (by rw [p4, e2]), kifs (by rw [p6, e3])]
    have elen : mCall gLen (mCons (mVar 0) mNil) s0 = some (.int (x.length : Nat), s0) := mcall (s1 := s0) (l := [.str x]) rfl (glen_str (line_big (by omega)))
    have p1 : mB (m2 gEq (mSl (mVar 0) mNoP (mPart (mC (.int 1)))) (mC (.str "("))) s0 = some (cutS x none (some ((("(" : Str).length : Nat) : Int)) == "(", s0) := by
      have e : (("(" : Str).length) = 1 := by decide +kernel
      rw [e]
      exact mBt (m2_eq (s1 := s0) (s2 := s0) (x := .str (cutS x none (some 1))) (y := .str "(") (msl (s1 := s0) (s2 := s0) (s3 := s0) (x := .str x) (lo := none) (hi := some 1) rfl rfl rfl (gslL (by omega))) rfl (tag (cp_cut hx _ _) (by decide +kernel) rfl))
    have pe : mPart (m2 gSub0 (mCall gLen (mCons (mVar 0) mNil)) (mC (.int 1))) s0 = some (some ((x.length : Nat) - 1 : Int), s0) := by
      unfold mPart
      rw [m2_eq (s1 := s0) (s2 := s0) (x := .int (x.length : Nat)) (y := .int 1) (d := .int ((x.length : Nat) - 1 : Int)) elen rfl rfl]
      rfl
    have pl : mB (m2 gEq (mSl (mVar 0) (mPart (m2 gSub0 (mCall gLen (mCons (mVar 0) mNil)) (mC (.int 1)))) mNoP) (mC (.str ")"))) s0 = some (cutS x (some ((x.length : Nat) - 1 : Int)) none == ")", s0) :=
      mBt (m2_eq (s1 := s0) (s2 := s0) (x := .str (cutS x (some ((x.length : Nat) - 1 : Int)) none)) (y := .str ")") (msl (s1 := s0) (s2 := s0) (s3 := s0) (x := .str x) (lo := some ((x.length : Nat) - 1 : Int)) (hi := none) rfl pe rfl (gslL (by omega))) rfl (tag (cp_cut hx _ _) (by decide +kernel) rfl))
    have ifpar : mAndB (mB (m2 gEq (mSl (mVar 0) mNoP (mPart (mC (.int 1)))) (mC (.str "(")))) (mB (m2 gEq (mSl (mVar 0) (mPart (m2 gSub0 (mCall gLen (mCons (mVar 0) mNil)) (mC (.int 1)))) mNoP) (mC (.str ")")))) s0 = some ((cutS x none (some ((("(" : Str).length : Nat) : Int)) == "(") && (cutS x (some ((x.length : Nat) - 1 : Int)) none == ")"), s0) := by
      cases e4 : cutS x none (some ((("(" : Str).length : Nat) : Int)) == "(" with
      | true => rw [and_t (by rw [p1, e4]), pl, Bool.true_and]
      | false => rw [and_f (by rw [p1, e4]), Bool.false_and]
    cases e4 : (cutS x none (some ((("(" : Str).length : Nat) : Int)) == "(") && (cutS x (some ((x.length : Nat) - 1 : Int)) none == ")") with
    | true =>
      rw [Bool.and_eq_true] at e4
      obtain ⟨y0, hy0⟩ := pref.mp e4.1
      have hlen1 : 1 ≤ x.length := by rw [hy0, len_app, show (("(" : Str).length) = 1 by decide +kernel]; omega
      have hlast : (tl x).drop (x.length - 1) = [41] := by
        have := congrArg tl (beq_iff_eq.mp e4.2)
        rw [show ((x.length : Nat) - 1 : Int) = ((x.length - 1 : Nat) : Int) by omega, tl_from, show tl ")" = [41] by decide +kernel] at this
        exact this
      let y : Str := cutS x (some 1) (some ((x.length : Nat) - 1 : Int))
      have hx2 : x = "(" ++ y ++ ")" ∧ 2 ≤ x.length := by
        have t0 : tl x = 40 :: tl y0 := by rw [hy0, tl_append, show tl "(" = [40] by decide +kernel]; rfl
        have l0 : x.length = (tl y0).length + 1 := by rw [len_tl, t0]; rfl
        have h2 : 2 ≤ x.length := by
          by_cases h : x.length = 1
          · rw [h, t0] at hlast
            simp at hlast
          · omega
        refine ⟨ext_tl ?_, h2⟩
        have ty : tl y = ((tl x).drop 1).take (x.length - 2) := by
          have e : ((x.length : Nat) - 1 : Int) = ((1 + (x.length - 2) : Nat) : Int) := by omega
          show tl (cutS x (some ((1 : Nat) : Int)) (some ((x.length : Nat) - 1 : Int))) = _
          rw [e, tl_mid]
        have t1 : (tl y0).drop (x.length - 2) = [41] := by
          rw [t0, show x.length - 1 = (x.length - 2) + 1 by omega, List.drop_succ_cons] at hlast
          exact hlast
        rw [tl_append, tl_append, show tl "(" = [40] by decide +kernel, show tl ")" = [41] by decide +kernel, ty, t0]
        show 40 :: tl y0 = [40] ++ (tl y0).take (x.length - 2) ++ [41]
        rw [← t1, List.append_assoc, List.take_append_drop]
        rfl
      have cy : cpOk y = true := cp_cut hx _ _
      have ly : y.length ≤ 20000 := by
        have := congrArg Str.length hx2.1
        rw [len_app, len_app] at this
        omega
      have ey : mSl (mVar 0) (mPart (mC (.int 1))) (mPart (m2 gSub0 (mCall gLen (mCons (mVar 0) mNil)) (mC (.int 1)))) s0 = some (.str y, s0) := msl (s1 := s0) (s2 := s0) (s3 := s0) (x := .str x) (lo := some 1) (hi := some ((x.length : Nat) - 1 : Int)) rfl rfl pe (gslL (by omega))
      obtain ⟨L1, f1, g1, m1⟩ := halves_any cy (w := " and ") (by decide +kernel) (by omega) (by decide +kernel) (by decide +kernel) bg
      obtain ⟨L2, f2, g2, m2'⟩ := halves_any cy (w := " or ") (by decide +kernel) (by omega) (by decide +kernel) (by decide +kernel) bg
      let L := L1 ++ L2
      have hL : L.length ≤ 40000 := by show (L1 ++ L2).length ≤ _; rw [List.length_append]; omega
      let s1 : Sta := gst x d (some (.dat (.lst (L.map pairD)))) none bg
      let E := L.filter evB
      let s2 : Sta := gst x d (some (.dat (.lst (L.map pairD)))) (some (.dat (.lst (E.map pairD)))) bg
      have a1 : kAsg (m2 gAdd (mApp sLhalves (mCons (mSl (mVar 0) (mPart (mC (.int 1))) (mPart (m2 gSub0 (mCall gLen (mCons (mVar 0) mNil)) (mC (.int 1))))) (mCons (mC (.str " and ")) mNil))) (mApp sLhalves (mCons (mSl (mVar 0) (mPart (mC (.int 1))) (mPart (m2 gSub0 (mCall gLen (mCons (mVar 0) mNil)) (mC (.int 1))))) (mCons (mC (.str " or ")) mNil)))) (hName 2) s0 = some (.nx, s1) := by
        refine kasg (s1 := s0) (d := .lst (L.map pairD)) (m2_eq (s1 := s0) (s2 := s0) (x := .lst (L1.map pairD)) (y := .lst (L2.map pairD)) (mapp (s1 := s0) (ds := [.str y, .str " and "]) (mcons (s1 := s0) ey rfl) f1) (mapp (s1 := s0) (ds := [.str y, .str " or "]) (mcons (s1 := s0) ey rfl) f2) ?_) rfl
        show (if (L1.map pairD).length + (L2.map pairD).length ≤ sizeLine then some (Dt.lst (L1.map pairD ++ L2.map pairD)) else none) = _
        rw [if_pos (line_big (by rw [List.length_map, List.length_map]; omega)), ← List.map_append]
      have a2 : kAsg (mComp [4] (wLst (mVar 2)) (hName 4) (mAndB (mB (m2 gEq (mM1 gCount (m2 gIx (mVar 4) (mC (.int 0))) (mC (.str "("))) (mM1 gCount (m2 gIx (mVar 4) (mC (.int 0))) (mC (.str ")"))))) (mB (m2 gEq (mM1 gCount (m2 gIx (mVar 4) (mC (.int 1))) (mC (.str "("))) (mM1 gCount (m2 gIx (mVar 4) (mC (.int 1))) (mC (.str ")")))))) (mVar 4)) (hName 3) s1 = some (.nx, s2) := by
        let bq : Dt → Bool := fun d => match d with
          | .tup [.str a, .str b] => evB (a, b)
          | _ => false
        refine kasg (s1 := s1) (d := .lst (E.map pairD)) ?_ rfl
        have e5 : ((L.map pairD).filter bq).map id = E.map pairD := by
          rw [List.map_id, List.filter_map]
          rfl
        rw [← e5]
        refine mcomp (s1 := s1) (l := L.map pairD) rfl (by rw [List.length_map]; omega) (comp_filt bq id _ fun z hz => ?_)
        obtain ⟨p, hp, rfl⟩ := List.mem_map.mp hz
        let t : Sta := ⟨[some (.dat (.str x)), some (.dat (.int (d : Nat))), some (.dat (.lst (L.map pairD))), none, some (.dat (pairD p))], bg⟩
        refine ⟨t, t, rfl, ?_, rfl, fun _ => ⟨t, rfl, rfl⟩⟩
        have q : ∀ (a : Str) (j : Int) (w : Str), m2 gIx (mVar 4) (mC (.int j)) t = some (.str a, t) → mM1 gCount (m2 gIx (mVar 4) (mC (.int j))) (mC (.str w)) t = some (.int (Txt.count a w), t) := fun a j w h => mm1 (s1 := t) (s2 := t) (a := a) (y := .str w) h rfl rfl
        have i0 : m2 gIx (mVar 4) (mC (.int 0)) t = some (.str p.1, t) := m2_eq (s1 := t) (s2 := t) (x := pairD p) (y := .int 0) rfl rfl rfl
        have i1 : m2 gIx (mVar 4) (mC (.int 1)) t = some (.str p.2, t) := m2_eq (s1 := t) (s2 := t) (x := pairD p) (y := .int 1) rfl rfl rfl
        have b0 : mB (m2 gEq (mM1 gCount (m2 gIx (mVar 4) (mC (.int 0))) (mC (.str "("))) (mM1 gCount (m2 gIx (mVar 4) (mC (.int 0))) (mC (.str ")")))) t = some (Txt.count p.1 "(" == Txt.count p.1 ")", t) := mBt (m2_eq (s1 := t) (s2 := t) (q _ _ _ i0) (q _ _ _ i0) eqII)
        have b1 : mB (m2 gEq (mM1 gCount (m2 gIx (mVar 4) (mC (.int 1))) (mC (.str "("))) (mM1 gCount (m2 gIx (mVar 4) (mC (.int 1))) (mC (.str ")")))) t = some (Txt.count p.2 "(" == Txt.count p.2 ")", t) := mBt (m2_eq (s1 := t) (s2 := t) (q _ _ _ i1) (q _ _ _ i1) eqII)
        show _ = some (evB p, t)
        unfold evB
        cases hc : Txt.count p.1 "(" == Txt.count p.1 ")" with
        | true => rw [and_t (by rw [b0, hc]), b1, Bool.true_and]
        | false => rw [and_f (by rw [b0, hc]), Bool.false_and]
      have hE : ∀ p : Str × Str, p ∈ E ↔ (y = p.1 ++ " and " ++ p.2 ∨ y = p.1 ++ " or " ++ p.2) ∧ evB p = true := fun p => by
        show p ∈ List.filter evB (L1 ++ L2) ↔ _
        rw [List.mem_filter, List.mem_append, m1, m2']
      have sub : ∀ p ∈ E, (cpOk p.1 = true ∧ cpOk p.2 = true) ∧ p.1.length ≤ y.length ∧ p.2.length ≤ y.length := fun p hp => by
        rcases ((hE p).mp hp).1 with h | h
        · exact ⟨cp_of_app h cy, len_of_app h⟩
        · exact ⟨cp_of_app h cy, len_of_app h⟩
      let Q : Str × Str → Prop := fun p => (∃ c : Cn, c.Ok ∧ d + 1 + c.dep ≤ 7 ∧ c.text = p.1) ∧ ∃ c : Cn, c.Ok ∧ d + 1 + c.dep ≤ 7 ∧ c.text = p.2
      obtain ⟨b, eb, hb⟩ := any_pairs (s := s2) (L := E) (Q := Q) (f := mVar 3) (e := mAndV (mApp (sLgood n) (mCons (m2 gIx (mVar 4) (mC (.int 0))) (mCons (m2 gAdd (mVar 1) (mC (.int 1))) mNil))) (mApp (sLgood n) (mCons (m2 gIx (mVar 4) (mC (.int 1))) (mCons (m2 gAdd (mVar 1) (mC (.int 1))) mNil))))
        (by have := List.length_filter_le evB L; show (List.filter evB L).length ≤ _; omega) rfl (fun p hp => by
          obtain ⟨⟨ca, cb⟩, la, lb⟩ := sub p hp
          let t : Sta := ⟨[some (.dat (.str x)), some (.dat (.int (d : Nat))), some (.dat (.lst (L.map pairD))), some (.dat (.lst (E.map pairD))), some (.dat (pairD p))], bg⟩
          obtain ⟨b1, eb1, hb1⟩ := ih ca (by omega) bg
          obtain ⟨b2, eb2, hb2⟩ := ih cb (by omega) bg
          have i0 : m2 gIx (mVar 4) (mC (.int 0)) t = some (.str p.1, t) := m2_eq (s1 := t) (s2 := t) (x := pairD p) (y := .int 0) rfl rfl rfl
          have i1 : m2 gIx (mVar 4) (mC (.int 1)) t = some (.str p.2, t) := m2_eq (s1 := t) (s2 := t) (x := pairD p) (y := .int 1) rfl rfl rfl
          have v1 : mApp (sLgood n) (mCons (m2 gIx (mVar 4) (mC (.int 0))) (mCons (m2 gAdd (mVar 1) (mC (.int 1))) mNil)) t = some (.bl b1, t) := mapp (s1 := t) (ds := [.str p.1, .int ((d + 1 : Nat))]) (mcons (s1 := t) i0 rfl) eb1
          have v2 : mApp (sLgood n) (mCons (m2 gIx (mVar 4) (mC (.int 1))) (mCons (m2 gAdd (mVar 1) (mC (.int 1))) mNil)) t = some (.bl b2, t) := mapp (s1 := t) (ds := [.str p.2, .int ((d + 1 : Nat))]) (mcons (s1 := t) i1 rfl) eb2
          refine ⟨t, b1 && b2, t, rfl, ?_, rfl, ?_⟩
          · cases b1 with
            | true => rw [andV_t v1, v2, Bool.true_and]
            | false => rw [andV_f v1, Bool.false_and]
          · rw [Bool.and_eq_true, hb1, hb2])
      refine ⟨b, ?_, ?_⟩
      · unfold sLgood_B
        refine fnd (s1 := s2) ?_
        show kSeq _ _ s0 = _
        rw [skip0, skip1, skip3]
        refine kseq_r ?_
        rw [kif_t (by rw [ifpar, e4.1, e4.2]; rfl), kseq a1, kseq a2]
        exact kret eb
      · rw [hb]
        constructor
        · rintro ⟨p, hp, ⟨c1, h1, h2, h3⟩, c2, h4, h5, h6⟩
          have hm : ∀ k : Bool, y = p.1 ++ (" " ++ bw k ++ " ") ++ p.2 → ∃ c : Cn, c.Ok ∧ d + c.dep ≤ 7 ∧ c.text = x := fun k hk => by
            refine ⟨.bin k c1 c2, ⟨h1, h4⟩, ?_, ?_⟩
            · show d + (max c1.dep c2.dep + 1) ≤ 7
              have := Nat.max_le.mpr ⟨show c1.dep ≤ 6 - d by omega, show c2.dep ≤ 6 - d by omega⟩
              omega
            · rw [hx2.1, hk, ← h3, ← h6]
              refine ext_tl ?_
              show tl ("(" ++ c1.text ++ " " ++ bw k ++ " " ++ c2.text ++ ")") = _
              simp only [tl_append, List.append_assoc]
          rcases ((hE p).mp hp).1 with h | h
          · exact hm true (by rw [h]; congr 2)
          · exact hm false (by rw [h]; congr 2)
        · rintro ⟨c, h1, h2, h3⟩
          obtain ⟨k, a, b, rfl⟩ := is_bin h1 (y := y0) (h3.trans hy0)
          have h4 : d + (max a.dep b.dep + 1) ≤ 7 := h2
          have q1 := Nat.le_max_left a.dep b.dep
          have q2 := Nat.le_max_right a.dep b.dep
          have hyy : y = a.text ++ (" " ++ bw k ++ " ") ++ b.text := by
            have e6 : ("(" : Str) ++ y ++ ")" = "(" ++ (a.text ++ (" " ++ bw k ++ " ") ++ b.text) ++ ")" := by
              rw [← hx2.1, ← h3]
              refine ext_tl ?_
              show tl ("(" ++ a.text ++ " " ++ bw k ++ " " ++ b.text ++ ")") = _
              simp only [tl_append, List.append_assoc]
            refine ext_tl ?_
            have e7 := congrArg tl e6
            rw [tl_append, tl_append, tl_append ("(" ++ _), tl_append "("] at e7
            exact List.append_cancel_left (List.append_cancel_right e7)
          refine ⟨(a.text, b.text), (hE _).mpr ⟨?_, even_of.mpr ⟨even_text h1.1, even_text h1.2⟩⟩, ⟨a, h1.1, by omega, rfl⟩, b, h1.2, by omega, rfl⟩
          cases k
          · exact .inr (by rw [hyy]; congr 2)
          · exact .inl (by rw [hyy]; congr 2)
    | false =>
      obtain ⟨L1, f1, g1, m1⟩ := halves_any hx (w := " <= ") (by decide +kernel) (by omega) (by decide +kernel) (by decide +kernel) bg
      obtain ⟨L2, f2, g2, m2'⟩ := halves_any hx (w := " < ") (by decide +kernel) (by omega) (by decide +kernel) (by decide +kernel) bg
      obtain ⟨L3, f3, g3, m3⟩ := halves_any hx (w := " = ") (by decide +kernel) (by omega) (by decide +kernel) (by decide +kernel) bg
      let L := L1 ++ L2 ++ L3
      have hL : L.length ≤ 60000 := by show (L1 ++ L2 ++ L3).length ≤ _; rw [List.length_append, List.length_append]; omega
      let s1 : Sta := gst x d (some (.dat (.lst (L.map pairD)))) none bg
      have a1 : kAsg (m2 gAdd (m2 gAdd (mApp sLhalves (mCons (mVar 0) (mCons (mC (.str " <= ")) mNil))) (mApp sLhalves (mCons (mVar 0) (mCons (mC (.str " < ")) mNil)))) (mApp sLhalves (mCons (mVar 0) (mCons (mC (.str " = ")) mNil)))) (hName 2) s0 = some (.nx, s1) := by
        refine kasg (s1 := s0) (d := .lst (L.map pairD)) (m2_eq (s1 := s0) (s2 := s0) (x := .lst ((L1 ++ L2).map pairD)) (y := .lst (L3.map pairD)) (m2_eq (s1 := s0) (s2 := s0) (x := .lst (L1.map pairD)) (y := .lst (L2.map pairD)) (mapp (s1 := s0) (ds := [.str x, .str " <= "]) rfl f1) (mapp (s1 := s0) (ds := [.str x, .str " < "]) rfl f2) ?_) (mapp (s1 := s0) (ds := [.str x, .str " = "]) rfl f3) ?_) rfl
        · show (if (L1.map pairD).length + (L2.map pairD).length ≤ sizeLine then some (Dt.lst (L1.map pairD ++ L2.map pairD)) else none) = _
          rw [if_pos (line_big (by rw [List.length_map, List.length_map]; omega)), ← List.map_append]
        · show (if ((L1 ++ L2).map pairD).length + (L3.map pairD).length ≤ sizeLine then some (Dt.lst ((L1 ++ L2).map pairD ++ L3.map pairD)) else none) = _
          rw [if_pos (line_big (by rw [List.length_map, List.length_map, List.length_append]; omega)), ← List.map_append]
      have hM : ∀ p : Str × Str, p ∈ L ↔ ∃ k : Cp, x = p.1 ++ k.mid ++ p.2 := fun p => by
        show p ∈ L1 ++ L2 ++ L3 ↔ _
        rw [List.mem_append, List.mem_append, m1, m2', m3]
        constructor
        · rintro ((h | h) | h)
          · exact ⟨.le, h⟩
          · exact ⟨.lt, h⟩
          · exact ⟨.eq, h⟩
        · rintro ⟨k, h⟩
          cases k
          · exact .inl (.inl h)
          · exact .inl (.inr h)
          · exact .inr h
      let Q : Str × Str → Prop := fun p => GoodV p.1 ∧ GoodV p.2
      obtain ⟨b, eb, hb⟩ := any_pairs (s := s1) (L := L) (Q := Q) (f := mVar 2) (e := mAndV (mApp sLgood_value (mCons (m2 gIx (mVar 4) (mC (.int 0))) mNil)) (mApp sLgood_value (mCons (m2 gIx (mVar 4) (mC (.int 1))) mNil))) (by omega) rfl (fun p hp => by
          obtain ⟨k, hk⟩ := (hM p).mp hp
          obtain ⟨ca, cb⟩ := cp_of_app hk hx
          obtain ⟨la, lb⟩ := len_of_app hk
          let t : Sta := ⟨[some (.dat (.str x)), some (.dat (.int (d : Nat))), some (.dat (.lst (L.map pairD))), none, some (.dat (pairD p))], bg⟩
          obtain ⟨b1, eb1, hb1⟩ := good_value_any ca (by omega) bg
          obtain ⟨b2, eb2, hb2⟩ := good_value_any cb (by omega) bg
          have i0 : m2 gIx (mVar 4) (mC (.int 0)) t = some (.str p.1, t) := m2_eq (s1 := t) (s2 := t) (x := pairD p) (y := .int 0) rfl rfl rfl
          have i1 : m2 gIx (mVar 4) (mC (.int 1)) t = some (.str p.2, t) := m2_eq (s1 := t) (s2 := t) (x := pairD p) (y := .int 1) rfl rfl rfl
          have v1 : mApp sLgood_value (mCons (m2 gIx (mVar 4) (mC (.int 0))) mNil) t = some (.bl b1, t) := mapp (s1 := t) (ds := [.str p.1]) (mcons (s1 := t) i0 rfl) eb1
          have v2 : mApp sLgood_value (mCons (m2 gIx (mVar 4) (mC (.int 1))) mNil) t = some (.bl b2, t) := mapp (s1 := t) (ds := [.str p.2]) (mcons (s1 := t) i1 rfl) eb2
          refine ⟨t, b1 && b2, t, rfl, ?_, rfl, ?_⟩
          · cases b1 with
            | true => rw [andV_t v1, v2, Bool.true_and]
            | false => rw [andV_f v1, Bool.false_and]
          · rw [Bool.and_eq_true, hb1, hb2])
      refine ⟨b, ?_, ?_⟩
      · unfold sLgood_B
        refine fnd (s1 := s1) ?_
        show kSeq _ _ s0 = _
        rw [skip0, skip1, skip3, kseq (s1 := s0) (by rw [kif_f (by rw [ifpar, e4])]; rfl), kseq a1]
        exact kret eb
      · rw [hb]
        constructor
        · rintro ⟨p, hp, ⟨v, o, h1, h2, h3⟩, w, q, h4, h5, h6⟩
          obtain ⟨k, hk⟩ := (hM p).mp hp
          refine ⟨.cmp k v o w q, ⟨h1, h2, h4, h5⟩, by show d + 1 ≤ 7; omega, ?_⟩
          rw [hk, ← h3, ← h6, ← mid_eq]
          refine ext_tl ?_
          show tl (valText v o ++ " " ++ k.sign ++ " " ++ valText w q) = _
          simp only [tl_append, List.append_assoc]
        · rintro ⟨c, h1, h2, h3⟩
          cases c with
          | tru =>
            rw [← h3] at e1
            exact absurd e1 (by decide +kernel)
          | fnd r =>
            have := pref.mpr ⟨r, h3.symm⟩
            rw [this] at e3
            cases e3
          | nt c =>
            have := pref.mpr ⟨c.text, h3.symm⟩
            rw [this] at e2
            cases e2
          | bin k a b' =>
            have e5 : x = "(" ++ (a.text ++ " " ++ bw k ++ " " ++ b'.text ++ ")") := by
              rw [← h3]
              refine ext_tl ?_
              show tl ("(" ++ a.text ++ " " ++ bw k ++ " " ++ b'.text ++ ")") = _
              simp only [tl_append, List.append_assoc]
            have e6 := pref.mpr ⟨_, e5⟩
            have e7 : (cutS x (some ((x.length : Nat) - 1 : Int)) none == ")") = true := by
              refine beq_iff_eq.mpr (ext_tl ?_)
              have tx : tl x = tl ("(" ++ a.text ++ " " ++ bw k ++ " " ++ b'.text) ++ tl ")" := by
                rw [← h3, ← tl_append]
                rfl
              have hlx : x.length = (tl ("(" ++ a.text ++ " " ++ bw k ++ " " ++ b'.text)).length + 1 := by
                rw [len_tl, tx, List.length_append]
                rfl
              rw [show ((x.length : Nat) - 1 : Int) = (((tl ("(" ++ a.text ++ " " ++ bw k ++ " " ++ b'.text)).length : Nat) : Int) by omega, tl_from, tx, List.drop_left]
            rw [e6, e7] at e4
            cases e4
          | cmp k v o w q =>
            refine ⟨(valText v o, valText w q), (hM _).mpr ⟨k, ?_⟩, ⟨v, o, h1.1, h1.2.1, rfl⟩, w, q, h1.2.2.1, h1.2.2.2, rfl⟩
            rw [← h3, ← mid_eq]
            refine ext_tl ?_
            show tl (valText v o ++ " " ++ k.sign ++ " " ++ valText w q) = _
            simp only [tl_append, List.append_assoc]
end DL

namespace K07
open PySem PySem.Spec PyProof.Rows L2 LamX DL DX
section Laws
variable [Tabs]
/-! ### the text by places -/
def top (i : Nat) : Stmt := PySem.Challenge.pw_lookedrows_k07_whole_broken_texts_of_con.main.body.getD i (.Pass ⟨0, 0, 0, 0⟩)
abbrev s_is_name : Stmt := top 12
abbrev s_is_column : Stmt := top 13
abbrev s_is_whole : Stmt := top 14
abbrev s_is_bounded_ : Stmt := top 17
abbrev s_is_single_ : Stmt := top 16
abbrev s_is_value : Stmt := top 15
abbrev s_single_text_ : Stmt := top 19
abbrev s_value_text : Stmt := top 18
abbrev s_read_signed_ : Stmt := top 22
abbrev s_read_single_ : Stmt := top 21
abbrev s_read_value : Stmt := top 20
abbrev s_is_condition_itself_ : Stmt := top 31
abbrev s_places_ : Stmt := top 30
abbrev s_checked_parts_ : Stmt := top 29
abbrev s_text_ : Stmt := top 28
abbrev s_condition_text : Stmt := top 27
abbrev s_word_ : Stmt := top 34
abbrev s_read_operand_ : Stmt := top 38
abbrev s_read_comparison_ : Stmt := top 37
abbrev s_read_found_ : Stmt := top 35
abbrev s_read_joined_ : Stmt := top 36
abbrev s_read_part_ : Stmt := top 33
abbrev s_read_condition : Stmt := top 32
abbrev s_Lfield : Stmt := top 40
abbrev s_Ldraws : Stmt := top 41
abbrev s_Lpull : Stmt := top 42
abbrev s_Lany : Stmt := top 43
abbrev s_Llike : Stmt := top 44
abbrev s_Ltry : Stmt := top 45
abbrev s_Lreserved : Stmt := top 46
abbrev s_Lnew_names : Stmt := top 47
abbrev s_Lis_name : Stmt := top 48
abbrev s_Lnear : Stmt := top 49
abbrev s_Lvalue_text : Stmt := top 50
abbrev s_Lcondition_text : Stmt := top 51
abbrev s_Lsome_value : Stmt := top 52
abbrev s_Lsome_compared : Stmt := top 53
abbrev s_Lsome_condition : Stmt := top 54
abbrev s_Lhalves : Stmt := top 55
abbrev s_Lgood_value : Stmt := top 56
abbrev s_Lgood : Stmt := top 57
abbrev s_law : Stmt := top 58
abbrev N_is_name : List Str := ["value", "letter"]
theorem sc_is_name : FnScope N_is_name ["value"] (defScope s_is_name) := ⟨rfl, rfl, rfl, by decide +kernel, rfl, by decide +kernel, by decide +kernel⟩
abbrev N_is_column : List Str := ["value"]
theorem sc_is_column : FnScope N_is_column ["value"] (defScope s_is_column) := ⟨rfl, rfl, rfl, by decide +kernel, rfl, by decide +kernel, by decide +kernel⟩
abbrev N_is_whole : List Str := ["value"]
theorem sc_is_whole : FnScope N_is_whole ["value"] (defScope s_is_whole) := ⟨rfl, rfl, rfl, by decide +kernel, rfl, by decide +kernel, by decide +kernel⟩
abbrev N_is_bounded_ : List Str := ["value"]
theorem sc_is_bounded_ : FnScope N_is_bounded_ ["value"] (defScope s_is_bounded_) := ⟨rfl, rfl, rfl, by decide +kernel, rfl, by decide +kernel, by decide +kernel⟩
abbrev N_is_single_ : List Str := ["value", "form", "part"]
theorem sc_is_single_ : FnScope N_is_single_ ["value"] (defScope s_is_single_) := ⟨rfl, rfl, rfl, by decide +kernel, rfl, by decide +kernel, by decide +kernel⟩
abbrev N_is_value : List Str := ["value"]
theorem sc_is_value : FnScope N_is_value ["value"] (defScope s_is_value) := ⟨rfl, rfl, rfl, by decide +kernel, rfl, by decide +kernel, by decide +kernel⟩
abbrev N_single_text_ : List Str := ["value"]
theorem sc_single_text_ : FnScope N_single_text_ ["value"] (defScope s_single_text_) := ⟨rfl, rfl, rfl, by decide +kernel, rfl, by decide +kernel, by decide +kernel⟩
abbrev N_value_text : List Str := ["value", "sign"]
theorem sc_value_text : FnScope N_value_text ["value"] (defScope s_value_text) := ⟨rfl, rfl, rfl, by decide +kernel, rfl, by decide +kernel, by decide +kernel⟩
abbrev N_read_signed_ : List Str := ["sign", "word", "k", "digit"]
theorem sc_read_signed_ : FnScope N_read_signed_ ["sign", "word"] (defScope s_read_signed_) := ⟨rfl, rfl, rfl, by decide +kernel, rfl, by decide +kernel, by decide +kernel⟩
abbrev N_read_single_ : List Str := ["word", "first", "dot", "column"]
theorem sc_read_single_ : FnScope N_read_single_ ["word"] (defScope s_read_single_) := ⟨rfl, rfl, rfl, by decide +kernel, rfl, by decide +kernel, by decide +kernel⟩
abbrev N_read_value : List Str := ["text", "words", "value"]
theorem sc_read_value : FnScope N_read_value ["text"] (defScope s_read_value) := ⟨rfl, rfl, rfl, by decide +kernel, rfl, by decide +kernel, by decide +kernel⟩
abbrev N_is_condition_itself_ : List Str := ["part", "form"]
theorem sc_is_condition_itself_ : FnScope N_is_condition_itself_ ["part"] (defScope s_is_condition_itself_) := ⟨rfl, rfl, rfl, by decide +kernel, rfl, by decide +kernel, by decide +kernel⟩
abbrev N_places_ : List Str := ["part"]
theorem sc_places_ : FnScope N_places_ ["part"] (defScope s_places_) := ⟨rfl, rfl, rfl, by decide +kernel, rfl, by decide +kernel, by decide +kernel⟩
abbrev N_checked_parts_ : List Str := ["condition", "pairs", "waiting", "path", "part", "at"]
theorem sc_checked_parts_ : FnScope N_checked_parts_ ["condition"] (defScope s_checked_parts_) := ⟨rfl, rfl, rfl, by decide +kernel, rfl, by decide +kernel, by decide +kernel⟩
abbrev N_text_ : List Str := ["part", "form"]
theorem sc_text_ : FnScope N_text_ ["part"] (defScope s_text_) := ⟨rfl, rfl, rfl, by decide +kernel, rfl, by decide +kernel, by decide +kernel⟩
abbrev N_condition_text : List Str := ["condition"]
theorem sc_condition_text : FnScope N_condition_text ["condition"] (defScope s_condition_text) := ⟨rfl, rfl, rfl, by decide +kernel, rfl, by decide +kernel, by decide +kernel⟩
abbrev N_word_ : List Str := ["words", "at"]
theorem sc_word_ : FnScope N_word_ ["words", "at"] (defScope s_word_) := ⟨rfl, rfl, rfl, by decide +kernel, rfl, by decide +kernel, by decide +kernel⟩
abbrev N_read_operand_ : List Str := ["words", "at", "many"]
theorem sc_read_operand_ : FnScope N_read_operand_ ["words", "at"] (defScope s_read_operand_) := ⟨rfl, rfl, rfl, by decide +kernel, rfl, by decide +kernel, by decide +kernel⟩
abbrev N_read_comparison_ : List Str := ["words", "at", "sign", "left", "middle", "right", "end"]
theorem sc_read_comparison_ : FnScope N_read_comparison_ ["words", "at"] (defScope s_read_comparison_) := ⟨rfl, rfl, rfl, by decide +kernel, rfl, by decide +kernel, by decide +kernel⟩
abbrev N_read_found_ : List Str := ["words", "at", "name"]
theorem sc_read_found_ : FnScope N_read_found_ ["words", "at"] (defScope s_read_found_) := ⟨rfl, rfl, rfl, by decide +kernel, rfl, by decide +kernel, by decide +kernel⟩
abbrev N_read_joined_ : List Str := ["words", "at", "depth", "form", "left", "middle", "right", "end"]
theorem sc_read_joined_ : FnScope N_read_joined_ ["words", "at", "depth"] (defScope s_read_joined_) := ⟨rfl, rfl, rfl, by decide +kernel, rfl, by decide +kernel, by decide +kernel⟩
abbrev N_read_part_ : List Str := ["words", "at", "depth", "word", "part", "end"]
theorem sc_read_part_ : FnScope N_read_part_ ["words", "at", "depth"] (defScope s_read_part_) := ⟨rfl, rfl, rfl, by decide +kernel, rfl, by decide +kernel, by decide +kernel⟩
abbrev N_read_condition : List Str := ["text", "words", "condition", "end"]
theorem sc_read_condition : FnScope N_read_condition ["text"] (defScope s_read_condition) := ⟨rfl, rfl, rfl, by decide +kernel, rfl, by decide +kernel, by decide +kernel⟩
abbrev N_Lfield : List Str := ["_law_e"]
theorem sc_Lfield : FnScope N_Lfield ["_law_e"] (defScope s_Lfield) := ⟨rfl, rfl, rfl, by decide +kernel, rfl, by decide +kernel, by decide +kernel⟩
abbrev N_Ldraws : List Str := ["_law_script", "_law_seed", "_law_cell"]
theorem sc_Ldraws : FnScope N_Ldraws ["_law_script"] (defScope s_Ldraws) := ⟨rfl, rfl, rfl, by decide +kernel, rfl, by decide +kernel, by decide +kernel⟩
abbrev N_Lpull : List Str := ["_law_bag", "_law_sides", "_law_seed", "_law_cell", "_law_digit"]
theorem sc_Lpull : FnScope N_Lpull ["_law_bag", "_law_sides"] (defScope s_Lpull) := ⟨rfl, rfl, rfl, by decide +kernel, rfl, by decide +kernel, by decide +kernel⟩
abbrev N_Lany : List Str := ["_law_bag", "_law_rows"]
theorem sc_Lany : FnScope N_Lany ["_law_bag", "_law_rows"] (defScope s_Lany) := ⟨rfl, rfl, rfl, by decide +kernel, rfl, by decide +kernel, by decide +kernel⟩
abbrev N_Llike : List Str := ["_law_a", "_law_b", "_law_same", "_law_c", "_law_d"]
theorem sc_Llike : FnScope N_Llike ["_law_a", "_law_b"] (defScope s_Llike) := ⟨rfl, rfl, rfl, by decide +kernel, rfl, by decide +kernel, by decide +kernel⟩
abbrev N_Ltry : List Str := ["_law_ask", "_law_e"]
theorem sc_Ltry : FnScope N_Ltry ["_law_ask"] (defScope s_Ltry) := ⟨rfl, rfl, rfl, by decide +kernel, rfl, by decide +kernel, by decide +kernel⟩
abbrev N_Lreserved : List Str := []
theorem sc_Lreserved : FnScope N_Lreserved [] (defScope s_Lreserved) := ⟨rfl, rfl, rfl, by decide +kernel, rfl, by decide +kernel, by decide +kernel⟩
abbrev N_Lnew_names : List Str := ["_law_bag", "_law_many", "_law_abc", "_law_stem", "_law_rows", "_law_at", "_law_first", "_law_k", "_law_row"]
theorem sc_Lnew_names : FnScope N_Lnew_names ["_law_bag", "_law_many"] (defScope s_Lnew_names) := ⟨rfl, rfl, rfl, by decide +kernel, rfl, by decide +kernel, by decide +kernel⟩
abbrev N_Lis_name : List Str := ["_law_value", "_law_letter"]
theorem sc_Lis_name : FnScope N_Lis_name ["_law_value"] (defScope s_Lis_name) := ⟨rfl, rfl, rfl, by decide +kernel, rfl, by decide +kernel, by decide +kernel⟩
abbrev N_Lnear : List Str := ["_law_bag"]
theorem sc_Lnear : FnScope N_Lnear ["_law_bag"] (defScope s_Lnear) := ⟨rfl, rfl, rfl, by decide +kernel, rfl, by decide +kernel, by decide +kernel⟩
abbrev N_Lvalue_text : List Str := ["_law_value", "_law_more"]
theorem sc_Lvalue_text : FnScope N_Lvalue_text ["_law_value"] (defScope s_Lvalue_text) := ⟨rfl, rfl, rfl, by decide +kernel, rfl, by decide +kernel, by decide +kernel⟩
abbrev N_Lcondition_text : List Str := ["_law_c", "_law_word", "_law_sign"]
theorem sc_Lcondition_text : FnScope N_Lcondition_text ["_law_c"] (defScope s_Lcondition_text) := ⟨rfl, rfl, rfl, by decide +kernel, rfl, by decide +kernel, by decide +kernel⟩
abbrev N_Lsome_value : List Str := ["_law_bag", "_law_pool", "_law_plain"]
theorem sc_Lsome_value : FnScope N_Lsome_value ["_law_bag", "_law_pool"] (defScope s_Lsome_value) := ⟨rfl, rfl, rfl, by decide +kernel, rfl, by decide +kernel, by decide +kernel⟩
abbrev N_Lsome_compared : List Str := ["_law_bag", "_law_pool", "_law_one"]
theorem sc_Lsome_compared : FnScope N_Lsome_compared ["_law_bag", "_law_pool"] (defScope s_Lsome_compared) := ⟨rfl, rfl, rfl, by decide +kernel, rfl, by decide +kernel, by decide +kernel⟩
abbrev N_Lsome_condition : List Str := ["_law_bag", "_law_pool", "_law_deep", "_law_way", "_law_word"]
theorem sc_Lsome_condition : FnScope N_Lsome_condition ["_law_bag", "_law_pool", "_law_deep"] (defScope s_Lsome_condition) := ⟨rfl, rfl, rfl, by decide +kernel, rfl, by decide +kernel, by decide +kernel⟩
abbrev N_Lhalves : List Str := ["_law_text", "_law_word", "_law_k"]
theorem sc_Lhalves : FnScope N_Lhalves ["_law_text", "_law_word"] (defScope s_Lhalves) := ⟨rfl, rfl, rfl, by decide +kernel, rfl, by decide +kernel, by decide +kernel⟩
abbrev N_Lgood_value : List Str := ["_law_text"]
theorem sc_Lgood_value : FnScope N_Lgood_value ["_law_text"] (defScope s_Lgood_value) := ⟨rfl, rfl, rfl, by decide +kernel, rfl, by decide +kernel, by decide +kernel⟩
abbrev N_Lgood : List Str := ["_law_text", "_law_deep", "_law_halves_here", "_law_even", "_law_pair"]
theorem sc_Lgood : FnScope N_Lgood ["_law_text", "_law_deep"] (defScope s_Lgood) := ⟨rfl, rfl, rfl, by decide +kernel, rfl, by decide +kernel, by decide +kernel⟩
abbrev N_law : List Str := ["_law_script", "_law_bag", "_law_turn", "_law_wrong", "_law_names", "_law_pool", "_law_text", "_law_k", "_law_found", "_law_at", "_law_sign"]
theorem sc_law : FnScope N_law ["_law_script"] (defScope s_law) := ⟨rfl, rfl, rfl, by decide +kernel, rfl, by decide +kernel, by decide +kernel⟩
def c_BOUND : Dt := .int 1000000000000000000000000000000
def c_MOST_DIGITS : Dt := .int 31
def c_MOST_LETTERS : Dt := .int 6
def c_RESERVED : Dt := .tup [.str "and", .str "found", .str "key", .str "next", .str "not", .str "or", .str "own", .str "set", .str "true", .str "where"]
def c_DEEPEST : Dt := .int 6
def t_SIGNS : List (Str × Str) := [("atmost", "<="), ("below", "<"), ("same", "=")]
def t_FORMS : List (Str × Str) := [("<=", "atmost"), ("<", "below"), ("=", "same")]
def s_init : Stmt := match top 1 with
  | .ClassDef (body := b) .. => b.getD 0 (.Pass ⟨0, 0, 0, 0⟩)
  | s => s
abbrev N_init : List Str := ["self"]
theorem sc_init : FnScope N_init ["self"] (defScope s_init) := ⟨rfl, rfl, rfl, by decide +kernel, rfl, by decide +kernel, by decide +kernel⟩
/-! ### what the top has left -/
set_option maxHeartbeats 0 in
structure Tx (w : World) (K : PySem.W.Frag) (mg : Str → Option Value) (base : Heap) where
  n_abs : mg "abs" = none
  n_all : mg "all" = none
  n_any : mg "any" = none
  n_bool : mg "bool" = none
  n_int : mg "int" = none
  n_isinstance : mg "isinstance" = none
  n_len : mg "len" = none
  n_list : mg "list" = none
  n_range : mg "range" = none
  n_reversed : mg "reversed" = none
  n_str : mg "str" = none
  n_tuple : mg "tuple" = none
  n_zip : mg "zip" = none
  g_BOUND : ∃ u, mg "BOUND" = some u ∧ RelV (V.int 1000000000000000000000000000000) u
  g_MOST_DIGITS : ∃ u, mg "MOST_DIGITS" = some u ∧ RelV (V.int 31) u
  g_MOST_LETTERS : ∃ u, mg "MOST_LETTERS" = some u ∧ RelV (V.int 6) u
  a_RESERVED : Addr
  g_RESERVED : mg "RESERVED" = some (.ref a_RESERVED)
  q_RESERVED : ∀ G, SqT K G a_RESERVED [V.str "and", V.str "found", V.str "key", V.str "next", V.str "not", V.str "or", V.str "own", V.str "set", V.str "true", V.str "where"]
  g_DEEPEST : ∃ u, mg "DEEPEST" = some u ∧ RelV (V.int 6) u
  T1 : Addr
  T2 : Addr
  T3 : Addr
  m_T1 : mg "TableError" = some (.ref T1)
  m_T2 : mg "Missing" = some (.ref T2)
  m_T3 : mg "NothingLeft" = some (.ref T3)
  y_T1 : PySem.W.nsIn K mainGlobals "TableError" = some (some (.ref T1))
  y_T2 : PySem.W.nsIn K mainGlobals "Missing" = some (some (.ref T2))
  y_T3 : PySem.W.nsIn K mainGlobals "NothingLeft" = some (some (.ref T3))
  f_init : Addr
  fd_init : FuncData
  F_init : Fun K "__init__" "TableError.__init__" s_init f_init fd_init
  b_init : Binds K fd_init ["self"] []
  E_InvalidText : DX.ErrK K mg "InvalidText" f_init
  a_SIGNS : Addr
  g_SIGNS : mg "SIGNS" = some (.ref a_SIGNS)
  k_SIGNS : KTbl K w a_SIGNS t_SIGNS
  a_FORMS : Addr
  g_FORMS : mg "FORMS" = some (.ref a_FORMS)
  k_FORMS : KTbl K w a_FORMS t_FORMS
  f_is_name : Addr
  fd_is_name : FuncData
  F_is_name : Fun K "is_name" "is_name" s_is_name f_is_name fd_is_name
  m_is_name : mg "is_name" = some (.ref f_is_name)
  b_is_name : Binds K fd_is_name ["value"] []
  f_is_column : Addr
  fd_is_column : FuncData
  F_is_column : Fun K "is_column" "is_column" s_is_column f_is_column fd_is_column
  m_is_column : mg "is_column" = some (.ref f_is_column)
  b_is_column : Binds K fd_is_column ["value"] []
  f_is_whole : Addr
  fd_is_whole : FuncData
  F_is_whole : Fun K "is_whole" "is_whole" s_is_whole f_is_whole fd_is_whole
  m_is_whole : mg "is_whole" = some (.ref f_is_whole)
  b_is_whole : Binds K fd_is_whole ["value"] []
  f_is_bounded_ : Addr
  fd_is_bounded_ : FuncData
  F_is_bounded_ : Fun K "_is_bounded" "_is_bounded" s_is_bounded_ f_is_bounded_ fd_is_bounded_
  m_is_bounded_ : mg "_is_bounded" = some (.ref f_is_bounded_)
  b_is_bounded_ : Binds K fd_is_bounded_ ["value"] []
  f_is_single_ : Addr
  fd_is_single_ : FuncData
  F_is_single_ : Fun K "_is_single" "_is_single" s_is_single_ f_is_single_ fd_is_single_
  m_is_single_ : mg "_is_single" = some (.ref f_is_single_)
  b_is_single_ : Binds K fd_is_single_ ["value"] []
  f_is_value : Addr
  fd_is_value : FuncData
  F_is_value : Fun K "is_value" "is_value" s_is_value f_is_value fd_is_value
  m_is_value : mg "is_value" = some (.ref f_is_value)
  b_is_value : Binds K fd_is_value ["value"] []
  f_single_text_ : Addr
  fd_single_text_ : FuncData
  F_single_text_ : Fun K "_single_text" "_single_text" s_single_text_ f_single_text_ fd_single_text_
  m_single_text_ : mg "_single_text" = some (.ref f_single_text_)
  b_single_text_ : Binds K fd_single_text_ ["value"] []
  f_value_text : Addr
  fd_value_text : FuncData
  F_value_text : Fun K "value_text" "value_text" s_value_text f_value_text fd_value_text
  m_value_text : mg "value_text" = some (.ref f_value_text)
  b_value_text : Binds K fd_value_text ["value"] []
  f_read_signed_ : Addr
  fd_read_signed_ : FuncData
  F_read_signed_ : Fun K "_read_signed" "_read_signed" s_read_signed_ f_read_signed_ fd_read_signed_
  m_read_signed_ : mg "_read_signed" = some (.ref f_read_signed_)
  b_read_signed_ : Binds K fd_read_signed_ ["sign", "word"] []
  f_read_single_ : Addr
  fd_read_single_ : FuncData
  F_read_single_ : Fun K "_read_single" "_read_single" s_read_single_ f_read_single_ fd_read_single_
  m_read_single_ : mg "_read_single" = some (.ref f_read_single_)
  b_read_single_ : Binds K fd_read_single_ ["word"] []
  f_read_value : Addr
  fd_read_value : FuncData
  F_read_value : Fun K "read_value" "read_value" s_read_value f_read_value fd_read_value
  m_read_value : mg "read_value" = some (.ref f_read_value)
  b_read_value : Binds K fd_read_value ["text"] []
  f_is_condition_itself_ : Addr
  fd_is_condition_itself_ : FuncData
  F_is_condition_itself_ : Fun K "_is_condition_itself" "_is_condition_itself" s_is_condition_itself_ f_is_condition_itself_ fd_is_condition_itself_
  m_is_condition_itself_ : mg "_is_condition_itself" = some (.ref f_is_condition_itself_)
  b_is_condition_itself_ : Binds K fd_is_condition_itself_ ["part"] []
  f_places_ : Addr
  fd_places_ : FuncData
  F_places_ : Fun K "_places" "_places" s_places_ f_places_ fd_places_
  m_places_ : mg "_places" = some (.ref f_places_)
  b_places_ : Binds K fd_places_ ["part"] []
  f_checked_parts_ : Addr
  fd_checked_parts_ : FuncData
  F_checked_parts_ : Fun K "_checked_parts" "_checked_parts" s_checked_parts_ f_checked_parts_ fd_checked_parts_
  m_checked_parts_ : mg "_checked_parts" = some (.ref f_checked_parts_)
  b_checked_parts_ : Binds K fd_checked_parts_ ["condition"] []
  f_text_ : Addr
  fd_text_ : FuncData
  F_text_ : Fun K "_text" "_text" s_text_ f_text_ fd_text_
  m_text_ : mg "_text" = some (.ref f_text_)
  b_text_ : Binds K fd_text_ ["part"] []
  f_condition_text : Addr
  fd_condition_text : FuncData
  F_condition_text : Fun K "condition_text" "condition_text" s_condition_text f_condition_text fd_condition_text
  m_condition_text : mg "condition_text" = some (.ref f_condition_text)
  b_condition_text : Binds K fd_condition_text ["condition"] []
  f_word_ : Addr
  fd_word_ : FuncData
  F_word_ : Fun K "_word" "_word" s_word_ f_word_ fd_word_
  m_word_ : mg "_word" = some (.ref f_word_)
  b_word_ : Binds K fd_word_ ["words", "at"] []
  f_read_operand_ : Addr
  fd_read_operand_ : FuncData
  F_read_operand_ : Fun K "_read_operand" "_read_operand" s_read_operand_ f_read_operand_ fd_read_operand_
  m_read_operand_ : mg "_read_operand" = some (.ref f_read_operand_)
  b_read_operand_ : Binds K fd_read_operand_ ["words", "at"] []
  f_read_comparison_ : Addr
  fd_read_comparison_ : FuncData
  F_read_comparison_ : Fun K "_read_comparison" "_read_comparison" s_read_comparison_ f_read_comparison_ fd_read_comparison_
  m_read_comparison_ : mg "_read_comparison" = some (.ref f_read_comparison_)
  b_read_comparison_ : Binds K fd_read_comparison_ ["words", "at"] []
  f_read_found_ : Addr
  fd_read_found_ : FuncData
  F_read_found_ : Fun K "_read_found" "_read_found" s_read_found_ f_read_found_ fd_read_found_
  m_read_found_ : mg "_read_found" = some (.ref f_read_found_)
  b_read_found_ : Binds K fd_read_found_ ["words", "at"] []
  f_read_joined_ : Addr
  fd_read_joined_ : FuncData
  F_read_joined_ : Fun K "_read_joined" "_read_joined" s_read_joined_ f_read_joined_ fd_read_joined_
  m_read_joined_ : mg "_read_joined" = some (.ref f_read_joined_)
  b_read_joined_ : Binds K fd_read_joined_ ["words", "at", "depth"] []
  f_read_part_ : Addr
  fd_read_part_ : FuncData
  F_read_part_ : Fun K "_read_part" "_read_part" s_read_part_ f_read_part_ fd_read_part_
  m_read_part_ : mg "_read_part" = some (.ref f_read_part_)
  b_read_part_ : Binds K fd_read_part_ ["words", "at", "depth"] []
  f_read_condition : Addr
  fd_read_condition : FuncData
  F_read_condition : Fun K "read_condition" "read_condition" s_read_condition f_read_condition fd_read_condition
  m_read_condition : mg "read_condition" = some (.ref f_read_condition)
  b_read_condition : Binds K fd_read_condition ["text"] []
  f_Lfield : Addr
  fd_Lfield : FuncData
  F_Lfield : Fun K "_law_field" "_law_field" s_Lfield f_Lfield fd_Lfield
  m_Lfield : mg "_law_field" = some (.ref f_Lfield)
  b_Lfield : Binds K fd_Lfield ["_law_e"] []
  f_Ldraws : Addr
  fd_Ldraws : FuncData
  F_Ldraws : Fun K "_law_draws" "_law_draws" s_Ldraws f_Ldraws fd_Ldraws
  m_Ldraws : mg "_law_draws" = some (.ref f_Ldraws)
  b_Ldraws : Binds K fd_Ldraws ["_law_script"] []
  f_Lpull : Addr
  fd_Lpull : FuncData
  F_Lpull : Fun K "_law_pull" "_law_pull" s_Lpull f_Lpull fd_Lpull
  m_Lpull : mg "_law_pull" = some (.ref f_Lpull)
  b_Lpull : Binds K fd_Lpull ["_law_bag", "_law_sides"] []
  f_Lany : Addr
  fd_Lany : FuncData
  F_Lany : Fun K "_law_any" "_law_any" s_Lany f_Lany fd_Lany
  m_Lany : mg "_law_any" = some (.ref f_Lany)
  b_Lany : Binds K fd_Lany ["_law_bag", "_law_rows"] []
  f_Llike : Addr
  fd_Llike : FuncData
  F_Llike : Fun K "_law_like" "_law_like" s_Llike f_Llike fd_Llike
  m_Llike : mg "_law_like" = some (.ref f_Llike)
  b_Llike : Binds K fd_Llike ["_law_a", "_law_b"] []
  f_Ltry : Addr
  fd_Ltry : FuncData
  F_Ltry : Fun K "_law_try" "_law_try" s_Ltry f_Ltry fd_Ltry
  m_Ltry : mg "_law_try" = some (.ref f_Ltry)
  b_Ltry : Binds K fd_Ltry ["_law_ask"] []
  f_Lreserved : Addr
  fd_Lreserved : FuncData
  F_Lreserved : Fun K "_law_reserved" "_law_reserved" s_Lreserved f_Lreserved fd_Lreserved
  m_Lreserved : mg "_law_reserved" = some (.ref f_Lreserved)
  b_Lreserved : Binds K fd_Lreserved [] []
  f_Lnew_names : Addr
  fd_Lnew_names : FuncData
  F_Lnew_names : Fun K "_law_new_names" "_law_new_names" s_Lnew_names f_Lnew_names fd_Lnew_names
  m_Lnew_names : mg "_law_new_names" = some (.ref f_Lnew_names)
  b_Lnew_names : Binds K fd_Lnew_names ["_law_bag", "_law_many"] []
  f_Lis_name : Addr
  fd_Lis_name : FuncData
  F_Lis_name : Fun K "_law_is_name" "_law_is_name" s_Lis_name f_Lis_name fd_Lis_name
  m_Lis_name : mg "_law_is_name" = some (.ref f_Lis_name)
  b_Lis_name : Binds K fd_Lis_name ["_law_value"] []
  f_Lnear : Addr
  fd_Lnear : FuncData
  F_Lnear : Fun K "_law_near" "_law_near" s_Lnear f_Lnear fd_Lnear
  m_Lnear : mg "_law_near" = some (.ref f_Lnear)
  b_Lnear : Binds K fd_Lnear ["_law_bag"] []
  f_Lvalue_text : Addr
  fd_Lvalue_text : FuncData
  F_Lvalue_text : Fun K "_law_value_text" "_law_value_text" s_Lvalue_text f_Lvalue_text fd_Lvalue_text
  m_Lvalue_text : mg "_law_value_text" = some (.ref f_Lvalue_text)
  b_Lvalue_text : Binds K fd_Lvalue_text ["_law_value"] []
  f_Lcondition_text : Addr
  fd_Lcondition_text : FuncData
  F_Lcondition_text : Fun K "_law_condition_text" "_law_condition_text" s_Lcondition_text f_Lcondition_text fd_Lcondition_text
  m_Lcondition_text : mg "_law_condition_text" = some (.ref f_Lcondition_text)
  b_Lcondition_text : Binds K fd_Lcondition_text ["_law_c"] []
  f_Lsome_value : Addr
  fd_Lsome_value : FuncData
  F_Lsome_value : Fun K "_law_some_value" "_law_some_value" s_Lsome_value f_Lsome_value fd_Lsome_value
  m_Lsome_value : mg "_law_some_value" = some (.ref f_Lsome_value)
  b_Lsome_value : Binds K fd_Lsome_value ["_law_bag", "_law_pool"] []
  f_Lsome_compared : Addr
  fd_Lsome_compared : FuncData
  F_Lsome_compared : Fun K "_law_some_compared" "_law_some_compared" s_Lsome_compared f_Lsome_compared fd_Lsome_compared
  m_Lsome_compared : mg "_law_some_compared" = some (.ref f_Lsome_compared)
  b_Lsome_compared : Binds K fd_Lsome_compared ["_law_bag", "_law_pool"] []
  f_Lsome_condition : Addr
  fd_Lsome_condition : FuncData
  F_Lsome_condition : Fun K "_law_some_condition" "_law_some_condition" s_Lsome_condition f_Lsome_condition fd_Lsome_condition
  m_Lsome_condition : mg "_law_some_condition" = some (.ref f_Lsome_condition)
  b_Lsome_condition : Binds K fd_Lsome_condition ["_law_bag", "_law_pool", "_law_deep"] []
  f_Lhalves : Addr
  fd_Lhalves : FuncData
  F_Lhalves : Fun K "_law_halves" "_law_halves" s_Lhalves f_Lhalves fd_Lhalves
  m_Lhalves : mg "_law_halves" = some (.ref f_Lhalves)
  b_Lhalves : Binds K fd_Lhalves ["_law_text", "_law_word"] []
  cl_Lgood_value : Addr
  Pt_Lgood_value : Addr
  i_Lgood_value : (Pt_Lgood_value, ((("_law_good_value" : Str) ++ ".<locals>.") ++ "<lambda>")) ∈ Tabs.ts
  B_Lgood_value : LamX.TabB base mg cl_Lgood_value Pt_Lgood_value
  f_Lgood_value : Addr
  fd_Lgood_value : FuncData
  C_Lgood_value : DX.FunC K "_law_good_value" "_law_good_value" s_Lgood_value f_Lgood_value fd_Lgood_value cl_Lgood_value
  F_Lgood_value : Fun K "_law_good_value" "_law_good_value" s_Lgood_value f_Lgood_value fd_Lgood_value
  m_Lgood_value : mg "_law_good_value" = some (.ref f_Lgood_value)
  b_Lgood_value : Binds K fd_Lgood_value ["_law_text"] []
  f_Lgood : Addr
  fd_Lgood : FuncData
  F_Lgood : Fun K "_law_good" "_law_good" s_Lgood f_Lgood fd_Lgood
  m_Lgood : mg "_law_good" = some (.ref f_Lgood)
  b_Lgood : Binds K fd_Lgood ["_law_text", "_law_deep"] []
  cl_law : Addr
  Pt_law : Addr
  i_law : (Pt_law, ((("law" : Str) ++ ".<locals>.") ++ "<lambda>")) ∈ Tabs.ts
  B_law : LamX.TabB base mg cl_law Pt_law
  f_law : Addr
  fd_law : FuncData
  C_law : DX.FunC K "law" "law" s_law f_law fd_law cl_law
  F_law : Fun K "law" "law" s_law f_law fd_law
  m_law : mg "law" = some (.ref f_law)
  b_law : Binds K fd_law ["_law_script"] []
theorem Tx.e_BOUND {w : World} {K : PySem.W.Frag} {mg : Str → Option Value} (T : Tx w K mg base) {X : Cx} {p : Pos} (hK : X.K = K) (hm : X.mg = mg) (hg : Gl X "BOUND") : DE X (.Name "BOUND" p) (mC c_BOUND) := by
  subst hK hm
  obtain ⟨u, h1, h2⟩ := T.g_BOUND
  exact de_cst (pe_glob hg h1 h2) fun β G => is_int.mpr rfl
theorem Tx.e_MOST_DIGITS {w : World} {K : PySem.W.Frag} {mg : Str → Option Value} (T : Tx w K mg base) {X : Cx} {p : Pos} (hK : X.K = K) (hm : X.mg = mg) (hg : Gl X "MOST_DIGITS") : DE X (.Name "MOST_DIGITS" p) (mC c_MOST_DIGITS) := by
  subst hK hm
  obtain ⟨u, h1, h2⟩ := T.g_MOST_DIGITS
  exact de_cst (pe_glob hg h1 h2) fun β G => is_int.mpr rfl
theorem Tx.e_MOST_LETTERS {w : World} {K : PySem.W.Frag} {mg : Str → Option Value} (T : Tx w K mg base) {X : Cx} {p : Pos} (hK : X.K = K) (hm : X.mg = mg) (hg : Gl X "MOST_LETTERS") : DE X (.Name "MOST_LETTERS" p) (mC c_MOST_LETTERS) := by
  subst hK hm
  obtain ⟨u, h1, h2⟩ := T.g_MOST_LETTERS
  exact de_cst (pe_glob hg h1 h2) fun β G => is_int.mpr rfl
theorem Tx.e_RESERVED {w : World} {K : PySem.W.Frag} {mg : Str → Option Value} (T : Tx w K mg base) {X : Cx} {p : Pos} (hK : X.K = K) (hm : X.mg = mg) (hg : Gl X "RESERVED") : DE X (.Name "RESERVED" p) (mC c_RESERVED) := by
  subst hK hm
  exact de_cst (pe_glob (v := .ref T.a_RESERVED) hg T.g_RESERVED rfl) fun β G => is_tup.mpr ⟨T.a_RESERVED, _, rfl, T.q_RESERVED G, (isl_cons.mpr ⟨_, _, rfl, is_str.mpr rfl, (isl_cons.mpr ⟨_, _, rfl, is_str.mpr rfl, (isl_cons.mpr ⟨_, _, rfl, is_str.mpr rfl, (isl_cons.mpr ⟨_, _, rfl, is_str.mpr rfl, (isl_cons.mpr ⟨_, _, rfl, is_str.mpr rfl, (isl_cons.mpr ⟨_, _, rfl, is_str.mpr rfl, (isl_cons.mpr ⟨_, _, rfl, is_str.mpr rfl, (isl_cons.mpr ⟨_, _, rfl, is_str.mpr rfl, (isl_cons.mpr ⟨_, _, rfl, is_str.mpr rfl, (isl_cons.mpr ⟨_, _, rfl, is_str.mpr rfl, (isl_nil.mpr rfl)⟩)⟩)⟩)⟩)⟩)⟩)⟩)⟩)⟩)⟩)⟩
theorem Tx.e_DEEPEST {w : World} {K : PySem.W.Frag} {mg : Str → Option Value} (T : Tx w K mg base) {X : Cx} {p : Pos} (hK : X.K = K) (hm : X.mg = mg) (hg : Gl X "DEEPEST") : DE X (.Name "DEEPEST" p) (mC c_DEEPEST) := by
  subst hK hm
  obtain ⟨u, h1, h2⟩ := T.g_DEEPEST
  exact de_cst (pe_glob hg h1 h2) fun β G => is_int.mpr rfl
section
variable {P : Program} {w : World} {K : PySem.W.Frag} {mg : Str → Option Value} {base : Heap}
theorem try_ok (T : Tx w K mg base) {X : Cx} (hp : X.prog = P) (hw : X.w = w) (hK : X.K = K) (hm : X.mg = mg) (hb : X.base = base) {k : Nat} (hr : Room (k + 2) X.A) (cdv : Value) {q : Str} : LamX.GivesTo X N_Ltry "_law_try" (defScope s_Ltry) T.f_Ltry cdv (defBody s_Ltry) "_law_ask" q (DX.TTtry X.K T.T1 T.T2 T.T3 "") := by
  subst hp hw hK hm hb
  exact DX.try_gives (p19 := ⟨0, 0, 0, 0⟩) (p20 := ⟨0, 0, 0, 0⟩) rfl T.m_T1 (by decide) rfl T.m_T2 (by decide) rfl T.m_T3 (by decide) rfl T.m_Lfield (by decide) T.F_Lfield.kp (DX.fs_field (k := k) T.F_Lfield sc_Lfield) T.b_Lfield sc_Ltry.nd rfl rfl (by decide) (by decide) (fun s b => DX.room_mark hr) (fun f => rfl) rfl
def F_is_name : FD := fnD N_is_name.length (kSeq (kIf (mOrB (mNotB (mB (mIsi isStr (mVar 0)))) (mB (m2 gIn (mVar 0) (mC c_RESERVED)))) (kRet (mC (.bl false))) kSkip)
    (kRet (mAndV (mChain oLe oLe (mC (.int 1)) (mCall gLen (mCons (mVar 0) mNil)) (mC c_MOST_LETTERS)) (mCall gAll (mCons (mComp [1] (wStr (mVar 0)) (hName 1) mYes (mChain oLe oLe (mC (.str "a")) (mVar 1) (mC (.str "z")))) mNil)))))
theorem ok_is_name (T : Tx w K mg base) : FnOk P w K mg base CX0 1 T.f_is_name T.fd_is_name ["value"] (spD K 1 F_is_name) :=
  fn_ok T.F_is_name sc_is_name rfl fun cdv A outer s H E hr => (
    (dss_cons (ds_if (DW.dt (dw_or (dt_not (dt_val (de_isi kit_str (by rfl) T.n_isinstance (by decide +kernel) (de_var 0 (pv 0)) (by rfl) T.n_str (by decide +kernel)))) (dw_or1 (dt_cmp (op_in_str.or op_in_seq) r2_in (de_var 0 (pv 0)) (T.e_RESERVED rfl rfl (by rfl)) (by rfl))))) (dss_one (ds_ret de_bl)) dss_nil) (dss_one (ds_ret (de_and (de_chain (op_le.or op_le_str) r2_le (op_le.or op_le_str) r2_le de_int (de_callB call_len ok_len (by rfl) T.n_len (by decide +kernel) (da_cons (de_var 0 (pv 0)) da_nil)) (T.e_MOST_LETTERS rfl rfl (by rfl))) (de_one (de_callB (cr_all rfl) ok_all (by rfl) T.n_all (by decide +kernel) (da_cons (de_comp (own := [("letter", 1)]) rfl sc_is_name.nd (di_str (de_var 0 (pv 0))) (blkOk_by (own := [("letter", 1)]) (N := N_is_name) (sc := defScope s_is_name) (by decide +kernel)) (fun _ _ _ _ _ => (dg_name (i := 1) sc_is_name.nd rfl (by first | exact .inl rfl | exact .inr rfl))) (fun _ _ _ _ _ => dts_nil) (fun _ _ _ _ _ => (de_chain (op_le.or op_le_str) r2_le (op_le.or op_le_str) r2_le de_str (de_var 1 (pv 1)) de_str)) (by decide)) da_nil))))))))
def F_is_column : FD := fnD N_is_column.length (kRet (mOrV (m2 gEq (mVar 0) (mC (.str "key"))) (mApp F_is_name (mCons (mVar 0) mNil))))
theorem ok_is_column (T : Tx w K mg base) : FnOk P w K mg base CX0 2 T.f_is_column T.fd_is_column ["value"] (spD K 1 F_is_column) :=
  fn_ok T.F_is_column sc_is_column rfl fun cdv A outer s H E hr => (
    (dss_one (ds_ret (de_or (de_cmp (op_eqD hr.units) r2_eq (de_var 0 (pv 0)) de_str (nomark _)) (de_one (de_call (ok_is_name T) (hr.mono (by first | decide | omega)) (by rfl) T.m_is_name T.F_is_name.kp T.b_is_name (da_cons (de_var 0 (pv 0)) da_nil) (len_cons len_nil)))))))
def F_is_whole : FD := fnD N_is_whole.length (kRet (mAndV (mIsi isInt (mVar 0)) (mNotV (mIsi isBl (mVar 0)))))
theorem ok_is_whole (T : Tx w K mg base) : FnOk P w K mg base CX0 1 T.f_is_whole T.fd_is_whole ["value"] (spD K 1 F_is_whole) :=
  fn_ok T.F_is_whole sc_is_whole rfl fun cdv A outer s H E hr => (
    (dss_one (ds_ret (de_and (de_isi kit_int (by rfl) T.n_isinstance (by decide +kernel) (de_var 0 (pv 0)) (by rfl) T.n_int (by decide +kernel)) (de_one (de_not (de_isi kit_bl (by rfl) T.n_isinstance (by decide +kernel) (de_var 0 (pv 0)) (by rfl) T.n_bool (by decide +kernel))))))))
def F_is_bounded_ : FD := fnD N_is_bounded_.length (kRet (mAndV (mApp F_is_whole (mCons (mVar 0) mNil)) (mChain oLe oLe (mNeg (mC c_BOUND)) (mVar 0) (mC c_BOUND))))
theorem ok_is_bounded_ (T : Tx w K mg base) : FnOk P w K mg base CX0 2 T.f_is_bounded_ T.fd_is_bounded_ ["value"] (spD K 1 F_is_bounded_) :=
  fn_ok T.F_is_bounded_ sc_is_bounded_ rfl fun cdv A outer s H E hr => (
    (dss_one (ds_ret (de_and (de_call (ok_is_whole T) (hr.mono (by first | decide | omega)) (by rfl) T.m_is_whole T.F_is_whole.kp T.b_is_whole (da_cons (de_var 0 (pv 0)) da_nil) (len_cons len_nil)) (de_one (de_chain (op_le.or op_le_str) r2_le (op_le.or op_le_str) r2_le (de_neg (T.e_BOUND rfl rfl (by rfl))) (de_var 0 (pv 0)) (T.e_BOUND rfl rfl (by rfl))))))))
def F_is_single_ : FD := fnD N_is_single_.length (kSeq (kIf (mNotB (mB (mIsi isTup (mVar 0)))) (kRet (mC (.bl false))) kSkip)
    (kSeq (kIf (mB (m2 gEq (mCall gLen (mCons (mVar 0) mNil)) (mC (.int 3)))) (kRet (mAndV (m2 gEq (m2 gIx (mVar 0) (mC (.int 0))) (mC (.str "field"))) (mAndV (mApp F_is_name (mCons (m2 gIx (mVar 0) (mC (.int 1))) mNil)) (mApp F_is_column (mCons (m2 gIx (mVar 0) (mC (.int 2))) mNil))))) kSkip)
    (kSeq (kIf (mB (m2 gNe (mCall gLen (mCons (mVar 0) mNil)) (mC (.int 2)))) (kRet (mC (.bl false))) kSkip)
    (kSeq (kAsg (mVar 0) (hTup 2 (hCons (hName 1) (hCons (hName 2) hNil))))
    (kSeq (kIf (mB (m2 gEq (mVar 1) (mC (.str "number")))) (kRet (mApp F_is_bounded_ (mCons (mVar 2) mNil))) kSkip)
    (kSeq (kIf (mB (m2 gEq (mVar 1) (mC (.str "name")))) (kRet (mApp F_is_name (mCons (mVar 2) mNil))) kSkip)
    (kRet (mAndV (m2 gIn (mVar 1) (mTup (mCons (mC (.str "own")) (mCons (mC (.str "next")) mNil)))) (mApp F_is_column (mCons (mVar 2) mNil))))))))))
theorem ok_is_single_ (T : Tx w K mg base) : FnOk P w K mg base CX0 3 T.f_is_single_ T.fd_is_single_ ["value"] (spD K 1 F_is_single_) :=
  fn_ok T.F_is_single_ sc_is_single_ rfl fun cdv A outer s H E hr => (
    (dss_cons (ds_if (dt_not (dt_val (de_isi kit_tup (by rfl) T.n_isinstance (by decide +kernel) (de_var 0 (pv 0)) (by rfl) T.n_tuple (by decide +kernel)))) (dss_one (ds_ret de_bl)) dss_nil) (dss_cons (ds_if (dt_cmp (op_eqD hr.units) r2_eq (de_callB call_len ok_len (by rfl) T.n_len (by decide +kernel) (da_cons (de_var 0 (pv 0)) da_nil)) de_int (nomark _)) (dss_one (ds_ret (de_and (de_cmp (op_eqD hr.units) r2_eq (de_ix (de_var 0 (pv 0)) de_int) de_str (nomark _)) (de_and (de_call (ok_is_name T) (hr.mono (by first | decide | omega)) (by rfl) T.m_is_name T.F_is_name.kp T.b_is_name (da_cons (de_ix (de_var 0 (pv 0)) de_int) da_nil) (len_cons len_nil)) (de_one (de_call (ok_is_column T) (hr.mono (by first | decide | omega)) (by rfl) T.m_is_column T.F_is_column.kp T.b_is_column (da_cons (de_ix (de_var 0 (pv 0)) de_int) da_nil) (len_cons len_nil))))))) dss_nil) (dss_cons (ds_if (dt_cmp (op_neD hr.units) r2_ne (de_callB call_len ok_len (by rfl) T.n_len (by decide +kernel) (da_cons (de_var 0 (pv 0)) da_nil)) de_int (nomark _)) (dss_one (ds_ret de_bl)) dss_nil) (dss_cons (ds_asg (de_var 0 (pv 0)) (dg_tup rfl (dgs_cons (dg_name (i := 1) sc_is_single_.nd rfl (by first | exact .inl rfl | exact .inr rfl)) (dgs_cons (dg_name (i := 2) sc_is_single_.nd rfl (by first | exact .inl rfl | exact .inr rfl)) dgs_nil)))) (dss_cons (ds_if (dt_cmp (op_eqD hr.units) r2_eq (de_var 1 (pv 1)) de_str (nomark _)) (dss_one (ds_ret (de_call (ok_is_bounded_ T) (hr.mono (by first | decide | omega)) (by rfl) T.m_is_bounded_ T.F_is_bounded_.kp T.b_is_bounded_ (da_cons (de_var 2 (pv 2)) da_nil) (len_cons len_nil)))) dss_nil) (dss_cons (ds_if (dt_cmp (op_eqD hr.units) r2_eq (de_var 1 (pv 1)) de_str (nomark _)) (dss_one (ds_ret (de_call (ok_is_name T) (hr.mono (by first | decide | omega)) (by rfl) T.m_is_name T.F_is_name.kp T.b_is_name (da_cons (de_var 2 (pv 2)) da_nil) (len_cons len_nil)))) dss_nil) (dss_one (ds_ret (de_and (de_cmp (op_in_str.or op_in_seq) r2_in (de_var 1 (pv 1)) (de_tup (da_cons de_str (da_cons de_str da_nil))) (by rfl)) (de_one (de_call (ok_is_column T) (hr.mono (by first | decide | omega)) (by rfl) T.m_is_column T.F_is_column.kp T.b_is_column (da_cons (de_var 2 (pv 2)) da_nil) (len_cons len_nil)))))))))))))
def F_is_value : FD := fnD N_is_value.length (kSeq (kIf (mAndB (mB (mIsi isTup (mVar 0))) (mAndB (mB (m2 gEq (mCall gLen (mCons (mVar 0) mNil)) (mC (.int 3)))) (mB (m2 gEq (m2 gIx (mVar 0) (mC (.int 0))) (mC (.str "plus")))))) (kRet (mAndV (mApp F_is_single_ (mCons (m2 gIx (mVar 0) (mC (.int 1))) mNil)) (mApp F_is_bounded_ (mCons (m2 gIx (mVar 0) (mC (.int 2))) mNil)))) kSkip)
    (kRet (mApp F_is_single_ (mCons (mVar 0) mNil))))
theorem ok_is_value (T : Tx w K mg base) : FnOk P w K mg base CX0 4 T.f_is_value T.fd_is_value ["value"] (spD K 1 F_is_value) :=
  fn_ok T.F_is_value sc_is_value rfl fun cdv A outer s H E hr => (
    (dss_cons (ds_if (DW.dt (dw_and (dt_val (de_isi kit_tup (by rfl) T.n_isinstance (by decide +kernel) (de_var 0 (pv 0)) (by rfl) T.n_tuple (by decide +kernel))) (dw_and (dt_cmp (op_eqD hr.units) r2_eq (de_callB call_len ok_len (by rfl) T.n_len (by decide +kernel) (da_cons (de_var 0 (pv 0)) da_nil)) de_int (nomark _)) (dw_and1 (dt_cmp (op_eqD hr.units) r2_eq (de_ix (de_var 0 (pv 0)) de_int) de_str (nomark _)))))) (dss_one (ds_ret (de_and (de_call (ok_is_single_ T) (hr.mono (by first | decide | omega)) (by rfl) T.m_is_single_ T.F_is_single_.kp T.b_is_single_ (da_cons (de_ix (de_var 0 (pv 0)) de_int) da_nil) (len_cons len_nil)) (de_one (de_call (ok_is_bounded_ T) (hr.mono (by first | decide | omega)) (by rfl) T.m_is_bounded_ T.F_is_bounded_.kp T.b_is_bounded_ (da_cons (de_ix (de_var 0 (pv 0)) de_int) da_nil) (len_cons len_nil)))))) dss_nil) (dss_one (ds_ret (de_call (ok_is_single_ T) (hr.mono (by first | decide | omega)) (by rfl) T.m_is_single_ T.F_is_single_.kp T.b_is_single_ (da_cons (de_var 0 (pv 0)) da_nil) (len_cons len_nil))))))
def F_single_text_ : FD := fnD N_single_text_.length (kSeq (kIf (mB (m2 gIn (m2 gIx (mVar 0) (mC (.int 0))) (mTup (mCons (mC (.str "number")) (mCons (mC (.str "name")) mNil))))) (kRet (mCall gStr (mCons (m2 gIx (mVar 0) (mC (.int 1))) mNil))) kSkip)
    (kSeq (kIf (mB (m2 gEq (m2 gIx (mVar 0) (mC (.int 0))) (mC (.str "field")))) (kRet (mJoined [(mFmt (m2 gIx (mVar 0) (mC (.int 1)))), (mC (.str ".")), (mFmt (m2 gIx (mVar 0) (mC (.int 2))))])) kSkip)
    (kRet (mJoined [(mFmt (m2 gIx (mVar 0) (mC (.int 0)))), (mC (.str ".")), (mFmt (m2 gIx (mVar 0) (mC (.int 1))))]))))
theorem ok_single_text_ (T : Tx w K mg base) : FnOk P w K mg base CX0 1 T.f_single_text_ T.fd_single_text_ ["value"] (spD K 1 F_single_text_) :=
  fn_ok T.F_single_text_ sc_single_text_ rfl fun cdv A outer s H E hr => (
    (dss_cons (ds_if (dt_cmp (op_in_str.or op_in_seq) r2_in (de_ix (de_var 0 (pv 0)) de_int) (de_tup (da_cons de_str (da_cons de_str da_nil))) (by rfl)) (dss_one (ds_ret (de_callT (call_str_int.or SkE.call_str_str) ok_str (by rfl) T.n_str (by decide +kernel) (da_cons (de_ix (de_var 0 (pv 0)) de_int) da_nil)))) dss_nil) (dss_cons (ds_if (dt_cmp (op_eqD hr.units) r2_eq (de_ix (de_var 0 (pv 0)) de_int) de_str (nomark _)) (dss_one (ds_ret (de_joined (DJ.cons (de_fmt (de_ix (de_var 0 (pv 0)) de_int)) (DJ.cons de_str (DJ.cons (de_fmt (de_ix (de_var 0 (pv 0)) de_int)) DJ.nil)))))) dss_nil) (dss_one (ds_ret (de_joined (DJ.cons (de_fmt (de_ix (de_var 0 (pv 0)) de_int)) (DJ.cons de_str (DJ.cons (de_fmt (de_ix (de_var 0 (pv 0)) de_int)) DJ.nil)))))))))
def F_value_text : FD := fnD N_value_text.length (kSeq (kIf (mNotB (mB (mApp F_is_value (mCons (mVar 0) mNil)))) (fun _ => none) kSkip)
    (kSeq (kIf (mB (m2 gNe (m2 gIx (mVar 0) (mC (.int 0))) (mC (.str "plus")))) (kRet (mApp F_single_text_ (mCons (mVar 0) mNil))) kSkip)
    (kSeq (kAsg (mIf (mB (m2 oLt (m2 gIx (mVar 0) (mC (.int 2))) (mC (.int 0)))) (mC (.str "-")) (mC (.str "+"))) (hName 1))
    (kRet (mJoined [(mFmt (mApp F_single_text_ (mCons (m2 gIx (mVar 0) (mC (.int 1))) mNil))), (mC (.str " ")), (mFmt (mVar 1)), (mC (.str " ")), (mFmt (mCall gAbs (mCons (m2 gIx (mVar 0) (mC (.int 2))) mNil)))])))))
theorem ok_value_text (T : Tx w K mg base) : FnOk P w K mg base CX0 5 T.f_value_text T.fd_value_text ["value"] (spD K 1 F_value_text) :=
  fn_ok T.F_value_text sc_value_text rfl fun cdv A outer s H E hr => (
    (dss_cons (ds_if (dt_not (dt_val (de_call (ok_is_value T) (hr.mono (by first | decide | omega)) (by rfl) T.m_is_value T.F_is_value.kp T.b_is_value (da_cons (de_var 0 (pv 0)) da_nil) (len_cons len_nil)))) (dss_one ds_never) dss_nil) (dss_cons (ds_if (dt_cmp (op_neD hr.units) r2_ne (de_ix (de_var 0 (pv 0)) de_int) de_str (nomark _)) (dss_one (ds_ret (de_call (ok_single_text_ T) (hr.mono (by first | decide | omega)) (by rfl) T.m_single_text_ T.F_single_text_.kp T.b_single_text_ (da_cons (de_var 0 (pv 0)) da_nil) (len_cons len_nil)))) dss_nil) (dss_cons (ds_set (i := 1) sc_value_text.nd rfl (by first | exact .inl rfl | exact .inr rfl) (de_ifx (dt_cmp (op_lt.or op_lt_str) r2_lt (de_ix (de_var 0 (pv 0)) de_int) de_int (nomark _)) de_str de_str)) (dss_one (ds_ret (de_joined (DJ.cons (de_fmt (de_call (ok_single_text_ T) (hr.mono (by first | decide | omega)) (by rfl) T.m_single_text_ T.F_single_text_.kp T.b_single_text_ (da_cons (de_ix (de_var 0 (pv 0)) de_int) da_nil) (len_cons len_nil))) (DJ.cons de_str (DJ.cons (de_fmt (de_var 1 (pv 1))) (DJ.cons de_str (DJ.cons (de_fmt (de_callB call_abs ok_abs (by rfl) T.n_abs (by decide +kernel) (da_cons (de_ix (de_var 0 (pv 0)) de_int) da_nil))) DJ.nil))))))))))))
def F_read_signed_ : FD := fnD N_read_signed_.length (kSeq (kIf (mOrB (mNotB (mB (mChain oLe oLe (mC (.int 1)) (mCall gLen (mCons (mVar 1) mNil)) (mC c_MOST_DIGITS)))) (mB (mCall gAny (mCons (mComp [3] (wStr (mVar 1)) (hName 3) mYes (mNotV (mChain oLe oLe (mC (.str "0")) (mVar 3) (mC (.str "9"))))) mNil)))) (kRet (mC .non)) kSkip)
    (kSeq (kAsg (mCall gIntS (mCons (mVar 1) mNil)) (hName 2))
    (kSeq (kIf (mOrB (mB (m2 gNe (mCall gStr (mCons (mVar 2) mNil)) (mVar 1))) (mOrB (mB (m2 gNin (mVar 0) (mTup (mCons (mC (.str "+")) (mCons (mC (.str "-")) mNil))))) (mAndB (mB (m2 gEq (mVar 0) (mC (.str "-")))) (mB (m2 gEq (mVar 2) (mC (.int 0))))))) (kRet (mC .non)) kSkip)
    (kRet (mIf (mB (m2 gEq (mVar 0) (mC (.str "-")))) (mNeg (mVar 2)) (mVar 2))))))
theorem ok_read_signed_ (T : Tx w K mg base) : FnOk P w K mg base CX0 1 T.f_read_signed_ T.fd_read_signed_ ["sign", "word"] (spD K 2 F_read_signed_) :=
  fn_ok T.F_read_signed_ sc_read_signed_ rfl fun cdv A outer s H E hr => (
    (dss_cons (ds_if (DW.dt (dw_or (dt_not (dt_chain (op_le.or op_le_str) r2_le (op_le.or op_le_str) r2_le de_int (de_callB call_len ok_len (by rfl) T.n_len (by decide +kernel) (da_cons (de_var 1 (pv 1)) da_nil)) (T.e_MOST_DIGITS rfl rfl (by rfl)))) (dw_or1 (dt_val (de_callB (cr_any rfl) ok_any (by rfl) T.n_any (by decide +kernel) (da_cons (de_comp (own := [("digit", 3)]) rfl sc_read_signed_.nd (di_str (de_var 1 (pv 1))) (blkOk_by (own := [("digit", 3)]) (N := N_read_signed_) (sc := defScope s_read_signed_) (by decide +kernel)) (fun _ _ _ _ _ => (dg_name (i := 3) sc_read_signed_.nd rfl (by first | exact .inl rfl | exact .inr rfl))) (fun _ _ _ _ _ => dts_nil) (fun _ _ _ _ _ => (de_not (de_chain (op_le.or op_le_str) r2_le (op_le.or op_le_str) r2_le de_str (de_var 3 (pv 3)) de_str))) (by decide)) da_nil)))))) (dss_one (ds_ret de_non)) dss_nil) (dss_cons (ds_set (i := 2) sc_read_signed_.nd rfl (by first | exact .inl rfl | exact .inr rfl) (de_callT call_int_str ok_intS (by rfl) T.n_int (by decide +kernel) (da_cons (de_var 1 (pv 1)) da_nil))) (dss_cons (ds_if (DW.dt (dw_or (dt_cmp (op_neD hr.units) r2_ne (de_callT (call_str_int.or SkE.call_str_str) ok_str (by rfl) T.n_str (by decide +kernel) (da_cons (de_var 2 (pv 2)) da_nil)) (de_var 1 (pv 1)) (nomark _)) (dw_or (dt_cmp (op_notin_str.or op_notIn_seq) r2_nin (de_var 0 (pv 0)) (de_tup (da_cons de_str (da_cons de_str da_nil))) (by rfl)) (dw_or1 (DW.dt (dw_and (dt_cmp (op_eqD hr.units) r2_eq (de_var 0 (pv 0)) de_str (nomark _)) (dw_and1 (dt_cmp (op_eqD hr.units) r2_eq (de_var 2 (pv 2)) de_int (nomark _))))))))) (dss_one (ds_ret de_non)) dss_nil) (dss_one (ds_ret (de_ifx (dt_cmp (op_eqD hr.units) r2_eq (de_var 0 (pv 0)) de_str (nomark _)) (de_neg (de_var 2 (pv 2))) (de_var 2 (pv 2)))))))))
def F_read_single_ : FD := fnD N_read_single_.length (kSeq (kAsg (mM1 gPartition (mVar 0) (mC (.str "."))) (hTup 3 (hCons (hName 1) (hCons (hName 2) (hCons (hName 3) hNil)))))
    (kSeq (kIf (mB (m2 gIn (mVar 1) (mTup (mCons (mC (.str "own")) (mCons (mC (.str "next")) mNil))))) (kRet (mTup (mCons (mVar 1) (mCons (mVar 3) mNil)))) kSkip)
    (kSeq (kIf (mTru (mVar 2)) (kRet (mTup (mCons (mC (.str "field")) (mCons (mVar 1) (mCons (mVar 3) mNil))))) kSkip)
    (kSeq (kIf (mB (mApp F_is_name (mCons (mVar 0) mNil))) (kRet (mTup (mCons (mC (.str "name")) (mCons (mVar 0) mNil)))) kSkip)
    (kSeq (kIf (mB (mM1 gStarts (mVar 0) (mC (.str "-")))) (kRet (mTup (mCons (mC (.str "number")) (mCons (mApp F_read_signed_ (mCons (mC (.str "-")) (mCons (mSl (mVar 0) (mPart (mC (.int 1))) mNoP) mNil))) mNil)))) kSkip)
    (kRet (mTup (mCons (mC (.str "number")) (mCons (mApp F_read_signed_ (mCons (mC (.str "+")) (mCons (mVar 0) mNil))) mNil)))))))))
theorem ok_read_single_ (T : Tx w K mg base) : FnOk P w K mg base CX0 2 T.f_read_single_ T.fd_read_single_ ["word"] (spD K 1 F_read_single_) :=
  fn_ok T.F_read_single_ sc_read_single_ rfl fun cdv A outer s H E hr => (
    (dss_cons (ds_asg (de_m1 PySem.F.slot_str_partition PySem.F.type_str_partition mt_partition ok_partition (de_var 0 (pv 0)) de_str) (dg_tup rfl (dgs_cons (dg_name (i := 1) sc_read_single_.nd rfl (by first | exact .inl rfl | exact .inr rfl)) (dgs_cons (dg_name (i := 2) sc_read_single_.nd rfl (by first | exact .inl rfl | exact .inr rfl)) (dgs_cons (dg_name (i := 3) sc_read_single_.nd rfl (by first | exact .inl rfl | exact .inr rfl)) dgs_nil))))) (dss_cons (ds_if (dt_cmp (op_in_str.or op_in_seq) r2_in (de_var 1 (pv 1)) (de_tup (da_cons de_str (da_cons de_str da_nil))) (by rfl)) (dss_one (ds_ret (de_tup (da_cons (de_var 1 (pv 1)) (da_cons (de_var 3 (pv 3)) da_nil))))) dss_nil) (dss_cons (ds_if (dt_tru (de_var 2 (pv 2))) (dss_one (ds_ret (de_tup (da_cons de_str (da_cons (de_var 1 (pv 1)) (da_cons (de_var 3 (pv 3)) da_nil)))))) dss_nil) (dss_cons (ds_if (dt_val (de_call (ok_is_name T) (hr.mono (by first | decide | omega)) (by rfl) T.m_is_name T.F_is_name.kp T.b_is_name (da_cons (de_var 0 (pv 0)) da_nil) (len_cons len_nil))) (dss_one (ds_ret (de_tup (da_cons de_str (da_cons (de_var 0 (pv 0)) da_nil))))) dss_nil) (dss_cons (ds_if (dt_val (de_m1 PySem.F.slot_str_startswith PySem.F.type_str_startswith mt_startswith ok_starts (de_var 0 (pv 0)) de_str)) (dss_one (ds_ret (de_tup (da_cons de_str (da_cons (de_call (ok_read_signed_ T) (hr.mono (by first | decide | omega)) (by rfl) T.m_read_signed_ T.F_read_signed_.kp T.b_read_signed_ (da_cons de_str (da_cons (de_sl (de_var 0 (pv 0)) (do_some de_int) do_none) da_nil)) (len_cons (len_cons len_nil))) da_nil))))) dss_nil) (dss_one (ds_ret (de_tup (da_cons de_str (da_cons (de_call (ok_read_signed_ T) (hr.mono (by first | decide | omega)) (by rfl) T.m_read_signed_ T.F_read_signed_.kp T.b_read_signed_ (da_cons de_str (da_cons (de_var 0 (pv 0)) da_nil)) (len_cons (len_cons len_nil))) da_nil)))))))))))
def F_read_value : FD := fnD N_read_value.length (kSeq (kIf (mNotB (mB (mIsi isStr (mVar 0)))) (fun _ => none) kSkip)
    (kSeq (kAsg (mM1 gSplit (mVar 0) (mC (.str " "))) (hName 1))
    (kSeq (kAsg (mApp F_read_single_ (mCons (m2 gIx (mVar 1) (mC (.int 0))) mNil)) (hName 2))
    (kSeq (kIf (mB (m2 gEq (mCall gLen (mCons (mVar 1) mNil)) (mC (.int 3)))) (kAsg (mTup (mCons (mC (.str "plus")) (mCons (mVar 2) (mCons (mApp F_read_signed_ (mCons (m2 gIx (mVar 1) (mC (.int 1))) (mCons (m2 gIx (mVar 1) (mC (.int 2))) mNil))) mNil)))) (hName 2)) kSkip)
    (kSeq (kIf (mOrB (mB (m2 gNin (mCall gLen (mCons (mVar 1) mNil)) (mTup (mCons (mC (.int 1)) (mCons (mC (.int 3)) mNil))))) (mNotB (mB (mApp F_is_value (mCons (mVar 2) mNil))))) (fun _ => none) kSkip)
    (kRet (mVar 2)))))))
theorem ok_read_value (T : Tx w K mg base) : FnOk P w K mg base CX0 5 T.f_read_value T.fd_read_value ["text"] (spD K 1 F_read_value) :=
  fn_ok T.F_read_value sc_read_value rfl fun cdv A outer s H E hr => (
    (dss_cons (ds_if (dt_not (dt_val (de_isi kit_str (by rfl) T.n_isinstance (by decide +kernel) (de_var 0 (pv 0)) (by rfl) T.n_str (by decide +kernel)))) (dss_one ds_never) dss_nil) (dss_cons (ds_set (i := 1) sc_read_value.nd rfl (by first | exact .inl rfl | exact .inr rfl) (de_split (de_var 0 (pv 0)) de_str)) (dss_cons (ds_set (i := 2) sc_read_value.nd rfl (by first | exact .inl rfl | exact .inr rfl) (de_call (ok_read_single_ T) (hr.mono (by first | decide | omega)) (by rfl) T.m_read_single_ T.F_read_single_.kp T.b_read_single_ (da_cons (de_ix (de_var 1 (pv 1)) de_int) da_nil) (len_cons len_nil))) (dss_cons (ds_if (dt_cmp (op_eqD hr.units) r2_eq (de_callB call_len ok_len (by rfl) T.n_len (by decide +kernel) (da_cons (de_var 1 (pv 1)) da_nil)) de_int (nomark _)) (dss_one (ds_set (i := 2) sc_read_value.nd rfl (by first | exact .inl rfl | exact .inr rfl) (de_tup (da_cons de_str (da_cons (de_var 2 (pv 2)) (da_cons (de_call (ok_read_signed_ T) (hr.mono (by first | decide | omega)) (by rfl) T.m_read_signed_ T.F_read_signed_.kp T.b_read_signed_ (da_cons (de_ix (de_var 1 (pv 1)) de_int) (da_cons (de_ix (de_var 1 (pv 1)) de_int) da_nil)) (len_cons (len_cons len_nil))) da_nil)))))) dss_nil) (dss_cons (ds_if (DW.dt (dw_or (dt_cmp (op_notin_str.or op_notIn_seq) r2_nin (de_callB call_len ok_len (by rfl) T.n_len (by decide +kernel) (da_cons (de_var 1 (pv 1)) da_nil)) (de_tup (da_cons de_int (da_cons de_int da_nil))) (by rfl)) (dw_or1 (dt_not (dt_val (de_call (ok_is_value T) (hr.mono (by first | decide | omega)) (by rfl) T.m_is_value T.F_is_value.kp T.b_is_value (da_cons (de_var 2 (pv 2)) da_nil) (len_cons len_nil))))))) (dss_one ds_never) dss_nil) (dss_one (ds_ret (de_var 2 (pv 2))))))))))
def F_is_condition_itself_ : FD := fnD N_is_condition_itself_.length (kSeq (kIf (mOrB (mNotB (mB (mIsi isTup (mVar 0)))) (mB (m2 gNin (mCall gLen (mCons (mVar 0) mNil)) (mTup (mCons (mC (.int 1)) (mCons (mC (.int 2)) (mCons (mC (.int 3)) mNil))))))) (kRet (mC (.bl false))) kSkip)
    (kSeq (kAsg (m2 gIx (mVar 0) (mC (.int 0))) (hName 1))
    (kSeq (kIf (mB (m2 gEq (mCall gLen (mCons (mVar 0) mNil)) (mC (.int 1)))) (kRet (m2 gEq (mVar 1) (mC (.str "true")))) kSkip)
    (kSeq (kIf (mB (m2 gEq (mCall gLen (mCons (mVar 0) mNil)) (mC (.int 2)))) (kRet (mOrV (m2 gEq (mVar 1) (mC (.str "not"))) (mAndV (m2 gEq (mVar 1) (mC (.str "found"))) (mApp F_is_name (mCons (m2 gIx (mVar 0) (mC (.int 1))) mNil))))) kSkip)
    (kSeq (kIf (mAndB (mB (mIsi isStr (mVar 1))) (mB (mKIn t_SIGNS (mVar 1)))) (kRet (mAndV (mApp F_is_value (mCons (m2 gIx (mVar 0) (mC (.int 1))) mNil)) (mApp F_is_value (mCons (m2 gIx (mVar 0) (mC (.int 2))) mNil)))) kSkip)
    (kRet (m2 gIn (mVar 1) (mTup (mCons (mC (.str "and")) (mCons (mC (.str "or")) mNil))))))))))
theorem ok_is_condition_itself_ (T : Tx w K mg base) : FnOk P w K mg base CX0 5 T.f_is_condition_itself_ T.fd_is_condition_itself_ ["part"] (spD K 1 F_is_condition_itself_) :=
  fn_ok T.F_is_condition_itself_ sc_is_condition_itself_ rfl fun cdv A outer s H E hr => (
    (dss_cons (ds_if (DW.dt (dw_or (dt_not (dt_val (de_isi kit_tup (by rfl) T.n_isinstance (by decide +kernel) (de_var 0 (pv 0)) (by rfl) T.n_tuple (by decide +kernel)))) (dw_or1 (dt_cmp (op_notin_str.or op_notIn_seq) r2_nin (de_callB call_len ok_len (by rfl) T.n_len (by decide +kernel) (da_cons (de_var 0 (pv 0)) da_nil)) (de_tup (da_cons de_int (da_cons de_int (da_cons de_int da_nil)))) (by rfl))))) (dss_one (ds_ret de_bl)) dss_nil) (dss_cons (ds_set (i := 1) sc_is_condition_itself_.nd rfl (by first | exact .inl rfl | exact .inr rfl) (de_ix (de_var 0 (pv 0)) de_int)) (dss_cons (ds_if (dt_cmp (op_eqD hr.units) r2_eq (de_callB call_len ok_len (by rfl) T.n_len (by decide +kernel) (da_cons (de_var 0 (pv 0)) da_nil)) de_int (nomark _)) (dss_one (ds_ret (de_cmp (op_eqD hr.units) r2_eq (de_var 1 (pv 1)) de_str (nomark _)))) dss_nil) (dss_cons (ds_if (dt_cmp (op_eqD hr.units) r2_eq (de_callB call_len ok_len (by rfl) T.n_len (by decide +kernel) (da_cons (de_var 0 (pv 0)) da_nil)) de_int (nomark _)) (dss_one (ds_ret (de_or (de_cmp (op_eqD hr.units) r2_eq (de_var 1 (pv 1)) de_str (nomark _)) (de_one (de_and (de_cmp (op_eqD hr.units) r2_eq (de_var 1 (pv 1)) de_str (nomark _)) (de_one (de_call (ok_is_name T) (hr.mono (by first | decide | omega)) (by rfl) T.m_is_name T.F_is_name.kp T.b_is_name (da_cons (de_ix (de_var 0 (pv 0)) de_int) da_nil) (len_cons len_nil)))))))) dss_nil) (dss_cons (ds_if (DW.dt (dw_and (dt_val (de_isi kit_str (by rfl) T.n_isinstance (by decide +kernel) (de_var 1 (pv 1)) (by rfl) T.n_str (by decide +kernel))) (dw_and1 (dt_kin T.k_SIGNS (by rfl) T.g_SIGNS (de_var 1 (pv 1)))))) (dss_one (ds_ret (de_and (de_call (ok_is_value T) (hr.mono (by first | decide | omega)) (by rfl) T.m_is_value T.F_is_value.kp T.b_is_value (da_cons (de_ix (de_var 0 (pv 0)) de_int) da_nil) (len_cons len_nil)) (de_one (de_call (ok_is_value T) (hr.mono (by first | decide | omega)) (by rfl) T.m_is_value T.F_is_value.kp T.b_is_value (da_cons (de_ix (de_var 0 (pv 0)) de_int) da_nil) (len_cons len_nil)))))) dss_nil) (dss_one (ds_ret (de_cmp (op_in_str.or op_in_seq) r2_in (de_var 1 (pv 1)) (de_tup (da_cons de_str (da_cons de_str da_nil))) (by rfl))))))))))
def F_places_ : FD := fnD N_places_.length (kSeq (kIf (mB (m2 gIn (m2 gIx (mVar 0) (mC (.int 0))) (mTup (mCons (mC (.str "not")) (mCons (mC (.str "and")) (mCons (mC (.str "or")) mNil)))))) (kRet (m2 gRgL (mC (.int 1)) (mCall gLen (mCons (mVar 0) mNil)))) kSkip)
    (kRet (mLst mNil)))
theorem ok_places_ (T : Tx w K mg base) : FnOk P w K mg base CX0 1 T.f_places_ T.fd_places_ ["part"] (spD K 1 F_places_) :=
  fn_ok T.F_places_ sc_places_ rfl fun cdv A outer s H E hr => (
    (dss_cons (ds_if (dt_cmp (op_in_str.or op_in_seq) r2_in (de_ix (de_var 0 (pv 0)) de_int) (de_tup (da_cons de_str (da_cons de_str (da_cons de_str da_nil)))) (by rfl)) (dss_one (ds_ret (de_listRg rfl (by rfl) T.n_list (by rfl) T.n_range de_int (de_callB call_len ok_len (by rfl) T.n_len (by decide +kernel) (da_cons (de_var 0 (pv 0)) da_nil))))) dss_nil) (dss_one (ds_ret (de_lst da_nil)))))
def F_checked_parts_ : FD := fnD N_checked_parts_.length (kSeq (kOwn 1 mNil)
    (kSeq (kOwn 2 (mCons (mTup (mCons (mTup mNil) (mCons (mVar 0) mNil))) mNil))
    (kSeq (whileD (mTruOwn 2) (kSeq (kAsg (mPop 2) (hTup 2 (hCons (hName 3) (hCons (hName 4) hNil))))
    (kSeq (kIf (mOrB (mB (m2 oGe (mCall gLen (mCons (mVar 3) mNil)) (mC c_DEEPEST))) (mNotB (mB (mApp F_is_condition_itself_ (mCons (mVar 4) mNil))))) (fun _ => none) kSkip)
    (kSeq (kDrop (mAppend 1 (mTup (mCons (mVar 3) (mCons (mVar 4) mNil)))))
    (kDrop (mExtend 2 (mComp [5] (wRev (mApp F_places_ (mCons (mVar 4) mNil))) (hName 5) mYes (mTup (mCons (mTup (mStar (mVar 3) (mCons (mVar 5) mNil))) (mCons (m2 gIx (mVar 4) (mVar 5)) mNil))))))))) 200)
    (kRet (mMove 1)))))
theorem ok_checked_parts_ (T : Tx w K mg base) : FnOk P w K mg base CX0 6 T.f_checked_parts_ T.fd_checked_parts_ ["condition"] (spD K 1 F_checked_parts_) :=
  fn_ok T.F_checked_parts_ sc_checked_parts_ rfl fun cdv A outer s H E hr => (
    (dss_cons (ds_own (i := 1) sc_checked_parts_.nd rfl (by first | exact .inl rfl | exact .inr rfl) da_nil) (dss_cons (ds_own (i := 2) sc_checked_parts_.nd rfl (by first | exact .inl rfl | exact .inr rfl) (da_cons (de_tup (da_cons (de_tup da_nil) (da_cons (de_var 0 (pv 0)) da_nil))) da_nil)) (dss_cons (ds_while 200 PassesOwn.never (dt_own 2 (pv 2)) (dss_cons (ds_asg (de_pop 2 (pv 2)) (dg_tup rfl (dgs_cons (dg_name (i := 3) sc_checked_parts_.nd rfl (by first | exact .inl rfl | exact .inr rfl)) (dgs_cons (dg_name (i := 4) sc_checked_parts_.nd rfl (by first | exact .inl rfl | exact .inr rfl)) dgs_nil)))) (dss_cons (ds_if (DW.dt (dw_or (dt_cmp (op_ge.or op_ge_str) r2_ge (de_callB call_len ok_len (by rfl) T.n_len (by decide +kernel) (da_cons (de_var 3 (pv 3)) da_nil)) (T.e_DEEPEST rfl rfl (by rfl)) (nomark _)) (dw_or1 (dt_not (dt_val (de_call (ok_is_condition_itself_ T) (hr.mono (by first | decide | omega)) (by rfl) T.m_is_condition_itself_ T.F_is_condition_itself_.kp T.b_is_condition_itself_ (da_cons (de_var 4 (pv 4)) da_nil) (len_cons len_nil))))))) (dss_one ds_never) dss_nil) (dss_cons (ds_expr (de_append 1 (pv 1) (de_tup (da_cons (de_var 3 (pv 3)) (da_cons (de_var 4 (pv 4)) da_nil))) (by show Kp _ _; repeat' first | exact kp_var | exact kp_c | exact kp_nil | apply kp_cons | apply kp_tup | apply kp_app | apply kp_rev | apply kp_wlst | apply kp_comp | apply kp_ix))) (dss_one (ds_expr (de_extend 2 (pv 2) (de_comp (own := [("at", 5)]) rfl sc_checked_parts_.nd (di_rev (by rfl) T.n_reversed (de_call (ok_places_ T) (hr.mono (by first | decide | omega)) (by rfl) T.m_places_ T.F_places_.kp T.b_places_ (da_cons (de_var 4 (pv 4)) da_nil) (len_cons len_nil))) (blkOk_by (own := [("at", 5)]) (N := N_checked_parts_) (sc := defScope s_checked_parts_) (by decide +kernel)) (fun _ _ _ _ _ => (dg_name (i := 5) sc_checked_parts_.nd rfl (by first | exact .inl rfl | exact .inr rfl))) (fun _ _ _ _ _ => dts_nil) (fun _ _ _ _ _ => (de_tup (da_cons (de_tup (da_star (de_var 3 (pv 3)) (da_cons (de_var 5 (pv 5)) da_nil))) (da_cons (de_ix (de_var 4 (pv 4)) (de_var 5 (pv 5))) da_nil)))) (by decide)) (by show Kp _ _; repeat' first | exact kp_var | exact kp_c | exact kp_nil | apply kp_cons | apply kp_tup | apply kp_app | apply kp_rev | apply kp_wlst | apply kp_comp | apply kp_ix)))))))) (dss_one (ds_ret (de_move 1 (pv 1))))))))
def B_text_ (R : FD) : FD := fnD N_text_.length (kSeq (kAsg (m2 gIx (mVar 0) (mC (.int 0))) (hName 1))
    (kSeq (kIf (mB (m2 gEq (mVar 1) (mC (.str "true")))) (kRet (mC (.str "true"))) kSkip)
    (kSeq (kIf (mB (m2 gEq (mVar 1) (mC (.str "found")))) (kRet (mJoined [(mC (.str "found ")), (mFmt (m2 gIx (mVar 0) (mC (.int 1))))])) kSkip)
    (kSeq (kIf (mB (m2 gEq (mVar 1) (mC (.str "not")))) (kRet (mJoined [(mC (.str "not ")), (mFmt (mApp R (mCons (m2 gIx (mVar 0) (mC (.int 1))) mNil)))])) kSkip)
    (kSeq (kIf (mB (mKIn t_SIGNS (mVar 1))) (kRet (mJoined [(mFmt (mApp F_value_text (mCons (m2 gIx (mVar 0) (mC (.int 1))) mNil))), (mC (.str " ")), (mFmt (mKIx t_SIGNS (mVar 1))), (mC (.str " ")), (mFmt (mApp F_value_text (mCons (m2 gIx (mVar 0) (mC (.int 2))) mNil)))])) kSkip)
    (kRet (mJoined [(mC (.str "(")), (mFmt (mApp R (mCons (m2 gIx (mVar 0) (mC (.int 1))) mNil))), (mC (.str " ")), (mFmt (mVar 1)), (mC (.str " ")), (mFmt (mApp R (mCons (m2 gIx (mVar 0) (mC (.int 2))) mNil))), (mC (.str ")"))])))))))
def F_text_ : Nat → FD
  | 0 => fun _ _ => none
  | n + 1 => B_text_ (F_text_ n)
theorem step_text_ (T : Tx w K mg base) {k : Nat} {R : FD} (hk : 5 ≤ k) (ih : FnOk P w K mg base CX0 k T.f_text_ T.fd_text_ ["part"] (spD K 1 R)) : FnOk P w K mg base CX0 (k + 1) T.f_text_ T.fd_text_ ["part"] (spD K 1 (B_text_ R)) :=
  fn_ok T.F_text_ sc_text_ rfl fun cdv A outer s H E hr => (
    (dss_cons (ds_set (i := 1) sc_text_.nd rfl (by first | exact .inl rfl | exact .inr rfl) (de_ix (de_var 0 (pv 0)) de_int)) (dss_cons (ds_if (dt_cmp (op_eqD hr.units) r2_eq (de_var 1 (pv 1)) de_str (nomark _)) (dss_one (ds_ret de_str)) dss_nil) (dss_cons (ds_if (dt_cmp (op_eqD hr.units) r2_eq (de_var 1 (pv 1)) de_str (nomark _)) (dss_one (ds_ret (de_joined (DJ.cons de_str (DJ.cons (de_fmt (de_ix (de_var 0 (pv 0)) de_int)) DJ.nil))))) dss_nil) (dss_cons (ds_if (dt_cmp (op_eqD hr.units) r2_eq (de_var 1 (pv 1)) de_str (nomark _)) (dss_one (ds_ret (de_joined (DJ.cons de_str (DJ.cons (de_fmt (de_call ih (hr.mono (by omega)) (by rfl) T.m_text_ T.F_text_.kp T.b_text_ (da_cons (de_ix (de_var 0 (pv 0)) de_int) da_nil) (len_cons len_nil))) DJ.nil))))) dss_nil) (dss_cons (ds_if (dt_kin T.k_SIGNS (by rfl) T.g_SIGNS (de_var 1 (pv 1))) (dss_one (ds_ret (de_joined (DJ.cons (de_fmt (de_call (ok_value_text T) (hr.mono (by omega)) (by rfl) T.m_value_text T.F_value_text.kp T.b_value_text (da_cons (de_ix (de_var 0 (pv 0)) de_int) da_nil) (len_cons len_nil))) (DJ.cons de_str (DJ.cons (de_fmt (de_kix T.k_SIGNS (by rfl) T.g_SIGNS (de_var 1 (pv 1)))) (DJ.cons de_str (DJ.cons (de_fmt (de_call (ok_value_text T) (hr.mono (by omega)) (by rfl) T.m_value_text T.F_value_text.kp T.b_value_text (da_cons (de_ix (de_var 0 (pv 0)) de_int) da_nil) (len_cons len_nil))) DJ.nil)))))))) dss_nil) (dss_one (ds_ret (de_joined (DJ.cons de_str (DJ.cons (de_fmt (de_call ih (hr.mono (by omega)) (by rfl) T.m_text_ T.F_text_.kp T.b_text_ (da_cons (de_ix (de_var 0 (pv 0)) de_int) da_nil) (len_cons len_nil))) (DJ.cons de_str (DJ.cons (de_fmt (de_var 1 (pv 1))) (DJ.cons de_str (DJ.cons (de_fmt (de_call ih (hr.mono (by omega)) (by rfl) T.m_text_ T.F_text_.kp T.b_text_ (da_cons (de_ix (de_var 0 (pv 0)) de_int) da_nil) (len_cons len_nil))) (DJ.cons de_str DJ.nil))))))))))))))))
theorem ok_text_ (T : Tx w K mg base) : ∀ n : Nat, FnOk P w K mg base CX0 (5 + n) T.f_text_ T.fd_text_ ["part"] (spD K 1 (F_text_ n))
  | 0 => fn_none
  | n + 1 => step_text_ T (Nat.le_add_right _ _) (ok_text_ T n)
def F_condition_text : FD := fnD N_condition_text.length (kSeq (kDrop (mApp F_checked_parts_ (mCons (mVar 0) mNil)))
    (kRet (mApp (F_text_ 8) (mCons (mVar 0) mNil))))
theorem ok_condition_text (T : Tx w K mg base) : FnOk P w K mg base CX0 15 T.f_condition_text T.fd_condition_text ["condition"] (spD K 1 F_condition_text) :=
  fn_ok T.F_condition_text sc_condition_text rfl fun cdv A outer s H E hr => (
    (dss_cons (ds_expr (de_call (ok_checked_parts_ T) (hr.mono (by first | decide | omega)) (by rfl) T.m_checked_parts_ T.F_checked_parts_.kp T.b_checked_parts_ (da_cons (de_var 0 (pv 0)) da_nil) (len_cons len_nil))) (dss_one (ds_ret (de_call (ok_text_ T 8) (hr.mono (by first | decide | omega)) (by rfl) T.m_text_ T.F_text_.kp T.b_text_ (da_cons (de_var 0 (pv 0)) da_nil) (len_cons len_nil))))))
def F_word_ : FD := fnD N_word_.length (kRet (mIf (mB (m2 oLt (mVar 1) (mCall gLen (mCons (mVar 0) mNil)))) (m2 gIx (mVar 0) (mVar 1)) (mC (.str ""))))
theorem ok_word_ (T : Tx w K mg base) : FnOk P w K mg base CX0 1 T.f_word_ T.fd_word_ ["words", "at"] (spD K 2 F_word_) :=
  fn_ok T.F_word_ sc_word_ rfl fun cdv A outer s H E hr => (
    (dss_one (ds_ret (de_ifx (dt_cmp (op_lt.or op_lt_str) r2_lt (de_var 1 (pv 1)) (de_callB call_len ok_len (by rfl) T.n_len (by decide +kernel) (da_cons (de_var 0 (pv 0)) da_nil)) (nomark _)) (de_ix (de_var 0 (pv 0)) (de_var 1 (pv 1))) de_str))))
def F_read_operand_ : FD := fnD N_read_operand_.length (kSeq (kAsg (mIf (mB (m2 gIn (mApp F_word_ (mCons (mVar 0) (mCons (m2 gAdd (mVar 1) (mC (.int 1))) mNil))) (mTup (mCons (mC (.str "+")) (mCons (mC (.str "-")) mNil))))) (mC (.int 3)) (mC (.int 1))) (hName 2))
    (kRet (mTup (mCons (mApp F_read_value (mCons (mM1 gJoin (mC (.str " ")) (mSl (mVar 0) (mPart (mVar 1)) (mPart (m2 gAdd (mVar 1) (mVar 2))))) mNil)) (mCons (m2 gAdd (mVar 1) (mVar 2)) mNil)))))
theorem ok_read_operand_ (T : Tx w K mg base) : FnOk P w K mg base CX0 6 T.f_read_operand_ T.fd_read_operand_ ["words", "at"] (spD K 2 F_read_operand_) :=
  fn_ok T.F_read_operand_ sc_read_operand_ rfl fun cdv A outer s H E hr => (
    (dss_cons (ds_set (i := 2) sc_read_operand_.nd rfl (by first | exact .inl rfl | exact .inr rfl) (de_ifx (dt_cmp (op_in_str.or op_in_seq) r2_in (de_call (ok_word_ T) (hr.mono (by first | decide | omega)) (by rfl) T.m_word_ T.F_word_.kp T.b_word_ (da_cons (de_var 0 (pv 0)) (da_cons (de_add (de_var 1 (pv 1)) de_int) da_nil)) (len_cons (len_cons len_nil))) (de_tup (da_cons de_str (da_cons de_str da_nil))) (by rfl)) de_int de_int)) (dss_one (ds_ret (de_tup (da_cons (de_call (ok_read_value T) (hr.mono (by first | decide | omega)) (by rfl) T.m_read_value T.F_read_value.kp T.b_read_value (da_cons (de_join de_str (de_sl (de_var 0 (pv 0)) (do_some (de_var 1 (pv 1))) (do_some (de_add (de_var 1 (pv 1)) (de_var 2 (pv 2)))))) da_nil) (len_cons len_nil)) (da_cons (de_add (de_var 1 (pv 1)) (de_var 2 (pv 2))) da_nil)))))))
def F_read_comparison_ : FD := fnD N_read_comparison_.length (kSeq (kAsg (mApp F_read_operand_ (mCons (mVar 0) (mCons (mVar 1) mNil))) (hTup 2 (hCons (hName 3) (hCons (hName 4) hNil))))
    (kSeq (kAsg (mApp F_word_ (mCons (mVar 0) (mCons (mVar 4) mNil))) (hName 2))
    (kSeq (kIf (mB (mKNin t_FORMS (mVar 2))) (fun _ => none) kSkip)
    (kSeq (kAsg (mApp F_read_operand_ (mCons (mVar 0) (mCons (m2 gAdd (mVar 4) (mC (.int 1))) mNil))) (hTup 2 (hCons (hName 5) (hCons (hName 6) hNil))))
    (kRet (mTup (mCons (mTup (mCons (mKIx t_FORMS (mVar 2)) (mCons (mVar 3) (mCons (mVar 5) mNil)))) (mCons (mVar 6) mNil))))))))
theorem ok_read_comparison_ (T : Tx w K mg base) : FnOk P w K mg base CX0 7 T.f_read_comparison_ T.fd_read_comparison_ ["words", "at"] (spD K 2 F_read_comparison_) :=
  fn_ok T.F_read_comparison_ sc_read_comparison_ rfl fun cdv A outer s H E hr => (
    (dss_cons (ds_asg (de_call (ok_read_operand_ T) (hr.mono (by first | decide | omega)) (by rfl) T.m_read_operand_ T.F_read_operand_.kp T.b_read_operand_ (da_cons (de_var 0 (pv 0)) (da_cons (de_var 1 (pv 1)) da_nil)) (len_cons (len_cons len_nil))) (dg_tup rfl (dgs_cons (dg_name (i := 3) sc_read_comparison_.nd rfl (by first | exact .inl rfl | exact .inr rfl)) (dgs_cons (dg_name (i := 4) sc_read_comparison_.nd rfl (by first | exact .inl rfl | exact .inr rfl)) dgs_nil)))) (dss_cons (ds_set (i := 2) sc_read_comparison_.nd rfl (by first | exact .inl rfl | exact .inr rfl) (de_call (ok_word_ T) (hr.mono (by first | decide | omega)) (by rfl) T.m_word_ T.F_word_.kp T.b_word_ (da_cons (de_var 0 (pv 0)) (da_cons (de_var 4 (pv 4)) da_nil)) (len_cons (len_cons len_nil)))) (dss_cons (ds_if (dt_knin T.k_FORMS (by rfl) T.g_FORMS (de_var 2 (pv 2))) (dss_one ds_never) dss_nil) (dss_cons (ds_asg (de_call (ok_read_operand_ T) (hr.mono (by first | decide | omega)) (by rfl) T.m_read_operand_ T.F_read_operand_.kp T.b_read_operand_ (da_cons (de_var 0 (pv 0)) (da_cons (de_add (de_var 4 (pv 4)) de_int) da_nil)) (len_cons (len_cons len_nil))) (dg_tup rfl (dgs_cons (dg_name (i := 5) sc_read_comparison_.nd rfl (by first | exact .inl rfl | exact .inr rfl)) (dgs_cons (dg_name (i := 6) sc_read_comparison_.nd rfl (by first | exact .inl rfl | exact .inr rfl)) dgs_nil)))) (dss_one (ds_ret (de_tup (da_cons (de_tup (da_cons (de_kix T.k_FORMS (by rfl) T.g_FORMS (de_var 2 (pv 2))) (da_cons (de_var 3 (pv 3)) (da_cons (de_var 5 (pv 5)) da_nil)))) (da_cons (de_var 6 (pv 6)) da_nil))))))))))
def F_read_found_ : FD := fnD N_read_found_.length (kSeq (kAsg (mApp F_word_ (mCons (mVar 0) (mCons (mVar 1) mNil))) (hName 2))
    (kSeq (kIf (mNotB (mB (mApp F_is_name (mCons (mVar 2) mNil)))) (fun _ => none) kSkip)
    (kRet (mTup (mCons (mTup (mCons (mC (.str "found")) (mCons (mVar 2) mNil))) (mCons (m2 gAdd (mVar 1) (mC (.int 1))) mNil))))))
theorem ok_read_found_ (T : Tx w K mg base) : FnOk P w K mg base CX0 2 T.f_read_found_ T.fd_read_found_ ["words", "at"] (spD K 2 F_read_found_) :=
  fn_ok T.F_read_found_ sc_read_found_ rfl fun cdv A outer s H E hr => (
    (dss_cons (ds_set (i := 2) sc_read_found_.nd rfl (by first | exact .inl rfl | exact .inr rfl) (de_call (ok_word_ T) (hr.mono (by first | decide | omega)) (by rfl) T.m_word_ T.F_word_.kp T.b_word_ (da_cons (de_var 0 (pv 0)) (da_cons (de_var 1 (pv 1)) da_nil)) (len_cons (len_cons len_nil)))) (dss_cons (ds_if (dt_not (dt_val (de_call (ok_is_name T) (hr.mono (by first | decide | omega)) (by rfl) T.m_is_name T.F_is_name.kp T.b_is_name (da_cons (de_var 2 (pv 2)) da_nil) (len_cons len_nil)))) (dss_one ds_never) dss_nil) (dss_one (ds_ret (de_tup (da_cons (de_tup (da_cons de_str (da_cons (de_var 2 (pv 2)) da_nil))) (da_cons (de_add (de_var 1 (pv 1)) de_int) da_nil))))))))
def B_read_joined_ (R : FD) : FD := fnD N_read_joined_.length (kSeq (kAsg (mApp R (mCons (mVar 0) (mCons (mVar 1) (mCons (mVar 2) mNil)))) (hTup 2 (hCons (hName 4) (hCons (hName 5) hNil))))
    (kSeq (kAsg (mApp F_word_ (mCons (mVar 0) (mCons (mVar 5) mNil))) (hName 3))
    (kSeq (kIf (mB (m2 gNin (mVar 3) (mTup (mCons (mC (.str "and")) (mCons (mC (.str "or")) mNil))))) (fun _ => none) kSkip)
    (kSeq (kAsg (mApp R (mCons (mVar 0) (mCons (m2 gAdd (mVar 5) (mC (.int 1))) (mCons (mVar 2) mNil)))) (hTup 2 (hCons (hName 6) (hCons (hName 7) hNil))))
    (kSeq (kIf (mB (m2 gNe (mApp F_word_ (mCons (mVar 0) (mCons (mVar 7) mNil))) (mC (.str ")")))) (fun _ => none) kSkip)
    (kRet (mTup (mCons (mTup (mCons (mVar 3) (mCons (mVar 4) (mCons (mVar 6) mNil)))) (mCons (m2 gAdd (mVar 7) (mC (.int 1))) mNil)))))))))
theorem step_read_joined_ (T : Tx w K mg base) {k : Nat} {R : FD} (hk : 1 ≤ k) (ih : FnOk P w K mg base CX0 k T.f_read_part_ T.fd_read_part_ ["words", "at", "depth"] (spD K 3 R)) : FnOk P w K mg base CX0 (k + 1) T.f_read_joined_ T.fd_read_joined_ ["words", "at", "depth"] (spD K 3 (B_read_joined_ R)) :=
  fn_ok T.F_read_joined_ sc_read_joined_ rfl fun cdv A outer s H E hr => (
    (dss_cons (ds_asg (de_call ih (hr.mono (by omega)) (by rfl) T.m_read_part_ T.F_read_part_.kp T.b_read_part_ (da_cons (de_var 0 (pv 0)) (da_cons (de_var 1 (pv 1)) (da_cons (de_var 2 (pv 2)) da_nil))) (len_cons (len_cons (len_cons len_nil)))) (dg_tup rfl (dgs_cons (dg_name (i := 4) sc_read_joined_.nd rfl (by first | exact .inl rfl | exact .inr rfl)) (dgs_cons (dg_name (i := 5) sc_read_joined_.nd rfl (by first | exact .inl rfl | exact .inr rfl)) dgs_nil)))) (dss_cons (ds_set (i := 3) sc_read_joined_.nd rfl (by first | exact .inl rfl | exact .inr rfl) (de_call (ok_word_ T) (hr.mono (by omega)) (by rfl) T.m_word_ T.F_word_.kp T.b_word_ (da_cons (de_var 0 (pv 0)) (da_cons (de_var 5 (pv 5)) da_nil)) (len_cons (len_cons len_nil)))) (dss_cons (ds_if (dt_cmp (op_notin_str.or op_notIn_seq) r2_nin (de_var 3 (pv 3)) (de_tup (da_cons de_str (da_cons de_str da_nil))) (by rfl)) (dss_one ds_never) dss_nil) (dss_cons (ds_asg (de_call ih (hr.mono (by omega)) (by rfl) T.m_read_part_ T.F_read_part_.kp T.b_read_part_ (da_cons (de_var 0 (pv 0)) (da_cons (de_add (de_var 5 (pv 5)) de_int) (da_cons (de_var 2 (pv 2)) da_nil))) (len_cons (len_cons (len_cons len_nil)))) (dg_tup rfl (dgs_cons (dg_name (i := 6) sc_read_joined_.nd rfl (by first | exact .inl rfl | exact .inr rfl)) (dgs_cons (dg_name (i := 7) sc_read_joined_.nd rfl (by first | exact .inl rfl | exact .inr rfl)) dgs_nil)))) (dss_cons (ds_if (dt_cmp (op_neD hr.units) r2_ne (de_call (ok_word_ T) (hr.mono (by omega)) (by rfl) T.m_word_ T.F_word_.kp T.b_word_ (da_cons (de_var 0 (pv 0)) (da_cons (de_var 7 (pv 7)) da_nil)) (len_cons (len_cons len_nil))) de_str (nomark _)) (dss_one ds_never) dss_nil) (dss_one (ds_ret (de_tup (da_cons (de_tup (da_cons (de_var 3 (pv 3)) (da_cons (de_var 4 (pv 4)) (da_cons (de_var 6 (pv 6)) da_nil)))) (da_cons (de_add (de_var 7 (pv 7)) de_int) da_nil)))))))))))
def B_read_part_ (R : FD) : FD := fnD N_read_part_.length (kSeq (kIf (mB (m2 oGt (mVar 2) (mC c_DEEPEST))) (fun _ => none) kSkip)
    (kSeq (kAsg (mApp F_word_ (mCons (mVar 0) (mCons (mVar 1) mNil))) (hName 3))
    (kSeq (kIf (mB (m2 gEq (mVar 3) (mC (.str "true")))) (kRet (mTup (mCons (mTup (mCons (mC (.str "true")) mNil)) (mCons (m2 gAdd (mVar 1) (mC (.int 1))) mNil)))) kSkip)
    (kSeq (kIf (mB (m2 gEq (mVar 3) (mC (.str "found")))) (kRet (mApp F_read_found_ (mCons (mVar 0) (mCons (m2 gAdd (mVar 1) (mC (.int 1))) mNil)))) kSkip)
    (kSeq (kIf (mB (m2 gEq (mVar 3) (mC (.str "not")))) (kSeq (kAsg (mApp R (mCons (mVar 0) (mCons (m2 gAdd (mVar 1) (mC (.int 1))) (mCons (m2 gAdd (mVar 2) (mC (.int 1))) mNil)))) (hTup 2 (hCons (hName 4) (hCons (hName 5) hNil))))
    (kRet (mTup (mCons (mTup (mCons (mC (.str "not")) (mCons (mVar 4) mNil))) (mCons (mVar 5) mNil))))) kSkip)
    (kSeq (kIf (mB (m2 gEq (mVar 3) (mC (.str "(")))) (kRet (mApp (B_read_joined_ R) (mCons (mVar 0) (mCons (m2 gAdd (mVar 1) (mC (.int 1))) (mCons (m2 gAdd (mVar 2) (mC (.int 1))) mNil))))) kSkip)
    (kRet (mApp F_read_comparison_ (mCons (mVar 0) (mCons (mVar 1) mNil))))))))))
def F_read_part_ : Nat → FD
  | 0 => fun _ _ => none
  | n + 1 => B_read_part_ (F_read_part_ n)
theorem step_read_part_ (T : Tx w K mg base) {k : Nat} {R : FD} (hk : 7 ≤ k) (ih : FnOk P w K mg base CX0 k T.f_read_part_ T.fd_read_part_ ["words", "at", "depth"] (spD K 3 R)) : FnOk P w K mg base CX0 (k + 2) T.f_read_part_ T.fd_read_part_ ["words", "at", "depth"] (spD K 3 (B_read_part_ R)) :=
  fn_ok T.F_read_part_ sc_read_part_ rfl fun cdv A outer s H E hr => (
    (dss_cons (ds_if (dt_cmp (op_gt.or op_gt_str) r2_gt (de_var 2 (pv 2)) (T.e_DEEPEST rfl rfl (by rfl)) (nomark _)) (dss_one ds_never) dss_nil) (dss_cons (ds_set (i := 3) sc_read_part_.nd rfl (by first | exact .inl rfl | exact .inr rfl) (de_call (ok_word_ T) (hr.mono (by omega)) (by rfl) T.m_word_ T.F_word_.kp T.b_word_ (da_cons (de_var 0 (pv 0)) (da_cons (de_var 1 (pv 1)) da_nil)) (len_cons (len_cons len_nil)))) (dss_cons (ds_if (dt_cmp (op_eqD hr.units) r2_eq (de_var 3 (pv 3)) de_str (nomark _)) (dss_one (ds_ret (de_tup (da_cons (de_tup (da_cons de_str da_nil)) (da_cons (de_add (de_var 1 (pv 1)) de_int) da_nil))))) dss_nil) (dss_cons (ds_if (dt_cmp (op_eqD hr.units) r2_eq (de_var 3 (pv 3)) de_str (nomark _)) (dss_one (ds_ret (de_call (ok_read_found_ T) (hr.mono (by omega)) (by rfl) T.m_read_found_ T.F_read_found_.kp T.b_read_found_ (da_cons (de_var 0 (pv 0)) (da_cons (de_add (de_var 1 (pv 1)) de_int) da_nil)) (len_cons (len_cons len_nil))))) dss_nil) (dss_cons (ds_if (dt_cmp (op_eqD hr.units) r2_eq (de_var 3 (pv 3)) de_str (nomark _)) (dss_cons (ds_asg (de_call ih (hr.mono (by omega)) (by rfl) T.m_read_part_ T.F_read_part_.kp T.b_read_part_ (da_cons (de_var 0 (pv 0)) (da_cons (de_add (de_var 1 (pv 1)) de_int) (da_cons (de_add (de_var 2 (pv 2)) de_int) da_nil))) (len_cons (len_cons (len_cons len_nil)))) (dg_tup rfl (dgs_cons (dg_name (i := 4) sc_read_part_.nd rfl (by first | exact .inl rfl | exact .inr rfl)) (dgs_cons (dg_name (i := 5) sc_read_part_.nd rfl (by first | exact .inl rfl | exact .inr rfl)) dgs_nil)))) (dss_one (ds_ret (de_tup (da_cons (de_tup (da_cons de_str (da_cons (de_var 4 (pv 4)) da_nil))) (da_cons (de_var 5 (pv 5)) da_nil)))))) dss_nil) (dss_cons (ds_if (dt_cmp (op_eqD hr.units) r2_eq (de_var 3 (pv 3)) de_str (nomark _)) (dss_one (ds_ret (de_call (step_read_joined_ T (by omega) ih) (hr.mono (by omega)) (by rfl) T.m_read_joined_ T.F_read_joined_.kp T.b_read_joined_ (da_cons (de_var 0 (pv 0)) (da_cons (de_add (de_var 1 (pv 1)) de_int) (da_cons (de_add (de_var 2 (pv 2)) de_int) da_nil))) (len_cons (len_cons (len_cons len_nil)))))) dss_nil) (dss_one (ds_ret (de_call (ok_read_comparison_ T) (hr.mono (by omega)) (by rfl) T.m_read_comparison_ T.F_read_comparison_.kp T.b_read_comparison_ (da_cons (de_var 0 (pv 0)) (da_cons (de_var 1 (pv 1)) da_nil)) (len_cons (len_cons len_nil))))))))))))
theorem ok_read_part_ (T : Tx w K mg base) : ∀ n : Nat, FnOk P w K mg base CX0 (7 + 2 * n) T.f_read_part_ T.fd_read_part_ ["words", "at", "depth"] (spD K 3 (F_read_part_ n))
  | 0 => fn_none
  | n + 1 => step_read_part_ T (Nat.le_add_right _ _) (ok_read_part_ T n)
def F_read_condition : FD := fnD N_read_condition.length (kSeq (kIf (mNotB (mB (mIsi isStr (mVar 0)))) (fun _ => none) kSkip)
    (kSeq (kAsg (mM1 gSplit (mRepC ")" " )" (mRepC "(" "( " (mVar 0))) (mC (.str " "))) (hName 1))
    (kSeq (kAsg (mApp (F_read_part_ 8) (mCons (mVar 1) (mCons (mC (.int 0)) (mCons (mC (.int 1)) mNil)))) (hTup 2 (hCons (hName 2) (hCons (hName 3) hNil))))
    (kSeq (kIf (mB (m2 gNe (mVar 3) (mCall gLen (mCons (mVar 1) mNil)))) (fun _ => none) kSkip)
    (kRet (mVar 2))))))
theorem ok_read_condition (T : Tx w K mg base) : FnOk P w K mg base CX0 25 T.f_read_condition T.fd_read_condition ["text"] (spD K 1 F_read_condition) :=
  fn_okT T.F_read_condition sc_read_condition (by decide +kernel) (by decide) rfl fun cdv A outer s H E hr => (
    (dsst_cons (ds_if (dt_not (dt_val (de_isi kit_str (by rfl) T.n_isinstance (by decide +kernel) (de_var 0 (pv 0)) (by rfl) T.n_str (by decide +kernel)))) (dss_one ds_never) dss_nil) (dsst_set (i := 1) sc_read_condition.nd rfl (by first | exact .inl rfl | exact .inr rfl) (det_split (det_replace (det_replace (det_of (de_var 0 (pv 0))))) de_str) (dsst_of (dss_cons (ds_asg (de_call (ok_read_part_ T 8) (hr.mono (by first | decide | omega)) (by rfl) T.m_read_part_ T.F_read_part_.kp T.b_read_part_ (da_cons (de_var 1 (pv 1)) (da_cons de_int (da_cons de_int da_nil))) (len_cons (len_cons (len_cons len_nil)))) (dg_tup rfl (dgs_cons (dg_name (i := 2) sc_read_condition.nd rfl (by first | exact .inl rfl | exact .inr rfl)) (dgs_cons (dg_name (i := 3) sc_read_condition.nd rfl (by first | exact .inl rfl | exact .inr rfl)) dgs_nil)))) (dss_cons (ds_if (dt_cmp (op_neD hr.units) r2_ne (de_var 3 (pv 3)) (de_callB call_len ok_len (by rfl) T.n_len (by decide +kernel) (da_cons (de_var 1 (pv 1)) da_nil)) (nomark _)) (dss_one ds_never) dss_nil) (dss_one (ds_ret (de_var 2 (pv 2))))))))))
--@HAND _law_draws (level None)
def F_Lpull : FD := fnD N_Lpull.length (kSeq (kAsg (m2 gAdd (mBagIx (mVar 0) (mC (.int 4))) (mC (.int 1))) (hBag (mVar 0) (mC (.int 4))))
    (kSeq (kIf (mAndB (mB (m2 gEq (mBagIx (mVar 0) (mC (.int 2))) (mC (.int 0)))) (mB (m2 oLt (mBagIx (mVar 0) (mC (.int 1))) (mCall gLen (mCons (mBagIx (mVar 0) (mC (.int 0))) mNil))))) (kSeq (kAsg (mTup (mCons (m2 gIx (mBagIx (mVar 0) (mC (.int 0))) (mBagIx (mVar 0) (mC (.int 1)))) (mCons (m2 gAdd (mBagIx (mVar 0) (mC (.int 1))) (mC (.int 1))) mNil))) (hTup 2 (hCons (hName 3) (hCons (hBag (mVar 0) (mC (.int 1))) hNil))))
    (kSeq (kIf (mB (m2 oGe (mVar 3) (m2 gPow (mC (.int 10)) (mC (.int 18))))) (kAsg (mVar 3) (hBag (mVar 0) (mC (.int 2)))) kSkip)
    (kAsg (m2 gMod (mCall gInt1 (mCons (m2 gAdd (m2 gAdd (m2 gMul (mBagIx (mVar 0) (mC (.int 3))) (mC (.int 38377))) (m2 gMul (m2 gMod (mCall gInt1 (mCons (mVar 3) mNil)) (mC (.int 2147483489))) (mC (.int 41143)))) (mC (.int 61))) mNil)) (mC (.int 2147483549))) (hBag (mVar 0) (mC (.int 3)))))) kSkip)
    (kSeq (kIf (mB (m2 oGt (mBagIx (mVar 0) (mC (.int 2))) (mC (.int 0)))) (kSeq (kAsg (mTup (mCons (m2 gMod (mCall gInt1 (mCons (mBagIx (mVar 0) (mC (.int 2))) mNil)) (mVar 1)) (mCons (m2 gDiv (mBagIx (mVar 0) (mC (.int 2))) (mVar 1)) mNil))) (hTup 2 (hCons (hName 4) (hCons (hBag (mVar 0) (mC (.int 2))) hNil))))
    (kRet (mVar 4))) kSkip)
    (kSeq (kAsg (mBagIx (mVar 0) (mC (.int 3))) (hName 2))
    (kSeq (kAsg (m2 gMod (mCall gInt1 (mCons (m2 gAdd (m2 gAdd (m2 gAdd (m2 gPow (mVar 2) (mC (.int 3))) (m2 gMul (mVar 2) (mC (.int 37813)))) (m2 gMul (mBagIx (mVar 0) (mC (.int 4))) (mC (.int 1299689)))) (mC (.int 65437))) mNil)) (mC (.int 2147483549))) (hBag (mVar 0) (mC (.int 3))))
    (kRet (m2 gMod (mCall gInt1 (mCons (m2 gAdd (m2 gDiv (mBagIx (mVar 0) (mC (.int 3))) (mC (.int 89))) (m2 gMul (m2 gMod (mCall gInt1 (mCons (mBagIx (mVar 0) (mC (.int 3))) mNil)) (mC (.int 7919))) (mC (.int 71)))) mNil)) (mVar 1))))))))
theorem ok_Lpull (T : Tx w K mg base) : FnOk P w K mg base CX0 1 T.f_Lpull T.fd_Lpull ["_law_bag", "_law_sides"] (spD K 2 F_Lpull) :=
  fn_ok T.F_Lpull sc_Lpull rfl fun cdv A outer s H E hr => (
    (dss_cons (ds_asg (de_add (de_bagIx (de_var 0 (pv 0)) de_int) de_int) (dg_bag (de_var 0 (pv 0)) de_int)) (dss_cons (ds_if (DW.dt (dw_and (dt_cmp (op_eqD hr.units) r2_eq (de_bagIx (de_var 0 (pv 0)) de_int) de_int (nomark _)) (dw_and1 (dt_cmp (op_lt.or op_lt_str) r2_lt (de_bagIx (de_var 0 (pv 0)) de_int) (de_callB call_len ok_len (by rfl) T.n_len (by decide +kernel) (da_cons (de_bagIx (de_var 0 (pv 0)) de_int) da_nil)) (nomark _))))) (dss_cons (ds_asg (de_tup (da_cons (de_ix (de_bagIx (de_var 0 (pv 0)) de_int) (de_bagIx (de_var 0 (pv 0)) de_int)) (da_cons (de_add (de_bagIx (de_var 0 (pv 0)) de_int) de_int) da_nil))) (dg_tup rfl (dgs_cons (dg_name (i := 3) sc_Lpull.nd rfl (by first | exact .inl rfl | exact .inr rfl)) (dgs_cons (dg_bag (de_var 0 (pv 0)) de_int) dgs_nil)))) (dss_cons (ds_if (dt_cmp (op_ge.or op_ge_str) r2_ge (de_var 3 (pv 3)) (de_pow de_int de_int) (nomark _)) (dss_one (ds_asg (de_var 3 (pv 3)) (dg_bag (de_var 0 (pv 0)) de_int))) dss_nil) (dss_one (ds_asg (de_mod (de_callT call_int1 ok_int1 (by rfl) T.n_int (by decide +kernel) (da_cons (de_add (de_add (de_mul (de_bagIx (de_var 0 (pv 0)) de_int) de_int) (de_mul (de_mod (de_callT call_int1 ok_int1 (by rfl) T.n_int (by decide +kernel) (da_cons (de_var 3 (pv 3)) da_nil)) de_int) de_int)) de_int) da_nil)) de_int) (dg_bag (de_var 0 (pv 0)) de_int))))) dss_nil) (dss_cons (ds_if (dt_cmp (op_gt.or op_gt_str) r2_gt (de_bagIx (de_var 0 (pv 0)) de_int) de_int (nomark _)) (dss_cons (ds_asg (de_tup (da_cons (de_mod (de_callT call_int1 ok_int1 (by rfl) T.n_int (by decide +kernel) (da_cons (de_bagIx (de_var 0 (pv 0)) de_int) da_nil)) (de_var 1 (pv 1))) (da_cons (de_fdiv (de_bagIx (de_var 0 (pv 0)) de_int) (de_var 1 (pv 1))) da_nil))) (dg_tup rfl (dgs_cons (dg_name (i := 4) sc_Lpull.nd rfl (by first | exact .inl rfl | exact .inr rfl)) (dgs_cons (dg_bag (de_var 0 (pv 0)) de_int) dgs_nil)))) (dss_one (ds_ret (de_var 4 (pv 4))))) dss_nil) (dss_cons (ds_set (i := 2) sc_Lpull.nd rfl (by first | exact .inl rfl | exact .inr rfl) (de_bagIx (de_var 0 (pv 0)) de_int)) (dss_cons (ds_asg (de_mod (de_callT call_int1 ok_int1 (by rfl) T.n_int (by decide +kernel) (da_cons (de_add (de_add (de_add (de_pow (de_var 2 (pv 2)) de_int) (de_mul (de_var 2 (pv 2)) de_int)) (de_mul (de_bagIx (de_var 0 (pv 0)) de_int) de_int)) de_int) da_nil)) de_int) (dg_bag (de_var 0 (pv 0)) de_int)) (dss_one (ds_ret (de_mod (de_callT call_int1 ok_int1 (by rfl) T.n_int (by decide +kernel) (da_cons (de_add (de_fdiv (de_bagIx (de_var 0 (pv 0)) de_int) de_int) (de_mul (de_mod (de_callT call_int1 ok_int1 (by rfl) T.n_int (by decide +kernel) (da_cons (de_bagIx (de_var 0 (pv 0)) de_int) da_nil)) de_int) de_int)) da_nil)) (de_var 1 (pv 1)))))))))))
def F_Lany : FD := fnD N_Lany.length (kRet (m2 gIx (mVar 1) (mApp F_Lpull (mCons (mVar 0) (mCons (mCall gLen (mCons (mVar 1) mNil)) mNil)))))
theorem ok_Lany (T : Tx w K mg base) : FnOk P w K mg base CX0 2 T.f_Lany T.fd_Lany ["_law_bag", "_law_rows"] (spD K 2 F_Lany) :=
  fn_ok T.F_Lany sc_Lany rfl fun cdv A outer s H E hr => (
    (dss_one (ds_ret (de_ix (de_var 1 (pv 1)) (de_call (ok_Lpull T) (hr.mono (by first | decide | omega)) (by rfl) T.m_Lpull T.F_Lpull.kp T.b_Lpull (da_cons (de_var 0 (pv 0)) (da_cons (de_callB call_len ok_len (by rfl) T.n_len (by decide +kernel) (da_cons (de_var 1 (pv 1)) da_nil)) da_nil)) (len_cons (len_cons len_nil)))))))
def B_Llike (R : FD) : FD := fnD N_Llike.length (kSeq (kIf (mB (mIsi (fun d => isLst d || isTup d) (mVar 1))) (kSeq (kAsg (mAndV (m2 gEq (mIsi isLst (mVar 0)) (mIsi isLst (mVar 1))) (m2 gEq (mIsi isTup (mVar 0)) (mIsi isTup (mVar 1)))) (hName 2))
    (kRet (mAndV (mVar 2) (mAndV (m2 gEq (mCall gLen (mCons (mVar 0) mNil)) (mCall gLen (mCons (mVar 1) mNil))) (mCall gAll (mCons (mComp [3, 4] (wZip (mCons (mVar 0) (mCons (mVar 1) mNil))) (hTup 2 (hCons (hName 3) (hCons (hName 4) hNil))) mYes (mApp R (mCons (mVar 3) (mCons (mVar 4) mNil)))) mNil)))))) kSkip)
    (kSeq (kIf (mOrB (mB (m2 gIsN (mVar 0) (mC .non))) (mOrB (mB (m2 gIsN (mVar 1) (mC .non))) (mB (m2 gNe (mIsi isBl (mVar 0)) (mIsi isBl (mVar 1)))))) (kRet (mAndV (m2 gIsN (mVar 0) (mC .non)) (m2 gIsN (mVar 1) (mC .non)))) kSkip)
    (kRet (mAndV (m2 gEq (mIsi isInt (mVar 0)) (mIsi isInt (mVar 1))) (mAndV (m2 gEq (mIsi isStr (mVar 0)) (mIsi isStr (mVar 1))) (m2 gEq (mVar 0) (mVar 1)))))))
def F_Llike : Nat → FD
  | 0 => fun _ _ => none
  | n + 1 => B_Llike (F_Llike n)
theorem step_Llike (T : Tx w K mg base) {k : Nat} {R : FD} (hk : 0 ≤ k) (ih : FnOk P w K mg base CX0 k T.f_Llike T.fd_Llike ["_law_a", "_law_b"] (spD K 2 R)) : FnOk P w K mg base CX0 (k + 1) T.f_Llike T.fd_Llike ["_law_a", "_law_b"] (spD K 2 (B_Llike R)) :=
  fn_ok T.F_Llike sc_Llike rfl fun cdv A outer s H E hr => (
    (dss_cons (ds_if (dt_val (de_isi2 kit_lst kit_tup (by rfl) T.n_isinstance (by decide +kernel) (de_var 1 (pv 1)) (by rfl) T.n_list (by decide +kernel) (by rfl) T.n_tuple (by decide +kernel))) (dss_cons (ds_set (i := 2) sc_Llike.nd rfl (by first | exact .inl rfl | exact .inr rfl) (de_and (de_cmp (op_eqD hr.units) r2_eq (de_isi kit_lst (by rfl) T.n_isinstance (by decide +kernel) (de_var 0 (pv 0)) (by rfl) T.n_list (by decide +kernel)) (de_isi kit_lst (by rfl) T.n_isinstance (by decide +kernel) (de_var 1 (pv 1)) (by rfl) T.n_list (by decide +kernel)) (nomark _)) (de_one (de_cmp (op_eqD hr.units) r2_eq (de_isi kit_tup (by rfl) T.n_isinstance (by decide +kernel) (de_var 0 (pv 0)) (by rfl) T.n_tuple (by decide +kernel)) (de_isi kit_tup (by rfl) T.n_isinstance (by decide +kernel) (de_var 1 (pv 1)) (by rfl) T.n_tuple (by decide +kernel)) (nomark _))))) (dss_one (ds_ret (de_and (de_var 2 (pv 2)) (de_and (de_cmp (op_eqD hr.units) r2_eq (de_callB call_len ok_len (by rfl) T.n_len (by decide +kernel) (da_cons (de_var 0 (pv 0)) da_nil)) (de_callB call_len ok_len (by rfl) T.n_len (by decide +kernel) (da_cons (de_var 1 (pv 1)) da_nil)) (nomark _)) (de_one (de_callB (cr_all rfl) ok_all (by rfl) T.n_all (by decide +kernel) (da_cons (de_comp (own := [("_law_c", 3), ("_law_d", 4)]) rfl sc_Llike.nd (di_zip (by rfl) T.n_zip (da_cons (de_var 0 (pv 0)) (da_cons (de_var 1 (pv 1)) da_nil))) (blkOk_by (own := [("_law_c", 3), ("_law_d", 4)]) (N := N_Llike) (sc := defScope s_Llike) (by decide +kernel)) (fun _ _ _ _ _ => (dg_tup rfl (dgs_cons (dg_name (i := 3) sc_Llike.nd rfl (by first | exact .inl rfl | exact .inr rfl)) (dgs_cons (dg_name (i := 4) sc_Llike.nd rfl (by first | exact .inl rfl | exact .inr rfl)) dgs_nil)))) (fun _ _ _ _ _ => dts_nil) (fun _ _ _ _ _ => (de_call ih (hr.mono (by omega)) (by rfl) T.m_Llike T.F_Llike.kp T.b_Llike (da_cons (de_var 3 (pv 3)) (da_cons (de_var 4 (pv 4)) da_nil)) (len_cons (len_cons len_nil)))) (by decide)) da_nil)))))))) dss_nil) (dss_cons (ds_if (DW.dt (dw_or (dt_cmp op_isN r2_isN (de_var 0 (pv 0)) de_non (nomark _)) (dw_or (dt_cmp op_isN r2_isN (de_var 1 (pv 1)) de_non (nomark _)) (dw_or1 (dt_cmp (op_neD hr.units) r2_ne (de_isi kit_bl (by rfl) T.n_isinstance (by decide +kernel) (de_var 0 (pv 0)) (by rfl) T.n_bool (by decide +kernel)) (de_isi kit_bl (by rfl) T.n_isinstance (by decide +kernel) (de_var 1 (pv 1)) (by rfl) T.n_bool (by decide +kernel)) (nomark _)))))) (dss_one (ds_ret (de_and (de_cmp op_isN r2_isN (de_var 0 (pv 0)) de_non (nomark _)) (de_one (de_cmp op_isN r2_isN (de_var 1 (pv 1)) de_non (nomark _)))))) dss_nil) (dss_one (ds_ret (de_and (de_cmp (op_eqD hr.units) r2_eq (de_isi kit_int (by rfl) T.n_isinstance (by decide +kernel) (de_var 0 (pv 0)) (by rfl) T.n_int (by decide +kernel)) (de_isi kit_int (by rfl) T.n_isinstance (by decide +kernel) (de_var 1 (pv 1)) (by rfl) T.n_int (by decide +kernel)) (nomark _)) (de_and (de_cmp (op_eqD hr.units) r2_eq (de_isi kit_str (by rfl) T.n_isinstance (by decide +kernel) (de_var 0 (pv 0)) (by rfl) T.n_str (by decide +kernel)) (de_isi kit_str (by rfl) T.n_isinstance (by decide +kernel) (de_var 1 (pv 1)) (by rfl) T.n_str (by decide +kernel)) (nomark _)) (de_one (de_cmp (op_eqD hr.units) r2_eq (de_var 0 (pv 0)) (de_var 1 (pv 1)) (nomark _))))))))))
theorem ok_Llike (T : Tx w K mg base) : ∀ n : Nat, FnOk P w K mg base CX0 (0 + n) T.f_Llike T.fd_Llike ["_law_a", "_law_b"] (spD K 2 (F_Llike n))
  | 0 => fn_none
  | n + 1 => step_Llike T (Nat.le_add_right _ _) (ok_Llike T n)
def F_Lreserved : FD := fnD N_Lreserved.length (kRet (mLst (mCons (mC (.str "and")) (mCons (mC (.str "found")) (mCons (mC (.str "key")) (mCons (mC (.str "next")) (mCons (mC (.str "not")) (mCons (mC (.str "or")) (mCons (mC (.str "own")) (mCons (mC (.str "set")) (mCons (mC (.str "true")) (mCons (mC (.str "where")) mNil))))))))))))
theorem ok_Lreserved (T : Tx w K mg base) : FnOk P w K mg base CX0 1 T.f_Lreserved T.fd_Lreserved [] (spD K 0 F_Lreserved) :=
  fn_ok T.F_Lreserved sc_Lreserved rfl fun cdv A outer s H E hr => (
    (dss_one (ds_ret (de_lst (da_cons de_str (da_cons de_str (da_cons de_str (da_cons de_str (da_cons de_str (da_cons de_str (da_cons de_str (da_cons de_str (da_cons de_str (da_cons de_str da_nil))))))))))))))
def F_Lnew_names : FD := fnD N_Lnew_names.length (kSeq (kAsg (mC (.str "abcdefghijklmnopqrstuvwxyz")) (hName 2))
    (kSeq (kAsg (mM1 gJoin (mC (.str "")) (mComp [7] (wRng1 (mCons (mApp F_Lpull (mCons (mVar 0) (mCons (mC (.int 5)) mNil))) mNil)) (hName 7) mYes (mApp F_Lany (mCons (mVar 0) (mCons (mVar 2) mNil))))) (hName 3))
    (kSeq (kAsg (mTup (mCons (mApp F_Lpull (mCons (mVar 0) (mCons (m2 gAdd (mCall gLen (mCons (mVar 3) mNil)) (mC (.int 1))) mNil))) (mCons (mApp F_Lpull (mCons (mVar 0) (mCons (mC (.int 26)) mNil))) mNil))) (hTup 2 (hCons (hName 5) (hCons (hName 6) hNil))))
    (kSeq (kAsg (mComp [7] (wRng1 (mCons (mVar 1) mNil)) (hName 7) mYes (m2 gAdd (m2 gAdd (mSl (mVar 3) mNoP (mPart (mVar 5))) (m2 gIx (mVar 2) (m2 gSub0 (m2 gAdd (mVar 6) (mVar 7)) (mC (.int 26))))) (mSl (mVar 3) (mPart (mVar 5)) mNoP))) (hName 4))
    (kRet (mComp [8] (wLst (mVar 4)) (hName 8) mYes (mIf (mB (m2 gIn (mVar 8) (mApp F_Lreserved mNil))) (m2 gAdd (mVar 8) (mC (.str "q"))) (mVar 8))))))))
theorem ok_Lnew_names (T : Tx w K mg base) : FnOk P w K mg base CX0 3 T.f_Lnew_names T.fd_Lnew_names ["_law_bag", "_law_many"] (spD K 2 F_Lnew_names) :=
  fn_ok T.F_Lnew_names sc_Lnew_names rfl fun cdv A outer s H E hr => (
    (dss_cons (ds_set (i := 2) sc_Lnew_names.nd rfl (by first | exact .inl rfl | exact .inr rfl) de_str) (dss_cons (ds_set (i := 3) sc_Lnew_names.nd rfl (by first | exact .inl rfl | exact .inr rfl) (de_join de_str (de_comp (own := [("_law_k", 7)]) rfl sc_Lnew_names.nd (di_rng1 (by rfl) T.n_range (da_cons (de_call (ok_Lpull T) (hr.mono (by first | decide | omega)) (by rfl) T.m_Lpull T.F_Lpull.kp T.b_Lpull (da_cons (de_var 0 (pv 0)) (da_cons de_int da_nil)) (len_cons (len_cons len_nil))) da_nil)) (blkOk_by (own := [("_law_k", 7)]) (N := N_Lnew_names) (sc := defScope s_Lnew_names) (by decide +kernel)) (fun _ _ _ _ _ => (dg_name (i := 7) sc_Lnew_names.nd rfl (by first | exact .inl rfl | exact .inr rfl))) (fun _ _ _ _ _ => dts_nil) (fun _ _ _ _ _ => (de_call (ok_Lany T) (hr.mono (by first | decide | omega)) (by rfl) T.m_Lany T.F_Lany.kp T.b_Lany (da_cons (de_var 0 (pv 0)) (da_cons (de_var 2 (pv 2)) da_nil)) (len_cons (len_cons len_nil)))) (by decide)))) (dss_cons (ds_asg (de_tup (da_cons (de_call (ok_Lpull T) (hr.mono (by first | decide | omega)) (by rfl) T.m_Lpull T.F_Lpull.kp T.b_Lpull (da_cons (de_var 0 (pv 0)) (da_cons (de_add (de_callB call_len ok_len (by rfl) T.n_len (by decide +kernel) (da_cons (de_var 3 (pv 3)) da_nil)) de_int) da_nil)) (len_cons (len_cons len_nil))) (da_cons (de_call (ok_Lpull T) (hr.mono (by first | decide | omega)) (by rfl) T.m_Lpull T.F_Lpull.kp T.b_Lpull (da_cons (de_var 0 (pv 0)) (da_cons de_int da_nil)) (len_cons (len_cons len_nil))) da_nil))) (dg_tup rfl (dgs_cons (dg_name (i := 5) sc_Lnew_names.nd rfl (by first | exact .inl rfl | exact .inr rfl)) (dgs_cons (dg_name (i := 6) sc_Lnew_names.nd rfl (by first | exact .inl rfl | exact .inr rfl)) dgs_nil)))) (dss_cons (ds_setComp (i := 4) (own := [("_law_k", 7)]) rfl sc_Lnew_names.nd rfl rfl (sw_true rfl rfl rfl (by decide +kernel)) (di_rng1 (by rfl) T.n_range (da_cons (de_var 1 (pv 1)) da_nil)) (blkOk_by (own := [("_law_k", 7)]) (N := N_Lnew_names) (sc := defScope s_Lnew_names) (by decide +kernel)) (fun _ _ _ _ _ => (dg_name (i := 7) sc_Lnew_names.nd rfl (by first | exact .inl rfl | exact .inr rfl))) (fun _ _ _ _ _ => dts_nil) (fun _ _ _ _ _ => (de_add (de_add (de_sl (de_var 3 (pv 3)) do_none (do_some (de_var 5 (pv 5)))) (de_ix (de_var 2 (pv 2)) (de_sub (de_add (de_var 6 (pv 6)) (de_var 7 (pv 7))) de_int))) (de_sl (de_var 3 (pv 3)) (do_some (de_var 5 (pv 5))) do_none))) (by decide)) (dss_one (ds_ret (de_comp (own := [("_law_row", 8)]) rfl sc_Lnew_names.nd (di_list (de_var 4 (pv 4))) (blkOk_by (own := [("_law_row", 8)]) (N := N_Lnew_names) (sc := defScope s_Lnew_names) (by decide +kernel)) (fun _ _ _ _ _ => (dg_name (i := 8) sc_Lnew_names.nd rfl (by first | exact .inl rfl | exact .inr rfl))) (fun _ _ _ _ _ => dts_nil) (fun _ _ _ _ _ => (de_ifx (dt_cmp (op_in_str.or op_in_seq) r2_in (de_var 8 (pv 8)) (de_call0 (ok_Lreserved T) (hr.mono (by decide)) (by rfl) T.m_Lreserved T.F_Lreserved.kp T.b_Lreserved) (by rfl)) (de_add (de_var 8 (pv 8)) de_str) (de_var 8 (pv 8)))) (by decide)))))))))
def F_Lis_name : FD := fnD N_Lis_name.length (kSeq (kIf (mOrB (mNotB (mB (mIsi isStr (mVar 0)))) (mOrB (mNotB (mB (mChain oLe oLe (mC (.int 1)) (mCall gLen (mCons (mVar 0) mNil)) (mC (.int 6))))) (mB (m2 gIn (mVar 0) (mApp F_Lreserved mNil))))) (kRet (mC (.bl false))) kSkip)
    (kRet (mCall gAll (mCons (mComp [1] (wStr (mVar 0)) (hName 1) mYes (m2 gIn (mVar 1) (mC (.str "abcdefghijklmnopqrstuvwxyz")))) mNil))))
theorem ok_Lis_name (T : Tx w K mg base) : FnOk P w K mg base CX0 2 T.f_Lis_name T.fd_Lis_name ["_law_value"] (spD K 1 F_Lis_name) :=
  fn_ok T.F_Lis_name sc_Lis_name rfl fun cdv A outer s H E hr => (
    (dss_cons (ds_if (DW.dt (dw_or (dt_not (dt_val (de_isi kit_str (by rfl) T.n_isinstance (by decide +kernel) (de_var 0 (pv 0)) (by rfl) T.n_str (by decide +kernel)))) (dw_or (dt_not (dt_chain (op_le.or op_le_str) r2_le (op_le.or op_le_str) r2_le de_int (de_callB call_len ok_len (by rfl) T.n_len (by decide +kernel) (da_cons (de_var 0 (pv 0)) da_nil)) de_int)) (dw_or1 (dt_cmp (op_in_str.or op_in_seq) r2_in (de_var 0 (pv 0)) (de_call0 (ok_Lreserved T) (hr.mono (by decide)) (by rfl) T.m_Lreserved T.F_Lreserved.kp T.b_Lreserved) (by rfl)))))) (dss_one (ds_ret de_bl)) dss_nil) (dss_one (ds_ret (de_callB (cr_all rfl) ok_all (by rfl) T.n_all (by decide +kernel) (da_cons (de_comp (own := [("_law_letter", 1)]) rfl sc_Lis_name.nd (di_str (de_var 0 (pv 0))) (blkOk_by (own := [("_law_letter", 1)]) (N := N_Lis_name) (sc := defScope s_Lis_name) (by decide +kernel)) (fun _ _ _ _ _ => (dg_name (i := 1) sc_Lis_name.nd rfl (by first | exact .inl rfl | exact .inr rfl))) (fun _ _ _ _ _ => dts_nil) (fun _ _ _ _ _ => (de_cmp (op_in_str.or op_in_seq) r2_in (de_var 1 (pv 1)) de_str (by rfl))) (by decide)) da_nil))))))
def F_Lnear : FD := fnD N_Lnear.length (kRet (mApp F_Lany (mCons (mVar 0) (mCons (mLst (mCons (mC (.int 0)) (mCons (mC (.int 1)) (mCons (mC (.int 1)) (mCons (mC (.int 2)) (mCons (mC (.int 3)) (mCons (m2 gSub0 (mC (.int 0)) (mC (.int 1))) (mCons (m2 gSub0 (mC (.int 0)) (mC (.int 2))) mNil)))))))) mNil))))
theorem ok_Lnear (T : Tx w K mg base) : FnOk P w K mg base CX0 3 T.f_Lnear T.fd_Lnear ["_law_bag"] (spD K 1 F_Lnear) :=
  fn_ok T.F_Lnear sc_Lnear rfl fun cdv A outer s H E hr => (
    (dss_one (ds_ret (de_call (ok_Lany T) (hr.mono (by first | decide | omega)) (by rfl) T.m_Lany T.F_Lany.kp T.b_Lany (da_cons (de_var 0 (pv 0)) (da_cons (de_lst (da_cons de_int (da_cons de_int (da_cons de_int (da_cons de_int (da_cons de_int (da_cons (de_sub de_int de_int) (da_cons (de_sub de_int de_int) da_nil)))))))) da_nil)) (len_cons (len_cons len_nil))))))
def B_Lvalue_text (R : FD) : FD := fnD N_Lvalue_text.length (kSeq (kIf (mB (m2 gEq (m2 gIx (mVar 0) (mC (.int 0))) (mC (.str "plus")))) (kSeq (kAsg (m2 gIx (mVar 0) (mC (.int 2))) (hName 1))
    (kRet (m2 gAdd (mApp R (mCons (m2 gIx (mVar 0) (mC (.int 1))) mNil)) (mIf (mB (m2 oLt (mVar 1) (mC (.int 0)))) (m2 gAdd (mC (.str " - ")) (mCall gStr (mCons (m2 gSub0 (mC (.int 0)) (mVar 1)) mNil))) (m2 gAdd (mC (.str " + ")) (mCall gStr (mCons (mVar 1) mNil))))))) kSkip)
    (kSeq (kIf (mB (m2 gEq (m2 gIx (mVar 0) (mC (.int 0))) (mC (.str "field")))) (kRet (m2 gAdd (m2 gAdd (m2 gIx (mVar 0) (mC (.int 1))) (mC (.str "."))) (m2 gIx (mVar 0) (mC (.int 2))))) kSkip)
    (kSeq (kIf (mB (m2 gIn (m2 gIx (mVar 0) (mC (.int 0))) (mTup (mCons (mC (.str "own")) (mCons (mC (.str "next")) mNil))))) (kRet (m2 gAdd (m2 gAdd (m2 gIx (mVar 0) (mC (.int 0))) (mC (.str "."))) (m2 gIx (mVar 0) (mC (.int 1))))) kSkip)
    (kRet (mCall gStr (mCons (m2 gIx (mVar 0) (mC (.int 1))) mNil))))))
def F_Lvalue_text : Nat → FD
  | 0 => fun _ _ => none
  | n + 1 => B_Lvalue_text (F_Lvalue_text n)
theorem step_Lvalue_text (T : Tx w K mg base) {k : Nat} {R : FD} (hk : 0 ≤ k) (ih : FnOk P w K mg base CX0 k T.f_Lvalue_text T.fd_Lvalue_text ["_law_value"] (spD K 1 R)) : FnOk P w K mg base CX0 (k + 1) T.f_Lvalue_text T.fd_Lvalue_text ["_law_value"] (spD K 1 (B_Lvalue_text R)) :=
  fn_ok T.F_Lvalue_text sc_Lvalue_text rfl fun cdv A outer s H E hr => (
    (dss_cons (ds_if (dt_cmp (op_eqD hr.units) r2_eq (de_ix (de_var 0 (pv 0)) de_int) de_str (nomark _)) (dss_cons (ds_set (i := 1) sc_Lvalue_text.nd rfl (by first | exact .inl rfl | exact .inr rfl) (de_ix (de_var 0 (pv 0)) de_int)) (dss_one (ds_ret (de_add (de_call ih (hr.mono (by omega)) (by rfl) T.m_Lvalue_text T.F_Lvalue_text.kp T.b_Lvalue_text (da_cons (de_ix (de_var 0 (pv 0)) de_int) da_nil) (len_cons len_nil)) (de_ifx (dt_cmp (op_lt.or op_lt_str) r2_lt (de_var 1 (pv 1)) de_int (nomark _)) (de_add de_str (de_callT (call_str_int.or SkE.call_str_str) ok_str (by rfl) T.n_str (by decide +kernel) (da_cons (de_sub de_int (de_var 1 (pv 1))) da_nil))) (de_add de_str (de_callT (call_str_int.or SkE.call_str_str) ok_str (by rfl) T.n_str (by decide +kernel) (da_cons (de_var 1 (pv 1)) da_nil)))))))) dss_nil) (dss_cons (ds_if (dt_cmp (op_eqD hr.units) r2_eq (de_ix (de_var 0 (pv 0)) de_int) de_str (nomark _)) (dss_one (ds_ret (de_add (de_add (de_ix (de_var 0 (pv 0)) de_int) de_str) (de_ix (de_var 0 (pv 0)) de_int)))) dss_nil) (dss_cons (ds_if (dt_cmp (op_in_str.or op_in_seq) r2_in (de_ix (de_var 0 (pv 0)) de_int) (de_tup (da_cons de_str (da_cons de_str da_nil))) (by rfl)) (dss_one (ds_ret (de_add (de_add (de_ix (de_var 0 (pv 0)) de_int) de_str) (de_ix (de_var 0 (pv 0)) de_int)))) dss_nil) (dss_one (ds_ret (de_callT (call_str_int.or SkE.call_str_str) ok_str (by rfl) T.n_str (by decide +kernel) (da_cons (de_ix (de_var 0 (pv 0)) de_int) da_nil))))))))
theorem ok_Lvalue_text (T : Tx w K mg base) : ∀ n : Nat, FnOk P w K mg base CX0 (0 + n) T.f_Lvalue_text T.fd_Lvalue_text ["_law_value"] (spD K 1 (F_Lvalue_text n))
  | 0 => fn_none
  | n + 1 => step_Lvalue_text T (Nat.le_add_right _ _) (ok_Lvalue_text T n)
def B_Lcondition_text (R : FD) : FD := fnD N_Lcondition_text.length (kSeq (kAsg (m2 gIx (mVar 0) (mC (.int 0))) (hName 1))
    (kSeq (kIf (mB (m2 gIn (mVar 1) (mTup (mCons (mC (.str "and")) (mCons (mC (.str "or")) mNil))))) (kRet (m2 gAdd (m2 gAdd (m2 gAdd (m2 gAdd (m2 gAdd (m2 gAdd (mC (.str "(")) (mApp R (mCons (m2 gIx (mVar 0) (mC (.int 1))) mNil))) (mC (.str " "))) (mVar 1)) (mC (.str " "))) (mApp R (mCons (m2 gIx (mVar 0) (mC (.int 2))) mNil))) (mC (.str ")")))) kSkip)
    (kSeq (kIf (mB (m2 gEq (mVar 1) (mC (.str "not")))) (kRet (m2 gAdd (mC (.str "not ")) (mApp R (mCons (m2 gIx (mVar 0) (mC (.int 1))) mNil)))) kSkip)
    (kSeq (kIf (mB (m2 gEq (mVar 1) (mC (.str "found")))) (kRet (m2 gAdd (mC (.str "found ")) (m2 gIx (mVar 0) (mC (.int 1))))) kSkip)
    (kSeq (kAsg (mC (dicS [("atmost", " <= "), ("below", " < "), ("same", " = ")])) (hName 2))
    (kRet (mIf (mB (m2 gEq (mVar 1) (mC (.str "true")))) (mC (.str "true")) (m2 gAdd (m2 gAdd (mApp (F_Lvalue_text 3) (mCons (m2 gIx (mVar 0) (mC (.int 1))) mNil)) (m2 gDget (mVar 2) (mVar 1))) (mApp (F_Lvalue_text 3) (mCons (m2 gIx (mVar 0) (mC (.int 2))) mNil))))))))))
def F_Lcondition_text : Nat → FD
  | 0 => fun _ _ => none
  | n + 1 => B_Lcondition_text (F_Lcondition_text n)
theorem step_Lcondition_text (T : Tx w K mg base) {k : Nat} {R : FD} (hk : 4 ≤ k) (ih : FnOk P w K mg base CX0 k T.f_Lcondition_text T.fd_Lcondition_text ["_law_c"] (spD K 1 R)) : FnOk P w K mg base CX0 (k + 1) T.f_Lcondition_text T.fd_Lcondition_text ["_law_c"] (spD K 1 (B_Lcondition_text R)) :=
  fn_ok T.F_Lcondition_text sc_Lcondition_text rfl fun cdv A outer s H E hr => (
    (dss_cons (ds_set (i := 1) sc_Lcondition_text.nd rfl (by first | exact .inl rfl | exact .inr rfl) (de_ix (de_var 0 (pv 0)) de_int)) (dss_cons (ds_if (dt_cmp (op_in_str.or op_in_seq) r2_in (de_var 1 (pv 1)) (de_tup (da_cons de_str (da_cons de_str da_nil))) (by rfl)) (dss_one (ds_ret (de_add (de_add (de_add (de_add (de_add (de_add de_str (de_call ih (hr.mono (by omega)) (by rfl) T.m_Lcondition_text T.F_Lcondition_text.kp T.b_Lcondition_text (da_cons (de_ix (de_var 0 (pv 0)) de_int) da_nil) (len_cons len_nil))) de_str) (de_var 1 (pv 1))) de_str) (de_call ih (hr.mono (by omega)) (by rfl) T.m_Lcondition_text T.F_Lcondition_text.kp T.b_Lcondition_text (da_cons (de_ix (de_var 0 (pv 0)) de_int) da_nil) (len_cons len_nil))) de_str))) dss_nil) (dss_cons (ds_if (dt_cmp (op_eqD hr.units) r2_eq (de_var 1 (pv 1)) de_str (nomark _)) (dss_one (ds_ret (de_add de_str (de_call ih (hr.mono (by omega)) (by rfl) T.m_Lcondition_text T.F_Lcondition_text.kp T.b_Lcondition_text (da_cons (de_ix (de_var 0 (pv 0)) de_int) da_nil) (len_cons len_nil))))) dss_nil) (dss_cons (ds_if (dt_cmp (op_eqD hr.units) r2_eq (de_var 1 (pv 1)) de_str (nomark _)) (dss_one (ds_ret (de_add de_str (de_ix (de_var 0 (pv 0)) de_int)))) dss_nil) (dss_cons (ds_set (i := 2) sc_Lcondition_text.nd rfl (by first | exact .inl rfl | exact .inr rfl) (de_dicS [("atmost", " <= "), ("below", " < "), ("same", " = ")] (pps_cons pe_str pe_str (pps_cons pe_str pe_str (pps_cons pe_str pe_str pps_nil))))) (dss_one (ds_ret (de_ifx (dt_cmp (op_eqD hr.units) r2_eq (de_var 1 (pv 1)) de_str (nomark _)) de_str (de_add (de_add (de_call (ok_Lvalue_text T 3) (hr.mono (by omega)) (by rfl) T.m_Lvalue_text T.F_Lvalue_text.kp T.b_Lvalue_text (da_cons (de_ix (de_var 0 (pv 0)) de_int) da_nil) (len_cons len_nil)) (de_dget (hu_of hr) (de_var 2 (pv 2)) (de_var 1 (pv 1)))) (de_call (ok_Lvalue_text T 3) (hr.mono (by omega)) (by rfl) T.m_Lvalue_text T.F_Lvalue_text.kp T.b_Lvalue_text (da_cons (de_ix (de_var 0 (pv 0)) de_int) da_nil) (len_cons len_nil))))))))))))
theorem ok_Lcondition_text (T : Tx w K mg base) : ∀ n : Nat, FnOk P w K mg base CX0 (4 + n) T.f_Lcondition_text T.fd_Lcondition_text ["_law_c"] (spD K 1 (F_Lcondition_text n))
  | 0 => fn_none
  | n + 1 => step_Lcondition_text T (Nat.le_add_right _ _) (ok_Lcondition_text T n)
def F_Lsome_value : FD := fnD N_Lsome_value.length (kSeq (kAsg (mApp F_Lany (mCons (mVar 0) (mCons (m2 gAdd (mVar 1) (mLst (mCons (mTup (mCons (mC (.str "number")) (mCons (mApp F_Lnear (mCons (mVar 0) mNil)) mNil))) mNil))) mNil))) (hName 2))
    (kRet (mIf (mB (m2 gEq (mApp F_Lpull (mCons (mVar 0) (mCons (mC (.int 3)) mNil))) (mC (.int 0)))) (mTup (mCons (mC (.str "plus")) (mCons (mVar 2) (mCons (mApp F_Lnear (mCons (mVar 0) mNil)) mNil)))) (mVar 2))))
theorem ok_Lsome_value (T : Tx w K mg base) : FnOk P w K mg base CX0 4 T.f_Lsome_value T.fd_Lsome_value ["_law_bag", "_law_pool"] (spD K 2 F_Lsome_value) :=
  fn_ok T.F_Lsome_value sc_Lsome_value rfl fun cdv A outer s H E hr => (
    (dss_cons (ds_set (i := 2) sc_Lsome_value.nd rfl (by first | exact .inl rfl | exact .inr rfl) (de_call (ok_Lany T) (hr.mono (by first | decide | omega)) (by rfl) T.m_Lany T.F_Lany.kp T.b_Lany (da_cons (de_var 0 (pv 0)) (da_cons (de_add (de_var 1 (pv 1)) (de_lst (da_cons (de_tup (da_cons de_str (da_cons (de_call (ok_Lnear T) (hr.mono (by first | decide | omega)) (by rfl) T.m_Lnear T.F_Lnear.kp T.b_Lnear (da_cons (de_var 0 (pv 0)) da_nil) (len_cons len_nil)) da_nil))) da_nil))) da_nil)) (len_cons (len_cons len_nil)))) (dss_one (ds_ret (de_ifx (dt_cmp (op_eqD hr.units) r2_eq (de_call (ok_Lpull T) (hr.mono (by first | decide | omega)) (by rfl) T.m_Lpull T.F_Lpull.kp T.b_Lpull (da_cons (de_var 0 (pv 0)) (da_cons de_int da_nil)) (len_cons (len_cons len_nil))) de_int (nomark _)) (de_tup (da_cons de_str (da_cons (de_var 2 (pv 2)) (da_cons (de_call (ok_Lnear T) (hr.mono (by first | decide | omega)) (by rfl) T.m_Lnear T.F_Lnear.kp T.b_Lnear (da_cons (de_var 0 (pv 0)) da_nil) (len_cons len_nil)) da_nil)))) (de_var 2 (pv 2)))))))
def F_Lsome_compared : FD := fnD N_Lsome_compared.length (kSeq (kAsg (mIf (mB (m2 gNe (mVar 1) (mLst mNil))) (mApp F_Lany (mCons (mVar 0) (mCons (mVar 1) mNil))) (mTup (mCons (mC (.str "number")) (mCons (mApp F_Lnear (mCons (mVar 0) mNil)) mNil)))) (hName 2))
    (kSeq (kIf (mB (m2 gEq (mApp F_Lpull (mCons (mVar 0) (mCons (mC (.int 4)) mNil))) (mC (.int 0)))) (kAsg (mTup (mCons (mC (.str "plus")) (mCons (mVar 2) (mCons (mApp F_Lnear (mCons (mVar 0) mNil)) mNil)))) (hName 2)) kSkip)
    (kRet (mTup (mCons (mApp F_Lany (mCons (mVar 0) (mCons (mLst (mCons (mC (.str "atmost")) (mCons (mC (.str "below")) (mCons (mC (.str "below")) (mCons (mC (.str "same")) mNil))))) mNil))) (mCons (mVar 2) (mCons (mApp F_Lsome_value (mCons (mVar 0) (mCons (mVar 1) mNil))) mNil)))))))
theorem ok_Lsome_compared (T : Tx w K mg base) : FnOk P w K mg base CX0 5 T.f_Lsome_compared T.fd_Lsome_compared ["_law_bag", "_law_pool"] (spD K 2 F_Lsome_compared) :=
  fn_ok T.F_Lsome_compared sc_Lsome_compared rfl fun cdv A outer s H E hr => (
    (dss_cons (ds_set (i := 2) sc_Lsome_compared.nd rfl (by first | exact .inl rfl | exact .inr rfl) (de_ifx (dt_cmp (op_neD hr.units) r2_ne (de_var 1 (pv 1)) (de_lst da_nil) (nomark _)) (de_call (ok_Lany T) (hr.mono (by first | decide | omega)) (by rfl) T.m_Lany T.F_Lany.kp T.b_Lany (da_cons (de_var 0 (pv 0)) (da_cons (de_var 1 (pv 1)) da_nil)) (len_cons (len_cons len_nil))) (de_tup (da_cons de_str (da_cons (de_call (ok_Lnear T) (hr.mono (by first | decide | omega)) (by rfl) T.m_Lnear T.F_Lnear.kp T.b_Lnear (da_cons (de_var 0 (pv 0)) da_nil) (len_cons len_nil)) da_nil))))) (dss_cons (ds_if (dt_cmp (op_eqD hr.units) r2_eq (de_call (ok_Lpull T) (hr.mono (by first | decide | omega)) (by rfl) T.m_Lpull T.F_Lpull.kp T.b_Lpull (da_cons (de_var 0 (pv 0)) (da_cons de_int da_nil)) (len_cons (len_cons len_nil))) de_int (nomark _)) (dss_one (ds_set (i := 2) sc_Lsome_compared.nd rfl (by first | exact .inl rfl | exact .inr rfl) (de_tup (da_cons de_str (da_cons (de_var 2 (pv 2)) (da_cons (de_call (ok_Lnear T) (hr.mono (by first | decide | omega)) (by rfl) T.m_Lnear T.F_Lnear.kp T.b_Lnear (da_cons (de_var 0 (pv 0)) da_nil) (len_cons len_nil)) da_nil)))))) dss_nil) (dss_one (ds_ret (de_tup (da_cons (de_call (ok_Lany T) (hr.mono (by first | decide | omega)) (by rfl) T.m_Lany T.F_Lany.kp T.b_Lany (da_cons (de_var 0 (pv 0)) (da_cons (de_lst (da_cons de_str (da_cons de_str (da_cons de_str (da_cons de_str da_nil))))) da_nil)) (len_cons (len_cons len_nil))) (da_cons (de_var 2 (pv 2)) (da_cons (de_call (ok_Lsome_value T) (hr.mono (by first | decide | omega)) (by rfl) T.m_Lsome_value T.F_Lsome_value.kp T.b_Lsome_value (da_cons (de_var 0 (pv 0)) (da_cons (de_var 1 (pv 1)) da_nil)) (len_cons (len_cons len_nil))) da_nil)))))))))
def B_Lsome_condition (R : FD) : FD := fnD N_Lsome_condition.length (kSeq (kAsg (mIf (mB (m2 oGt (mVar 2) (mC (.int 0)))) (mApp F_Lpull (mCons (mVar 0) (mCons (mC (.int 7)) mNil))) (mApp F_Lpull (mCons (mVar 0) (mCons (mC (.int 3)) mNil)))) (hName 3))
    (kSeq (kIf (mB (m2 oLt (mVar 3) (mC (.int 1)))) (kRet (mTup (mCons (mC (.str "true")) mNil))) kSkip)
    (kSeq (kIf (mB (m2 oLt (mVar 3) (mC (.int 4)))) (kRet (mApp F_Lsome_compared (mCons (mVar 0) (mCons (mVar 1) mNil)))) kSkip)
    (kSeq (kIf (mB (m2 gEq (mVar 3) (mC (.int 4)))) (kRet (mTup (mCons (mC (.str "not")) (mCons (mApp R (mCons (mVar 0) (mCons (mVar 1) (mCons (m2 gSub0 (mVar 2) (mC (.int 1))) mNil)))) mNil)))) kSkip)
    (kSeq (kAsg (mIf (mB (m2 gEq (mVar 3) (mC (.int 5)))) (mC (.str "and")) (mC (.str "or"))) (hName 4))
    (kRet (mTup (mCons (mVar 4) (mCons (mApp R (mCons (mVar 0) (mCons (mVar 1) (mCons (m2 gSub0 (mVar 2) (mC (.int 1))) mNil)))) (mCons (mApp R (mCons (mVar 0) (mCons (mVar 1) (mCons (m2 gSub0 (mVar 2) (mC (.int 1))) mNil)))) mNil))))))))))
def F_Lsome_condition : Nat → FD
  | 0 => fun _ _ => none
  | n + 1 => B_Lsome_condition (F_Lsome_condition n)
theorem step_Lsome_condition (T : Tx w K mg base) {k : Nat} {R : FD} (hk : 5 ≤ k) (ih : FnOk P w K mg base CX0 k T.f_Lsome_condition T.fd_Lsome_condition ["_law_bag", "_law_pool", "_law_deep"] (spD K 3 R)) : FnOk P w K mg base CX0 (k + 1) T.f_Lsome_condition T.fd_Lsome_condition ["_law_bag", "_law_pool", "_law_deep"] (spD K 3 (B_Lsome_condition R)) :=
  fn_ok T.F_Lsome_condition sc_Lsome_condition rfl fun cdv A outer s H E hr => (
    (dss_cons (ds_set (i := 3) sc_Lsome_condition.nd rfl (by first | exact .inl rfl | exact .inr rfl) (de_ifx (dt_cmp (op_gt.or op_gt_str) r2_gt (de_var 2 (pv 2)) de_int (nomark _)) (de_call (ok_Lpull T) (hr.mono (by omega)) (by rfl) T.m_Lpull T.F_Lpull.kp T.b_Lpull (da_cons (de_var 0 (pv 0)) (da_cons de_int da_nil)) (len_cons (len_cons len_nil))) (de_call (ok_Lpull T) (hr.mono (by omega)) (by rfl) T.m_Lpull T.F_Lpull.kp T.b_Lpull (da_cons (de_var 0 (pv 0)) (da_cons de_int da_nil)) (len_cons (len_cons len_nil))))) (dss_cons (ds_if (dt_cmp (op_lt.or op_lt_str) r2_lt (de_var 3 (pv 3)) de_int (nomark _)) (dss_one (ds_ret (de_tup (da_cons de_str da_nil)))) dss_nil) (dss_cons (ds_if (dt_cmp (op_lt.or op_lt_str) r2_lt (de_var 3 (pv 3)) de_int (nomark _)) (dss_one (ds_ret (de_call (ok_Lsome_compared T) (hr.mono (by omega)) (by rfl) T.m_Lsome_compared T.F_Lsome_compared.kp T.b_Lsome_compared (da_cons (de_var 0 (pv 0)) (da_cons (de_var 1 (pv 1)) da_nil)) (len_cons (len_cons len_nil))))) dss_nil) (dss_cons (ds_if (dt_cmp (op_eqD hr.units) r2_eq (de_var 3 (pv 3)) de_int (nomark _)) (dss_one (ds_ret (de_tup (da_cons de_str (da_cons (de_call ih (hr.mono (by omega)) (by rfl) T.m_Lsome_condition T.F_Lsome_condition.kp T.b_Lsome_condition (da_cons (de_var 0 (pv 0)) (da_cons (de_var 1 (pv 1)) (da_cons (de_sub (de_var 2 (pv 2)) de_int) da_nil))) (len_cons (len_cons (len_cons len_nil)))) da_nil))))) dss_nil) (dss_cons (ds_set (i := 4) sc_Lsome_condition.nd rfl (by first | exact .inl rfl | exact .inr rfl) (de_ifx (dt_cmp (op_eqD hr.units) r2_eq (de_var 3 (pv 3)) de_int (nomark _)) de_str de_str)) (dss_one (ds_ret (de_tup (da_cons (de_var 4 (pv 4)) (da_cons (de_call ih (hr.mono (by omega)) (by rfl) T.m_Lsome_condition T.F_Lsome_condition.kp T.b_Lsome_condition (da_cons (de_var 0 (pv 0)) (da_cons (de_var 1 (pv 1)) (da_cons (de_sub (de_var 2 (pv 2)) de_int) da_nil))) (len_cons (len_cons (len_cons len_nil)))) (da_cons (de_call ih (hr.mono (by omega)) (by rfl) T.m_Lsome_condition T.F_Lsome_condition.kp T.b_Lsome_condition (da_cons (de_var 0 (pv 0)) (da_cons (de_var 1 (pv 1)) (da_cons (de_sub (de_var 2 (pv 2)) de_int) da_nil))) (len_cons (len_cons (len_cons len_nil)))) da_nil))))))))))))
theorem ok_Lsome_condition (T : Tx w K mg base) : ∀ n : Nat, FnOk P w K mg base CX0 (5 + n) T.f_Lsome_condition T.fd_Lsome_condition ["_law_bag", "_law_pool", "_law_deep"] (spD K 3 (F_Lsome_condition n))
  | 0 => fn_none
  | n + 1 => step_Lsome_condition T (Nat.le_add_right _ _) (ok_Lsome_condition T n)
def F_Lhalves : FD := fnD N_Lhalves.length (kRet (mComp [2] (wRng1 (mCons (mCall gLen (mCons (mVar 0) mNil)) mNil)) (hName 2) (mB (m2 gEq (mSl (mVar 0) (mPart (mVar 2)) (mPart (m2 gAdd (mVar 2) (mCall gLen (mCons (mVar 1) mNil))))) (mVar 1))) (mTup (mCons (mSl (mVar 0) mNoP (mPart (mVar 2))) (mCons (mSl (mVar 0) (mPart (m2 gAdd (mVar 2) (mCall gLen (mCons (mVar 1) mNil)))) mNoP) mNil)))))
theorem ok_Lhalves (T : Tx w K mg base) : FnOk P w K mg base CX0 1 T.f_Lhalves T.fd_Lhalves ["_law_text", "_law_word"] (spD K 2 F_Lhalves) :=
  fn_ok T.F_Lhalves sc_Lhalves rfl fun cdv A outer s H E hr => (
    (dss_one (ds_ret (de_comp (own := [("_law_k", 2)]) rfl sc_Lhalves.nd (di_rng1 (by rfl) T.n_range (da_cons (de_callB call_len ok_len (by rfl) T.n_len (by decide +kernel) (da_cons (de_var 0 (pv 0)) da_nil)) da_nil)) (blkOk_by (own := [("_law_k", 2)]) (N := N_Lhalves) (sc := defScope s_Lhalves) (by decide +kernel)) (fun _ _ _ _ _ => (dg_name (i := 2) sc_Lhalves.nd rfl (by first | exact .inl rfl | exact .inr rfl))) (fun _ _ _ _ _ => (dts_one (dt_cmp (op_eqD hr.units) r2_eq (de_sl (de_var 0 (pv 0)) (do_some (de_var 2 (pv 2))) (do_some (de_add (de_var 2 (pv 2)) (de_callB call_len ok_len (by rfl) T.n_len (by decide +kernel) (da_cons (de_var 1 (pv 1)) da_nil))))) (de_var 1 (pv 1)) (nomark _)))) (fun _ _ _ _ _ => (de_tup (da_cons (de_sl (de_var 0 (pv 0)) do_none (do_some (de_var 2 (pv 2)))) (da_cons (de_sl (de_var 0 (pv 0)) (do_some (de_add (de_var 2 (pv 2)) (de_callB call_len ok_len (by rfl) T.n_len (by decide +kernel) (da_cons (de_var 1 (pv 1)) da_nil)))) do_none) da_nil)))) (by decide)))))
open DX in
def FX_read_value : DX.FDX := DX.fnDX N_read_value.length (kSeqX (kIfX (mNotB (mB (mIsi isStr (mVar 0)))) (kRaise "InvalidText") (kVal kSkip))
    (kSeqX (kVal (kAsg (mM1 gSplit (mVar 0) (mC (.str " "))) (hName 1)))
    (kSeqX (kVal (kAsg (mApp F_read_single_ (mCons (m2 gIx (mVar 1) (mC (.int 0))) mNil)) (hName 2)))
    (kSeqX (kVal (kIf (mB (m2 gEq (mCall gLen (mCons (mVar 1) mNil)) (mC (.int 3)))) (kAsg (mTup (mCons (mC (.str "plus")) (mCons (mVar 2) (mCons (mApp F_read_signed_ (mCons (m2 gIx (mVar 1) (mC (.int 1))) (mCons (m2 gIx (mVar 1) (mC (.int 2))) mNil))) mNil)))) (hName 2)) kSkip))
    (kSeqX (kIfX (mOrB (mB (m2 gNin (mCall gLen (mCons (mVar 1) mNil)) (mTup (mCons (mC (.int 1)) (mCons (mC (.int 3)) mNil))))) (mNotB (mB (mApp F_is_value (mCons (mVar 2) mNil))))) (kRaise "InvalidText") (kVal kSkip))
    (kVal (kRet (mVar 2))))))))
theorem okX_read_value (T : Tx w K mg base) : FnOk P w K mg base (L2.CX P w) 5 T.f_read_value T.fd_read_value ["text"] (DX.spX K 1 FX_read_value) :=
  DX.fnx_ok T.F_read_value sc_read_value rfl fun cdv A outer s H E hr tk => (
    open DX in (dssx_cons (dsx_if (dt_not (dt_val (de_isi kit_str (by rfl) T.n_isinstance (by decide +kernel) (de_var 0 (pv 0)) (by rfl) T.n_str (by decide +kernel)))) (dssx_one (dsx_raiseK T.E_InvalidText tk (hr.mono (by first | decide | omega)) (ok_init (k := 0) T.F_init sc_init rfl (Or.inl rfl) fun _ => rfl) T.b_init (by rfl))) dssx_nil) (dssx_cons (dsx_val (ds_set (i := 1) sc_read_value.nd rfl (by first | exact .inl rfl | exact .inr rfl) (de_split (de_var 0 (pv 0)) de_str))) (dssx_cons (dsx_val (ds_set (i := 2) sc_read_value.nd rfl (by first | exact .inl rfl | exact .inr rfl) (de_call (ok_read_single_ T) (hr.mono (by first | decide | omega)) (by rfl) T.m_read_single_ T.F_read_single_.kp T.b_read_single_ (da_cons (de_ix (de_var 1 (pv 1)) de_int) da_nil) (len_cons len_nil)))) (dssx_cons (dsx_val (ds_if (dt_cmp (op_eqD hr.units) r2_eq (de_callB call_len ok_len (by rfl) T.n_len (by decide +kernel) (da_cons (de_var 1 (pv 1)) da_nil)) de_int (nomark _)) (dss_one (ds_set (i := 2) sc_read_value.nd rfl (by first | exact .inl rfl | exact .inr rfl) (de_tup (da_cons de_str (da_cons (de_var 2 (pv 2)) (da_cons (de_call (ok_read_signed_ T) (hr.mono (by first | decide | omega)) (by rfl) T.m_read_signed_ T.F_read_signed_.kp T.b_read_signed_ (da_cons (de_ix (de_var 1 (pv 1)) de_int) (da_cons (de_ix (de_var 1 (pv 1)) de_int) da_nil)) (len_cons (len_cons len_nil))) da_nil)))))) dss_nil)) (dssx_cons (dsx_if (DW.dt (dw_or (dt_cmp (op_notin_str.or op_notIn_seq) r2_nin (de_callB call_len ok_len (by rfl) T.n_len (by decide +kernel) (da_cons (de_var 1 (pv 1)) da_nil)) (de_tup (da_cons de_int (da_cons de_int da_nil))) (by rfl)) (dw_or1 (dt_not (dt_val (de_call (ok_is_value T) (hr.mono (by first | decide | omega)) (by rfl) T.m_is_value T.F_is_value.kp T.b_is_value (da_cons (de_var 2 (pv 2)) da_nil) (len_cons len_nil))))))) (dssx_one (dsx_raiseK T.E_InvalidText tk (hr.mono (by first | decide | omega)) (ok_init (k := 0) T.F_init sc_init rfl (Or.inl rfl) fun _ => rfl) T.b_init (by rfl))) dssx_nil) (dssx_one (dsx_val (ds_ret (de_var 2 (pv 2)))))))))))
open DX in
def FX_read_operand_ : DX.FDX := DX.fnDX N_read_operand_.length (kSeqX (kVal (kAsg (mIf (mB (m2 gIn (mApp F_word_ (mCons (mVar 0) (mCons (m2 gAdd (mVar 1) (mC (.int 1))) mNil))) (mTup (mCons (mC (.str "+")) (mCons (mC (.str "-")) mNil))))) (mC (.int 3)) (mC (.int 1))) (hName 2)))
    (kRetX (mTupX (mConsX (mAppX FX_read_value (mCons (mM1 gJoin (mC (.str " ")) (mSl (mVar 0) (mPart (mVar 1)) (mPart (m2 gAdd (mVar 1) (mVar 2))))) mNil)) (mValA (mCons (m2 gAdd (mVar 1) (mVar 2)) mNil))))))
theorem okX_read_operand_ (T : Tx w K mg base) : FnOk P w K mg base (L2.CX P w) 6 T.f_read_operand_ T.fd_read_operand_ ["words", "at"] (DX.spX K 2 FX_read_operand_) :=
  DX.fnx_ok T.F_read_operand_ sc_read_operand_ rfl fun cdv A outer s H E hr tk => (
    open DX in (dssx_cons (dsx_val (ds_set (i := 2) sc_read_operand_.nd rfl (by first | exact .inl rfl | exact .inr rfl) (de_ifx (dt_cmp (op_in_str.or op_in_seq) r2_in (de_call (ok_word_ T) (hr.mono (by first | decide | omega)) (by rfl) T.m_word_ T.F_word_.kp T.b_word_ (da_cons (de_var 0 (pv 0)) (da_cons (de_add (de_var 1 (pv 1)) de_int) da_nil)) (len_cons (len_cons len_nil))) (de_tup (da_cons de_str (da_cons de_str da_nil))) (by rfl)) de_int de_int))) (dssx_one (dsx_ret (dex_tup (dax_cons (dex_call (okX_read_value T) (hr.mono (by first | decide | omega)) (by rfl) T.m_read_value T.F_read_value.kp T.b_read_value tk (da_cons (de_join de_str (de_sl (de_var 0 (pv 0)) (do_some (de_var 1 (pv 1))) (do_some (de_add (de_var 1 (pv 1)) (de_var 2 (pv 2)))))) da_nil) (len_cons len_nil)) (dax_of (da_cons (de_add (de_var 1 (pv 1)) (de_var 2 (pv 2))) da_nil))))))))
open DX in
def FX_read_comparison_ : DX.FDX := DX.fnDX N_read_comparison_.length (kSeqX (kAsgG (mAppX FX_read_operand_ (mCons (mVar 0) (mCons (mVar 1) mNil))) (hTup 2 (hCons (hName 3) (hCons (hName 4) hNil))))
    (kSeqX (kVal (kAsg (mApp F_word_ (mCons (mVar 0) (mCons (mVar 4) mNil))) (hName 2)))
    (kSeqX (kIfX (mB (mKNin t_FORMS (mVar 2))) (kRaise "InvalidText") (kVal kSkip))
    (kSeqX (kAsgG (mAppX FX_read_operand_ (mCons (mVar 0) (mCons (m2 gAdd (mVar 4) (mC (.int 1))) mNil))) (hTup 2 (hCons (hName 5) (hCons (hName 6) hNil))))
    (kVal (kRet (mTup (mCons (mTup (mCons (mKIx t_FORMS (mVar 2)) (mCons (mVar 3) (mCons (mVar 5) mNil)))) (mCons (mVar 6) mNil)))))))))
theorem okX_read_comparison_ (T : Tx w K mg base) : FnOk P w K mg base (L2.CX P w) 7 T.f_read_comparison_ T.fd_read_comparison_ ["words", "at"] (DX.spX K 2 FX_read_comparison_) :=
  DX.fnx_ok T.F_read_comparison_ sc_read_comparison_ rfl fun cdv A outer s H E hr tk => (
    open DX in (dssx_cons (dsx_asg (dex_call (okX_read_operand_ T) (hr.mono (by first | decide | omega)) (by rfl) T.m_read_operand_ T.F_read_operand_.kp T.b_read_operand_ tk (da_cons (de_var 0 (pv 0)) (da_cons (de_var 1 (pv 1)) da_nil)) (len_cons (len_cons len_nil))) (dg_tup rfl (dgs_cons (dg_name (i := 3) sc_read_comparison_.nd rfl (by first | exact .inl rfl | exact .inr rfl)) (dgs_cons (dg_name (i := 4) sc_read_comparison_.nd rfl (by first | exact .inl rfl | exact .inr rfl)) dgs_nil)))) (dssx_cons (dsx_val (ds_set (i := 2) sc_read_comparison_.nd rfl (by first | exact .inl rfl | exact .inr rfl) (de_call (ok_word_ T) (hr.mono (by first | decide | omega)) (by rfl) T.m_word_ T.F_word_.kp T.b_word_ (da_cons (de_var 0 (pv 0)) (da_cons (de_var 4 (pv 4)) da_nil)) (len_cons (len_cons len_nil))))) (dssx_cons (dsx_if (dt_knin T.k_FORMS (by rfl) T.g_FORMS (de_var 2 (pv 2))) (dssx_one (dsx_raiseK T.E_InvalidText tk (hr.mono (by first | decide | omega)) (ok_init (k := 0) T.F_init sc_init rfl (Or.inl rfl) fun _ => rfl) T.b_init (by rfl))) dssx_nil) (dssx_cons (dsx_asg (dex_call (okX_read_operand_ T) (hr.mono (by first | decide | omega)) (by rfl) T.m_read_operand_ T.F_read_operand_.kp T.b_read_operand_ tk (da_cons (de_var 0 (pv 0)) (da_cons (de_add (de_var 4 (pv 4)) de_int) da_nil)) (len_cons (len_cons len_nil))) (dg_tup rfl (dgs_cons (dg_name (i := 5) sc_read_comparison_.nd rfl (by first | exact .inl rfl | exact .inr rfl)) (dgs_cons (dg_name (i := 6) sc_read_comparison_.nd rfl (by first | exact .inl rfl | exact .inr rfl)) dgs_nil)))) (dssx_one (dsx_val (ds_ret (de_tup (da_cons (de_tup (da_cons (de_kix T.k_FORMS (by rfl) T.g_FORMS (de_var 2 (pv 2))) (da_cons (de_var 3 (pv 3)) (da_cons (de_var 5 (pv 5)) da_nil)))) (da_cons (de_var 6 (pv 6)) da_nil)))))))))))
open DX in
def FX_read_found_ : DX.FDX := DX.fnDX N_read_found_.length (kSeqX (kVal (kAsg (mApp F_word_ (mCons (mVar 0) (mCons (mVar 1) mNil))) (hName 2)))
    (kSeqX (kIfX (mNotB (mB (mApp F_is_name (mCons (mVar 2) mNil)))) (kRaise "InvalidText") (kVal kSkip))
    (kVal (kRet (mTup (mCons (mTup (mCons (mC (.str "found")) (mCons (mVar 2) mNil))) (mCons (m2 gAdd (mVar 1) (mC (.int 1))) mNil)))))))
theorem okX_read_found_ (T : Tx w K mg base) : FnOk P w K mg base (L2.CX P w) 3 T.f_read_found_ T.fd_read_found_ ["words", "at"] (DX.spX K 2 FX_read_found_) :=
  DX.fnx_ok T.F_read_found_ sc_read_found_ rfl fun cdv A outer s H E hr tk => (
    open DX in (dssx_cons (dsx_val (ds_set (i := 2) sc_read_found_.nd rfl (by first | exact .inl rfl | exact .inr rfl) (de_call (ok_word_ T) (hr.mono (by first | decide | omega)) (by rfl) T.m_word_ T.F_word_.kp T.b_word_ (da_cons (de_var 0 (pv 0)) (da_cons (de_var 1 (pv 1)) da_nil)) (len_cons (len_cons len_nil))))) (dssx_cons (dsx_if (dt_not (dt_val (de_call (ok_is_name T) (hr.mono (by first | decide | omega)) (by rfl) T.m_is_name T.F_is_name.kp T.b_is_name (da_cons (de_var 2 (pv 2)) da_nil) (len_cons len_nil)))) (dssx_one (dsx_raiseK T.E_InvalidText tk (hr.mono (by first | decide | omega)) (ok_init (k := 0) T.F_init sc_init rfl (Or.inl rfl) fun _ => rfl) T.b_init (by rfl))) dssx_nil) (dssx_one (dsx_val (ds_ret (de_tup (da_cons (de_tup (da_cons de_str (da_cons (de_var 2 (pv 2)) da_nil))) (da_cons (de_add (de_var 1 (pv 1)) de_int) da_nil)))))))))
open DX in
def BX_read_joined_ (R : DX.FDX) : DX.FDX := DX.fnDX N_read_joined_.length (kSeqX (kAsgG (mAppX R (mCons (mVar 0) (mCons (mVar 1) (mCons (mVar 2) mNil)))) (hTup 2 (hCons (hName 4) (hCons (hName 5) hNil))))
    (kSeqX (kVal (kAsg (mApp F_word_ (mCons (mVar 0) (mCons (mVar 5) mNil))) (hName 3)))
    (kSeqX (kIfX (mB (m2 gNin (mVar 3) (mTup (mCons (mC (.str "and")) (mCons (mC (.str "or")) mNil))))) (kRaise "InvalidText") (kVal kSkip))
    (kSeqX (kAsgG (mAppX R (mCons (mVar 0) (mCons (m2 gAdd (mVar 5) (mC (.int 1))) (mCons (mVar 2) mNil)))) (hTup 2 (hCons (hName 6) (hCons (hName 7) hNil))))
    (kSeqX (kIfX (mB (m2 gNe (mApp F_word_ (mCons (mVar 0) (mCons (mVar 7) mNil))) (mC (.str ")")))) (kRaise "InvalidText") (kVal kSkip))
    (kVal (kRet (mTup (mCons (mTup (mCons (mVar 3) (mCons (mVar 4) (mCons (mVar 6) mNil)))) (mCons (m2 gAdd (mVar 7) (mC (.int 1))) mNil))))))))))
theorem stepX_read_joined_ (T : Tx w K mg base) {k : Nat} {R : DX.FDX} (hk : 2 ≤ k) (ih : FnOk P w K mg base (L2.CX P w) k T.f_read_part_ T.fd_read_part_ ["words", "at", "depth"] (DX.spX K 3 R)) : FnOk P w K mg base (L2.CX P w) (k + 1) T.f_read_joined_ T.fd_read_joined_ ["words", "at", "depth"] (DX.spX K 3 (BX_read_joined_ R)) :=
  DX.fnx_ok T.F_read_joined_ sc_read_joined_ rfl fun cdv A outer s H E hr tk => (
    open DX in (dssx_cons (dsx_asg (dex_call ih (hr.mono (by omega)) (by rfl) T.m_read_part_ T.F_read_part_.kp T.b_read_part_ tk (da_cons (de_var 0 (pv 0)) (da_cons (de_var 1 (pv 1)) (da_cons (de_var 2 (pv 2)) da_nil))) (len_cons (len_cons (len_cons len_nil)))) (dg_tup rfl (dgs_cons (dg_name (i := 4) sc_read_joined_.nd rfl (by first | exact .inl rfl | exact .inr rfl)) (dgs_cons (dg_name (i := 5) sc_read_joined_.nd rfl (by first | exact .inl rfl | exact .inr rfl)) dgs_nil)))) (dssx_cons (dsx_val (ds_set (i := 3) sc_read_joined_.nd rfl (by first | exact .inl rfl | exact .inr rfl) (de_call (ok_word_ T) (hr.mono (by omega)) (by rfl) T.m_word_ T.F_word_.kp T.b_word_ (da_cons (de_var 0 (pv 0)) (da_cons (de_var 5 (pv 5)) da_nil)) (len_cons (len_cons len_nil))))) (dssx_cons (dsx_if (dt_cmp (op_notin_str.or op_notIn_seq) r2_nin (de_var 3 (pv 3)) (de_tup (da_cons de_str (da_cons de_str da_nil))) (by rfl)) (dssx_one (dsx_raiseK T.E_InvalidText tk (hr.mono (by omega)) (ok_init (k := 0) T.F_init sc_init rfl (Or.inl rfl) fun _ => rfl) T.b_init (by rfl))) dssx_nil) (dssx_cons (dsx_asg (dex_call ih (hr.mono (by omega)) (by rfl) T.m_read_part_ T.F_read_part_.kp T.b_read_part_ tk (da_cons (de_var 0 (pv 0)) (da_cons (de_add (de_var 5 (pv 5)) de_int) (da_cons (de_var 2 (pv 2)) da_nil))) (len_cons (len_cons (len_cons len_nil)))) (dg_tup rfl (dgs_cons (dg_name (i := 6) sc_read_joined_.nd rfl (by first | exact .inl rfl | exact .inr rfl)) (dgs_cons (dg_name (i := 7) sc_read_joined_.nd rfl (by first | exact .inl rfl | exact .inr rfl)) dgs_nil)))) (dssx_cons (dsx_if (dt_cmp (op_neD hr.units) r2_ne (de_call (ok_word_ T) (hr.mono (by omega)) (by rfl) T.m_word_ T.F_word_.kp T.b_word_ (da_cons (de_var 0 (pv 0)) (da_cons (de_var 7 (pv 7)) da_nil)) (len_cons (len_cons len_nil))) de_str (nomark _)) (dssx_one (dsx_raiseK T.E_InvalidText tk (hr.mono (by omega)) (ok_init (k := 0) T.F_init sc_init rfl (Or.inl rfl) fun _ => rfl) T.b_init (by rfl))) dssx_nil) (dssx_one (dsx_val (ds_ret (de_tup (da_cons (de_tup (da_cons (de_var 3 (pv 3)) (da_cons (de_var 4 (pv 4)) (da_cons (de_var 6 (pv 6)) da_nil)))) (da_cons (de_add (de_var 7 (pv 7)) de_int) da_nil))))))))))))
open DX in
def BX_read_part_ (R : DX.FDX) : DX.FDX := DX.fnDX N_read_part_.length (kSeqX (kIfX (mB (m2 oGt (mVar 2) (mC c_DEEPEST))) (kRaise "InvalidText") (kVal kSkip))
    (kSeqX (kVal (kAsg (mApp F_word_ (mCons (mVar 0) (mCons (mVar 1) mNil))) (hName 3)))
    (kSeqX (kVal (kIf (mB (m2 gEq (mVar 3) (mC (.str "true")))) (kRet (mTup (mCons (mTup (mCons (mC (.str "true")) mNil)) (mCons (m2 gAdd (mVar 1) (mC (.int 1))) mNil)))) kSkip))
    (kSeqX (kIfX (mB (m2 gEq (mVar 3) (mC (.str "found")))) (kRetX (mAppX FX_read_found_ (mCons (mVar 0) (mCons (m2 gAdd (mVar 1) (mC (.int 1))) mNil)))) (kVal kSkip))
    (kSeqX (kIfX (mB (m2 gEq (mVar 3) (mC (.str "not")))) (kSeqX (kAsgG (mAppX R (mCons (mVar 0) (mCons (m2 gAdd (mVar 1) (mC (.int 1))) (mCons (m2 gAdd (mVar 2) (mC (.int 1))) mNil)))) (hTup 2 (hCons (hName 4) (hCons (hName 5) hNil))))
    (kVal (kRet (mTup (mCons (mTup (mCons (mC (.str "not")) (mCons (mVar 4) mNil))) (mCons (mVar 5) mNil)))))) (kVal kSkip))
    (kSeqX (kIfX (mB (m2 gEq (mVar 3) (mC (.str "(")))) (kRetX (mAppX (BX_read_joined_ R) (mCons (mVar 0) (mCons (m2 gAdd (mVar 1) (mC (.int 1))) (mCons (m2 gAdd (mVar 2) (mC (.int 1))) mNil))))) (kVal kSkip))
    (kRetX (mAppX FX_read_comparison_ (mCons (mVar 0) (mCons (mVar 1) mNil))))))))))
def FX_read_part_ : Nat → DX.FDX
  | 0 => fun _ _ => none
  | n + 1 => BX_read_part_ (FX_read_part_ n)
theorem stepX_read_part_ (T : Tx w K mg base) {k : Nat} {R : DX.FDX} (hk : 7 ≤ k) (ih : FnOk P w K mg base (L2.CX P w) k T.f_read_part_ T.fd_read_part_ ["words", "at", "depth"] (DX.spX K 3 R)) : FnOk P w K mg base (L2.CX P w) (k + 2) T.f_read_part_ T.fd_read_part_ ["words", "at", "depth"] (DX.spX K 3 (BX_read_part_ R)) :=
  DX.fnx_ok T.F_read_part_ sc_read_part_ rfl fun cdv A outer s H E hr tk => (
    open DX in (dssx_cons (dsx_if (dt_cmp (op_gt.or op_gt_str) r2_gt (de_var 2 (pv 2)) (T.e_DEEPEST rfl rfl (by rfl)) (nomark _)) (dssx_one (dsx_raiseK T.E_InvalidText tk (hr.mono (by omega)) (ok_init (k := 0) T.F_init sc_init rfl (Or.inl rfl) fun _ => rfl) T.b_init (by rfl))) dssx_nil) (dssx_cons (dsx_val (ds_set (i := 3) sc_read_part_.nd rfl (by first | exact .inl rfl | exact .inr rfl) (de_call (ok_word_ T) (hr.mono (by omega)) (by rfl) T.m_word_ T.F_word_.kp T.b_word_ (da_cons (de_var 0 (pv 0)) (da_cons (de_var 1 (pv 1)) da_nil)) (len_cons (len_cons len_nil))))) (dssx_cons (dsx_val (ds_if (dt_cmp (op_eqD hr.units) r2_eq (de_var 3 (pv 3)) de_str (nomark _)) (dss_one (ds_ret (de_tup (da_cons (de_tup (da_cons de_str da_nil)) (da_cons (de_add (de_var 1 (pv 1)) de_int) da_nil))))) dss_nil)) (dssx_cons (dsx_if (dt_cmp (op_eqD hr.units) r2_eq (de_var 3 (pv 3)) de_str (nomark _)) (dssx_one (dsx_ret (dex_call (okX_read_found_ T) (hr.mono (by omega)) (by rfl) T.m_read_found_ T.F_read_found_.kp T.b_read_found_ tk (da_cons (de_var 0 (pv 0)) (da_cons (de_add (de_var 1 (pv 1)) de_int) da_nil)) (len_cons (len_cons len_nil))))) dssx_nil) (dssx_cons (dsx_if (dt_cmp (op_eqD hr.units) r2_eq (de_var 3 (pv 3)) de_str (nomark _)) (dssx_cons (dsx_asg (dex_call ih (hr.mono (by omega)) (by rfl) T.m_read_part_ T.F_read_part_.kp T.b_read_part_ tk (da_cons (de_var 0 (pv 0)) (da_cons (de_add (de_var 1 (pv 1)) de_int) (da_cons (de_add (de_var 2 (pv 2)) de_int) da_nil))) (len_cons (len_cons (len_cons len_nil)))) (dg_tup rfl (dgs_cons (dg_name (i := 4) sc_read_part_.nd rfl (by first | exact .inl rfl | exact .inr rfl)) (dgs_cons (dg_name (i := 5) sc_read_part_.nd rfl (by first | exact .inl rfl | exact .inr rfl)) dgs_nil)))) (dssx_one (dsx_val (ds_ret (de_tup (da_cons (de_tup (da_cons de_str (da_cons (de_var 4 (pv 4)) da_nil))) (da_cons (de_var 5 (pv 5)) da_nil))))))) dssx_nil) (dssx_cons (dsx_if (dt_cmp (op_eqD hr.units) r2_eq (de_var 3 (pv 3)) de_str (nomark _)) (dssx_one (dsx_ret (dex_call (stepX_read_joined_ T (by omega) ih) (hr.mono (by omega)) (by rfl) T.m_read_joined_ T.F_read_joined_.kp T.b_read_joined_ tk (da_cons (de_var 0 (pv 0)) (da_cons (de_add (de_var 1 (pv 1)) de_int) (da_cons (de_add (de_var 2 (pv 2)) de_int) da_nil))) (len_cons (len_cons (len_cons len_nil)))))) dssx_nil) (dssx_one (dsx_ret (dex_call (okX_read_comparison_ T) (hr.mono (by omega)) (by rfl) T.m_read_comparison_ T.F_read_comparison_.kp T.b_read_comparison_ tk (da_cons (de_var 0 (pv 0)) (da_cons (de_var 1 (pv 1)) da_nil)) (len_cons (len_cons len_nil))))))))))))
theorem okX_read_part_ (T : Tx w K mg base) : ∀ n : Nat, FnOk P w K mg base (L2.CX P w) (7 + 2 * n) T.f_read_part_ T.fd_read_part_ ["words", "at", "depth"] (DX.spX K 3 (FX_read_part_ n))
  | 0 => DX.fnx_none
  | n + 1 => stepX_read_part_ T (Nat.le_add_right _ _) (okX_read_part_ T n)
open DX in
def FX_read_condition : DX.FDX := DX.fnDX N_read_condition.length (kSeqX (kIfX (mNotB (mB (mIsi isStr (mVar 0)))) (kRaise "InvalidText") (kVal kSkip))
    (kSeqX (kVal (kAsg (mM1 gSplit (mRepC ")" " )" (mRepC "(" "( " (mVar 0))) (mC (.str " "))) (hName 1)))
    (kSeqX (kAsgG (mAppX (FX_read_part_ 8) (mCons (mVar 1) (mCons (mC (.int 0)) (mCons (mC (.int 1)) mNil)))) (hTup 2 (hCons (hName 2) (hCons (hName 3) hNil))))
    (kSeqX (kIfX (mB (m2 gNe (mVar 3) (mCall gLen (mCons (mVar 1) mNil)))) (kRaise "InvalidText") (kVal kSkip))
    (kVal (kRet (mVar 2)))))))
theorem okX_read_condition (T : Tx w K mg base) : FnOk P w K mg base (L2.CX P w) 25 T.f_read_condition T.fd_read_condition ["text"] (DX.spX K 1 FX_read_condition) :=
  DX.fnx_okT T.F_read_condition sc_read_condition (by decide +kernel) (by decide) rfl fun cdv A outer s H E hr tk => (
    open DX in (dssxT_cons (dsx_if (dt_not (dt_val (de_isi kit_str (by rfl) T.n_isinstance (by decide +kernel) (de_var 0 (pv 0)) (by rfl) T.n_str (by decide +kernel)))) (dssx_one (dsx_raiseK T.E_InvalidText tk (hr.mono (by first | decide | omega)) (ok_init (k := 0) T.F_init sc_init rfl (Or.inl rfl) fun _ => rfl) T.b_init (by rfl))) dssx_nil) (dssxT_set (i := 1) sc_read_condition.nd rfl (by first | exact .inl rfl | exact .inr rfl) (det_split (det_replace (det_replace (det_of (de_var 0 (pv 0))))) de_str) (dssxT_of (dssx_cons (dsx_asg (dex_call (okX_read_part_ T 8) (hr.mono (by first | decide | omega)) (by rfl) T.m_read_part_ T.F_read_part_.kp T.b_read_part_ tk (da_cons (de_var 1 (pv 1)) (da_cons de_int (da_cons de_int da_nil))) (len_cons (len_cons (len_cons len_nil)))) (dg_tup rfl (dgs_cons (dg_name (i := 2) sc_read_condition.nd rfl (by first | exact .inl rfl | exact .inr rfl)) (dgs_cons (dg_name (i := 3) sc_read_condition.nd rfl (by first | exact .inl rfl | exact .inr rfl)) dgs_nil)))) (dssx_cons (dsx_if (dt_cmp (op_neD hr.units) r2_ne (de_var 3 (pv 3)) (de_callB call_len ok_len (by rfl) T.n_len (by decide +kernel) (da_cons (de_var 1 (pv 1)) da_nil)) (nomark _)) (dssx_one (dsx_raiseK T.E_InvalidText tk (hr.mono (by first | decide | omega)) (ok_init (k := 0) T.F_init sc_init rfl (Or.inl rfl) fun _ => rfl) T.b_init (by rfl))) dssx_nil) (dssx_one (dsx_val (ds_ret (de_var 2 (pv 2)))))))))))
def F_Lgood_value : FD := fnD N_Lgood_value.length (kRet (m2 gEq (m2 gIx (mTry "" (mAppX FX_read_value (mCons (mVar 0) mNil))) (mC (.int 0))) (mC (.str ""))))
theorem ok_Lgood_value (T : Tx w K mg base) : FnOk P w K mg base CX0 8 T.f_Lgood_value T.fd_Lgood_value ["_law_text"] (spD K 1 F_Lgood_value) :=
  DX.fn_okC T.C_Lgood_value sc_Lgood_value rfl fun A outer s H E hr => (
    (dss_one (ds_ret (de_cmp (op_eqD hr.units) r2_eq (de_ix (de_tryF (k := 5) (e0 := "") T.F_Ltry sc_Ltry T.y_T1 T.y_T2 T.y_T3 (by rfl) T.m_Ltry T.b_Ltry rfl (by first | exact Or.inl rfl | exact Or.inr (Or.inl rfl)) (fun cdv => try_ok (k := 0) T rfl rfl rfl rfl rfl (hr.mono (by first | decide | omega)) cdv) T.i_Lgood_value T.B_Lgood_value rfl (hr.mono (by first | decide | omega)) (show LamX.LamS (defScope s_Lgood_value) _ from LamX.lamS_by (by decide +kernel)) rfl (fun _ _ _ _ _ => rfl) (fun A outer s H E fa c' hr tk => (dex_call (okX_read_value T) (hr.mono (by first | decide | omega)) (by rfl) T.m_read_value T.F_read_value.kp T.b_read_value tk (da_cons (de_var 0 (pv 0)) da_nil) (len_cons len_nil)))) de_int) de_str (nomark _)))))
def B_Lgood (R : FD) : FD := fnD N_Lgood.length (kSeq (kIf (mB (m2 oGt (mVar 1) (mC (.int 6)))) (kRet (mC (.bl false))) kSkip)
    (kSeq (kIf (mB (m2 gEq (mVar 0) (mC (.str "true")))) (kRet (mC (.bl true))) kSkip)
    (kSeq (kIf (mB (m2 gEq (mSl (mVar 0) mNoP (mPart (mC (.int 4)))) (mC (.str "not ")))) (kRet (mApp R (mCons (mSl (mVar 0) (mPart (mC (.int 4))) mNoP) (mCons (m2 gAdd (mVar 1) (mC (.int 1))) mNil)))) kSkip)
    (kSeq (kIf (mB (m2 gEq (mSl (mVar 0) mNoP (mPart (mC (.int 6)))) (mC (.str "found ")))) (kRet (mApp F_Lis_name (mCons (mSl (mVar 0) (mPart (mC (.int 6))) mNoP) mNil))) kSkip)
    (kSeq (kIf (mAndB (mB (m2 gEq (mSl (mVar 0) mNoP (mPart (mC (.int 1)))) (mC (.str "(")))) (mB (m2 gEq (mSl (mVar 0) (mPart (m2 gSub0 (mCall gLen (mCons (mVar 0) mNil)) (mC (.int 1)))) mNoP) (mC (.str ")"))))) (kSeq (kAsg (m2 gAdd (mApp F_Lhalves (mCons (mSl (mVar 0) (mPart (mC (.int 1))) (mPart (m2 gSub0 (mCall gLen (mCons (mVar 0) mNil)) (mC (.int 1))))) (mCons (mC (.str " and ")) mNil))) (mApp F_Lhalves (mCons (mSl (mVar 0) (mPart (mC (.int 1))) (mPart (m2 gSub0 (mCall gLen (mCons (mVar 0) mNil)) (mC (.int 1))))) (mCons (mC (.str " or ")) mNil)))) (hName 2))
    (kSeq (kAsg (mComp [4] (wLst (mVar 2)) (hName 4) (mAndB (mB (m2 gEq (mM1 gCount (m2 gIx (mVar 4) (mC (.int 0))) (mC (.str "("))) (mM1 gCount (m2 gIx (mVar 4) (mC (.int 0))) (mC (.str ")"))))) (mB (m2 gEq (mM1 gCount (m2 gIx (mVar 4) (mC (.int 1))) (mC (.str "("))) (mM1 gCount (m2 gIx (mVar 4) (mC (.int 1))) (mC (.str ")")))))) (mVar 4)) (hName 3))
    (kRet (mCall gAny (mCons (mComp [4] (wLst (mVar 3)) (hName 4) mYes (mAndV (mApp R (mCons (m2 gIx (mVar 4) (mC (.int 0))) (mCons (m2 gAdd (mVar 1) (mC (.int 1))) mNil))) (mApp R (mCons (m2 gIx (mVar 4) (mC (.int 1))) (mCons (m2 gAdd (mVar 1) (mC (.int 1))) mNil))))) mNil))))) kSkip)
    (kSeq (kAsg (m2 gAdd (m2 gAdd (mApp F_Lhalves (mCons (mVar 0) (mCons (mC (.str " <= ")) mNil))) (mApp F_Lhalves (mCons (mVar 0) (mCons (mC (.str " < ")) mNil)))) (mApp F_Lhalves (mCons (mVar 0) (mCons (mC (.str " = ")) mNil)))) (hName 2))
    (kRet (mCall gAny (mCons (mComp [4] (wLst (mVar 2)) (hName 4) mYes (mAndV (mApp F_Lgood_value (mCons (m2 gIx (mVar 4) (mC (.int 0))) mNil)) (mApp F_Lgood_value (mCons (m2 gIx (mVar 4) (mC (.int 1))) mNil)))) mNil)))))))))
def F_Lgood : Nat → FD
  | 0 => fun _ _ => none
  | n + 1 => B_Lgood (F_Lgood n)
theorem step_Lgood (T : Tx w K mg base) {k : Nat} {R : FD} (hk : 8 ≤ k) (ih : FnOk P w K mg base CX0 k T.f_Lgood T.fd_Lgood ["_law_text", "_law_deep"] (spD K 2 R)) : FnOk P w K mg base CX0 (k + 1) T.f_Lgood T.fd_Lgood ["_law_text", "_law_deep"] (spD K 2 (B_Lgood R)) :=
  fn_ok T.F_Lgood sc_Lgood rfl fun cdv A outer s H E hr => (
    (dss_cons (ds_if (dt_cmp (op_gt.or op_gt_str) r2_gt (de_var 1 (pv 1)) de_int (nomark _)) (dss_one (ds_ret de_bl)) dss_nil) (dss_cons (ds_if (dt_cmp (op_eqD hr.units) r2_eq (de_var 0 (pv 0)) de_str (nomark _)) (dss_one (ds_ret de_bl)) dss_nil) (dss_cons (ds_if (dt_cmp (op_eqD hr.units) r2_eq (de_sl (de_var 0 (pv 0)) do_none (do_some de_int)) de_str (nomark _)) (dss_one (ds_ret (de_call ih (hr.mono (by omega)) (by rfl) T.m_Lgood T.F_Lgood.kp T.b_Lgood (da_cons (de_sl (de_var 0 (pv 0)) (do_some de_int) do_none) (da_cons (de_add (de_var 1 (pv 1)) de_int) da_nil)) (len_cons (len_cons len_nil))))) dss_nil) (dss_cons (ds_if (dt_cmp (op_eqD hr.units) r2_eq (de_sl (de_var 0 (pv 0)) do_none (do_some de_int)) de_str (nomark _)) (dss_one (ds_ret (de_call (ok_Lis_name T) (hr.mono (by omega)) (by rfl) T.m_Lis_name T.F_Lis_name.kp T.b_Lis_name (da_cons (de_sl (de_var 0 (pv 0)) (do_some de_int) do_none) da_nil) (len_cons len_nil)))) dss_nil) (dss_cons (ds_if (DW.dt (dw_and (dt_cmp (op_eqD hr.units) r2_eq (de_sl (de_var 0 (pv 0)) do_none (do_some de_int)) de_str (nomark _)) (dw_and1 (dt_cmp (op_eqD hr.units) r2_eq (de_sl (de_var 0 (pv 0)) (do_some (de_sub (de_callB call_len ok_len (by rfl) T.n_len (by decide +kernel) (da_cons (de_var 0 (pv 0)) da_nil)) de_int)) do_none) de_str (nomark _))))) (dss_cons (ds_set (i := 2) sc_Lgood.nd rfl (by first | exact .inl rfl | exact .inr rfl) (de_add (de_call (ok_Lhalves T) (hr.mono (by omega)) (by rfl) T.m_Lhalves T.F_Lhalves.kp T.b_Lhalves (da_cons (de_sl (de_var 0 (pv 0)) (do_some de_int) (do_some (de_sub (de_callB call_len ok_len (by rfl) T.n_len (by decide +kernel) (da_cons (de_var 0 (pv 0)) da_nil)) de_int))) (da_cons de_str da_nil)) (len_cons (len_cons len_nil))) (de_call (ok_Lhalves T) (hr.mono (by omega)) (by rfl) T.m_Lhalves T.F_Lhalves.kp T.b_Lhalves (da_cons (de_sl (de_var 0 (pv 0)) (do_some de_int) (do_some (de_sub (de_callB call_len ok_len (by rfl) T.n_len (by decide +kernel) (da_cons (de_var 0 (pv 0)) da_nil)) de_int))) (da_cons de_str da_nil)) (len_cons (len_cons len_nil))))) (dss_cons (ds_setComp (i := 3) (own := [("_law_pair", 4)]) rfl sc_Lgood.nd rfl rfl (sw_true rfl rfl rfl (by decide +kernel)) (di_list (de_var 2 (pv 2))) (blkOk_by (own := [("_law_pair", 4)]) (N := N_Lgood) (sc := defScope s_Lgood) (by decide +kernel)) (fun _ _ _ _ _ => (dg_name (i := 4) sc_Lgood.nd rfl (by first | exact .inl rfl | exact .inr rfl))) (fun _ _ _ _ _ => (dts_one (DW.dt (dw_and (dt_cmp (op_eqD hr.units) r2_eq (de_m1 PySem.F.slot_str_count PySem.F.type_str_count mt_count ok_count (de_ix (de_var 4 (pv 4)) de_int) de_str) (de_m1 PySem.F.slot_str_count PySem.F.type_str_count mt_count ok_count (de_ix (de_var 4 (pv 4)) de_int) de_str) (nomark _)) (dw_and1 (dt_cmp (op_eqD hr.units) r2_eq (de_m1 PySem.F.slot_str_count PySem.F.type_str_count mt_count ok_count (de_ix (de_var 4 (pv 4)) de_int) de_str) (de_m1 PySem.F.slot_str_count PySem.F.type_str_count mt_count ok_count (de_ix (de_var 4 (pv 4)) de_int) de_str) (nomark _))))))) (fun _ _ _ _ _ => (de_var 4 (pv 4))) (by decide)) (dss_one (ds_ret (de_callB (cr_any rfl) ok_any (by rfl) T.n_any (by decide +kernel) (da_cons (de_comp (own := [("_law_pair", 4)]) rfl sc_Lgood.nd (di_list (de_var 3 (pv 3))) (blkOk_by (own := [("_law_pair", 4)]) (N := N_Lgood) (sc := defScope s_Lgood) (by decide +kernel)) (fun _ _ _ _ _ => (dg_name (i := 4) sc_Lgood.nd rfl (by first | exact .inl rfl | exact .inr rfl))) (fun _ _ _ _ _ => dts_nil) (fun _ _ _ _ _ => (de_and (de_call ih (hr.mono (by omega)) (by rfl) T.m_Lgood T.F_Lgood.kp T.b_Lgood (da_cons (de_ix (de_var 4 (pv 4)) de_int) (da_cons (de_add (de_var 1 (pv 1)) de_int) da_nil)) (len_cons (len_cons len_nil))) (de_one (de_call ih (hr.mono (by omega)) (by rfl) T.m_Lgood T.F_Lgood.kp T.b_Lgood (da_cons (de_ix (de_var 4 (pv 4)) de_int) (da_cons (de_add (de_var 1 (pv 1)) de_int) da_nil)) (len_cons (len_cons len_nil)))))) (by decide)) da_nil)))))) dss_nil) (dss_cons (ds_set (i := 2) sc_Lgood.nd rfl (by first | exact .inl rfl | exact .inr rfl) (de_add (de_add (de_call (ok_Lhalves T) (hr.mono (by omega)) (by rfl) T.m_Lhalves T.F_Lhalves.kp T.b_Lhalves (da_cons (de_var 0 (pv 0)) (da_cons de_str da_nil)) (len_cons (len_cons len_nil))) (de_call (ok_Lhalves T) (hr.mono (by omega)) (by rfl) T.m_Lhalves T.F_Lhalves.kp T.b_Lhalves (da_cons (de_var 0 (pv 0)) (da_cons de_str da_nil)) (len_cons (len_cons len_nil)))) (de_call (ok_Lhalves T) (hr.mono (by omega)) (by rfl) T.m_Lhalves T.F_Lhalves.kp T.b_Lhalves (da_cons (de_var 0 (pv 0)) (da_cons de_str da_nil)) (len_cons (len_cons len_nil))))) (dss_one (ds_ret (de_callB (cr_any rfl) ok_any (by rfl) T.n_any (by decide +kernel) (da_cons (de_comp (own := [("_law_pair", 4)]) rfl sc_Lgood.nd (di_list (de_var 2 (pv 2))) (blkOk_by (own := [("_law_pair", 4)]) (N := N_Lgood) (sc := defScope s_Lgood) (by decide +kernel)) (fun _ _ _ _ _ => (dg_name (i := 4) sc_Lgood.nd rfl (by first | exact .inl rfl | exact .inr rfl))) (fun _ _ _ _ _ => dts_nil) (fun _ _ _ _ _ => (de_and (de_call (ok_Lgood_value T) (hr.mono (by omega)) (by rfl) T.m_Lgood_value T.F_Lgood_value.kp T.b_Lgood_value (da_cons (de_ix (de_var 4 (pv 4)) de_int) da_nil) (len_cons len_nil)) (de_one (de_call (ok_Lgood_value T) (hr.mono (by omega)) (by rfl) T.m_Lgood_value T.F_Lgood_value.kp T.b_Lgood_value (da_cons (de_ix (de_var 4 (pv 4)) de_int) da_nil) (len_cons len_nil))))) (by decide)) da_nil)))))))))))
theorem ok_Lgood (T : Tx w K mg base) : ∀ n : Nat, FnOk P w K mg base CX0 (8 + n) T.f_Lgood T.fd_Lgood ["_law_text", "_law_deep"] (spD K 2 (F_Lgood n))
  | 0 => fn_none
  | n + 1 => step_Lgood T (Nat.le_add_right _ _) (ok_Lgood T n)
--@HAND law (level 28)
def B_law : DMs := (kSeq (kFor (wRng1 (mCons (mC (.int 8)) mNil)) (hName 2) (kSeq (kAsg (mApp F_Lnew_names (mCons (mVar 1) (mCons (mC (.int 2)) mNil))) (hName 4))
    (kSeq (kAsg (mLst (mCons (mTup (mCons (mC (.str "name")) (mCons (m2 gIx (mVar 4) (mC (.int 0))) mNil))) (mCons (mTup (mCons (mC (.str "field")) (mCons (m2 gIx (mVar 4) (mC (.int 0))) (mCons (m2 gIx (mVar 4) (mC (.int 1))) mNil)))) (mCons (mTup (mCons (mC (.str "own")) (mCons (mC (.str "key")) mNil))) mNil)))) (hName 5))
    (kSeq (kAsg (mApp (F_Lcondition_text 8) (mCons (mApp (F_Lsome_condition 6) (mCons (mVar 1) (mCons (mVar 5) (mCons (mC (.int 2)) mNil)))) mNil)) (hName 6))
    (kSeq (kFor (wRng1 (mCons (mApp F_Lpull (mCons (mVar 1) (mCons (mC (.int 3)) mNil))) mNil)) (hName 7) (kSeq (kAsg (mApp F_Lpull (mCons (mVar 1) (mCons (m2 gAdd (mCall gLen (mCons (mVar 6) mNil)) (mC (.int 1))) mNil))) (hName 9))
    (kSeq (kAsg (mApp F_Lany (mCons (mVar 1) (mCons (mLst (mCons (mC (.str "")) (mCons (mC (.str " ")) (mCons (mC (.str "(")) (mCons (mC (.str ")")) (mCons (mC (.str "not ")) (mCons (mC (.str "found ")) (mCons (mC (.str " and ")) (mCons (mC (.str "<")) (mCons (mC (.str "=")) (mCons (mC (.str "true")) (mCons (mC (.str "a")) (mCons (mC (.str ".")) (mCons (mC (.str "1")) (mCons (mC (.str "+")) mNil))))))))))))))) mNil))) (hName 10))
    (kAsg (m2 gAdd (m2 gAdd (mSl (mVar 6) mNoP (mPart (mVar 9))) (mVar 10)) (mSl (mVar 6) (mPart (m2 gAdd (mVar 9) (mApp F_Lpull (mCons (mVar 1) (mCons (mC (.int 2)) mNil))))) mNoP)) (hName 6)))))
    (kSeq (kAsg (mTry "" (mAppX FX_read_condition (mCons (mVar 6) mNil))) (hName 8))
    (kIf (mNotB (mB (mApp (F_Lgood 8) (mCons (mVar 6) (mCons (mC (.int 1)) mNil))))) (kIf (mNotB (mB (mApp (F_Llike 4) (mCons (mVar 8) (mCons (mTup (mCons (mC (.str "InvalidText")) (mCons (mTup mNil) mNil))) mNil))))) (kRet (mC (.bl false))) kSkip) (kIf (mOrB (mB (m2 gNe (m2 gIx (mVar 8) (mC (.int 0))) (mC (.str "")))) (mOrB (mB (m2 gNe (mApp F_condition_text (mCons (m2 gIx (mVar 8) (mC (.int 1))) mNil)) (mVar 6))) (mB (m2 gNe (mApp (F_Lcondition_text 8) (mCons (m2 gIx (mVar 8) (mC (.int 1))) mNil)) (mVar 6))))) (kRet (mC (.bl false))) kSkip))))))))
    (kSeq (kAsg (mApp F_Lany (mCons (mVar 1) (mCons (mLst (mCons (mC .non) (mCons (mC (.int 3)) (mCons (mTup mNil) (mCons (mTup (mCons (mC (.str "true")) mNil)) (mCons (mC (.str "")) (mCons (mC (.str "not")) (mCons (mC (.str "(true)")) (mCons (mC (.str "true ")) (mCons (mC (.str "not not")) (mCons (mC (.str "(true and true")) (mCons (mC (.str "a < b < c")) (mCons (mC (.str "found")) (mCons (mC (.str "not(true)")) mNil)))))))))))))) mNil))) (hName 3))
    (kRet (mApp (F_Llike 4) (mCons (mTry "" (mAppX FX_read_condition (mCons (mVar 3) mNil))) (mCons (mTup (mCons (mC (.str "InvalidText")) (mCons (mTup mNil) mNil))) mNil))))))
theorem dss_law (T : Tx w K mg base) {A : Around} {outer : List Env} {s : Shared} {H : Hp} {E : XK} (hr : Room 27 (A.deeper (envOfC "law" (defScope s_law) s.heap.objs.size T.f_law (.ref T.cl_law)))) :
    DSs (cxOf CX0 P w K mg base N_law "law" (defScope s_law) T.f_law (.ref T.cl_law) A outer s H E).nox (defBody s_law).tail B_law := (
    (dss_cons (ds_for PassesOwn.never rfl (di_rng1 (by rfl) T.n_range (da_cons de_int da_nil)) (dg_name (i := 2) sc_law.nd rfl (by first | exact .inl rfl | exact .inr rfl)) (dss_cons (ds_set (i := 4) sc_law.nd rfl (by first | exact .inl rfl | exact .inr rfl) (de_call (ok_Lnew_names T) (hr.mono (by first | decide | omega)) (by rfl) T.m_Lnew_names T.F_Lnew_names.kp T.b_Lnew_names (da_cons (de_var 1 (pv 1)) (da_cons de_int da_nil)) (len_cons (len_cons len_nil)))) (dss_cons (ds_set (i := 5) sc_law.nd rfl (by first | exact .inl rfl | exact .inr rfl) (de_lst (da_cons (de_tup (da_cons de_str (da_cons (de_ix (de_var 4 (pv 4)) de_int) da_nil))) (da_cons (de_tup (da_cons de_str (da_cons (de_ix (de_var 4 (pv 4)) de_int) (da_cons (de_ix (de_var 4 (pv 4)) de_int) da_nil)))) (da_cons (de_tup (da_cons de_str (da_cons de_str da_nil))) da_nil))))) (dss_cons (ds_set (i := 6) sc_law.nd rfl (by first | exact .inl rfl | exact .inr rfl) (de_call (ok_Lcondition_text T 8) (hr.mono (by first | decide | omega)) (by rfl) T.m_Lcondition_text T.F_Lcondition_text.kp T.b_Lcondition_text (da_cons (de_call (ok_Lsome_condition T 6) (hr.mono (by first | decide | omega)) (by rfl) T.m_Lsome_condition T.F_Lsome_condition.kp T.b_Lsome_condition (da_cons (de_var 1 (pv 1)) (da_cons (de_var 5 (pv 5)) (da_cons de_int da_nil))) (len_cons (len_cons (len_cons len_nil)))) da_nil) (len_cons len_nil))) (dss_cons (ds_for PassesOwn.never rfl (di_rng1 (by rfl) T.n_range (da_cons (de_call (ok_Lpull T) (hr.mono (by first | decide | omega)) (by rfl) T.m_Lpull T.F_Lpull.kp T.b_Lpull (da_cons (de_var 1 (pv 1)) (da_cons de_int da_nil)) (len_cons (len_cons len_nil))) da_nil)) (dg_name (i := 7) sc_law.nd rfl (by first | exact .inl rfl | exact .inr rfl)) (dss_cons (ds_set (i := 9) sc_law.nd rfl (by first | exact .inl rfl | exact .inr rfl) (de_call (ok_Lpull T) (hr.mono (by first | decide | omega)) (by rfl) T.m_Lpull T.F_Lpull.kp T.b_Lpull (da_cons (de_var 1 (pv 1)) (da_cons (de_add (de_callB call_len ok_len (by rfl) T.n_len (by decide +kernel) (da_cons (de_var 6 (pv 6)) da_nil)) de_int) da_nil)) (len_cons (len_cons len_nil)))) (dss_cons (ds_set (i := 10) sc_law.nd rfl (by first | exact .inl rfl | exact .inr rfl) (de_call (ok_Lany T) (hr.mono (by first | decide | omega)) (by rfl) T.m_Lany T.F_Lany.kp T.b_Lany (da_cons (de_var 1 (pv 1)) (da_cons (de_lst (da_cons de_str (da_cons de_str (da_cons de_str (da_cons de_str (da_cons de_str (da_cons de_str (da_cons de_str (da_cons de_str (da_cons de_str (da_cons de_str (da_cons de_str (da_cons de_str (da_cons de_str (da_cons de_str da_nil))))))))))))))) da_nil)) (len_cons (len_cons len_nil)))) (dss_one (ds_set (i := 6) sc_law.nd rfl (by first | exact .inl rfl | exact .inr rfl) (de_add (de_add (de_sl (de_var 6 (pv 6)) do_none (do_some (de_var 9 (pv 9)))) (de_var 10 (pv 10))) (de_sl (de_var 6 (pv 6)) (do_some (de_add (de_var 9 (pv 9)) (de_call (ok_Lpull T) (hr.mono (by first | decide | omega)) (by rfl) T.m_Lpull T.F_Lpull.kp T.b_Lpull (da_cons (de_var 1 (pv 1)) (da_cons de_int da_nil)) (len_cons (len_cons len_nil))))) do_none))))))) (dss_cons (ds_set (i := 8) sc_law.nd rfl (by first | exact .inl rfl | exact .inr rfl) (de_tryF (k := 25) (e0 := "") T.F_Ltry sc_Ltry T.y_T1 T.y_T2 T.y_T3 (by rfl) T.m_Ltry T.b_Ltry rfl (by first | exact Or.inl rfl | exact Or.inr (Or.inl rfl)) (fun cdv => try_ok (k := 0) T rfl rfl rfl rfl rfl (hr.mono (by first | decide | omega)) cdv) T.i_law T.B_law rfl (hr.mono (by first | decide | omega)) (show LamX.LamS (defScope s_law) _ from LamX.lamS_by (by decide +kernel)) rfl (fun _ _ _ _ _ => rfl) (fun A outer s H E fa c' hr tk => (dex_call (okX_read_condition T) (hr.mono (by first | decide | omega)) (by rfl) T.m_read_condition T.F_read_condition.kp T.b_read_condition tk (da_cons (de_var 6 (pv 6)) da_nil) (len_cons len_nil))))) (dss_one (ds_if (dt_not (dt_val (de_call (ok_Lgood T 8) (hr.mono (by first | decide | omega)) (by rfl) T.m_Lgood T.F_Lgood.kp T.b_Lgood (da_cons (de_var 6 (pv 6)) (da_cons de_int da_nil)) (len_cons (len_cons len_nil))))) (dss_one (ds_if (dt_not (dt_val (de_call (ok_Llike T 4) (hr.mono (by first | decide | omega)) (by rfl) T.m_Llike T.F_Llike.kp T.b_Llike (da_cons (de_var 8 (pv 8)) (da_cons (de_tup (da_cons de_str (da_cons (de_tup da_nil) da_nil))) da_nil)) (len_cons (len_cons len_nil))))) (dss_one (ds_ret de_bl)) dss_nil)) (dss_one (ds_if (DW.dt (dw_or (dt_cmp (op_neD hr.units) r2_ne (de_ix (de_var 8 (pv 8)) de_int) de_str (nomark _)) (dw_or (dt_cmp (op_neD hr.units) r2_ne (de_call (ok_condition_text T) (hr.mono (by first | decide | omega)) (by rfl) T.m_condition_text T.F_condition_text.kp T.b_condition_text (da_cons (de_ix (de_var 8 (pv 8)) de_int) da_nil) (len_cons len_nil)) (de_var 6 (pv 6)) (nomark _)) (dw_or1 (dt_cmp (op_neD hr.units) r2_ne (de_call (ok_Lcondition_text T 8) (hr.mono (by first | decide | omega)) (by rfl) T.m_Lcondition_text T.F_Lcondition_text.kp T.b_Lcondition_text (da_cons (de_ix (de_var 8 (pv 8)) de_int) da_nil) (len_cons len_nil)) (de_var 6 (pv 6)) (nomark _)))))) (dss_one (ds_ret de_bl)) dss_nil)))))))))) (dss_cons (ds_set (i := 3) sc_law.nd rfl (by first | exact .inl rfl | exact .inr rfl) (de_call (ok_Lany T) (hr.mono (by first | decide | omega)) (by rfl) T.m_Lany T.F_Lany.kp T.b_Lany (da_cons (de_var 1 (pv 1)) (da_cons (de_lst (da_cons de_non (da_cons de_int (da_cons (de_tup da_nil) (da_cons (de_tup (da_cons de_str da_nil)) (da_cons de_str (da_cons de_str (da_cons de_str (da_cons de_str (da_cons de_str (da_cons de_str (da_cons de_str (da_cons de_str (da_cons de_str da_nil)))))))))))))) da_nil)) (len_cons (len_cons len_nil)))) (dss_one (ds_ret (de_call (ok_Llike T 4) (hr.mono (by first | decide | omega)) (by rfl) T.m_Llike T.F_Llike.kp T.b_Llike (da_cons (de_tryF (k := 25) (e0 := "") T.F_Ltry sc_Ltry T.y_T1 T.y_T2 T.y_T3 (by rfl) T.m_Ltry T.b_Ltry rfl (by first | exact Or.inl rfl | exact Or.inr (Or.inl rfl)) (fun cdv => try_ok (k := 0) T rfl rfl rfl rfl rfl (hr.mono (by first | decide | omega)) cdv) T.i_law T.B_law rfl (hr.mono (by first | decide | omega)) (show LamX.LamS (defScope s_law) _ from LamX.lamS_by (by decide +kernel)) rfl (fun _ _ _ _ _ => rfl) (fun A outer s H E fa c' hr tk => (dex_call (okX_read_condition T) (hr.mono (by first | decide | omega)) (by rfl) T.m_read_condition T.F_read_condition.kp T.b_read_condition tk (da_cons (de_var 3 (pv 3)) da_nil) (len_cons len_nil)))) (da_cons (de_tup (da_cons de_str (da_cons (de_tup da_nil) da_nil))) da_nil)) (len_cons (len_cons len_nil))))))))
abbrev lvLaw : Nat := 28
end
/-! ### the draws -/
def spDraws (K : PySem.W.Frag) : Sp := fun vs H Q _ => ∃ (a : Addr) (ns : List Int), vs = [.ref a] ∧ SqL K H a (ns.map V.int) ∧ ns.length ≤ 63 ∧
  ∀ (β l : Addr) (seed : Int) (H' : Hp), 0 ≤ seed → seed < 2147483549 → Same H H' → H β = none → β ≠ l → H' l = some (.lst (ns.map V.int)) → H' β = some (.lst [.ref l, .int 0, .int 0, .int seed, .int 0]) → Q (.ref β) H'
theorem cut63 {ns : List Int} (h : ns.length ≤ 63) : cutV (ns.map V.int) none (some 63) = ns.map V.int := by
  unfold cutV
  have e1 : HT.sIx (ns.map V.int).length 0 none = 0 := rfl
  have e2 : HT.sIx (ns.map V.int).length (ns.map V.int).length (some 63) = ns.length := by
    unfold HT.sIx
    simp
    omega
  rw [e1, e2]
  exact List.take_of_length_le (by simp)
section
variable {P : Program} {w : World} {K : PySem.W.Frag} {mg : Str → Option Value} {base : Heap}
theorem ok_Ldraws (T : Tx w K mg base) : FnOk P w K mg base CX0 1 T.f_Ldraws T.fd_Ldraws ["_law_script"] (spDraws K) := by
  refine T.F_Ldraws.ok sc_Ldraws (fun vs H Q E h => ?_) (fun cdv A outer s H vs Q E hr h => ?_)
  · obtain ⟨a, ns, rfl, _⟩ := h
    rfl
  · obtain ⟨a, ns, rfl, hS, hlen, k⟩ := h
    refine ⟨_, pss_cons (ps_set (i := 1) sc_Ldraws.nd rfl (.inl rfl) pe_int)
      (pss_cons (ps_for PassesOwn.never rfl (pi_list (pe_slice sl_list (pv 0) po_none (po_some pe_int))) (pg_name (i := 2) sc_Ldraws.nd rfl (.inl rfl)) (pss_one (ps_set (i := 1) sc_Ldraws.nd rfl (.inl rfl)
        (pe_op op_mod (pe_callTy call_int1 (by rfl) T.n_int (by decide +kernel) (pa_cons (pe_op op_add (pe_op op_add (pe_op op_mul (pv 1) pe_int) (pe_op op_mod (pe_callTy call_int1 (by rfl) T.n_int (by decide +kernel) (pa_cons (pv 2) pa_nil)) pe_int)) pe_int) pa_nil)) pe_int))))
      (pss_one (ps_ret (pe_lst (pa_cons (pe_callTy call_list_of (by rfl) T.n_list (by decide +kernel) (pa_cons (pe_slice sl_list (pv 0) po_none (po_some pe_int)) pa_nil)) (pa_cons pe_int (pa_cons pe_int (pa_cons (pv 1) (pa_cons pe_int pa_nil))))))))), ?_⟩
    refine ⟨_, rfl, _, rfl, a, _, rfl, hS, fun p hp => ⟨p, rfl, ⟨_, SqL.of upd_same⟩, ?_⟩⟩
    rw [cut63 hlen]
    have s1 : Same H (upd H p (.lst (ns.map V.int))) := fun b o e => by rw [upd_ne (ne_of_none e hp)]; exact e
    refine for_list (K := K) (a := p) (xs := ns.map V.int) (fun i σ H2 => ∃ (seed : Int) (v : Option V), 0 ≤ seed ∧ seed < 2147483549 ∧ σ = [some (.ref a), some (.int seed), v] ∧ H2 = upd H p (.lst (ns.map V.int)))
      ⟨5648, none, by decide, by decide, rfl, rfl⟩ (fun i σ H2 _ ⟨_, _, _, _, _, e⟩ => by rw [e]; exact SqL.of upd_same) ?_ ?_
    · rintro i y σ H2 hi ⟨seed, v, h0, h1, rfl, rfl⟩
      obtain ⟨z, rfl⟩ : ∃ z, y = V.int z := by
        rw [List.getElem?_map] at hi
        cases e : ns[i]? with
        | none => rw [e] at hi; cases hi
        | some z => rw [e] at hi; exact ⟨z, (Option.some.inj hi).symm⟩
      refine ⟨_, rfl, _, _, rfl, rfl, .inl ⟨by omega, by omega⟩, _, rfl, .inl ⟨_, rfl, _, _, rfl, rfl, (by show (0 : Int) < 2147483489; decide), _, _, rfl, rfl, _, _, rfl, rfl, .inl ⟨_, rfl, _, _, rfl, rfl, (by show (0 : Int) < 2147483549; decide), ?_⟩⟩⟩
      exact ⟨_, _, Int.emod_nonneg _ (by decide), Int.emod_lt_of_pos _ (by decide), rfl, rfl⟩
    · rintro σ H2 ⟨seed, v, h0, h1, rfl, rfl⟩
      refine ⟨_, rfl, _, rfl, a, ns.map V.int, rfl, ?_, fun q hq => ⟨q, _, rfl, .inl (SqL.of upd_same), fun l hl => ⟨_, rfl, (by show 5 ≤ sizeLine; decide), fun β hβ => ?_⟩⟩⟩
      · exact s1.seq hS
      · rw [cut63 hlen] at hl hβ ⊢
        have s2 : Same H (upd (upd (upd H p (.lst (ns.map V.int))) q (.lst (ns.map V.int))) l (.lst (ns.map V.int))) := fun b o e => by
          have e1 := s1 b o e
          rw [upd_ne (ne_of_none (show (upd (upd H p (.lst (ns.map V.int))) q (.lst (ns.map V.int))) b = some o by rw [upd_ne (ne_of_none e1 hq)]; exact e1) hl), upd_ne (ne_of_none e1 hq)]
          exact e1
        refine k β l seed _ h0 h1 (fun b o e => ?_) (s2.free hβ) ?_ ?_ upd_same
        · rw [upd_ne (ne_of_none (s2 b o e) hβ)]; exact s2 b o e
        · intro e; subst e; rw [upd_same] at hβ; cases hβ
        · have n : l ≠ β := by intro e; subst e; rw [upd_same] at hβ; cases hβ
          rw [upd_ne n, upd_same]
theorem ok_law (T : Tx w K mg base) (hB : ∀ (ns : List Int) (seed : Int), ns.length ≤ 63 → 0 ≤ seed → seed < 2147483549 → ∃ s', B_law ⟨[none, some (.dat .bag)] ++ List.replicate (N_law.length - 2) none, bag0 ns seed⟩ = some (.rt (.bl true), s')) :
    FnOk P w K mg base CX0 lvLaw T.f_law T.fd_law ["_law_script"] (spLaw K) := by
  refine T.C_law.ok sc_law (fun vs H Q E h => ?_) (fun A outer s H vs Q E hr h => ?_)
  · obtain ⟨a, ns, rfl, _⟩ := h
    rfl
  · obtain ⟨a, ns, rfl, hS, hlen, ht, k⟩ := h
    obtain ⟨t, p, o⟩ := dss_law (P := P) (w := w) (base := base) T (A := A) (outer := outer) (s := s) (H := H) (E := E) hr
    refine ⟨_, pss_cons (ps_set (i := 1) sc_law.nd rfl (.inl rfl) (pe_call (ok_Ldraws T) (hr.mono (by decide)) (by rfl) T.m_Ldraws T.F_Ldraws.kp T.b_Ldraws .nil pass0 (pa_cons (pv 0) pa_nil))) p, ?_⟩
    refine ⟨_, rfl, a, ns, rfl, hS, hlen, fun β l seed H' h0 h1 sm _ hn hl hb => ?_⟩
    obtain ⟨s', hs⟩ := hB ns seed hlen h0 h1
    refine o β _ _ H' _ _ _ s' (law_rel (n := N_law.length - 2) (a := .ref a) hn hl hb fun q hq => sm _ _ (ht q hq)) hs _ ?_
    intro v σ' H2 G2 _ _ iv
    rw [is_bl.mp iv]
    exact k H2
end
open TL
theorem q_any : F_Lany = sLany := rfl
theorem q_pull : F_Lpull = sLpull := rfl
theorem q_names : F_Lnew_names = sLnew_names := rfl
theorem q_like : ∀ n, F_Llike n = sLlike n
  | 0 => rfl
  | n + 1 => by show B_Llike (F_Llike n) = sLlikeB (sLlike n); rw [q_like n]; rfl
theorem q_ltext : ∀ n, F_Lvalue_text n = sLvalue_text n
  | 0 => rfl
  | n + 1 => by show B_Lvalue_text (F_Lvalue_text n) = sLvalue_textB (sLvalue_text n); rw [q_ltext n]; rfl
theorem q_lcond : ∀ n, F_Lcondition_text n = sLcondition_text n
  | 0 => rfl
  | n + 1 => by
    show B_Lcondition_text (F_Lcondition_text n) = sLcondition_textB (sLcondition_text n)
    rw [q_lcond n]
    unfold B_Lcondition_text
    rw [q_ltext]
    rfl
theorem q_text : ∀ n, F_text_ n = stext_ n
  | 0 => rfl
  | n + 1 => by show B_text_ (F_text_ n) = stext_B (stext_ n); rw [q_text n]; rfl
theorem q_cond : F_condition_text = scondition_text := by
  unfold F_condition_text
  rw [q_text]
  rfl
theorem q_part : ∀ n, FX_read_part_ n = sXread_part_ n
  | 0 => rfl
  | n + 1 => by show BX_read_part_ (FX_read_part_ n) = sXread_part_B (sXread_part_ n); rw [q_part n]; rfl
theorem q_read : FX_read_condition = sXread_condition := by
  unfold FX_read_condition
  rw [q_part]
  rfl
theorem q_good : ∀ n, F_Lgood n = sLgood n
  | 0 => rfl
  | n + 1 => by show B_Lgood (F_Lgood n) = sLgood_B (sLgood n); rw [q_good n]; rfl
theorem q_some : ∀ n, F_Lsome_condition n = sLsome_condition n
  | 0 => rfl
  | n + 1 => by show B_Lsome_condition (F_Lsome_condition n) = sLsome_conditionB (sLsome_condition n); rw [q_some n]; rfl
def readsNot (z : Str) : Bool := match sXread_condition [.str z] [] with
  | some (.inr er, _) => er.nm == "InvalidText"
  | _ => false
theorem wrong_texts : (["", "not", "(true)", "true ", "not not", "(true and true", "a < b < c", "found", "not(true)"] : List Str).all readsNot = true := by decide +kernel
abbrev st (x2 x3 x4 x5 x6 x7 x8 x9 x10 : Option Slo) (bg : List Dt) : Sta := ⟨[none, some (.dat .bag), x2, x3, x4, x5, x6, x7, x8, x9, x10], bg⟩
abbrev dt (d : Dt) : Option Slo := some (.dat d)
def I (s : Sta) : Prop := ∃ x2 x3 x4 x5 x6 x7 x8 x9 x10, s.sl = [none, some (.dat .bag), x2, x3, x4, x5, x6, x7, x8, x9, x10] ∧ BagOk s.bag
/-- the text, and how long it is behind k changes -/
def J (x2 x3 x4 x5 x8 : Option Slo) (k : Nat) (s : Sta) : Prop := ∃ x7 x9 x10 t, s.sl = [none, some (.dat .bag), x2, x3, x4, x5, dt (.str t), x7, x8, x9, x10] ∧ cpOk t = true ∧ t.length ≤ 2400 + 10 * k ∧ BagOk s.bag
def bits : List Str := ["", " ", "(", ")", "not ", "found ", " and ", "<", "=", "true", "a", ".", "1", "+"]
theorem bits_ok : bits.all (fun z => cpOk z && decide (z.length ≤ 10)) = true := by decide +kernel
def kChange : DMs := (kSeq (kAsg (mApp F_Lpull (mCons (mVar 1) (mCons (m2 gAdd (mCall gLen (mCons (mVar 6) mNil)) (mC (.int 1))) mNil))) (hName 9))
    (kSeq (kAsg (mApp F_Lany (mCons (mVar 1) (mCons (mLst (mCons (mC (.str "")) (mCons (mC (.str " ")) (mCons (mC (.str "(")) (mCons (mC (.str ")")) (mCons (mC (.str "not ")) (mCons (mC (.str "found ")) (mCons (mC (.str " and ")) (mCons (mC (.str "<")) (mCons (mC (.str "=")) (mCons (mC (.str "true")) (mCons (mC (.str "a")) (mCons (mC (.str ".")) (mCons (mC (.str "1")) (mCons (mC (.str "+")) mNil))))))))))))))) mNil))) (hName 10))
    (kAsg (m2 gAdd (m2 gAdd (mSl (mVar 6) mNoP (mPart (mVar 9))) (mVar 10)) (mSl (mVar 6) (mPart (m2 gAdd (mVar 9) (mApp F_Lpull (mCons (mVar 1) (mCons (mC (.int 2)) mNil))))) mNoP)) (hName 6))))
theorem change (x2 x3 x4 x5 x8 : Option Slo) (k : Nat) (hk : k ≤ 100) (d : Dt) (s : Sta) (h : J x2 x3 x4 x5 x8 k s) : ∃ s1 s2, hName 7 d s = some s1 ∧ kChange s1 = some (.nx, s2) ∧ J x2 x3 x4 x5 x8 (k + 1) s2 := by
  obtain ⟨x7, x9, x10, t, hs, hc, hl, hb⟩ := h
  obtain ⟨sl, bg⟩ := s
  dsimp only at hs hb
  subst hs
  let T : Option Slo := dt (.str t)
  obtain ⟨a, bg1, e1, a0, a1, hb1⟩ := pull_ok hb (n := (t.length : Nat) + 1) (by omega) (by omega)
  obtain ⟨q, bg2, e2, hq, hb2⟩ := any_ok hb1 (rows := bits.map Dt.str) (by decide) (by decide)
  obtain ⟨z, hz, rfl⟩ := List.mem_map.mp hq
  have hz2 := List.all_eq_true.mp bits_ok z hz
  rw [Bool.and_eq_true, decide_eq_true_eq] at hz2
  obtain ⟨m, bg3, e3, m0, m1, hb3⟩ := pull_ok hb2 (n := 2) (by decide) (by decide)
  let s1 : Sta := st x2 x3 x4 x5 T (dt d) x8 x9 x10 bg
  let s2 : Sta := st x2 x3 x4 x5 T (dt d) x8 (dt (.int a)) x10 bg1
  let s3 : Sta := st x2 x3 x4 x5 T (dt d) x8 (dt (.int a)) (dt (.str z)) bg2
  let s4 : Sta := { s3 with bag := bg3 }
  obtain ⟨i, rfl⟩ : ∃ i : Nat, a = (i : Nat) := ⟨a.toNat, by omega⟩
  obtain ⟨j, rfl⟩ : ∃ j : Nat, m = (j : Nat) := ⟨m.toNat, by omega⟩
  let A : Str := cutS t none (some ((i : Nat) : Int))
  let B : Str := cutS t (some (((i : Nat) : Int) + ((j : Nat) : Int))) none
  have hA : A.length ≤ i := by
    rw [len_tl]
    show (tl (cutS t none (some ((i : Nat) : Int)))).length ≤ _
    rw [tl_to, List.length_take]
    omega
  have hB : B.length ≤ t.length - i := by
    rw [len_tl]
    show (tl (cutS t (some (((i + j : Nat) : Nat) : Int)) none)).length ≤ _
    rw [tl_from, List.length_drop, len_tl]
    omega
  have ca : cpOk A = true := cp_cut hc _ _
  have cb : cpOk B = true := cp_cut hc _ _
  have f1 : kAsg (mApp F_Lpull (mCons (mVar 1) (mCons (m2 gAdd (mCall gLen (mCons (mVar 6) mNil)) (mC (.int 1))) mNil))) (hName 9) s1 = some (.nx, s2) := by
    rw [q_pull]
    refine kasg (s1 := { s1 with bag := bg1 }) (mapp (s1 := s1) (ds := [.bag, .int ((t.length : Nat) + 1)]) (mcons (s1 := s1) rfl (mcons (s1 := s1) ?_ rfl)) e1) rfl
    exact m2_eq (s1 := s1) (s2 := s1) (x := .int (t.length : Nat)) (y := .int 1) (mcall (s1 := s1) (l := [.str t]) rfl (glen_str (line_big (by omega)))) rfl rfl
  have f2 : kAsg (mApp F_Lany (mCons (mVar 1) (mCons (mLst (mCons (mC (.str "")) (mCons (mC (.str " ")) (mCons (mC (.str "(")) (mCons (mC (.str ")")) (mCons (mC (.str "not ")) (mCons (mC (.str "found ")) (mCons (mC (.str " and ")) (mCons (mC (.str "<")) (mCons (mC (.str "=")) (mCons (mC (.str "true")) (mCons (mC (.str "a")) (mCons (mC (.str ".")) (mCons (mC (.str "1")) (mCons (mC (.str "+")) mNil))))))))))))))) mNil))) (hName 10) s2 = some (.nx, s3) := by
    rw [q_any]
    exact kasg (s1 := { s2 with bag := bg2 }) (d := .str z) (mapp (s1 := s2) (ds := [.bag, .lst (bits.map Dt.str)]) rfl e2) rfl
  refine ⟨s1, st x2 x3 x4 x5 (dt (.str (A ++ z ++ B))) (dt d) x8 (dt (.int (i : Nat))) (dt (.str z)) bg3, rfl, ?_, ⟨_, _, _, A ++ z ++ B, rfl, app_cp (app_cp ca hz2.1) cb, ?_, hb3⟩⟩
  · unfold kChange
    rw [kseq f1, kseq f2, q_pull]
    have g1 : mSl (mVar 6) mNoP (mPart (mVar 9)) s3 = some (.str A, s3) := msl (s1 := s3) (s2 := s3) (s3 := s3) (x := .str t) (lo := none) (hi := some (i : Nat)) rfl rfl rfl (gslL (by omega))
    have g2 : mPart (m2 gAdd (mVar 9) (mApp sLpull (mCons (mVar 1) (mCons (mC (.int 2)) mNil)))) s3 = some (some (((i : Nat) : Int) + ((j : Nat) : Int)), s4) := by
      unfold mPart
      rw [m2_eq (s1 := s3) (s2 := s4) (x := .int (i : Nat)) (y := .int (j : Nat)) (d := .int (((i : Nat) : Int) + ((j : Nat) : Int))) rfl (mapp (s1 := s3) (ds := [.bag, .int 2]) rfl e3) rfl]
      rfl
    have g3 : mSl (mVar 6) (mPart (m2 gAdd (mVar 9) (mApp sLpull (mCons (mVar 1) (mCons (mC (.int 2)) mNil))))) mNoP s3 = some (.str B, s4) := msl (s1 := s3) (s2 := s4) (s3 := s4) (x := .str t) (lo := some (((i : Nat) : Int) + ((j : Nat) : Int))) (hi := none) rfl g2 rfl (gslL (by omega))
    refine kasg (s1 := s4) (d := .str (A ++ z ++ B)) (m2_eq (s1 := s3) (s2 := s4) (x := .str (A ++ z)) (y := .str B) (m2_eq (s1 := s3) (s2 := s3) (x := .str A) (y := .str z) g1 rfl (gaddS (by omega))) g3 (gaddS (by rw [len_app]; omega))) rfl
  · rw [len_app, len_app]
    have := hz2.2
    omega
def kMain : DMs := (kSeq (kAsg (mApp F_Lnew_names (mCons (mVar 1) (mCons (mC (.int 2)) mNil))) (hName 4))
    (kSeq (kAsg (mLst (mCons (mTup (mCons (mC (.str "name")) (mCons (m2 gIx (mVar 4) (mC (.int 0))) mNil))) (mCons (mTup (mCons (mC (.str "field")) (mCons (m2 gIx (mVar 4) (mC (.int 0))) (mCons (m2 gIx (mVar 4) (mC (.int 1))) mNil)))) (mCons (mTup (mCons (mC (.str "own")) (mCons (mC (.str "key")) mNil))) mNil)))) (hName 5))
    (kSeq (kAsg (mApp (F_Lcondition_text 8) (mCons (mApp (F_Lsome_condition 6) (mCons (mVar 1) (mCons (mVar 5) (mCons (mC (.int 2)) mNil)))) mNil)) (hName 6))
    (kSeq (kFor (wRng1 (mCons (mApp F_Lpull (mCons (mVar 1) (mCons (mC (.int 3)) mNil))) mNil)) (hName 7) kChange)
    (kSeq (kAsg (mTry "" (mAppX FX_read_condition (mCons (mVar 6) mNil))) (hName 8))
    (kIf (mNotB (mB (mApp (F_Lgood 8) (mCons (mVar 6) (mCons (mC (.int 1)) mNil))))) (kIf (mNotB (mB (mApp (F_Llike 4) (mCons (mVar 8) (mCons (mTup (mCons (mC (.str "InvalidText")) (mCons (mTup mNil) mNil))) mNil))))) (kRet (mC (.bl false))) kSkip) (kIf (mOrB (mB (m2 gNe (m2 gIx (mVar 8) (mC (.int 0))) (mC (.str "")))) (mOrB (mB (m2 gNe (mApp F_condition_text (mCons (m2 gIx (mVar 8) (mC (.int 1))) mNil)) (mVar 6))) (mB (m2 gNe (mApp (F_Lcondition_text 8) (mCons (m2 gIx (mVar 8) (mC (.int 1))) mNil)) (mVar 6))))) (kRet (mC (.bl false))) kSkip)))))))
theorem okIT : okD 4 (.tup [.str "InvalidText", .tup []]) = true := by decide +kernel
theorem found_is {d : Dt} {s s1 : Sta} {f : DM (List Dt)} (bg : List Dt) (hs : s1.bag = bg) (hf : f s = some ([d], s1)) (h : sXread_condition [d] bg = some (.inr IT, bg)) : mTry "" (mAppX FX_read_condition f) s = some (.tup [.str "InvalidText", .tup []], s1) := by
  rw [q_read]
  refine mtry_r (er := IT) ?_
  rw [mappx (s1 := s1) (ds := [d]) (bg := bg) hf (by rw [hs]; exact h), ← hs]
theorem turn (d : Dt) (s : Sta) (h : I s) : ∃ s1 r s2, hName 2 d s = some s1 ∧ kMain s1 = some (r, s2) ∧ (r = .nx ∨ r = .ct) ∧ I s2 := by
  obtain ⟨x2, x3, x4, x5, x6, x7, x8, x9, x10, hs, hb⟩ := h
  obtain ⟨sl, bg⟩ := s
  dsimp only at hs hb
  subst hs
  obtain ⟨ns, bg1, e1, hl, hn, hb1⟩ := new_names hb (m := 2) (by decide)
  match ns, hl with
  | [n0, n1], _ =>
    have h0 := hn n0 (by simp)
    have h1 := hn n1 (by simp)
    let pool : List Sg := [.name n0, .field n0 n1, .own "key"]
    have hp : PoolOk pool := by
      refine ⟨fun v hv => ?_, by simp [pool], by simp [pool]⟩
      simp only [pool, List.mem_cons, List.not_mem_nil, or_false] at hv
      rcases hv with rfl | rfl | rfl
      · exact h0
      · exact ⟨h0, .inr h1⟩
      · exact .inl rfl
    obtain ⟨c, bg4, e4, hc, hcd, hb4⟩ := some_condition hp 6 2 (by omega) hb1
    obtain ⟨q, bg5, e5, q0, q1, hb5⟩ := pull_ok hb4 (n := 3) (by decide) (by decide)
    let N : Dt := .lst [.str n0, .str n1]
    let P : Dt := .lst (pool.map Sg.d)
    let s0 : Sta := st (dt d) x3 x4 x5 x6 x7 x8 x9 x10 bg
    let s1 : Sta := st (dt d) x3 (dt N) x5 x6 x7 x8 x9 x10 bg1
    let s2 : Sta := st (dt d) x3 (dt N) (dt P) x6 x7 x8 x9 x10 bg1
    let s3 : Sta := st (dt d) x3 (dt N) (dt P) (dt (.str c.text)) x7 x8 x9 x10 bg4
    let s4 : Sta := { s3 with bag := bg5 }
    have f1 : kAsg (mApp F_Lnew_names (mCons (mVar 1) (mCons (mC (.int 2)) mNil))) (hName 4) s0 = some (.nx, s1) := kasg (s1 := { s0 with bag := bg1 }) (by rw [q_names]; exact mapp (s1 := s0) (ds := [.bag, .int 2]) rfl e1) rfl
    have f2 : kAsg (mLst (mCons (mTup (mCons (mC (.str "name")) (mCons (m2 gIx (mVar 4) (mC (.int 0))) mNil))) (mCons (mTup (mCons (mC (.str "field")) (mCons (m2 gIx (mVar 4) (mC (.int 0))) (mCons (m2 gIx (mVar 4) (mC (.int 1))) mNil)))) (mCons (mTup (mCons (mC (.str "own")) (mCons (mC (.str "key")) mNil))) mNil)))) (hName 5) s1 = some (.nx, s2) :=
      kasg (s1 := s1) (d := P) (mlst (mcons (s1 := s1) (x := (Sg.name n0).d) rfl (mcons (s1 := s1) (x := (Sg.field n0 n1).d) rfl (mcons (s1 := s1) (x := (Sg.own "key").d) rfl rfl))) (by show (3 : Nat) ≤ 1000; decide)) rfl
    have f3 : kAsg (mApp (F_Lcondition_text 8) (mCons (mApp (F_Lsome_condition 6) (mCons (mVar 1) (mCons (mVar 5) (mCons (mC (.int 2)) mNil)))) mNil)) (hName 6) s2 = some (.nx, s3) := by
      rw [q_lcond, q_some]
      refine kasg (s1 := { s2 with bag := bg4 }) (d := .str c.text) ?_ rfl
      exact mapp (s1 := { s2 with bag := bg4 }) (ds := [c.d]) (mcons (s1 := { s2 with bag := bg4 }) (mapp (s1 := s2) (ds := [.bag, P, .int ((2 : Nat) : Int)]) rfl e4) rfl) (law_cond_text 8 hc (by omega) (by decide) bg4)
    have hlen := text_len hc
    have hpw : 2 ^ c.dep ≤ 2 ^ 3 := Nat.pow_le_pow_right (by decide) (by omega)
    have cl : ∀ (l : List Dt) (k : Nat) (s : Sta), k + l.length ≤ 3 → J (dt d) x3 (dt N) (dt P) x8 k s → ∃ s', loopD (hName 7) kChange l s = some (.nx, s') ∧ J (dt d) x3 (dt N) (dt P) x8 (k + l.length) s' := by
      intro l
      induction l with
      | nil => exact fun k s _ hj => ⟨s, rfl, hj⟩
      | cons z r ih =>
        intro k s hk hj
        rw [List.length_cons] at hk
        obtain ⟨t1, t2, g1, g2, j2⟩ := change _ _ _ _ _ k (by omega) z s hj
        obtain ⟨s', g3, j3⟩ := ih (k + 1) t2 (by omega) j2
        refine ⟨s', ?_, by rw [List.length_cons, show k + (r.length + 1) = k + 1 + r.length by omega]; exact j3⟩
        unfold loopD
        rw [g1, Option.bind_some, g2, Option.bind_some]
        exact g3
    obtain ⟨s5, e6, hj⟩ := cl (rngD 0 q.toNat) 0 s4 (by rw [rng_len]; omega) ⟨_, _, _, c.text, rfl, text_cp hc, by omega, hb5⟩
    rw [rng_len] at hj
    obtain ⟨y7, y9, y10, t, hs5, ct, lt, hb6⟩ := hj
    obtain ⟨sl5, bg6⟩ := s5
    dsimp only at hs5 hb6
    subst hs5
    have f4 : kFor (wRng1 (mCons (mApp F_Lpull (mCons (mVar 1) (mCons (mC (.int 3)) mNil))) mNil)) (hName 7) kChange s3 = some (.nx, st (dt d) x3 (dt N) (dt P) (dt (.str t)) y7 x8 y9 y10 bg6) := by
      rw [q_pull]
      unfold kFor
      rw [mrng1 (s1 := s4) (mcons (s1 := s4) (mapp (s1 := s3) (ds := [.bag, .int 3]) rfl e5) rfl) q0 (by omega), Option.bind_some]
      exact e6
    let s6 : Sta := st (dt d) x3 (dt N) (dt P) (dt (.str t)) y7 x8 y9 y10 bg6
    have lt' : t.length ≤ 20000 := by omega
    obtain ⟨b, eb, hbq⟩ := good_any 8 1 (by omega) (by omega) ct lt' bg6
    have eg : ∀ (z : Dt), mB (mApp (F_Lgood 8) (mCons (mVar 6) (mCons (mC (.int 1)) mNil))) (st (dt d) x3 (dt N) (dt P) (dt (.str t)) y7 (dt z) y9 y10 bg6) = some (b, st (dt d) x3 (dt N) (dt P) (dt (.str t)) y7 (dt z) y9 y10 bg6) := fun z => by
      rw [q_good]
      exact mBt (mapp (s1 := st (dt d) x3 (dt N) (dt P) (dt (.str t)) y7 (dt z) y9 y10 bg6) (ds := [.str t, .int ((1 : Nat) : Int)]) rfl eb)
    cases b with
    | true =>
      obtain ⟨c', hc', hd', ht'⟩ := hbq.mp rfl
      let F : Dt := .tup [.str "", c'.d]
      let s7 : Sta := st (dt d) x3 (dt N) (dt P) (dt (.str t)) y7 (dt F) y9 y10 bg6
      refine ⟨s0, .nx, s7, rfl, ?_, .inl rfl, ⟨_, _, _, _, _, _, _, _, _, rfl, hb6⟩⟩
      have f5 : kAsg (mTry "" (mAppX FX_read_condition (mCons (mVar 6) mNil))) (hName 8) s6 = some (.nx, s7) := by
        rw [q_read]
        refine kasg (s1 := s6) (d := F) (mtry_l ?_) rfl
        refine mappx (s1 := s6) (ds := [.str t]) rfl ?_
        rw [← ht']
        exact read_cond_x hc' (by omega) (by rw [ht']; omega) bg6
      unfold kMain
      rw [kseq f1, kseq f2, kseq f3, kseq f4, kseq f5, kif_f (s1 := s7) (mNotB_eq (b := true) (eg F)), kif_f (s1 := s7)]
      · rfl
      rw [q_cond, q_lcond]
      have i1 : m2 gIx (mVar 8) (mC (.int 1)) s7 = some (c'.d, s7) := m2_eq (s1 := s7) (s2 := s7) (x := F) (y := .int 1) rfl rfl rfl
      rw [or_f (s1 := s7) (mBt (m2_eq (s1 := s7) (s2 := s7) (x := .str "") (y := .str "") (m2_eq (s1 := s7) (s2 := s7) (x := F) (y := .int 0) rfl rfl rfl) rfl (tagN (r := true) (by decide +kernel) (by decide +kernel) (by decide +kernel))))]
      rw [or_f (s1 := s7) (mBt (m2_eq (s1 := s7) (s2 := s7) (x := .str c'.text) (y := .str t) (mapp (s1 := s7) (ds := [c'.d]) (mcons (s1 := s7) i1 rfl) (cond_text hc' (by omega) bg6)) rfl (tagN (r := true) (text_cp hc') ct (beq_iff_eq.mpr ht'))))]
      exact mBt (m2_eq (s1 := s7) (s2 := s7) (x := .str c'.text) (y := .str t) (mapp (s1 := s7) (ds := [c'.d]) (mcons (s1 := s7) i1 rfl) (law_cond_text 8 hc' (by omega) (by decide) bg6)) rfl (tagN (r := true) (text_cp hc') ct (beq_iff_eq.mpr ht')))
    | false =>
      let F : Dt := .tup [.str "InvalidText", .tup []]
      let s7 : Sta := st (dt d) x3 (dt N) (dt P) (dt (.str t)) y7 (dt F) y9 y10 bg6
      have hr : sXread_condition [.str t] bg6 = some (.inr IT, bg6) := by
        rcases cond_any ct lt' bg6 with ⟨c', h1, h2, h3, _⟩ | h
        · exact Bool.noConfusion (hbq.mpr ⟨c', h1, by omega, h3⟩)
        · exact h
      refine ⟨s0, .nx, s7, rfl, ?_, .inl rfl, ⟨_, _, _, _, _, _, _, _, _, rfl, hb6⟩⟩
      have f5 : kAsg (mTry "" (mAppX FX_read_condition (mCons (mVar 6) mNil))) (hName 8) s6 = some (.nx, s7) := kasg (s1 := s6) (d := F) (found_is bg6 rfl rfl hr) rfl
      unfold kMain
      rw [kseq f1, kseq f2, kseq f3, kseq f4, kseq f5, kif_t (s1 := s7) (mNotB_eq (b := false) (eg F)), kif_f (s1 := s7)]
      · rfl
      rw [q_like]
      exact mNotB_eq (b := true) (mBt (mapp (s1 := s7) (ds := [F, F]) rfl (like_refl 4 F bg6 okIT)))
def wrongs : List Dt := [.non, .int 3, .tup [], .tup [.str "true"], .str "", .str "not", .str "(true)", .str "true ", .str "not not", .str "(true and true", .str "a < b < c", .str "found", .str "not(true)"]
theorem wrong_no {d : Dt} (h : d ∈ wrongs) (bg : List Dt) : sXread_condition [d] bg = some (.inr IT, bg) := by
  have no : ∀ e : Dt, isStr e = false → sXread_condition [e] bg = some (.inr IT, bg) := fun e he => by
    let s : Sta := ⟨[some (.dat e), none, none, none], bg⟩
    unfold sXread_condition
    refine fndx_e (s1 := s) ?_
    show kSeqX _ _ s = _
    exact xraise (mNotB_eq (b := false) (mBt (show mIsi isStr (mVar 0) s = some (.bl false, s) by show some (Dt.bl (isStr e), s) = _; rw [he])))
  have yes : ∀ z : Str, cpOk z = true → z.length ≤ 20000 → readsNot z = true → sXread_condition [.str z] bg = some (.inr IT, bg) := fun z h1 h2 h3 => by
    rcases cond_any h1 h2 bg with ⟨c, g1, g2, g3, _⟩ | g
    · have := read_cond_x g1 g2 (by rw [g3]; omega) []
      rw [g3] at this
      unfold readsNot at h3
      rw [this] at h3
      cases h3
    · exact g
  have w := List.all_eq_true.mp wrong_texts
  simp only [wrongs, List.mem_cons, List.not_mem_nil, or_false] at h
  rcases h with rfl | rfl | rfl | rfl | rfl | rfl | rfl | rfl | rfl | rfl | rfl | rfl | rfl
  · exact no _ rfl
  · exact no _ rfl
  · exact no _ rfl
  · exact no _ rfl
  all_goals exact yes _ (by decide +kernel) (by decide +kernel) (w _ (by simp))
theorem hB (ns : List Int) (seed : Int) (h : ns.length ≤ 63) (h0 : 0 ≤ seed) (h1 : seed < 2147483549) : ∃ s', B_law ⟨[none, some (.dat .bag)] ++ List.replicate (N_law.length - 2) none, bag0 ns seed⟩ = some (.rt (.bl true), s') := by
  obtain ⟨s', e, x2, x3, x4, x5, x6, x7, x8, x9, x10, hs, hb⟩ := loop_inv I turn (rngD 0 (8 : Int).toNat) ⟨[none, some (.dat .bag), none, none, none, none, none, none, none, none, none], bag0 ns seed⟩ ⟨_, _, _, _, _, _, _, _, _, rfl, bag0_ok h0 h1⟩
  obtain ⟨sl, bg⟩ := s'
  dsimp only at hs hb
  subst hs
  obtain ⟨w, bg1, e1, hw, hb1⟩ := any_ok hb (rows := wrongs) (by decide) (by decide)
  let s1 : Sta := st x2 x3 x4 x5 x6 x7 x8 x9 x10 bg
  let s2 : Sta := st x2 (dt w) x4 x5 x6 x7 x8 x9 x10 bg1
  let F : Dt := .tup [.str "InvalidText", .tup []]
  unfold B_law
  refine ⟨s2, (kseq (kfor_rng (by decide) (by decide) e)).trans ?_⟩
  rw [kseq (s1 := s2)]
  · rw [q_like]
    refine kret (mapp (s1 := s2) (ds := [F, F]) (mcons (s1 := s2) (found_is bg1 rfl rfl (wrong_no hw bg1)) rfl) (like_refl 4 F bg1 okIT))
  · rw [q_any]
    exact kasg (s1 := { s1 with bag := bg1 }) (d := w) (mapp (s1 := s1) (ds := [.bag, .lst wrongs]) rfl e1) rfl
end Laws
set_option maxHeartbeats 0 in
theorem all_mk {l : PySem.W.OpenLaw} {w : World} {K : PySem.W.Frag} {h : Heap} {mg : Str → Option Value} {fa f0 f1 f2 f3 f4 f5 f6 f7 f8 f9 f10 f11 f12 f13 f14 f15 f16 f17 f18 f19 f20 f21 f22 f23 f24 f25 f26 f27 f28 f29 f30 f31 f32 f33 f34 f35 f36 f37 f38 f39 f40 f41 : Addr} {od0 an0 od1 an1 od2 an2 od3 an3 od4 an4 od5 an5 od6 an6 od7 an7 od8 an8 od9 an9 od10 an10 od11 an11 od12 an12 od13 an13 od14 an14 od15 an15 od16 an16 od17 an17 od18 an18 od19 an19 od20 an20 od21 an21 od22 an22 od23 an23 od24 an24 od25 an25 od26 an26 od27 an27 od28 an28 od29 an29 od30 an30 od31 an31 od32 an32 od33 an33 od34 an34 od35 an35 od36 an36 od37 an37 od38 an38 od39 an39 od40 an40 od41 an41 : Option Addr} {sl0 sl1 sl2 sl3 sl4 sl5 sl6 sl7 sl8 sl9 sl10 sl11 sl12 sl13 sl14 sl15 sl16 sl17 sl18 sl19 sl20 sl21 sl22 sl23 sl24 sl25 sl26 sl27 sl28 sl29 sl30 sl31 sl32 sl33 sl34 sl35 sl36 sl37 sl38 sl39 sl40 sl41 : Array (Option Value)} {oc0 kV0 dc0 pm0 ct0 cd0 oc1 kV1 dc1 pm1 ct1 cd1 oc2 kV2 dc2 pm2 ct2 cd2 oc3 kV3 dc3 pm3 ct3 cd3 oc4 kV4 dc4 pm4 ct4 cd4 oc5 kV5 dc5 pm5 ct5 cd5 oc6 kV6 dc6 pm6 ct6 cd6 oc7 kV7 dc7 pm7 ct7 cd7 oc8 kV8 dc8 pm8 ct8 cd8 oc9 kV9 dc9 pm9 ct9 cd9 oc10 kV10 dc10 pm10 ct10 cd10 oc11 kV11 dc11 pm11 ct11 cd11 oc12 kV12 dc12 pm12 ct12 cd12 oc13 kV13 dc13 pm13 ct13 cd13 oc14 kV14 dc14 pm14 ct14 cd14 oc15 kV15 dc15 pm15 ct15 cd15 oc16 kV16 dc16 pm16 ct16 cd16 oc17 kV17 dc17 pm17 ct17 cd17 oc18 kV18 dc18 pm18 ct18 cd18 oc19 kV19 dc19 pm19 ct19 cd19 oc20 kV20 dc20 pm20 ct20 cd20 oc21 kV21 dc21 pm21 ct21 cd21 oc22 kV22 dc22 pm22 ct22 cd22 oc23 kV23 dc23 pm23 ct23 cd23 oc24 kV24 dc24 pm24 ct24 cd24 oc25 kV25 dc25 pm25 ct25 cd25 oc26 kV26 dc26 pm26 ct26 cd26 oc27 kV27 dc27 pm27 ct27 cd27 oc28 kV28 dc28 pm28 ct28 cd28 oc29 kV29 dc29 pm29 ct29 cd29 oc30 kV30 dc30 pm30 ct30 cd30 oc31 kV31 dc31 pm31 ct31 cd31 oc32 kV32 dc32 pm32 ct32 cd32 oc33 kV33 dc33 pm33 ct33 cd33 oc34 kV34 dc34 pm34 ct34 cd34 oc35 kV35 dc35 pm35 ct35 cd35 oc36 kV36 dc36 pm36 ct36 cd36 oc37 kV37 dc37 pm37 ct37 cd37 oc38 kV38 dc38 pm38 ct38 cd38 oc39 kV39 dc39 pm39 ct39 oc40 kV40 dc40 pm40 ct40 cd40 oc41 kV41 dc41 pm41 ct41 : Value} {cl_Lgood_value Pt_Lgood_value : Addr} {cl_law Pt_law : Addr} {T1 T2 T3 fI : Addr} {odI anI : Option Addr} {slI : Array (Option Value)} {ocI kVI dcI pmI cdI ctI : Value} {C_InvalidText N_InvalidText : Addr} {nm_InvalidText q_InvalidText : Str} {bs_InvalidText bm_InvalidText : List Value} {sn_InvalidText : List Str} {sub_InvalidText : List Value} {ab_InvalidText : Bool} {col_InvalidText : Option Bool} {dd_InvalidText : Option Addr} {k0_InvalidText k1_InvalidText k2_InvalidText k3_InvalidText k5_InvalidText : Option Value} {tk_BOUND : Tok} {tk_MOST_DIGITS : Tok} {tk_MOST_LETTERS : Tok} {ta_RESERVED : Addr} {to_RESERVED : Value} {td_RESERVED : Option Addr} {ti_RESERVED : Array Value} {tn_RESERVED : Nat} {ts_RESERVED : Array (Option Value)} {tk_DEEPEST : Tok} {da_SIGNS : Addr} {de_SIGNS : Array DictEntry} {dn_SIGNS : Nat} {da_FORMS : Addr} {de_FORMS : Array DictEntry} {dn_FORMS : Nat} (X : K.In h) (G : h.Ns mainGlobals mg) (hfa : mg "law" = some (.ref fa))
    (a0 : PySem.W.nsIn K mainGlobals "is_name" = some (some (.ref f0))) (l0 : K.lookup f0 = some ⟨oc0, od0, .func (PySem.W.fnOf "is_name" "is_name" (defArgs s_is_name) (defBody s_is_name) (defScope s_is_name) .none kV0 dc0 pm0 an0 cd0 ct0), sl0⟩) (c0 : PySem.W.codeIn K cd0 "is_name" = true) (k0 : PySem.W.keepIn K (.ref f0) = true)
    (a1 : PySem.W.nsIn K mainGlobals "is_column" = some (some (.ref f1))) (l1 : K.lookup f1 = some ⟨oc1, od1, .func (PySem.W.fnOf "is_column" "is_column" (defArgs s_is_column) (defBody s_is_column) (defScope s_is_column) .none kV1 dc1 pm1 an1 cd1 ct1), sl1⟩) (c1 : PySem.W.codeIn K cd1 "is_column" = true) (k1 : PySem.W.keepIn K (.ref f1) = true)
    (a2 : PySem.W.nsIn K mainGlobals "is_whole" = some (some (.ref f2))) (l2 : K.lookup f2 = some ⟨oc2, od2, .func (PySem.W.fnOf "is_whole" "is_whole" (defArgs s_is_whole) (defBody s_is_whole) (defScope s_is_whole) .none kV2 dc2 pm2 an2 cd2 ct2), sl2⟩) (c2 : PySem.W.codeIn K cd2 "is_whole" = true) (k2 : PySem.W.keepIn K (.ref f2) = true)
    (a3 : PySem.W.nsIn K mainGlobals "_is_bounded" = some (some (.ref f3))) (l3 : K.lookup f3 = some ⟨oc3, od3, .func (PySem.W.fnOf "_is_bounded" "_is_bounded" (defArgs s_is_bounded_) (defBody s_is_bounded_) (defScope s_is_bounded_) .none kV3 dc3 pm3 an3 cd3 ct3), sl3⟩) (c3 : PySem.W.codeIn K cd3 "_is_bounded" = true) (k3 : PySem.W.keepIn K (.ref f3) = true)
    (a4 : PySem.W.nsIn K mainGlobals "_is_single" = some (some (.ref f4))) (l4 : K.lookup f4 = some ⟨oc4, od4, .func (PySem.W.fnOf "_is_single" "_is_single" (defArgs s_is_single_) (defBody s_is_single_) (defScope s_is_single_) .none kV4 dc4 pm4 an4 cd4 ct4), sl4⟩) (c4 : PySem.W.codeIn K cd4 "_is_single" = true) (k4 : PySem.W.keepIn K (.ref f4) = true)
    (a5 : PySem.W.nsIn K mainGlobals "is_value" = some (some (.ref f5))) (l5 : K.lookup f5 = some ⟨oc5, od5, .func (PySem.W.fnOf "is_value" "is_value" (defArgs s_is_value) (defBody s_is_value) (defScope s_is_value) .none kV5 dc5 pm5 an5 cd5 ct5), sl5⟩) (c5 : PySem.W.codeIn K cd5 "is_value" = true) (k5 : PySem.W.keepIn K (.ref f5) = true)
    (a6 : PySem.W.nsIn K mainGlobals "_single_text" = some (some (.ref f6))) (l6 : K.lookup f6 = some ⟨oc6, od6, .func (PySem.W.fnOf "_single_text" "_single_text" (defArgs s_single_text_) (defBody s_single_text_) (defScope s_single_text_) .none kV6 dc6 pm6 an6 cd6 ct6), sl6⟩) (c6 : PySem.W.codeIn K cd6 "_single_text" = true) (k6 : PySem.W.keepIn K (.ref f6) = true)
    (a7 : PySem.W.nsIn K mainGlobals "value_text" = some (some (.ref f7))) (l7 : K.lookup f7 = some ⟨oc7, od7, .func (PySem.W.fnOf "value_text" "value_text" (defArgs s_value_text) (defBody s_value_text) (defScope s_value_text) .none kV7 dc7 pm7 an7 cd7 ct7), sl7⟩) (c7 : PySem.W.codeIn K cd7 "value_text" = true) (k7 : PySem.W.keepIn K (.ref f7) = true)
    (a8 : PySem.W.nsIn K mainGlobals "_read_signed" = some (some (.ref f8))) (l8 : K.lookup f8 = some ⟨oc8, od8, .func (PySem.W.fnOf "_read_signed" "_read_signed" (defArgs s_read_signed_) (defBody s_read_signed_) (defScope s_read_signed_) .none kV8 dc8 pm8 an8 cd8 ct8), sl8⟩) (c8 : PySem.W.codeIn K cd8 "_read_signed" = true) (k8 : PySem.W.keepIn K (.ref f8) = true)
    (a9 : PySem.W.nsIn K mainGlobals "_read_single" = some (some (.ref f9))) (l9 : K.lookup f9 = some ⟨oc9, od9, .func (PySem.W.fnOf "_read_single" "_read_single" (defArgs s_read_single_) (defBody s_read_single_) (defScope s_read_single_) .none kV9 dc9 pm9 an9 cd9 ct9), sl9⟩) (c9 : PySem.W.codeIn K cd9 "_read_single" = true) (k9 : PySem.W.keepIn K (.ref f9) = true)
    (a10 : PySem.W.nsIn K mainGlobals "read_value" = some (some (.ref f10))) (l10 : K.lookup f10 = some ⟨oc10, od10, .func (PySem.W.fnOf "read_value" "read_value" (defArgs s_read_value) (defBody s_read_value) (defScope s_read_value) .none kV10 dc10 pm10 an10 cd10 ct10), sl10⟩) (c10 : PySem.W.codeIn K cd10 "read_value" = true) (k10 : PySem.W.keepIn K (.ref f10) = true)
    (a11 : PySem.W.nsIn K mainGlobals "_is_condition_itself" = some (some (.ref f11))) (l11 : K.lookup f11 = some ⟨oc11, od11, .func (PySem.W.fnOf "_is_condition_itself" "_is_condition_itself" (defArgs s_is_condition_itself_) (defBody s_is_condition_itself_) (defScope s_is_condition_itself_) .none kV11 dc11 pm11 an11 cd11 ct11), sl11⟩) (c11 : PySem.W.codeIn K cd11 "_is_condition_itself" = true) (k11 : PySem.W.keepIn K (.ref f11) = true)
    (a12 : PySem.W.nsIn K mainGlobals "_places" = some (some (.ref f12))) (l12 : K.lookup f12 = some ⟨oc12, od12, .func (PySem.W.fnOf "_places" "_places" (defArgs s_places_) (defBody s_places_) (defScope s_places_) .none kV12 dc12 pm12 an12 cd12 ct12), sl12⟩) (c12 : PySem.W.codeIn K cd12 "_places" = true) (k12 : PySem.W.keepIn K (.ref f12) = true)
    (a13 : PySem.W.nsIn K mainGlobals "_checked_parts" = some (some (.ref f13))) (l13 : K.lookup f13 = some ⟨oc13, od13, .func (PySem.W.fnOf "_checked_parts" "_checked_parts" (defArgs s_checked_parts_) (defBody s_checked_parts_) (defScope s_checked_parts_) .none kV13 dc13 pm13 an13 cd13 ct13), sl13⟩) (c13 : PySem.W.codeIn K cd13 "_checked_parts" = true) (k13 : PySem.W.keepIn K (.ref f13) = true)
    (a14 : PySem.W.nsIn K mainGlobals "_text" = some (some (.ref f14))) (l14 : K.lookup f14 = some ⟨oc14, od14, .func (PySem.W.fnOf "_text" "_text" (defArgs s_text_) (defBody s_text_) (defScope s_text_) .none kV14 dc14 pm14 an14 cd14 ct14), sl14⟩) (c14 : PySem.W.codeIn K cd14 "_text" = true) (k14 : PySem.W.keepIn K (.ref f14) = true)
    (a15 : PySem.W.nsIn K mainGlobals "condition_text" = some (some (.ref f15))) (l15 : K.lookup f15 = some ⟨oc15, od15, .func (PySem.W.fnOf "condition_text" "condition_text" (defArgs s_condition_text) (defBody s_condition_text) (defScope s_condition_text) .none kV15 dc15 pm15 an15 cd15 ct15), sl15⟩) (c15 : PySem.W.codeIn K cd15 "condition_text" = true) (k15 : PySem.W.keepIn K (.ref f15) = true)
    (a16 : PySem.W.nsIn K mainGlobals "_word" = some (some (.ref f16))) (l16 : K.lookup f16 = some ⟨oc16, od16, .func (PySem.W.fnOf "_word" "_word" (defArgs s_word_) (defBody s_word_) (defScope s_word_) .none kV16 dc16 pm16 an16 cd16 ct16), sl16⟩) (c16 : PySem.W.codeIn K cd16 "_word" = true) (k16 : PySem.W.keepIn K (.ref f16) = true)
    (a17 : PySem.W.nsIn K mainGlobals "_read_operand" = some (some (.ref f17))) (l17 : K.lookup f17 = some ⟨oc17, od17, .func (PySem.W.fnOf "_read_operand" "_read_operand" (defArgs s_read_operand_) (defBody s_read_operand_) (defScope s_read_operand_) .none kV17 dc17 pm17 an17 cd17 ct17), sl17⟩) (c17 : PySem.W.codeIn K cd17 "_read_operand" = true) (k17 : PySem.W.keepIn K (.ref f17) = true)
    (a18 : PySem.W.nsIn K mainGlobals "_read_comparison" = some (some (.ref f18))) (l18 : K.lookup f18 = some ⟨oc18, od18, .func (PySem.W.fnOf "_read_comparison" "_read_comparison" (defArgs s_read_comparison_) (defBody s_read_comparison_) (defScope s_read_comparison_) .none kV18 dc18 pm18 an18 cd18 ct18), sl18⟩) (c18 : PySem.W.codeIn K cd18 "_read_comparison" = true) (k18 : PySem.W.keepIn K (.ref f18) = true)
    (a19 : PySem.W.nsIn K mainGlobals "_read_found" = some (some (.ref f19))) (l19 : K.lookup f19 = some ⟨oc19, od19, .func (PySem.W.fnOf "_read_found" "_read_found" (defArgs s_read_found_) (defBody s_read_found_) (defScope s_read_found_) .none kV19 dc19 pm19 an19 cd19 ct19), sl19⟩) (c19 : PySem.W.codeIn K cd19 "_read_found" = true) (k19 : PySem.W.keepIn K (.ref f19) = true)
    (a20 : PySem.W.nsIn K mainGlobals "_read_joined" = some (some (.ref f20))) (l20 : K.lookup f20 = some ⟨oc20, od20, .func (PySem.W.fnOf "_read_joined" "_read_joined" (defArgs s_read_joined_) (defBody s_read_joined_) (defScope s_read_joined_) .none kV20 dc20 pm20 an20 cd20 ct20), sl20⟩) (c20 : PySem.W.codeIn K cd20 "_read_joined" = true) (k20 : PySem.W.keepIn K (.ref f20) = true)
    (a21 : PySem.W.nsIn K mainGlobals "_read_part" = some (some (.ref f21))) (l21 : K.lookup f21 = some ⟨oc21, od21, .func (PySem.W.fnOf "_read_part" "_read_part" (defArgs s_read_part_) (defBody s_read_part_) (defScope s_read_part_) .none kV21 dc21 pm21 an21 cd21 ct21), sl21⟩) (c21 : PySem.W.codeIn K cd21 "_read_part" = true) (k21 : PySem.W.keepIn K (.ref f21) = true)
    (a22 : PySem.W.nsIn K mainGlobals "read_condition" = some (some (.ref f22))) (l22 : K.lookup f22 = some ⟨oc22, od22, .func (PySem.W.fnOf "read_condition" "read_condition" (defArgs s_read_condition) (defBody s_read_condition) (defScope s_read_condition) .none kV22 dc22 pm22 an22 cd22 ct22), sl22⟩) (c22 : PySem.W.codeIn K cd22 "read_condition" = true) (k22 : PySem.W.keepIn K (.ref f22) = true)
    (a23 : PySem.W.nsIn K mainGlobals "_law_field" = some (some (.ref f23))) (l23 : K.lookup f23 = some ⟨oc23, od23, .func (PySem.W.fnOf "_law_field" "_law_field" (defArgs s_Lfield) (defBody s_Lfield) (defScope s_Lfield) .none kV23 dc23 pm23 an23 cd23 ct23), sl23⟩) (c23 : PySem.W.codeIn K cd23 "_law_field" = true) (k23 : PySem.W.keepIn K (.ref f23) = true)
    (a24 : PySem.W.nsIn K mainGlobals "_law_draws" = some (some (.ref f24))) (l24 : K.lookup f24 = some ⟨oc24, od24, .func (PySem.W.fnOf "_law_draws" "_law_draws" (defArgs s_Ldraws) (defBody s_Ldraws) (defScope s_Ldraws) .none kV24 dc24 pm24 an24 cd24 ct24), sl24⟩) (c24 : PySem.W.codeIn K cd24 "_law_draws" = true) (k24 : PySem.W.keepIn K (.ref f24) = true)
    (a25 : PySem.W.nsIn K mainGlobals "_law_pull" = some (some (.ref f25))) (l25 : K.lookup f25 = some ⟨oc25, od25, .func (PySem.W.fnOf "_law_pull" "_law_pull" (defArgs s_Lpull) (defBody s_Lpull) (defScope s_Lpull) .none kV25 dc25 pm25 an25 cd25 ct25), sl25⟩) (c25 : PySem.W.codeIn K cd25 "_law_pull" = true) (k25 : PySem.W.keepIn K (.ref f25) = true)
    (a26 : PySem.W.nsIn K mainGlobals "_law_any" = some (some (.ref f26))) (l26 : K.lookup f26 = some ⟨oc26, od26, .func (PySem.W.fnOf "_law_any" "_law_any" (defArgs s_Lany) (defBody s_Lany) (defScope s_Lany) .none kV26 dc26 pm26 an26 cd26 ct26), sl26⟩) (c26 : PySem.W.codeIn K cd26 "_law_any" = true) (k26 : PySem.W.keepIn K (.ref f26) = true)
    (a27 : PySem.W.nsIn K mainGlobals "_law_like" = some (some (.ref f27))) (l27 : K.lookup f27 = some ⟨oc27, od27, .func (PySem.W.fnOf "_law_like" "_law_like" (defArgs s_Llike) (defBody s_Llike) (defScope s_Llike) .none kV27 dc27 pm27 an27 cd27 ct27), sl27⟩) (c27 : PySem.W.codeIn K cd27 "_law_like" = true) (k27 : PySem.W.keepIn K (.ref f27) = true)
    (a28 : PySem.W.nsIn K mainGlobals "_law_try" = some (some (.ref f28))) (l28 : K.lookup f28 = some ⟨oc28, od28, .func (PySem.W.fnOf "_law_try" "_law_try" (defArgs s_Ltry) (defBody s_Ltry) (defScope s_Ltry) .none kV28 dc28 pm28 an28 cd28 ct28), sl28⟩) (c28 : PySem.W.codeIn K cd28 "_law_try" = true) (k28 : PySem.W.keepIn K (.ref f28) = true)
    (a29 : PySem.W.nsIn K mainGlobals "_law_reserved" = some (some (.ref f29))) (l29 : K.lookup f29 = some ⟨oc29, od29, .func (PySem.W.fnOf "_law_reserved" "_law_reserved" (defArgs s_Lreserved) (defBody s_Lreserved) (defScope s_Lreserved) .none kV29 dc29 pm29 an29 cd29 ct29), sl29⟩) (c29 : PySem.W.codeIn K cd29 "_law_reserved" = true) (k29 : PySem.W.keepIn K (.ref f29) = true)
    (a30 : PySem.W.nsIn K mainGlobals "_law_new_names" = some (some (.ref f30))) (l30 : K.lookup f30 = some ⟨oc30, od30, .func (PySem.W.fnOf "_law_new_names" "_law_new_names" (defArgs s_Lnew_names) (defBody s_Lnew_names) (defScope s_Lnew_names) .none kV30 dc30 pm30 an30 cd30 ct30), sl30⟩) (c30 : PySem.W.codeIn K cd30 "_law_new_names" = true) (k30 : PySem.W.keepIn K (.ref f30) = true)
    (a31 : PySem.W.nsIn K mainGlobals "_law_is_name" = some (some (.ref f31))) (l31 : K.lookup f31 = some ⟨oc31, od31, .func (PySem.W.fnOf "_law_is_name" "_law_is_name" (defArgs s_Lis_name) (defBody s_Lis_name) (defScope s_Lis_name) .none kV31 dc31 pm31 an31 cd31 ct31), sl31⟩) (c31 : PySem.W.codeIn K cd31 "_law_is_name" = true) (k31 : PySem.W.keepIn K (.ref f31) = true)
    (a32 : PySem.W.nsIn K mainGlobals "_law_near" = some (some (.ref f32))) (l32 : K.lookup f32 = some ⟨oc32, od32, .func (PySem.W.fnOf "_law_near" "_law_near" (defArgs s_Lnear) (defBody s_Lnear) (defScope s_Lnear) .none kV32 dc32 pm32 an32 cd32 ct32), sl32⟩) (c32 : PySem.W.codeIn K cd32 "_law_near" = true) (k32 : PySem.W.keepIn K (.ref f32) = true)
    (a33 : PySem.W.nsIn K mainGlobals "_law_value_text" = some (some (.ref f33))) (l33 : K.lookup f33 = some ⟨oc33, od33, .func (PySem.W.fnOf "_law_value_text" "_law_value_text" (defArgs s_Lvalue_text) (defBody s_Lvalue_text) (defScope s_Lvalue_text) .none kV33 dc33 pm33 an33 cd33 ct33), sl33⟩) (c33 : PySem.W.codeIn K cd33 "_law_value_text" = true) (k33 : PySem.W.keepIn K (.ref f33) = true)
    (a34 : PySem.W.nsIn K mainGlobals "_law_condition_text" = some (some (.ref f34))) (l34 : K.lookup f34 = some ⟨oc34, od34, .func (PySem.W.fnOf "_law_condition_text" "_law_condition_text" (defArgs s_Lcondition_text) (defBody s_Lcondition_text) (defScope s_Lcondition_text) .none kV34 dc34 pm34 an34 cd34 ct34), sl34⟩) (c34 : PySem.W.codeIn K cd34 "_law_condition_text" = true) (k34 : PySem.W.keepIn K (.ref f34) = true)
    (a35 : PySem.W.nsIn K mainGlobals "_law_some_value" = some (some (.ref f35))) (l35 : K.lookup f35 = some ⟨oc35, od35, .func (PySem.W.fnOf "_law_some_value" "_law_some_value" (defArgs s_Lsome_value) (defBody s_Lsome_value) (defScope s_Lsome_value) .none kV35 dc35 pm35 an35 cd35 ct35), sl35⟩) (c35 : PySem.W.codeIn K cd35 "_law_some_value" = true) (k35 : PySem.W.keepIn K (.ref f35) = true)
    (a36 : PySem.W.nsIn K mainGlobals "_law_some_compared" = some (some (.ref f36))) (l36 : K.lookup f36 = some ⟨oc36, od36, .func (PySem.W.fnOf "_law_some_compared" "_law_some_compared" (defArgs s_Lsome_compared) (defBody s_Lsome_compared) (defScope s_Lsome_compared) .none kV36 dc36 pm36 an36 cd36 ct36), sl36⟩) (c36 : PySem.W.codeIn K cd36 "_law_some_compared" = true) (k36 : PySem.W.keepIn K (.ref f36) = true)
    (a37 : PySem.W.nsIn K mainGlobals "_law_some_condition" = some (some (.ref f37))) (l37 : K.lookup f37 = some ⟨oc37, od37, .func (PySem.W.fnOf "_law_some_condition" "_law_some_condition" (defArgs s_Lsome_condition) (defBody s_Lsome_condition) (defScope s_Lsome_condition) .none kV37 dc37 pm37 an37 cd37 ct37), sl37⟩) (c37 : PySem.W.codeIn K cd37 "_law_some_condition" = true) (k37 : PySem.W.keepIn K (.ref f37) = true)
    (a38 : PySem.W.nsIn K mainGlobals "_law_halves" = some (some (.ref f38))) (l38 : K.lookup f38 = some ⟨oc38, od38, .func (PySem.W.fnOf "_law_halves" "_law_halves" (defArgs s_Lhalves) (defBody s_Lhalves) (defScope s_Lhalves) .none kV38 dc38 pm38 an38 cd38 ct38), sl38⟩) (c38 : PySem.W.codeIn K cd38 "_law_halves" = true) (k38 : PySem.W.keepIn K (.ref f38) = true)
    (a39 : PySem.W.nsIn K mainGlobals "_law_good_value" = some (some (.ref f39))) (l39 : K.lookup f39 = some ⟨oc39, od39, .func (PySem.W.fnOf "_law_good_value" "_law_good_value" (defArgs s_Lgood_value) (defBody s_Lgood_value) (defScope s_Lgood_value) .none kV39 dc39 pm39 an39 (.ref cl_Lgood_value) ct39), sl39⟩) (c39 : PySem.W.codeIn K (.ref cl_Lgood_value) "_law_good_value" = true) (k39 : PySem.W.keepIn K (.ref f39) = true)
    (a40 : PySem.W.nsIn K mainGlobals "_law_good" = some (some (.ref f40))) (l40 : K.lookup f40 = some ⟨oc40, od40, .func (PySem.W.fnOf "_law_good" "_law_good" (defArgs s_Lgood) (defBody s_Lgood) (defScope s_Lgood) .none kV40 dc40 pm40 an40 cd40 ct40), sl40⟩) (c40 : PySem.W.codeIn K cd40 "_law_good" = true) (k40 : PySem.W.keepIn K (.ref f40) = true)
    (a41 : PySem.W.nsIn K mainGlobals "law" = some (some (.ref f41))) (l41 : K.lookup f41 = some ⟨oc41, od41, .func (PySem.W.fnOf "law" "law" (defArgs s_law) (defBody s_law) (defScope s_law) .none kV41 dc41 pm41 an41 (.ref cl_law) ct41), sl41⟩) (c41 : PySem.W.codeIn K (.ref cl_law) "law" = true) (k41 : PySem.W.keepIn K (.ref f41) = true)
    (z_abs : PySem.W.nsIn K mainGlobals "abs" = some none)
    (z_all : PySem.W.nsIn K mainGlobals "all" = some none)
    (z_any : PySem.W.nsIn K mainGlobals "any" = some none)
    (z_bool : PySem.W.nsIn K mainGlobals "bool" = some none)
    (z_int : PySem.W.nsIn K mainGlobals "int" = some none)
    (z_isinstance : PySem.W.nsIn K mainGlobals "isinstance" = some none)
    (z_len : PySem.W.nsIn K mainGlobals "len" = some none)
    (z_list : PySem.W.nsIn K mainGlobals "list" = some none)
    (z_range : PySem.W.nsIn K mainGlobals "range" = some none)
    (z_reversed : PySem.W.nsIn K mainGlobals "reversed" = some none)
    (z_str : PySem.W.nsIn K mainGlobals "str" = some none)
    (z_tuple : PySem.W.nsIn K mainGlobals "tuple" = some none)
    (z_zip : PySem.W.nsIn K mainGlobals "zip" = some none)
    (yT1 : PySem.W.nsIn K mainGlobals "TableError" = some (some (.ref T1)))
    (yT2 : PySem.W.nsIn K mainGlobals "Missing" = some (some (.ref T2)))
    (yT3 : PySem.W.nsIn K mainGlobals "NothingLeft" = some (some (.ref T3)))
    (ya_InvalidText : PySem.W.nsIn K mainGlobals "InvalidText" = some (some (.ref C_InvalidText))) (ye_InvalidText : PySem.W.findIn K (.ref C_InvalidText) "__init__" = some (some (.ref fI)))
    (lI : K.lookup fI = some ⟨ocI, odI, .func (PySem.W.fnOf "__init__" "TableError.__init__" (defArgs s_init) (defBody s_init) (defScope s_init) .none kVI dcI pmI anI cdI ctI), slI⟩) (cI : PySem.W.codeIn K cdI "TableError.__init__" = true) (kI : PySem.W.keepIn K (.ref fI) = true) (fT : PySem.W.typeIn K (.ref fI) = some (.type "function"))
    (yb_InvalidText : DX.ErrB K C_InvalidText "InvalidText" T1 T2 T3) (yc_InvalidText : K.lookup C_InvalidText = some (excClassObj nm_InvalidText q_InvalidText C_InvalidText N_InvalidText bs_InvalidText bm_InvalidText true sn_InvalidText sub_InvalidText ab_InvalidText col_InvalidText dd_InvalidText k0_InvalidText k1_InvalidText k2_InvalidText k3_InvalidText k5_InvalidText "ValueError.__new__")) (yd_InvalidText : PySem.HandSPX.refsVE bm_InvalidText = true)
    (tb_Lgood_value : DX.tabOf K cl_Lgood_value = some Pt_Lgood_value) (ch_Lgood_value : PySem.W.codeHdIn K cl_Lgood_value Pt_Lgood_value = true) (ht_Lgood_value : h.get? Pt_Lgood_value = some { cls := .none, data := .fields #[] }) (nt_Lgood_value : K.lookup Pt_Lgood_value = none)
    (tb_law : DX.tabOf K cl_law = some Pt_law) (ch_law : PySem.W.codeHdIn K cl_law Pt_law = true) (ht_law : h.get? Pt_law = some { cls := .none, data := .fields #[] }) (nt_law : K.lookup Pt_law = none)
    (yuq : ∀ p ∈ ([(Pt_Lgood_value, ((("_law_good_value" : Str) ++ ".<locals>.") ++ "<lambda>")), (Pt_law, ((("law" : Str) ++ ".<locals>.") ++ "<lambda>"))] : List (Addr × Str)), ∀ r ∈ ([(Pt_Lgood_value, ((("_law_good_value" : Str) ++ ".<locals>.") ++ "<lambda>")), (Pt_law, ((("law" : Str) ++ ".<locals>.") ++ "<lambda>"))] : List (Addr × Str)), p.1 = r.1 → p.2 = r.2)
    (t_BOUND : PySem.W.nsIn K mainGlobals "BOUND" = some (some (.int 1000000000000000000000000000000 tk_BOUND)))
    (t_MOST_DIGITS : PySem.W.nsIn K mainGlobals "MOST_DIGITS" = some (some (.int 31 tk_MOST_DIGITS)))
    (t_MOST_LETTERS : PySem.W.nsIn K mainGlobals "MOST_LETTERS" = some (some (.int 6 tk_MOST_LETTERS)))
    (t_RESERVED : PySem.W.nsIn K mainGlobals "RESERVED" = some (some (.ref ta_RESERVED))) (u_RESERVED : K.lookup ta_RESERVED = some ⟨to_RESERVED, td_RESERVED, .seq ti_RESERVED tn_RESERVED, ts_RESERVED⟩) (v_RESERVED : to_RESERVED = .type "tuple") (w_RESERVED : ti_RESERVED.size ≤ sizeLine) (x_RESERVED : Vals [V.str "and", V.str "found", V.str "key", V.str "next", V.str "not", V.str "or", V.str "own", V.str "set", V.str "true", V.str "where"] ti_RESERVED.toList)
    (t_DEEPEST : PySem.W.nsIn K mainGlobals "DEEPEST" = some (some (.int 6 tk_DEEPEST)))
    (y_SIGNS : PySem.W.nsIn K mainGlobals "SIGNS" = some (some (.ref da_SIGNS))) (u_SIGNS : K.lookup da_SIGNS = some ⟨.type "dict", none, .dict de_SIGNS dn_SIGNS, #[]⟩) (v_SIGNS : PySem.W.KeysLit w.params de_SIGNS.toList) (w_SIGNS : (da_SIGNS == sysModules) = false) (x_SIGNS : Tbl de_SIGNS.toList t_SIGNS)
    (y_FORMS : PySem.W.nsIn K mainGlobals "FORMS" = some (some (.ref da_FORMS))) (u_FORMS : K.lookup da_FORMS = some ⟨.type "dict", none, .dict de_FORMS dn_FORMS, #[]⟩) (v_FORMS : PySem.W.KeysLit w.params de_FORMS.toList) (w_FORMS : (da_FORMS == sysModules) = false) (x_FORMS : Tbl de_FORMS.toList t_FORMS)
    : LamX.LawAtS l w K L2.CX0 lvLaw 63 "_law_script" mg fa h := by
  have e := hfa.symm.trans (PySem.W.mg_of X G a41)
  cases e
  have F0 := fun_mk (st := s_is_name) l0 c0 k0
  have b0 := F0.binds (ps := ["value"]) fun _ _ _ _ _ _ us hl => match us, hl with | [_], _ => rfl
  have F1 := fun_mk (st := s_is_column) l1 c1 k1
  have b1 := F1.binds (ps := ["value"]) fun _ _ _ _ _ _ us hl => match us, hl with | [_], _ => rfl
  have F2 := fun_mk (st := s_is_whole) l2 c2 k2
  have b2 := F2.binds (ps := ["value"]) fun _ _ _ _ _ _ us hl => match us, hl with | [_], _ => rfl
  have F3 := fun_mk (st := s_is_bounded_) l3 c3 k3
  have b3 := F3.binds (ps := ["value"]) fun _ _ _ _ _ _ us hl => match us, hl with | [_], _ => rfl
  have F4 := fun_mk (st := s_is_single_) l4 c4 k4
  have b4 := F4.binds (ps := ["value"]) fun _ _ _ _ _ _ us hl => match us, hl with | [_], _ => rfl
  have F5 := fun_mk (st := s_is_value) l5 c5 k5
  have b5 := F5.binds (ps := ["value"]) fun _ _ _ _ _ _ us hl => match us, hl with | [_], _ => rfl
  have F6 := fun_mk (st := s_single_text_) l6 c6 k6
  have b6 := F6.binds (ps := ["value"]) fun _ _ _ _ _ _ us hl => match us, hl with | [_], _ => rfl
  have F7 := fun_mk (st := s_value_text) l7 c7 k7
  have b7 := F7.binds (ps := ["value"]) fun _ _ _ _ _ _ us hl => match us, hl with | [_], _ => rfl
  have F8 := fun_mk (st := s_read_signed_) l8 c8 k8
  have b8 := F8.binds (ps := ["sign", "word"]) fun _ _ _ _ _ _ us hl => match us, hl with | [_, _], _ => rfl
  have F9 := fun_mk (st := s_read_single_) l9 c9 k9
  have b9 := F9.binds (ps := ["word"]) fun _ _ _ _ _ _ us hl => match us, hl with | [_], _ => rfl
  have F10 := fun_mk (st := s_read_value) l10 c10 k10
  have b10 := F10.binds (ps := ["text"]) fun _ _ _ _ _ _ us hl => match us, hl with | [_], _ => rfl
  have F11 := fun_mk (st := s_is_condition_itself_) l11 c11 k11
  have b11 := F11.binds (ps := ["part"]) fun _ _ _ _ _ _ us hl => match us, hl with | [_], _ => rfl
  have F12 := fun_mk (st := s_places_) l12 c12 k12
  have b12 := F12.binds (ps := ["part"]) fun _ _ _ _ _ _ us hl => match us, hl with | [_], _ => rfl
  have F13 := fun_mk (st := s_checked_parts_) l13 c13 k13
  have b13 := F13.binds (ps := ["condition"]) fun _ _ _ _ _ _ us hl => match us, hl with | [_], _ => rfl
  have F14 := fun_mk (st := s_text_) l14 c14 k14
  have b14 := F14.binds (ps := ["part"]) fun _ _ _ _ _ _ us hl => match us, hl with | [_], _ => rfl
  have F15 := fun_mk (st := s_condition_text) l15 c15 k15
  have b15 := F15.binds (ps := ["condition"]) fun _ _ _ _ _ _ us hl => match us, hl with | [_], _ => rfl
  have F16 := fun_mk (st := s_word_) l16 c16 k16
  have b16 := F16.binds (ps := ["words", "at"]) fun _ _ _ _ _ _ us hl => match us, hl with | [_, _], _ => rfl
  have F17 := fun_mk (st := s_read_operand_) l17 c17 k17
  have b17 := F17.binds (ps := ["words", "at"]) fun _ _ _ _ _ _ us hl => match us, hl with | [_, _], _ => rfl
  have F18 := fun_mk (st := s_read_comparison_) l18 c18 k18
  have b18 := F18.binds (ps := ["words", "at"]) fun _ _ _ _ _ _ us hl => match us, hl with | [_, _], _ => rfl
  have F19 := fun_mk (st := s_read_found_) l19 c19 k19
  have b19 := F19.binds (ps := ["words", "at"]) fun _ _ _ _ _ _ us hl => match us, hl with | [_, _], _ => rfl
  have F20 := fun_mk (st := s_read_joined_) l20 c20 k20
  have b20 := F20.binds (ps := ["words", "at", "depth"]) fun _ _ _ _ _ _ us hl => match us, hl with | [_, _, _], _ => rfl
  have F21 := fun_mk (st := s_read_part_) l21 c21 k21
  have b21 := F21.binds (ps := ["words", "at", "depth"]) fun _ _ _ _ _ _ us hl => match us, hl with | [_, _, _], _ => rfl
  have F22 := fun_mk (st := s_read_condition) l22 c22 k22
  have b22 := F22.binds (ps := ["text"]) fun _ _ _ _ _ _ us hl => match us, hl with | [_], _ => rfl
  have F23 := fun_mk (st := s_Lfield) l23 c23 k23
  have b23 := F23.binds (ps := ["_law_e"]) fun _ _ _ _ _ _ us hl => match us, hl with | [_], _ => rfl
  have F24 := fun_mk (st := s_Ldraws) l24 c24 k24
  have b24 := F24.binds (ps := ["_law_script"]) fun _ _ _ _ _ _ us hl => match us, hl with | [_], _ => rfl
  have F25 := fun_mk (st := s_Lpull) l25 c25 k25
  have b25 := F25.binds (ps := ["_law_bag", "_law_sides"]) fun _ _ _ _ _ _ us hl => match us, hl with | [_, _], _ => rfl
  have F26 := fun_mk (st := s_Lany) l26 c26 k26
  have b26 := F26.binds (ps := ["_law_bag", "_law_rows"]) fun _ _ _ _ _ _ us hl => match us, hl with | [_, _], _ => rfl
  have F27 := fun_mk (st := s_Llike) l27 c27 k27
  have b27 := F27.binds (ps := ["_law_a", "_law_b"]) fun _ _ _ _ _ _ us hl => match us, hl with | [_, _], _ => rfl
  have F28 := fun_mk (st := s_Ltry) l28 c28 k28
  have b28 := F28.binds (ps := ["_law_ask"]) fun _ _ _ _ _ _ us hl => match us, hl with | [_], _ => rfl
  have F29 := fun_mk (st := s_Lreserved) l29 c29 k29
  have b29 := F29.binds (ps := []) fun _ _ _ _ _ _ us hl => match us, hl with | [], _ => rfl
  have F30 := fun_mk (st := s_Lnew_names) l30 c30 k30
  have b30 := F30.binds (ps := ["_law_bag", "_law_many"]) fun _ _ _ _ _ _ us hl => match us, hl with | [_, _], _ => rfl
  have F31 := fun_mk (st := s_Lis_name) l31 c31 k31
  have b31 := F31.binds (ps := ["_law_value"]) fun _ _ _ _ _ _ us hl => match us, hl with | [_], _ => rfl
  have F32 := fun_mk (st := s_Lnear) l32 c32 k32
  have b32 := F32.binds (ps := ["_law_bag"]) fun _ _ _ _ _ _ us hl => match us, hl with | [_], _ => rfl
  have F33 := fun_mk (st := s_Lvalue_text) l33 c33 k33
  have b33 := F33.binds (ps := ["_law_value"]) fun _ _ _ _ _ _ us hl => match us, hl with | [_], _ => rfl
  have F34 := fun_mk (st := s_Lcondition_text) l34 c34 k34
  have b34 := F34.binds (ps := ["_law_c"]) fun _ _ _ _ _ _ us hl => match us, hl with | [_], _ => rfl
  have F35 := fun_mk (st := s_Lsome_value) l35 c35 k35
  have b35 := F35.binds (ps := ["_law_bag", "_law_pool"]) fun _ _ _ _ _ _ us hl => match us, hl with | [_, _], _ => rfl
  have F36 := fun_mk (st := s_Lsome_compared) l36 c36 k36
  have b36 := F36.binds (ps := ["_law_bag", "_law_pool"]) fun _ _ _ _ _ _ us hl => match us, hl with | [_, _], _ => rfl
  have F37 := fun_mk (st := s_Lsome_condition) l37 c37 k37
  have b37 := F37.binds (ps := ["_law_bag", "_law_pool", "_law_deep"]) fun _ _ _ _ _ _ us hl => match us, hl with | [_, _, _], _ => rfl
  have F38 := fun_mk (st := s_Lhalves) l38 c38 k38
  have b38 := F38.binds (ps := ["_law_text", "_law_word"]) fun _ _ _ _ _ _ us hl => match us, hl with | [_, _], _ => rfl
  have F39 := fun_mk (st := s_Lgood_value) l39 c39 k39
  have b39 := F39.binds (ps := ["_law_text"]) fun _ _ _ _ _ _ us hl => match us, hl with | [_], _ => rfl
  have F40 := fun_mk (st := s_Lgood) l40 c40 k40
  have b40 := F40.binds (ps := ["_law_text", "_law_deep"]) fun _ _ _ _ _ _ us hl => match us, hl with | [_, _], _ => rfl
  have F41 := fun_mk (st := s_law) l41 c41 k41
  have b41 := F41.binds (ps := ["_law_script"]) fun _ _ _ _ _ _ us hl => match us, hl with | [_], _ => rfl
  have FI := fun_mk (st := s_init) lI cI kI
  have bI := FI.binds (ps := ["self"]) fun _ _ _ _ _ _ us hl => match us, hl with | [_], _ => rfl
  letI : Tabs := ⟨[(Pt_Lgood_value, ((("_law_good_value" : Str) ++ ".<locals>.") ++ "<lambda>")), (Pt_law, ((("law" : Str) ++ ".<locals>.") ++ "<lambda>"))], yuq⟩
  refine ⟨PySem.W.fnOf "law" "law" (defArgs s_law) (defBody s_law) (defScope s_law) .none kV41 dc41 pm41 an41 (.ref cl_law) ct41, [(cl_Lgood_value, Pt_Lgood_value), (cl_law, Pt_law)], spLaw K, List.forall_mem_cons.mpr ⟨ht_Lgood_value, List.forall_mem_cons.mpr ⟨ht_law, (fun _ hx => nomatch hx)⟩⟩, List.forall_mem_cons.mpr ⟨nt_Lgood_value, List.forall_mem_cons.mpr ⟨nt_law, (fun _ hx => nomatch hx)⟩⟩, List.forall_mem_cons.mpr ⟨PySem.W.codeHd_of_K X ch_Lgood_value, List.forall_mem_cons.mpr ⟨PySem.W.codeHd_of_K X ch_law, (fun _ hx => nomatch hx)⟩⟩, fun s v => .of_eq rfl, fun H a ns hlen hbits hH hS => ⟨a, ns, rfl, hS, hlen, List.forall_mem_cons.mpr ⟨hH _ (List.mem_cons_self ..), List.forall_mem_cons.mpr ⟨hH _ (List.mem_cons_of_mem _ (List.mem_cons_self ..)), (fun _ hx => nomatch hx)⟩⟩, fun _ => rfl⟩, fun base _ _ hTB => ?_⟩
  let T : Tx w K mg base := {
    f_is_name := f0
    fd_is_name := _
    F_is_name := F0
    m_is_name := PySem.W.mg_of X G a0
    b_is_name := b0
    f_is_column := f1
    fd_is_column := _
    F_is_column := F1
    m_is_column := PySem.W.mg_of X G a1
    b_is_column := b1
    f_is_whole := f2
    fd_is_whole := _
    F_is_whole := F2
    m_is_whole := PySem.W.mg_of X G a2
    b_is_whole := b2
    f_is_bounded_ := f3
    fd_is_bounded_ := _
    F_is_bounded_ := F3
    m_is_bounded_ := PySem.W.mg_of X G a3
    b_is_bounded_ := b3
    f_is_single_ := f4
    fd_is_single_ := _
    F_is_single_ := F4
    m_is_single_ := PySem.W.mg_of X G a4
    b_is_single_ := b4
    f_is_value := f5
    fd_is_value := _
    F_is_value := F5
    m_is_value := PySem.W.mg_of X G a5
    b_is_value := b5
    f_single_text_ := f6
    fd_single_text_ := _
    F_single_text_ := F6
    m_single_text_ := PySem.W.mg_of X G a6
    b_single_text_ := b6
    f_value_text := f7
    fd_value_text := _
    F_value_text := F7
    m_value_text := PySem.W.mg_of X G a7
    b_value_text := b7
    f_read_signed_ := f8
    fd_read_signed_ := _
    F_read_signed_ := F8
    m_read_signed_ := PySem.W.mg_of X G a8
    b_read_signed_ := b8
    f_read_single_ := f9
    fd_read_single_ := _
    F_read_single_ := F9
    m_read_single_ := PySem.W.mg_of X G a9
    b_read_single_ := b9
    f_read_value := f10
    fd_read_value := _
    F_read_value := F10
    m_read_value := PySem.W.mg_of X G a10
    b_read_value := b10
    f_is_condition_itself_ := f11
    fd_is_condition_itself_ := _
    F_is_condition_itself_ := F11
    m_is_condition_itself_ := PySem.W.mg_of X G a11
    b_is_condition_itself_ := b11
    f_places_ := f12
    fd_places_ := _
    F_places_ := F12
    m_places_ := PySem.W.mg_of X G a12
    b_places_ := b12
    f_checked_parts_ := f13
    fd_checked_parts_ := _
    F_checked_parts_ := F13
    m_checked_parts_ := PySem.W.mg_of X G a13
    b_checked_parts_ := b13
    f_text_ := f14
    fd_text_ := _
    F_text_ := F14
    m_text_ := PySem.W.mg_of X G a14
    b_text_ := b14
    f_condition_text := f15
    fd_condition_text := _
    F_condition_text := F15
    m_condition_text := PySem.W.mg_of X G a15
    b_condition_text := b15
    f_word_ := f16
    fd_word_ := _
    F_word_ := F16
    m_word_ := PySem.W.mg_of X G a16
    b_word_ := b16
    f_read_operand_ := f17
    fd_read_operand_ := _
    F_read_operand_ := F17
    m_read_operand_ := PySem.W.mg_of X G a17
    b_read_operand_ := b17
    f_read_comparison_ := f18
    fd_read_comparison_ := _
    F_read_comparison_ := F18
    m_read_comparison_ := PySem.W.mg_of X G a18
    b_read_comparison_ := b18
    f_read_found_ := f19
    fd_read_found_ := _
    F_read_found_ := F19
    m_read_found_ := PySem.W.mg_of X G a19
    b_read_found_ := b19
    f_read_joined_ := f20
    fd_read_joined_ := _
    F_read_joined_ := F20
    m_read_joined_ := PySem.W.mg_of X G a20
    b_read_joined_ := b20
    f_read_part_ := f21
    fd_read_part_ := _
    F_read_part_ := F21
    m_read_part_ := PySem.W.mg_of X G a21
    b_read_part_ := b21
    f_read_condition := f22
    fd_read_condition := _
    F_read_condition := F22
    m_read_condition := PySem.W.mg_of X G a22
    b_read_condition := b22
    f_Lfield := f23
    fd_Lfield := _
    F_Lfield := F23
    m_Lfield := PySem.W.mg_of X G a23
    b_Lfield := b23
    f_Ldraws := f24
    fd_Ldraws := _
    F_Ldraws := F24
    m_Ldraws := PySem.W.mg_of X G a24
    b_Ldraws := b24
    f_Lpull := f25
    fd_Lpull := _
    F_Lpull := F25
    m_Lpull := PySem.W.mg_of X G a25
    b_Lpull := b25
    f_Lany := f26
    fd_Lany := _
    F_Lany := F26
    m_Lany := PySem.W.mg_of X G a26
    b_Lany := b26
    f_Llike := f27
    fd_Llike := _
    F_Llike := F27
    m_Llike := PySem.W.mg_of X G a27
    b_Llike := b27
    f_Ltry := f28
    fd_Ltry := _
    F_Ltry := F28
    m_Ltry := PySem.W.mg_of X G a28
    b_Ltry := b28
    f_Lreserved := f29
    fd_Lreserved := _
    F_Lreserved := F29
    m_Lreserved := PySem.W.mg_of X G a29
    b_Lreserved := b29
    f_Lnew_names := f30
    fd_Lnew_names := _
    F_Lnew_names := F30
    m_Lnew_names := PySem.W.mg_of X G a30
    b_Lnew_names := b30
    f_Lis_name := f31
    fd_Lis_name := _
    F_Lis_name := F31
    m_Lis_name := PySem.W.mg_of X G a31
    b_Lis_name := b31
    f_Lnear := f32
    fd_Lnear := _
    F_Lnear := F32
    m_Lnear := PySem.W.mg_of X G a32
    b_Lnear := b32
    f_Lvalue_text := f33
    fd_Lvalue_text := _
    F_Lvalue_text := F33
    m_Lvalue_text := PySem.W.mg_of X G a33
    b_Lvalue_text := b33
    f_Lcondition_text := f34
    fd_Lcondition_text := _
    F_Lcondition_text := F34
    m_Lcondition_text := PySem.W.mg_of X G a34
    b_Lcondition_text := b34
    f_Lsome_value := f35
    fd_Lsome_value := _
    F_Lsome_value := F35
    m_Lsome_value := PySem.W.mg_of X G a35
    b_Lsome_value := b35
    f_Lsome_compared := f36
    fd_Lsome_compared := _
    F_Lsome_compared := F36
    m_Lsome_compared := PySem.W.mg_of X G a36
    b_Lsome_compared := b36
    f_Lsome_condition := f37
    fd_Lsome_condition := _
    F_Lsome_condition := F37
    m_Lsome_condition := PySem.W.mg_of X G a37
    b_Lsome_condition := b37
    f_Lhalves := f38
    fd_Lhalves := _
    F_Lhalves := F38
    m_Lhalves := PySem.W.mg_of X G a38
    b_Lhalves := b38
    cl_Lgood_value := cl_Lgood_value
    Pt_Lgood_value := Pt_Lgood_value
    i_Lgood_value := (List.mem_cons_self ..)
    B_Lgood_value := hTB _ (List.mem_cons_self ..)
    C_Lgood_value := ⟨⟨_, _, _, _, _, _, _, _, rfl, l39, c39⟩⟩
    f_Lgood_value := f39
    fd_Lgood_value := _
    F_Lgood_value := F39
    m_Lgood_value := PySem.W.mg_of X G a39
    b_Lgood_value := b39
    f_Lgood := f40
    fd_Lgood := _
    F_Lgood := F40
    m_Lgood := PySem.W.mg_of X G a40
    b_Lgood := b40
    cl_law := cl_law
    Pt_law := Pt_law
    i_law := (List.mem_cons_of_mem _ (List.mem_cons_self ..))
    B_law := hTB _ (List.mem_cons_of_mem _ (List.mem_cons_self ..))
    C_law := ⟨⟨_, _, _, _, _, _, _, _, rfl, l41, c41⟩⟩
    f_law := fa
    fd_law := _
    F_law := F41
    m_law := PySem.W.mg_of X G a41
    b_law := b41
    n_abs := PySem.W.mg_none_of X G z_abs
    n_all := PySem.W.mg_none_of X G z_all
    n_any := PySem.W.mg_none_of X G z_any
    n_bool := PySem.W.mg_none_of X G z_bool
    n_int := PySem.W.mg_none_of X G z_int
    n_isinstance := PySem.W.mg_none_of X G z_isinstance
    n_len := PySem.W.mg_none_of X G z_len
    n_list := PySem.W.mg_none_of X G z_list
    n_range := PySem.W.mg_none_of X G z_range
    n_reversed := PySem.W.mg_none_of X G z_reversed
    n_str := PySem.W.mg_none_of X G z_str
    n_tuple := PySem.W.mg_none_of X G z_tuple
    n_zip := PySem.W.mg_none_of X G z_zip
    E_InvalidText := ⟨C_InvalidText, PySem.W.mg_of X G ya_InvalidText, yb_InvalidText.to yT1 yT2 yT3 ⟨_, _, _, _, _, _, _, _, _, _, _, _, _, _, _, yc_InvalidText, yd_InvalidText⟩, ye_InvalidText, fT⟩
    T1 := T1
    T2 := T2
    T3 := T3
    m_T1 := PySem.W.mg_of X G yT1
    m_T2 := PySem.W.mg_of X G yT2
    m_T3 := PySem.W.mg_of X G yT3
    y_T1 := yT1
    y_T2 := yT2
    y_T3 := yT3
    f_init := fI
    fd_init := _
    F_init := FI
    b_init := bI
    g_BOUND := ⟨_, PySem.W.mg_of X G t_BOUND, ⟨_, rfl⟩⟩
    g_MOST_DIGITS := ⟨_, PySem.W.mg_of X G t_MOST_DIGITS, ⟨_, rfl⟩⟩
    g_MOST_LETTERS := ⟨_, PySem.W.mg_of X G t_MOST_LETTERS, ⟨_, rfl⟩⟩
    a_RESERVED := ta_RESERVED
    g_RESERVED := PySem.W.mg_of X G t_RESERVED
    q_RESERVED := fun G => .inr ⟨_, _, _, u_RESERVED, v_RESERVED, rfl, w_RESERVED, x_RESERVED⟩
    g_DEEPEST := ⟨_, PySem.W.mg_of X G t_DEEPEST, ⟨_, rfl⟩⟩
    a_SIGNS := da_SIGNS
    g_SIGNS := PySem.W.mg_of X G y_SIGNS
    k_SIGNS := ⟨_, _, ⟨u_SIGNS, v_SIGNS, w_SIGNS⟩, x_SIGNS⟩
    a_FORMS := da_FORMS
    g_FORMS := PySem.W.mg_of X G y_FORMS
    k_FORMS := ⟨_, _, ⟨u_FORMS, v_FORMS, w_FORMS⟩, x_FORMS⟩ }
  exact ok_law T hB
end K07
open PySem PySem.W PyProof.Rows
set_option maxRecDepth 100000 in
set_option maxHeartbeats 0 in
theorem PySem.Challenge.cw_lookedrows_k07_whole_broken_texts_of_con_holds : PySem.Challenge.rw_lookedrows_k07_whole_broken_texts_of_con.Holds := by
  w_on; o_law; k_head; (case hw => w_witness2)
  k_fill
  refine LamX.walk_ofTs (l := PySem.Challenge.rw_lookedrows_k07_whole_broken_texts_of_con) (n := 63) (k := K07.lvLaw) (x := "_law_script") (CX := fun _ => L2.CX0) rfl (by decide) rfl ⟨rfl, by decide, by decide⟩ (fun w h Y => PySem.W.km_in_of Y) ?F (fun _ _ _ _ _ h => h)
  case F =>
    intro w mg fa h Y KX G hmg
    have hTabs := PySem.W.km_tabs_of Y
    refine' K07.all_mk KX G hmg ?a0 ?l0 ?c0 ?k0 ?a1 ?l1 ?c1 ?k1 ?a2 ?l2 ?c2 ?k2 ?a3 ?l3 ?c3 ?k3 ?a4 ?l4 ?c4 ?k4 ?a5 ?l5 ?c5 ?k5 ?a6 ?l6 ?c6 ?k6 ?a7 ?l7 ?c7 ?k7 ?a8 ?l8 ?c8 ?k8 ?a9 ?l9 ?c9 ?k9 ?a10 ?l10 ?c10 ?k10 ?a11 ?l11 ?c11 ?k11 ?a12 ?l12 ?c12 ?k12 ?a13 ?l13 ?c13 ?k13 ?a14 ?l14 ?c14 ?k14 ?a15 ?l15 ?c15 ?k15 ?a16 ?l16 ?c16 ?k16 ?a17 ?l17 ?c17 ?k17 ?a18 ?l18 ?c18 ?k18 ?a19 ?l19 ?c19 ?k19 ?a20 ?l20 ?c20 ?k20 ?a21 ?l21 ?c21 ?k21 ?a22 ?l22 ?c22 ?k22 ?a23 ?l23 ?c23 ?k23 ?a24 ?l24 ?c24 ?k24 ?a25 ?l25 ?c25 ?k25 ?a26 ?l26 ?c26 ?k26 ?a27 ?l27 ?c27 ?k27 ?a28 ?l28 ?c28 ?k28 ?a29 ?l29 ?c29 ?k29 ?a30 ?l30 ?c30 ?k30 ?a31 ?l31 ?c31 ?k31 ?a32 ?l32 ?c32 ?k32 ?a33 ?l33 ?c33 ?k33 ?a34 ?l34 ?c34 ?k34 ?a35 ?l35 ?c35 ?k35 ?a36 ?l36 ?c36 ?k36 ?a37 ?l37 ?c37 ?k37 ?a38 ?l38 ?c38 ?k38 ?a39 ?l39 ?c39 ?k39 ?a40 ?l40 ?c40 ?k40 ?a41 ?l41 ?c41 ?k41 ?z_abs ?z_all ?z_any ?z_bool ?z_int ?z_isinstance ?z_len ?z_list ?z_range ?z_reversed ?z_str ?z_tuple ?z_zip ?yT1 ?yT2 ?yT3 ?ya_InvalidText ?ye_InvalidText ?lI ?cI ?kI ?fT ?yb_InvalidText ?yc_InvalidText ?yd_InvalidText ?tb_Lgood_value ?ch_Lgood_value ?ht_Lgood_value ?nt_Lgood_value ?tb_law ?ch_law ?ht_law ?nt_law ?yuq ?t_BOUND ?t_MOST_DIGITS ?t_MOST_LETTERS ?t_RESERVED ?u_RESERVED ?v_RESERVED ?w_RESERVED ?x_RESERVED ?t_DEEPEST ?y_SIGNS ?u_SIGNS ?v_SIGNS ?w_SIGNS ?x_SIGNS ?y_FORMS ?u_FORMS ?v_FORMS ?w_FORMS ?x_FORMS
    (case a0 => first | k_is | fail)
    (case l0 => first | k_is | fail)
    (case c0 => first | k_is | fail)
    (case k0 => first | k_is | fail)
    (case a1 => first | k_is | fail)
    (case l1 => first | k_is | fail)
    (case c1 => first | k_is | fail)
    (case k1 => first | k_is | fail)
    (case a2 => first | k_is | fail)
    (case l2 => first | k_is | fail)
    (case c2 => first | k_is | fail)
    (case k2 => first | k_is | fail)
    (case a3 => first | k_is | fail)
    (case l3 => first | k_is | fail)
    (case c3 => first | k_is | fail)
    (case k3 => first | k_is | fail)
    (case a4 => first | k_is | fail)
    (case l4 => first | k_is | fail)
    (case c4 => first | k_is | fail)
    (case k4 => first | k_is | fail)
    (case a5 => first | k_is | fail)
    (case l5 => first | k_is | fail)
    (case c5 => first | k_is | fail)
    (case k5 => first | k_is | fail)
    (case a6 => first | k_is | fail)
    (case l6 => first | k_is | fail)
    (case c6 => first | k_is | fail)
    (case k6 => first | k_is | fail)
    (case a7 => first | k_is | fail)
    (case l7 => first | k_is | fail)
    (case c7 => first | k_is | fail)
    (case k7 => first | k_is | fail)
    (case a8 => first | k_is | fail)
    (case l8 => first | k_is | fail)
    (case c8 => first | k_is | fail)
    (case k8 => first | k_is | fail)
    (case a9 => first | k_is | fail)
    (case l9 => first | k_is | fail)
    (case c9 => first | k_is | fail)
    (case k9 => first | k_is | fail)
    (case a10 => first | k_is | fail)
    (case l10 => first | k_is | fail)
    (case c10 => first | k_is | fail)
    (case k10 => first | k_is | fail)
    (case a11 => first | k_is | fail)
    (case l11 => first | k_is | fail)
    (case c11 => first | k_is | fail)
    (case k11 => first | k_is | fail)
    (case a12 => first | k_is | fail)
    (case l12 => first | k_is | fail)
    (case c12 => first | k_is | fail)
    (case k12 => first | k_is | fail)
    (case a13 => first | k_is | fail)
    (case l13 => first | k_is | fail)
    (case c13 => first | k_is | fail)
    (case k13 => first | k_is | fail)
    (case a14 => first | k_is | fail)
    (case l14 => first | k_is | fail)
    (case c14 => first | k_is | fail)
    (case k14 => first | k_is | fail)
    (case a15 => first | k_is | fail)
    (case l15 => first | k_is | fail)
    (case c15 => first | k_is | fail)
    (case k15 => first | k_is | fail)
    (case a16 => first | k_is | fail)
    (case l16 => first | k_is | fail)
    (case c16 => first | k_is | fail)
    (case k16 => first | k_is | fail)
    (case a17 => first | k_is | fail)
    (case l17 => first | k_is | fail)
    (case c17 => first | k_is | fail)
    (case k17 => first | k_is | fail)
    (case a18 => first | k_is | fail)
    (case l18 => first | k_is | fail)
    (case c18 => first | k_is | fail)
    (case k18 => first | k_is | fail)
    (case a19 => first | k_is | fail)
    (case l19 => first | k_is | fail)
    (case c19 => first | k_is | fail)
    (case k19 => first | k_is | fail)
    (case a20 => first | k_is | fail)
    (case l20 => first | k_is | fail)
    (case c20 => first | k_is | fail)
    (case k20 => first | k_is | fail)
    (case a21 => first | k_is | fail)
    (case l21 => first | k_is | fail)
    (case c21 => first | k_is | fail)
    (case k21 => first | k_is | fail)
    (case a22 => first | k_is | fail)
    (case l22 => first | k_is | fail)
    (case c22 => first | k_is | fail)
    (case k22 => first | k_is | fail)
    (case a23 => first | k_is | fail)
    (case l23 => first | k_is | fail)
    (case c23 => first | k_is | fail)
    (case k23 => first | k_is | fail)
    (case a24 => first | k_is | fail)
    (case l24 => first | k_is | fail)
    (case c24 => first | k_is | fail)
    (case k24 => first | k_is | fail)
    (case a25 => first | k_is | fail)
    (case l25 => first | k_is | fail)
    (case c25 => first | k_is | fail)
    (case k25 => first | k_is | fail)
    (case a26 => first | k_is | fail)
    (case l26 => first | k_is | fail)
    (case c26 => first | k_is | fail)
    (case k26 => first | k_is | fail)
    (case a27 => first | k_is | fail)
    (case l27 => first | k_is | fail)
    (case c27 => first | k_is | fail)
    (case k27 => first | k_is | fail)
    (case a28 => first | k_is | fail)
    (case l28 => first | k_is | fail)
    (case c28 => first | k_is | fail)
    (case k28 => first | k_is | fail)
    (case a29 => first | k_is | fail)
    (case l29 => first | k_is | fail)
    (case c29 => first | k_is | fail)
    (case k29 => first | k_is | fail)
    (case a30 => first | k_is | fail)
    (case l30 => first | k_is | fail)
    (case c30 => first | k_is | fail)
    (case k30 => first | k_is | fail)
    (case a31 => first | k_is | fail)
    (case l31 => first | k_is | fail)
    (case c31 => first | k_is | fail)
    (case k31 => first | k_is | fail)
    (case a32 => first | k_is | fail)
    (case l32 => first | k_is | fail)
    (case c32 => first | k_is | fail)
    (case k32 => first | k_is | fail)
    (case a33 => first | k_is | fail)
    (case l33 => first | k_is | fail)
    (case c33 => first | k_is | fail)
    (case k33 => first | k_is | fail)
    (case a34 => first | k_is | fail)
    (case l34 => first | k_is | fail)
    (case c34 => first | k_is | fail)
    (case k34 => first | k_is | fail)
    (case a35 => first | k_is | fail)
    (case l35 => first | k_is | fail)
    (case c35 => first | k_is | fail)
    (case k35 => first | k_is | fail)
    (case a36 => first | k_is | fail)
    (case l36 => first | k_is | fail)
    (case c36 => first | k_is | fail)
    (case k36 => first | k_is | fail)
    (case a37 => first | k_is | fail)
    (case l37 => first | k_is | fail)
    (case c37 => first | k_is | fail)
    (case k37 => first | k_is | fail)
    (case a38 => first | k_is | fail)
    (case l38 => first | k_is | fail)
    (case c38 => first | k_is | fail)
    (case k38 => first | k_is | fail)
    (case a39 => first | k_is | fail)
    (case l39 => first | k_is | fail)
    (case c39 => first | k_is | fail)
    (case k39 => first | k_is | fail)
    (case a40 => first | k_is | fail)
    (case l40 => first | k_is | fail)
    (case c40 => first | k_is | fail)
    (case k40 => first | k_is | fail)
    (case a41 => first | k_is | fail)
    (case l41 => first | k_is | fail)
    (case c41 => first | k_is | fail)
    (case k41 => first | k_is | fail)
    (case z_abs => first | k_is | fail)
    (case z_all => first | k_is | fail)
    (case z_any => first | k_is | fail)
    (case z_bool => first | k_is | fail)
    (case z_int => first | k_is | fail)
    (case z_isinstance => first | k_is | fail)
    (case z_len => first | k_is | fail)
    (case z_list => first | k_is | fail)
    (case z_range => first | k_is | fail)
    (case z_reversed => first | k_is | fail)
    (case z_str => first | k_is | fail)
    (case z_tuple => first | k_is | fail)
    (case z_zip => first | k_is | fail)
    (case yT1 => first | k_is | fail)
    (case yT2 => first | k_is | fail)
    (case yT3 => first | k_is | fail)
    (case ya_InvalidText => first | k_is | fail)
    (case ye_InvalidText => first | k_is | fail)
    (case lI => first | k_is | fail)
    (case cI => first | k_is | fail)
    (case kI => first | k_is | fail)
    (case fT => first | k_is | fail)
    (case yb_InvalidText => constructor <;> first | k_is | rfl)
    (case yc_InvalidText => first | k_is | fail)
    (case yd_InvalidText => first | k_is | rfl | decide)
    (case tb_Lgood_value => first | k_is | rfl)
    (case ch_Lgood_value => kernel_rfl)
    (case ht_Lgood_value => exact hTabs _ (by simp))
    (case nt_Lgood_value => first | k_is | rfl | kernel_rfl)
    (case tb_law => first | k_is | rfl)
    (case ch_law => kernel_rfl)
    (case ht_law => exact hTabs _ (by simp))
    (case nt_law => first | k_is | rfl | kernel_rfl)
    (case yuq => decide +kernel)
    (case t_BOUND => first | k_is | fail)
    (case t_MOST_DIGITS => first | k_is | fail)
    (case t_MOST_LETTERS => first | k_is | fail)
    (case t_RESERVED => first | k_is | fail)
    (case u_RESERVED => first | k_is | fail)
    (case v_RESERVED => rfl)
    (case w_RESERVED => decide)
    (case x_RESERVED => exact (.cons ⟨_, rfl⟩ (.cons ⟨_, rfl⟩ (.cons ⟨_, rfl⟩ (.cons ⟨_, rfl⟩ (.cons ⟨_, rfl⟩ (.cons ⟨_, rfl⟩ (.cons ⟨_, rfl⟩ (.cons ⟨_, rfl⟩ (.cons ⟨_, rfl⟩ (.cons ⟨_, rfl⟩ .nil)))))))))))
    (case t_DEEPEST => first | k_is | fail)
    (case y_SIGNS => first | k_is | fail)
    (case u_SIGNS => first | k_is | fail)
    (case v_SIGNS => exact ⟨⟨_, _, rfl, rfl⟩, ⟨_, _, rfl, rfl⟩, ⟨_, _, rfl, rfl⟩, trivial⟩)
    (case w_SIGNS => first | k_is | rfl | decide)
    (case x_SIGNS => exact (.cons (.cons (.cons .nil))))
    (case y_FORMS => first | k_is | fail)
    (case u_FORMS => first | k_is | fail)
    (case v_FORMS => exact ⟨⟨_, _, rfl, rfl⟩, ⟨_, _, rfl, rfl⟩, ⟨_, _, rfl, rfl⟩, trivial⟩)
    (case w_FORMS => first | k_is | rfl | decide)
    (case x_FORMS => exact (.cons (.cons (.cons .nil))))
