import PyProof.Rows.All
import Wide.All
import OpenK.AllK
import Wide.FinOn
import HandS.Base
import HandS.Call
import HandS.IsInst
import HandS.Exc
import HandS.ExcInit
import HandS.ExcIs
import HandS.ExcField
import KE.KExcIs
import HandS.List
import HandS.Comp
import HandS.Ends
import HandS.Dict
import HandS.Iter
import HandS.Text
import HandS.Words
import HandS.WordsList
import HandS.Walk
import HandS.Zip
import HandS.Lambda
import HandS.TupAny
import HandS.Style
import HandS.FStr
import HandS.RaiseMore
import HandS.Rev
import HandS.Conv
import HandS.Star
import HandS.More
import HandS.ReplaceDef
import KE.KTypeName
import KE.KExcInit
import HandS.ExcOwn
import HandS.TryMany
import KE.KTryMore
import PyProof.TupleIter
import HandS.HotCalls
import HandS.WordsExc
import HandS.EndTab
import KE.KDflt
import KE.KSuper
import HandS.GenList
import PySem.Challenge.RW_lookedrows_k01_errors_by_themselves
set_option Elab.async false
set_option linter.all false
set_option maxRecDepth 100000
/-! types of values, errors of own classes among them -/
namespace DL
open PySem PySem.Spec PyProof.Rows L2
/-- the value's type: as the library has it, or an error of an own class, made and not raised -/
def TyE (K : PySem.W.Frag) (H : Hp) (x : V) (t : Value) : Prop := TyX K H x t ∨ ∃ (a C dx : Addr) (fs : List (Str × V)), x = .ref a ∧ t = .ref C ∧ H a = some (exo a C (some dx)) ∧ H dx = some (exd dx fs) ∧ ExcC K C
section
variable {X : Cx} {pins : List (Addr × Obj)} {σ : L2.St} {H : Hp} {s : Shared}
theorem kit_ofE {x : V} {u t : Value} (I : Inv X pins σ H s) (rx : RelV x u) (ty : TyE X.K H x t) : ∃ P : Heap → Prop, PySem.W.KitX X.K u t P ∧ P s.heap ∧ u ≠ .builtin "__main__.__loader__#opaque" := by
  rcases ty with ty | ⟨a, C, dx, fs, rfl, rfl, ea, ed, T⟩
  · exact kit_of I rx ty
  · obtain rfl : u = Value.ref a := rx
    obtain ⟨t1, ho⟩ := exo_at I.hok ea
    obtain ⟨mA, hns, rel⟩ := exd_at I.hok ed
    obtain ⟨oD, _, _, hoD, _, _⟩ := hns.count (within_of rel)
    have J : PySem.W.InstAt s.heap a { cls := .ref C, dict := some dx, data := .fields #[.ref t1, .none, .none, .none, .bool false, .none] } C (some oD) := ⟨ho, rfl, rfl, hoD⟩
    obtain ⟨cd, hc, _⟩ := PySem.W.any_some T.hd
    exact ⟨_, PySem.W.kitx_exc (by rw [hc]; rfl) T.hg T.hk T.hs T.ha T.hn T.ht T.hm, J, fun z => nomatch z⟩
end
/-- isinstance(x, c) -/
def rIsE1 (K : PySem.W.Frag) : List V → Hp → VK → Prop := fun xs H Q => ∃ (x c : V) (t u : Value) (b : Bool), xs = [x, c] ∧ ClsV c u ∧ TyE K H x t ∧ PySem.W.kitOne K t u = some b ∧ Q (.bl b) H
/-- isinstance(x, (c1, c2, ..)) -/
def rIsET (K : PySem.W.Frag) : List V → Hp → VK → Prop := fun xs H Q => ∃ (x : V) (tp : Addr) (cs : List V) (t : Value) (us : List Value) (b : Bool), xs = [x, .ref tp] ∧ H tp = some (.tup cs) ∧ Paired ClsV cs us ∧ TyE K H x t ∧ PySem.W.kitAny K t us = some b ∧ Q (.bl b) H
section
variable {X : Cx}
theorem call_isE1 : CallR X (.builtin "isinstance") (rIsE1 X.K) := by
  intro pins s σ H xs us Q I r h
  obtain ⟨x, c, t, u, b, rfl, k, ty, e, q⟩ := h
  obtain ⟨u1, u2, rfl, r1, r2⟩ := vals2 r
  have e2 := k.eq r2
  subst e2
  obtain ⟨P, Z, p, hx⟩ := kit_ofE I r1 ty
  refine PySem.W.kia_one Z I.kIn p e hx fun tk => ?_
  exact ⟨.bl b, H, I.tok tk, rfl, q⟩
theorem call_isET : CallR X (.builtin "isinstance") (rIsET X.K) := by
  intro pins s σ H xs us Q I r h
  obtain ⟨x, tp, cs, t, ws, b, rfl, hT, k, ty, e, q⟩ := h
  obtain ⟨u1, u2, rfl, r1, r2⟩ := vals2 r
  obtain rfl : u2 = Value.ref tp := r2
  obtain ⟨P, Z, p, hx⟩ := kit_ofE I r1 ty
  have hh : ObjOk X.prog X.w H s.heap tp (.tup cs) := I.hok tp _ hT
  obtain ⟨_, its, rv, o, h1, h2, n, h3⟩ := hh
  have e3 := ClsV.all k rv
  subst e3
  obtain ⟨oc, od, dt, sl⟩ := o
  simp only at h2 h3
  subst h2 h3
  refine PySem.W.kia_tup Z I.kIn p h1 e hx fun tk => ?_
  exact ⟨.bl b, H, I.tok tk, rfl, q⟩
end

/-! ### the class of an error that is data -/
/-- the fields that errors bear -/
def errAll : List Str := ["code", "path", "index", "given", "witness", "key", "name", "word", "most", "limit"]
def noAtt (K : PySem.W.Frag) (C : Addr) (f : Str) : Bool := match PySem.W.findIn K (.ref C) f with
  | some none => true
  | _ => false
def kitNo (K : PySem.W.Frag) (C : Addr) (T : String) : Bool := match PySem.W.kitOne K (.ref C) (.type T) with
  | some false => true
  | _ => false
structure ErrV (K : PySem.W.Frag) (c : Str) (C : Addr) : Prop where
  at_ : PySem.W.nsIn K mainGlobals c = some (some (.ref C))
  exc : L2.ExcC K C
  nof : (errAll.all fun f => noAtt K C f) = true
  kit : ((["int", "str", "bool", "tuple", "list", "dict"] : List String).all fun T => kitNo K C T) = true
theorem ErrV.no {K : PySem.W.Frag} {c : Str} {C : Addr} (T : ErrV K c C) {f : Str} (h : f ∈ errAll) : PySem.W.findIn K (.ref C) f = some none := by
  have e := List.all_eq_true.mp T.nof f h
  unfold noAtt at e
  split at e
  · assumption
  · cases e
theorem ErrV.kin {K : PySem.W.Frag} {c : Str} {C : Addr} (T : ErrV K c C) {n : String} (h : n ∈ (["int", "str", "bool", "tuple", "list", "dict"] : List String)) : PySem.W.kitOne K (.ref C) (.type n) = some false := by
  have e := List.all_eq_true.mp T.kit n h
  unfold kitNo at e
  split at e
  · assumption
  · cases e
end DL

namespace DL
open PySem PySem.Spec PyProof.Rows L2

/-- the tables of code objects that may grow, each with the name that its own bear -/
class Tabs where
  ts : List (Addr × Str)
  uq : ∀ p ∈ ts, ∀ r ∈ ts, p.1 = r.1 → p.2 = r.2
/-- none -/
abbrev noTabs : Tabs := ⟨[], fun _ h => nomatch h⟩
/-- where the instance stands that a def is making -/
class Me where
  me : Addr
variable [Tabs] [Me]

/-! ### data without addresses -/
omit [Me] in
inductive Dt where
  | non | bl (b : Bool) | int (i : Int) | str (x : Str) | tup (l : List Dt) | lst (l : List Dt) | bag
  /-- a dict that never changes: its keys, its values -/
  | dic (ks : List Key) (l : List Dt)
  /-- an instance of an own class that never changes: the class's name, its attributes -/
  | ins (c : Str) (ks : List Str) (l : List Dt)
  /-- an error of an own class, made and not raised: the class's name, its attributes -/
  | err (c : Str) (ks : List Str) (l : List Dt)

omit [Me] in
abbrev Ext (G G' : Hp) : Prop := ∀ a o, G a = some o → G' a = some o
theorem Ext.refl (G : Hp) : Ext G G := fun _ _ h => h
theorem Ext.trans {G G1 G2 : Hp} (a : Ext G G1) (b : Ext G1 G2) : Ext G G2 := fun x o h => b x o (a x o h)
theorem Ext.new {G : Hp} {p : Addr} {o : HO} (h : G p = none) : Ext G (upd G p o) := fun a u e => by
  rw [upd_ne (ne_of_none e h)]
  exact e
theorem ext_t {K : PySem.W.Frag} {H H' : Hp} {a : Addr} {xs : List V} (e : Ext H H') (h : SqT K H a xs) : SqT K H' a xs := by
  rcases h with (h | ⟨o, h⟩) | h
  · exact .inl (.inl (e _ _ h))
  · exact .inl (.inr ⟨o, e _ _ h⟩)
  · exact .inr h

omit [Me] in
/-- what the fixed part says of an own class whose instances are data -/
structure InsC (K : PySem.W.Frag) (c : Str) (C : Addr) : Prop where
  at_ : PySem.W.nsIn K mainGlobals c = some (some (.ref C))
  cls : L2.Cls K C
  ha : PySem.W.findIn K (.ref C) "__class__" = some (some (.builtin "object.__class__"))
  hn : PySem.W.specialIn K (.builtin "object.__class__") "__get__" = some (some (.builtin "getset_descriptor.__get__"))
  ht : PySem.W.takesIn K (.builtin "object.__class__") = some true
  hm : PySem.W.mroIn K C (.type "object") = some true
  kit : ∀ T ∈ (["int", "str", "bool", "tuple", "list", "dict"] : List String), PySem.W.kitOne K (.ref C) (.type T) = some false
section
variable (K : PySem.W.Frag) (β : Addr)
omit [Me] in
mutual
def IsD (G : Hp) : Dt → V → Prop
  | .non, v => v = .non
  | .bl b, v => v = .bl b
  | .int i, v => v = .int i
  | .str x, v => v = .str x
  | .bag, v => v = .ref β
  | .tup l, v => ∃ a vs, v = .ref a ∧ SqT K G a vs ∧ IsL G l vs
  | .lst l, v => ∃ a vs, v = .ref a ∧ G a = some (.lst vs) ∧ IsL G l vs
  | .dic ks l, v => ∃ a vs, v = .ref a ∧ G a = some (.dK (ks.zip vs)) ∧ ks.length = l.length ∧ IsL G l vs
  | .ins c ks l, v => ∃ a C dx vs, v = .ref a ∧ InsC K c C ∧ G a = some (.ins C dx (ks.zip vs)) ∧ ks.length = l.length ∧ IsL G l vs
  | .err c ks l, v => ∃ a C dx vs, v = .ref a ∧ ErrV K c C ∧ G a = some (exo a C (some dx)) ∧ G dx = some (exd dx (ks.zip vs)) ∧ ks.length = l.length ∧ IsL G l vs
def IsL (G : Hp) : List Dt → List V → Prop
  | [], vs => vs = []
  | d :: l, vs => ∃ v r, vs = v :: r ∧ IsD G d v ∧ IsL G l r
end
end
section
variable {K : PySem.W.Frag} {β : Addr}
mutual
theorem IsD.mono {G G' : Hp} (e : Ext G G') : ∀ (d : Dt) (v : V), IsD K β G d v → IsD K β G' d v
  | .non, _, h => h
  | .bl _, _, h => h
  | .int _, _, h => h
  | .str _, _, h => h
  | .bag, _, h => h
  | .tup l, v, h => by
    unfold IsD at h ⊢
    obtain ⟨a, vs, rfl, h1, h2⟩ := h
    exact ⟨a, vs, rfl, ext_t e h1, IsL.mono e l vs h2⟩
  | .lst l, v, h => by
    unfold IsD at h ⊢
    obtain ⟨a, vs, rfl, h1, h2⟩ := h
    exact ⟨a, vs, rfl, e _ _ h1, IsL.mono e l vs h2⟩
  | .dic ks l, v, h => by
    unfold IsD at h ⊢
    obtain ⟨a, vs, rfl, h1, h3, h2⟩ := h
    exact ⟨a, vs, rfl, e _ _ h1, h3, IsL.mono e l vs h2⟩
  | .ins c ks l, v, h => by
    unfold IsD at h ⊢
    obtain ⟨a, C, dx, vs, rfl, h0, h1, h3, h2⟩ := h
    exact ⟨a, C, dx, vs, rfl, h0, e _ _ h1, h3, IsL.mono e l vs h2⟩
  | .err c ks l, v, h => by
    unfold IsD at h ⊢
    obtain ⟨a, C, dx, vs, rfl, h0, h1, h4, h3, h2⟩ := h
    exact ⟨a, C, dx, vs, rfl, h0, e _ _ h1, e _ _ h4, h3, IsL.mono e l vs h2⟩
theorem IsL.mono {G G' : Hp} (e : Ext G G') : ∀ (l : List Dt) (vs : List V), IsL K β G l vs → IsL K β G' l vs
  | [], _, h => h
  | d :: l, vs, h => by
    unfold IsL at h ⊢
    obtain ⟨v, r, rfl, h1, h2⟩ := h
    exact ⟨v, r, rfl, IsD.mono e d v h1, IsL.mono e l r h2⟩
end
variable {G : Hp}
theorem is_non {v : V} : IsD K β G .non v ↔ v = .non := by unfold IsD; rfl
theorem is_bl {v : V} {b : Bool} : IsD K β G (.bl b) v ↔ v = .bl b := by unfold IsD; rfl
theorem is_int {v : V} {b : Int} : IsD K β G (.int b) v ↔ v = .int b := by unfold IsD; rfl
theorem is_str {v : V} {b : Str} : IsD K β G (.str b) v ↔ v = .str b := by unfold IsD; rfl
theorem is_bag {v : V} : IsD K β G .bag v ↔ v = .ref β := by unfold IsD; rfl
theorem is_tup {v : V} {l : List Dt} : IsD K β G (.tup l) v ↔ ∃ a vs, v = .ref a ∧ SqT K G a vs ∧ IsL K β G l vs := by conv => lhs; unfold IsD
theorem is_lst {v : V} {l : List Dt} : IsD K β G (.lst l) v ↔ ∃ a vs, v = .ref a ∧ G a = some (.lst vs) ∧ IsL K β G l vs := by conv => lhs; unfold IsD
theorem is_dic {v : V} {ks : List Key} {l : List Dt} : IsD K β G (.dic ks l) v ↔ ∃ a vs, v = .ref a ∧ G a = some (.dK (ks.zip vs)) ∧ ks.length = l.length ∧ IsL K β G l vs := by conv => lhs; unfold IsD
theorem is_ins {v : V} {c : Str} {ks : List Str} {l : List Dt} : IsD K β G (.ins c ks l) v ↔ ∃ a C dx vs, v = .ref a ∧ InsC K c C ∧ G a = some (.ins C dx (ks.zip vs)) ∧ ks.length = l.length ∧ IsL K β G l vs := by conv => lhs; unfold IsD
theorem is_err {v : V} {c : Str} {ks : List Str} {l : List Dt} : IsD K β G (.err c ks l) v ↔ ∃ a C dx vs, v = .ref a ∧ ErrV K c C ∧ G a = some (exo a C (some dx)) ∧ G dx = some (exd dx (ks.zip vs)) ∧ ks.length = l.length ∧ IsL K β G l vs := by conv => lhs; unfold IsD
theorem isl_nil {vs : List V} : IsL K β G [] vs ↔ vs = [] := by unfold IsL; rfl
theorem isl_cons {vs : List V} {d : Dt} {l : List Dt} : IsL K β G (d :: l) vs ↔ ∃ v r, vs = v :: r ∧ IsD K β G d v ∧ IsL K β G l r := by conv => lhs; unfold IsL
theorem IsL.len : ∀ {l : List Dt} {vs : List V}, IsL K β G l vs → vs.length = l.length
  | [], vs, h => by rw [isl_nil] at h; rw [h]; rfl
  | d :: l, vs, h => by
    obtain ⟨v, r, rfl, _, h2⟩ := isl_cons.mp h
    simp [IsL.len h2]
theorem IsL.get : ∀ {l : List Dt} {vs : List V} {i : Nat} {d : Dt}, IsL K β G l vs → l[i]? = some d → ∃ v, vs[i]? = some v ∧ IsD K β G d v
  | [], _, _, _, _, e => by simp at e
  | d :: l, vs, 0, d', h, e => by
    obtain ⟨v, r, rfl, h1, h2⟩ := isl_cons.mp h
    simp at e; subst e
    exact ⟨v, rfl, h1⟩
  | d :: l, vs, i + 1, d', h, e => by
    obtain ⟨v, r, rfl, h1, h2⟩ := isl_cons.mp h
    obtain ⟨u, e1, e2⟩ := IsL.get (i := i) h2 (by simpa using e)
    exact ⟨u, by simpa using e1, e2⟩
theorem IsL.set : ∀ {l : List Dt} {vs : List V} (i : Nat) {d : Dt} {v : V}, IsL K β G l vs → IsD K β G d v → IsL K β G (l.set i d) (vs.set i v)
  | [], vs, i, d, v, h, _ => by rw [isl_nil] at h; subst h; simp [isl_nil]
  | e :: l, vs, 0, d, v, h, q => by
    obtain ⟨u, r, rfl, h1, h2⟩ := isl_cons.mp h
    exact isl_cons.mpr ⟨v, r, rfl, q, h2⟩
  | e :: l, vs, i + 1, d, v, h, q => by
    obtain ⟨u, r, rfl, h1, h2⟩ := isl_cons.mp h
    exact isl_cons.mpr ⟨u, r.set i v, rfl, h1, IsL.set i h2 q⟩
theorem IsL.append : ∀ {l m : List Dt} {vs us : List V}, IsL K β G l vs → IsL K β G m us → IsL K β G (l ++ m) (vs ++ us)
  | [], m, vs, us, h, q => by rw [isl_nil] at h; subst h; exact q
  | d :: l, m, vs, us, h, q => by
    obtain ⟨u, r, rfl, h1, h2⟩ := isl_cons.mp h
    exact isl_cons.mpr ⟨u, r ++ us, rfl, h1, IsL.append h2 q⟩
theorem IsL.take : ∀ {l : List Dt} {vs : List V} (n : Nat), IsL K β G l vs → IsL K β G (l.take n) (vs.take n)
  | l, vs, 0, h => by simp [isl_nil]
  | [], vs, n + 1, h => by rw [isl_nil] at h; subst h; simp [isl_nil]
  | d :: l, vs, n + 1, h => by
    obtain ⟨u, r, rfl, h1, h2⟩ := isl_cons.mp h
    exact isl_cons.mpr ⟨u, r.take n, rfl, h1, IsL.take n h2⟩
theorem IsL.drop : ∀ {l : List Dt} {vs : List V} (n : Nat), IsL K β G l vs → IsL K β G (l.drop n) (vs.drop n)
  | l, vs, 0, h => h
  | [], vs, n + 1, h => by rw [isl_nil] at h; subst h; simp [isl_nil]
  | d :: l, vs, n + 1, h => by
    obtain ⟨u, r, rfl, h1, h2⟩ := isl_cons.mp h
    exact IsL.drop n h2
theorem IsL.snoc {l : List Dt} {vs : List V} {d : Dt} {v : V} (h : IsL K β G l vs) (q : IsD K β G d v) : IsL K β G (l ++ [d]) (vs ++ [v]) :=
  h.append (isl_cons.mpr ⟨v, [], rfl, q, isl_nil.mpr rfl⟩)
theorem IsL.txts : ∀ {ss : List Str}, IsL K β G (ss.map Dt.str) (ss.map V.str)
  | [] => isl_nil.mpr rfl
  | s :: r => isl_cons.mpr ⟨_, _, rfl, is_str.mpr rfl, IsL.txts⟩
theorem IsL.ints : ∀ {ss : List Int}, IsL K β G (ss.map Dt.int) (ss.map V.int)
  | [] => isl_nil.mpr rfl
  | s :: r => isl_cons.mpr ⟨_, _, rfl, is_int.mpr rfl, IsL.ints⟩
end

/-! ### what is known between two steps -/
omit [Me] in
/-- no table, no code object -/
def Nx (p : Addr) (o : HO) : Prop := (∀ ps, o ≠ .tbl ps) ∧ ∀ q, o ≠ LamX.CodeO p q
theorem nx_lst {p : Addr} {vs : List V} : Nx p (.lst vs) := by
  refine ⟨(fun ps z => by cases z), fun q z => ?_⟩
  have z' : HO.lst vs = HO.ext _ := z
  cases z'
theorem nx_ins {p : Addr} {C dx : Addr} {fs : List (Str × V)} : Nx p (.ins C dx fs) := by
  refine ⟨(fun ps z => by cases z), fun q z => ?_⟩
  have z' : HO.ins C dx fs = HO.ext _ := z
  cases z'
omit [Me] in
/-- obj: the instance that is being made -/
inductive Slo where
  | dat (d : Dt) | own (l : List Dt) | obj (c : Str) (ks : List Str) (l : List Dt)
  /-- a list of lambdas, with their code objects, that bear the name q -/
  | fns (l : List (Addr × Addr)) (q : Str)
omit [Me] in
structure Sta where
  sl : List (Option Slo)
  bag : List Dt

omit [Me] in
def FnsAt (σ : L2.St) (G : Hp) (i : Nat) (l : List (Addr × Addr)) (q : Str) : Prop := ∃ L, σ[i]? = some (some (V.ref L)) ∧ G L = some (.lst (l.map fun p => V.ref p.1)) ∧ ∀ p ∈ l, G p.2 = some (LamX.CodeO p.2 q)
theorem FnsAt.mono {σ : L2.St} {G G' : Hp} {i : Nat} {l : List (Addr × Addr)} {q : Str} (h : FnsAt σ G i l q) (e : Ext G G') : FnsAt σ G' i l q :=
  let ⟨L, h1, h2, h3⟩ := h
  ⟨L, h1, e _ _ h2, fun p hp => e _ _ (h3 p hp)⟩
theorem FnsAt.of {σ σ' : L2.St} {G : Hp} {i : Nat} {l : List (Addr × Addr)} {q : Str} (h : FnsAt σ G i l q) (e : σ'[i]? = σ[i]?) : FnsAt σ' G i l q := by
  unfold FnsAt at h ⊢
  rw [e]
  exact h
omit [Me] in
def TabG (H G : Hp) (a : Addr) (q : Str) : Prop := ∃ ps : Array Value, H a = some (.tbl ps) ∧ TriplesOk ps.toList ∧ ∀ (pos : Pos) (cv : Value), codeAmong pos ps.toList = some cv → ∃ c, cv = .ref c ∧ G c = some (LamX.CodeO c q)
theorem TabG.of {H G H' G' : Hp} {a : Addr} {q : Str} (t : TabG H G a q) (h : H' a = H a) (e : Ext G G') : TabG H' G' a q := by
  obtain ⟨ps, h1, h2, h3⟩ := t
  refine ⟨ps, h.trans h1, h2, fun pos cv z => ?_⟩
  obtain ⟨c, e1, e2⟩ := h3 pos cv z
  exact ⟨c, e1, e _ _ e2⟩
theorem TabG.ne {H G : Hp} {a p : Addr} {q : Str} (t : TabG H G a q) (h : H p = none) : a ≠ p := by
  obtain ⟨ps, h1, _⟩ := t
  exact ne_of_none h1 h
theorem TabG.neL {H G : Hp} {a p : Addr} {q : Str} {vs : List V} (t : TabG H G a q) (h : H p = some (.lst vs)) : a ≠ p := fun z => by
  obtain ⟨ps, h1, _⟩ := t
  rw [z, h] at h1
  cases h1
theorem TabG.neI {H G : Hp} {a p : Addr} {q : Str} {C dx : Addr} {fs : List (Str × V)} (t : TabG H G a q) (h : H p = some (.ins C dx fs)) : a ≠ p := fun z => by
  obtain ⟨ps, h1, _⟩ := t
  rw [z, h] at h1
  cases h1
omit [Me] in
def ObjAt (K : PySem.W.Frag) (β : Addr) (P : Hp) (σ : L2.St) (H G : Hp) (i : Nat) (c : Str) (ks : List Str) (l : List Dt) : Prop :=
  ∃ (p C dx : Addr) (vs : List V), σ[i]? = some (some (.ref p)) ∧ (p = Me.me ∧ InsC K c C) ∧ H p = some (.ins C dx (ks.zip vs)) ∧ G p = none ∧ P p = none ∧ ks.length = l.length ∧ IsL K β G l vs
omit [Me] in
structure Rel (K : PySem.W.Frag) (β : Addr) (P : Hp) (σ : L2.St) (H G : Hp) (s : Sta) : Prop where
  len : σ.length = s.sl.length
  gh : Ext G H
  pr : ∀ p o, P p = some o → H p = some o ∧ G p = none
  pb : P β = none
  bag : ∃ vs, H β = some (.lst vs) ∧ G β = none ∧ IsL K β G s.bag vs
  dat : ∀ (i : Nat) (d : Dt), s.sl[i]? = some (some (.dat d)) → ∃ v, σ[i]? = some (some v) ∧ IsD K β G d v
  own : ∀ (i : Nat) (l : List Dt), s.sl[i]? = some (some (.own l)) → ∃ p vs, σ[i]? = some (some (.ref p)) ∧ H p = some (.lst vs) ∧ G p = none ∧ P p = none ∧ p ≠ β ∧ IsL K β G l vs
  dj : ∀ (i j : Nat) (l m : List Dt) (p : Addr), s.sl[i]? = some (some (.own l)) → s.sl[j]? = some (some (.own m)) → σ[i]? = some (some (.ref p)) → σ[j]? = some (some (.ref p)) → i = j
  obj : ∀ (i : Nat) (c : Str) (ks : List Str) (l : List Dt), s.sl[i]? = some (some (.obj c ks l)) → ObjAt K β P σ H G i c ks l
  oj : ∀ (i j : Nat) (c : Str) (ks : List Str) (l : List Dt) (c' : Str) (ks' : List Str) (l' : List Dt), s.sl[i]? = some (some (.obj c ks l)) → s.sl[j]? = some (some (.obj c' ks' l')) → i = j
  fns : ∀ (i : Nat) (l : List (Addr × Addr)) (q : Str), s.sl[i]? = some (some (.fns l q)) → FnsAt σ G i l q
  tabs : ∀ p ∈ Tabs.ts, TabG H G p.1 p.2 ∧ G p.1 = none ∧ P p.1 = none
  nt : ∀ (p : Addr) (ps : Array Value), G p ≠ some (.tbl ps)
  pt : ∀ p o, P p = some o → Nx p o

section
variable {K : PySem.W.Frag} {β : Addr} {P : Hp} {σ : L2.St} {H G : Hp} {s : Sta}
theorem Rel.free (R : Rel K β P σ H G s) {p : Addr} (h : H p = none) : G p = none := by
  cases e : G p with
  | none => rfl
  | some o => rw [R.gh p o e] at h; cases h
/-- a new object that never changes -/
theorem Rel.new (R : Rel K β P σ H G s) {p : Addr} {o : HO} (h : H p = none) (ho : ∀ ps, o ≠ .tbl ps := by intro _ z; cases z) : Rel K β P σ (upd H p o) (upd G p o) s where
  len := R.len
  gh := fun a u e => by
    by_cases q : a = p
    · subst q; rw [upd_same] at e ⊢; exact e
    · rw [upd_ne q] at e ⊢; exact R.gh a u e
  pr := fun a u e => by
    have h1 := R.pr a u e
    have q : a ≠ p := ne_of_none h1.1 h
    rw [upd_ne q, upd_ne q]; exact h1
  pb := R.pb
  bag := by
    obtain ⟨vs, h1, h2, h3⟩ := R.bag
    have q : β ≠ p := ne_of_none h1 h
    exact ⟨vs, by rw [upd_ne q]; exact h1, by rw [upd_ne q]; exact h2, IsL.mono (Ext.new (R.free h)) _ _ h3⟩
  dat := fun i d e => by
    obtain ⟨v, h1, h2⟩ := R.dat i d e
    exact ⟨v, h1, IsD.mono (Ext.new (R.free h)) _ _ h2⟩
  own := fun i l e => by
    obtain ⟨q, vs, h1, h2, h3, h4, h5, h6⟩ := R.own i l e
    have n : q ≠ p := ne_of_none h2 h
    exact ⟨q, vs, h1, by rw [upd_ne n]; exact h2, by rw [upd_ne n]; exact h3, h4, h5, IsL.mono (Ext.new (R.free h)) _ _ h6⟩
  dj := R.dj
  obj := fun i c ks l e => by
    obtain ⟨q, C, dx, vs, h1, h0, h2, h3, h4, h5, h6⟩ := R.obj i c ks l e
    have n : q ≠ p := ne_of_none h2 h
    exact ⟨q, C, dx, vs, h1, h0, by rw [upd_ne n]; exact h2, by rw [upd_ne n]; exact h3, h4, h5, IsL.mono (Ext.new (R.free h)) _ _ h6⟩
  oj := R.oj
  fns := fun i l q e => (R.fns i l q e).mono (Ext.new (R.free h))
  tabs := fun q hq => by
    obtain ⟨t, g, n⟩ := R.tabs q hq
    have z := t.ne h
    exact ⟨t.of (upd_ne z) (Ext.new (R.free h)), by rw [upd_ne z]; exact g, n⟩
  pt := R.pt
  nt := fun a ps e => by
    by_cases c : a = p
    · subst c; rw [upd_same] at e; exact ho ps (Option.some.inj e)
    · rw [upd_ne c] at e; exact R.nt a ps e
omit [Me] in
/-- the caller's part, for a callee -/
noncomputable def shut (β : Addr) (H G : Hp) : Hp := fun p => open Classical in if G p = none ∧ p ≠ β ∧ (∀ t ∈ Tabs.ts, t.1 ≠ p) ∧ (∀ o, H p = some o → Nx p o) then H p else none
theorem shut_some {β p : Addr} {H G : Hp} {o : HO} (h : H p = some o) (g : G p = none) (n : p ≠ β) (m : ∀ t ∈ Tabs.ts, t.1 ≠ p) (x : Nx p o) : shut β H G p = some o := by
  unfold shut; rw [if_pos ⟨g, n, m, fun o' h' => by rw [h] at h'; cases h'; exact x⟩]; exact h
theorem shut_nx {β p : Addr} {H G : Hp} {o : HO} (h : shut β H G p = some o) : Nx p o := by
  unfold shut at h
  split at h
  · rename_i q; exact q.2.2.2 o h
  · cases h
theorem shut_tab {β : Addr} {H G : Hp} {t : Addr × Str} (h : t ∈ Tabs.ts) : shut β H G t.1 = none := by
  unfold shut; rw [if_neg (fun q => q.2.2.1 t h rfl)]
theorem Rel.callee (R : Rel K β P σ H G s) : Rel K β (shut β H G) [] H G ⟨[], s.bag⟩ where
  len := rfl
  gh := R.gh
  pr := fun p o e => by
    unfold shut at e
    split at e
    · rename_i q; exact ⟨e, q.1⟩
    · cases e
  pb := by unfold shut; rw [if_neg (fun q => q.2.1 rfl)]
  bag := R.bag
  dat := fun i d e => by simp at e
  own := fun i d e => by simp at e
  dj := fun i j l m p e => by simp at e
  obj := fun i c ks l e => by simp at e
  oj := fun i j c ks l c' ks' l' e => by simp at e
  fns := fun i l q e => by simp at e
  tabs := fun q hq => ⟨(R.tabs q hq).1, (R.tabs q hq).2.1, shut_tab hq⟩
  pt := fun p o h => shut_nx h
  nt := R.nt
theorem Rel.back (R : Rel K β P σ H G s) {H' G' : Hp} {bg : List Dt} (e : Ext G G') (C : Rel K β (shut β H G) [] H' G' ⟨[], bg⟩) : Rel K β P σ H' G' { s with bag := bg } where
  len := R.len
  gh := C.gh
  pr := fun p o q => by
    have h1 := R.pr p o q
    have n : p ≠ β := fun z => by subst z; rw [R.pb] at q; cases q
    exact C.pr p o (shut_some h1.1 h1.2 n (fun t ht z => by rw [← z, (R.tabs t ht).2.2] at q; cases q) (R.pt p o q))
  pb := R.pb
  bag := C.bag
  dat := fun i d q => by
    obtain ⟨v, h1, h2⟩ := R.dat i d q
    exact ⟨v, h1, IsD.mono e _ _ h2⟩
  own := fun i l q => by
    obtain ⟨p, vs, h1, h2, h3, h4, h5, h6⟩ := R.own i l q
    have h7 := C.pr p _ (shut_some h2 h3 h5 (fun t ht z => (R.tabs t ht).1.neL h2 z) nx_lst)
    exact ⟨p, vs, h1, h7.1, h7.2, h4, h5, IsL.mono e _ _ h6⟩
  dj := R.dj
  obj := fun i c ks l q => by
    obtain ⟨p, Ca, dx, vs, h1, h0, h2, h3, h4, h5, h6⟩ := R.obj i c ks l q
    have n : p ≠ β := fun z => by
      obtain ⟨us, b1, _⟩ := R.bag
      rw [← z, h2] at b1
      cases b1
    have h7 := C.pr p _ (shut_some h2 h3 n (fun t ht z => (R.tabs t ht).1.neI h2 z) nx_ins)
    exact ⟨p, _, dx, vs, h1, h0, h7.1, h7.2, h4, h5, IsL.mono e _ _ h6⟩
  oj := R.oj
  fns := fun i l q h => (R.fns i l q h).mono e
  tabs := fun q hq => ⟨(C.tabs q hq).1, (C.tabs q hq).2.1, (R.tabs q hq).2.2⟩
  pt := R.pt
  nt := C.nt
/-- a slot is given data -/
theorem get_set {α : Type} {l : List α} {i j : Nat} {x : α} : (l.set i x)[j]? = if i = j ∧ i < l.length then some x else l[j]? := by
  rw [List.getElem?_set]
  by_cases h : i = j
  · subst h
    by_cases q : i < l.length
    · simp [q]
    · simp [q]
  · simp [h]
theorem Rel.set (R : Rel K β P σ H G s) {i : Nat} {d : Dt} {v : V} (h : IsD K β G d v) : Rel K β P (σ.set i (some v)) H G { s with sl := s.sl.set i (some (.dat d)) } where
  len := by simp [R.len]
  gh := R.gh
  pr := R.pr
  pb := R.pb
  bag := R.bag
  dat := fun j e q => by
    rw [get_set] at q ⊢
    rw [R.len]
    by_cases c : i = j ∧ i < s.sl.length
    · rw [if_pos c] at q ⊢
      cases q
      exact ⟨v, rfl, h⟩
    · rw [if_neg c] at q ⊢
      exact R.dat j e q
  own := fun j e q => by
    rw [get_set] at q ⊢
    rw [R.len]
    by_cases c : i = j ∧ i < s.sl.length
    · rw [if_pos c] at q
      cases q
    · rw [if_neg c] at q ⊢
      exact R.own j e q
  dj := fun j k l m p q1 q2 r1 r2 => by
    simp only [get_set] at q1 q2 r1 r2
    rw [R.len] at r1 r2
    by_cases c : i = j ∧ i < s.sl.length
    · rw [if_pos c] at q1; cases q1
    by_cases c' : i = k ∧ i < s.sl.length
    · rw [if_pos c'] at q2; cases q2
    rw [if_neg c] at q1 r1
    rw [if_neg c'] at q2 r2
    exact R.dj j k l m p q1 q2 r1 r2
  obj := fun j c ks l q => by
    rw [get_set] at q
    by_cases c : i = j ∧ i < s.sl.length
    · rw [if_pos c] at q
      cases q
    · rw [if_neg c] at q
      have z := R.obj j _ ks l q
      unfold ObjAt at z ⊢
      rw [get_set, R.len, if_neg c]
      exact z
  oj := fun j k c ks l c' ks' l' q1 q2 => by
    simp only [get_set] at q1 q2
    by_cases c : i = j ∧ i < s.sl.length
    · rw [if_pos c] at q1; cases q1
    by_cases c' : i = k ∧ i < s.sl.length
    · rw [if_pos c'] at q2; cases q2
    rw [if_neg c] at q1
    rw [if_neg c'] at q2
    exact R.oj j k _ _ _ _ _ _ q1 q2
  fns := fun j l q e => by
    rw [get_set] at e
    by_cases c : i = j ∧ i < s.sl.length
    · rw [if_pos c] at e; cases e
    · rw [if_neg c] at e
      exact (R.fns j l q e).of (by rw [get_set, R.len, if_neg c])
  tabs := R.tabs
  pt := R.pt
  nt := R.nt
end

/-! ### the judgements -/
omit [Me] in
abbrev DM (α : Type) := Sta → Option (α × Sta)
omit [Me] in
def TEok (K : PySem.W.Frag) (t : TE) (f : DM Dt) : Prop := ∀ (β : Addr) (P : Hp) (σ : L2.St) (H G : Hp) (s : Sta) (d : Dt) (s' : Sta), Rel K β P σ H G s → f s = some (d, s') →
  ∀ Q : VK, (∀ v H' G', Ext G G' → Rel K β P σ H' G' s' → IsD K β G' d v → Q v H') → t σ H Q
omit [Me] in
def TTok (K : PySem.W.Frag) (t : TT) (f : DM Bool) : Prop := ∀ (β : Addr) (P : Hp) (σ : L2.St) (H G : Hp) (s : Sta) (b : Bool) (s' : Sta), Rel K β P σ H G s → f s = some (b, s') →
  ∀ Q : Bool → Hp → Prop, (∀ H' G', Ext G G' → Rel K β P σ H' G' s' → Q b H') → t σ H Q
omit [Me] in
def TAok (K : PySem.W.Frag) (t : TA) (f : DM (List Dt)) : Prop := ∀ (β : Addr) (P : Hp) (σ : L2.St) (H G : Hp) (s : Sta) (ds : List Dt) (s' : Sta), Rel K β P σ H G s → f s = some (ds, s') →
  ∀ Q : List V → Hp → Prop, (∀ vs H' G', Ext G G' → Rel K β P σ H' G' s' → IsL K β G' ds vs → Q vs H') → t σ H Q
omit [Me] in
def TOok (K : PySem.W.Frag) (t : TO) (f : DM (Option Int)) : Prop := ∀ (β : Addr) (P : Hp) (σ : L2.St) (H G : Hp) (s : Sta) (o : Option Int) (s' : Sta), Rel K β P σ H G s → f s = some (o, s') →
  ∀ Q : Option Int → Hp → Prop, (∀ H' G', Ext G G' → Rel K β P σ H' G' s' → Q o H') → t σ H Q
omit [Me] in
def DE (X : Cx) (e : Expr) (f : DM Dt) : Prop := ∃ t, PE X e t ∧ TEok X.K t f
omit [Me] in
def DT (X : Cx) (e : Expr) (f : DM Bool) : Prop := ∃ t, PT X e t ∧ TTok X.K t f
omit [Me] in
def DW (X : Cx) (e : Expr) (f : DM Bool) : Prop := ∃ t, PW X e t ∧ TTok X.K t f
omit [Me] in
def DA (X : Cx) (es : List Expr) (f : DM (List Dt)) : Prop := ∃ t, PA X es t ∧ TAok X.K t f
omit [Me] in
def DO (X : Cx) (e : Option Expr) (f : DM (Option Int)) : Prop := ∃ t, PO X e t ∧ TOok X.K t f

/-! ### names and constants -/
omit [Me] in
def mC (d : Dt) : DM Dt := fun s => some (d, s)
omit [Me] in
def mVar (i : Nat) : DM Dt := fun s => match s.sl[i]? with
  | some (some (.dat d)) => some (d, s)
  | _ => none
section
variable {X : Cx}
theorem de_int {i j pos} : DE X (.Constant (.int i) j pos) (mC (.int i)) := ⟨_, pe_int, fun β P σ H G s d s' R h Q q => by cases h; exact q _ _ _ (Ext.refl G) R (is_int.mpr rfl)⟩
theorem de_str {i j pos} : DE X (.Constant (.str i) j pos) (mC (.str i)) := ⟨_, pe_str, fun β P σ H G s d s' R h Q q => by cases h; exact q _ _ _ (Ext.refl G) R (is_str.mpr rfl)⟩
theorem de_bl {i j pos} : DE X (.Constant (.bool i) j pos) (mC (.bl i)) := ⟨_, pe_bl, fun β P σ H G s d s' R h Q q => by cases h; exact q _ _ _ (Ext.refl G) R (is_bl.mpr rfl)⟩
theorem de_non {j pos} : DE X (.Constant .none j pos) (mC .non) := ⟨_, pe_non, fun β P σ H G s d s' R h Q q => by cases h; exact q _ _ _ (Ext.refl G) R (is_non.mpr rfl)⟩
theorem de_var {e : Expr} (i : Nat) (h : PE X e (tVar i)) : DE X e (mVar i) := ⟨_, h, fun β P σ H G s d s' R h Q q => by
  unfold mVar at h
  split at h
  · rename_i d' e
    cases h
    obtain ⟨v, h1, h2⟩ := R.dat i d e
    exact ⟨v, h1, q _ _ _ (Ext.refl G) R h2⟩
  · cases h⟩
/-- a name of the module that holds a plain thing -/
theorem de_cst {e : Expr} {v : V} {d : Dt} (h : PE X e (tC v)) (hd : ∀ β G, IsD X.K β G d v) : DE X e (mC d) := ⟨_, h, fun β P σ H G s d s' R h Q q => by
  cases h; exact q _ _ _ (Ext.refl G) R (hd _ _)⟩
end

/-! ### operators -/
omit [Me] in
def m2 (g : Dt → Dt → Option Dt) (f1 f2 : DM Dt) : DM Dt := fun s => (f1 s).bind fun p => (f2 p.2).bind fun q => (g p.1 q.1).bind fun d => some (d, q.2)
omit [Me] in
def R2ok (K : PySem.W.Frag) (r : R2) (g : Dt → Dt → Option Dt) : Prop := ∀ (β : Addr) (P : Hp) (σ : L2.St) (H G : Hp) (s : Sta) (x y : V) (dx dy d : Dt), Rel K β P σ H G s → IsD K β G dx x → IsD K β G dy y → g dx dy = some d →
  ∀ Q : VK, (∀ v H' G', Ext G G' → Rel K β P σ H' G' s → IsD K β G' d v → Q v H') → r x y H Q
theorem te_op {K : PySem.W.Frag} {r : R2} {g : Dt → Dt → Option Dt} {ta tb : TE} {fa fb : DM Dt} (hr : R2ok K r g) (ha : TEok K ta fa) (hb : TEok K tb fb) : TEok K (tOp r ta tb) (m2 g fa fb) := by
  intro β P σ H G s d s' R h Q q
  unfold m2 at h
  obtain ⟨⟨x, s1⟩, e1, h⟩ := Option.bind_eq_some_iff.mp h
  obtain ⟨⟨y, s2⟩, e2, h⟩ := Option.bind_eq_some_iff.mp h
  obtain ⟨z, e3, h⟩ := Option.bind_eq_some_iff.mp h
  cases h
  refine ha β P σ H G s x s1 R e1 _ fun v H1 G1 x1 R1 i1 => ?_
  refine hb β P σ H1 G1 s1 y s2 R1 e2 _ fun u H2 G2 x2 R2 i2 => ?_
  exact hr β P σ H2 G2 s2 v u x y d R2 (IsD.mono x2 _ _ i1) i2 e3 Q fun w H3 G3 x3 R3 i3 => q w H3 G3 ((x1.trans x2).trans x3) R3 i3
section
variable {X : Cx}
theorem de_op {op : Operator} {r : R2} {g : Dt → Dt → Option Dt} {a b : Expr} {fa fb : DM Dt} {pos : Pos} (ho : OpR X (binaryOp op) r) (hr : R2ok X.K r g) (ha : DE X a fa) (hb : DE X b fb) : DE X (.BinOp a op b pos) (m2 g fa fb) := by
  obtain ⟨ta, pa, oa⟩ := ha
  obtain ⟨tb, pb, ob⟩ := hb
  exact ⟨_, pe_op ho pa pb, te_op hr oa ob⟩
theorem de_cmp {op : CmpOp} {r : R2} {g : Dt → Dt → Option Dt} {a b : Expr} {fa fb : DM Dt} {pos : Pos} (ho : OpR X (compareOp op) r) (hr : R2ok X.K r g) (ha : DE X a fa) (hb : DE X b fb) (hm : behindInMarks op b = false) : DE X (.Compare a [op] [b] pos) (m2 g fa fb) := by
  obtain ⟨ta, pa, oa⟩ := ha
  obtain ⟨tb, pb, ob⟩ := hb
  exact ⟨_, pe_cmpR ho pa pb hm, te_op hr oa ob⟩
end
omit [Me] in
def mB (f : DM Dt) : DM Bool := fun s => (f s).bind fun p => match p.1 with
  | .bl b => some (b, p.2)
  | _ => none
theorem tt_of {K : PySem.W.Frag} {t : TE} {f : DM Dt} (h : TEok K t f) : TTok K (tTest t) (mB f) := by
  intro β P σ H G s b s' R e Q q
  unfold mB at e
  obtain ⟨⟨x, s1⟩, e1, e⟩ := Option.bind_eq_some_iff.mp e
  refine h β P σ H G s x s1 R e1 _ fun v H1 G1 x1 R1 i1 => ?_
  cases x with
  | bl k => cases e; exact ⟨b, is_bl.mp i1, q H1 G1 x1 R1⟩
  | _ => cases e
theorem tt_B {K : PySem.W.Frag} {t : TE} {f : DM Dt} (h : TEok K t f) : TTok K (tB t) (mB f) := by
  intro β P σ H G s b s' R e Q q
  unfold mB at e
  obtain ⟨⟨x, s1⟩, e1, e⟩ := Option.bind_eq_some_iff.mp e
  refine h β P σ H G s x s1 R e1 _ fun v H1 G1 x1 R1 i1 => ?_
  cases x with
  | bl k => cases e; exact ⟨b, is_bl.mp i1, q H1 G1 x1 R1⟩
  | _ => cases e
section
variable {X : Cx}
theorem dt_cmp {op : CmpOp} {r : R2} {g : Dt → Dt → Option Dt} {a b : Expr} {fa fb : DM Dt} {pos : Pos} (ho : OpR X (compareOp op) r) (hr : R2ok X.K r g) (ha : DE X a fa) (hb : DE X b fb) (hm : behindInMarks op b = false) : DT X (.Compare a [op] [b] pos) (mB (m2 g fa fb)) := by
  obtain ⟨ta, pa, oa⟩ := ha
  obtain ⟨tb, pb, ob⟩ := hb
  exact ⟨_, pt_cmpR ho pa pb hm, tt_of (te_op hr oa ob)⟩
/-- an expression that gives a truth value, as a test -/
theorem dt_val {e : Expr} {f : DM Dt} (h : DE X e f) (he : ∀ whole, isTrue e X.env whole = (do let v ← whole; standAt e.pos; holding [v] (truthy v)) := by intro _; rfl) : DT X e (mB f) := by
  obtain ⟨t, p, o⟩ := h
  exact ⟨_, pt_val p he, tt_B o⟩
omit [Me] in
/-- by truth -/
def truD : Dt → Option Bool
  | .non => some false
  | .bl b => some b
  | .int i => some (i != 0)
  | .str y => if y.length ≤ sizeLine then some ((y.length : Int) != 0) else none
  | .tup l => some !l.isEmpty
  | .lst l => some !l.isEmpty
  | .dic _ _ => none
  | .ins _ _ _ => none
  | .err _ _ _ => none
  | .bag => none
omit [Me] in
def mTru (f : DM Dt) : DM Bool := fun s => (f s).bind fun p => (truD p.1).bind fun b => some (b, p.2)
theorem len_empty {K : PySem.W.Frag} {β : Addr} {G : Hp} {l : List Dt} {vs : List V} (h : IsL K β G l vs) : (!l.isEmpty) = !vs.isEmpty := by
  cases l with
  | nil => rw [isl_nil.mp h]; rfl
  | cons d l => obtain ⟨v, r, rfl, _⟩ := isl_cons.mp h; rfl
theorem dt_tru {e : Expr} {f : DM Dt} (h : DE X e f) (he : ∀ whole, isTrue e X.env whole = (do let v ← whole; standAt e.pos; holding [v] (truthy v)) := by intro _; rfl) : DT X e (mTru f) := by
  obtain ⟨t, p, o⟩ := h
  refine ⟨_, pt_truth p he, fun β P σ H G s b s' R e Q q => ?_⟩
  unfold mTru at e
  obtain ⟨⟨x, s1⟩, e1, e⟩ := Option.bind_eq_some_iff.mp e
  obtain ⟨c, e2, e⟩ := Option.bind_eq_some_iff.mp e
  cases e
  refine o β P σ H G s x s1 R e1 _ fun v H1 G1 x1 R1 i1 => ⟨b, ?_, q H1 G1 x1 R1⟩
  cases x with
  | non => rw [is_non.mp i1]; cases e2; rfl
  | bl k => rw [is_bl.mp i1]; cases e2; rfl
  | int k => rw [is_int.mp i1]; cases e2; rfl
  | str y =>
    rw [is_str.mp i1]
    have e3 : (if y.length ≤ sizeLine then some ((y.length : Int) != 0) else none) = some b := e2
    by_cases hl : y.length ≤ sizeLine
    · rw [if_pos hl] at e3; cases e3; exact ⟨hl, rfl⟩
    · rw [if_neg hl] at e3; cases e3
  | tup l =>
    obtain ⟨a, vs, rfl, h1, h2⟩ := is_tup.mp i1
    cases e2
    exact .inr (.inl ⟨vs, ext_t R1.gh h1, len_empty h2⟩)
  | lst l =>
    obtain ⟨a, vs, rfl, h1, h2⟩ := is_lst.mp i1
    cases e2
    exact .inl ⟨vs, .inl (.inl (R1.gh _ _ h1)), len_empty h2⟩
  | dic ks l => cases e2
  | ins c ks l => cases e2
  | err c ks l => cases e2
  | bag => cases e2
/-! not, and, or, if else -/
omit [Me] in
def mNotB (f : DM Bool) : DM Bool := fun s => (f s).bind fun p => some (!p.1, p.2)
omit [Me] in
def mAndB (f g : DM Bool) : DM Bool := fun s => (f s).bind fun p => if p.1 = true then g p.2 else some (false, p.2)
omit [Me] in
def mOrB (f g : DM Bool) : DM Bool := fun s => (f s).bind fun p => if p.1 = true then some (true, p.2) else g p.2
omit [Me] in
def mIf (c : DM Bool) (f g : DM Dt) : DM Dt := fun s => (c s).bind fun p => if p.1 = true then f p.2 else g p.2
theorem dt_not {a : Expr} {f : DM Bool} {pos : Pos} (h : DT X a f) : DT X (.UnaryOp .Not a pos) (mNotB f) := by
  obtain ⟨t, p, o⟩ := h
  refine ⟨_, pt_not p, fun β P σ H G s b s' R e Q q => ?_⟩
  unfold mNotB at e
  obtain ⟨⟨x, s1⟩, e1, e⟩ := Option.bind_eq_some_iff.mp e
  cases e
  exact o β P σ H G s x s1 R e1 _ fun H1 G1 x1 R1 => q H1 G1 x1 R1
theorem dw_and {a b : Expr} {rest : List Expr} {f g : DM Bool} {pos : Pos} (ha : DT X a f) (hb : DW X (.BoolOp .And (b :: rest) pos) g) : DW X (.BoolOp .And (a :: b :: rest) pos) (mAndB f g) := by
  obtain ⟨t, p, o⟩ := ha
  obtain ⟨u, p2, o2⟩ := hb
  refine ⟨_, pw_and p p2, fun β P σ H G s b s' R e Q q => ?_⟩
  unfold mAndB at e
  obtain ⟨⟨x, s1⟩, e1, e⟩ := Option.bind_eq_some_iff.mp e
  refine o β P σ H G s x s1 R e1 _ fun H1 G1 x1 R1 => ?_
  cases x with
  | true =>
    rw [if_pos rfl] at e ⊢
    exact o2 β P σ H1 G1 s1 b s' R1 e Q fun H2 G2 x2 R2 => q H2 G2 (x1.trans x2) R2
  | false =>
    rw [if_neg Bool.false_ne_true] at e ⊢
    cases e
    exact q H1 G1 x1 R1
theorem dw_or {a b : Expr} {rest : List Expr} {f g : DM Bool} {pos : Pos} (ha : DT X a f) (hb : DW X (.BoolOp .Or (b :: rest) pos) g) : DW X (.BoolOp .Or (a :: b :: rest) pos) (mOrB f g) := by
  obtain ⟨t, p, o⟩ := ha
  obtain ⟨u, p2, o2⟩ := hb
  refine ⟨_, pw_or p p2, fun β P σ H G s b s' R e Q q => ?_⟩
  unfold mOrB at e
  obtain ⟨⟨x, s1⟩, e1, e⟩ := Option.bind_eq_some_iff.mp e
  refine o β P σ H G s x s1 R e1 _ fun H1 G1 x1 R1 => ?_
  cases x with
  | true =>
    rw [if_pos rfl] at e ⊢
    cases e
    exact q H1 G1 x1 R1
  | false =>
    rw [if_neg Bool.false_ne_true] at e ⊢
    exact o2 β P σ H1 G1 s1 b s' R1 e Q fun H2 G2 x2 R2 => q H2 G2 (x1.trans x2) R2
theorem dw_and1 {a : Expr} {f : DM Bool} {pos : Pos} (h : DT X a f) : DW X (.BoolOp .And [a] pos) f := by
  obtain ⟨t, p, o⟩ := h
  exact ⟨_, pw_and1 p, o⟩
theorem dw_or1 {a : Expr} {f : DM Bool} {pos : Pos} (h : DT X a f) : DW X (.BoolOp .Or [a] pos) f := by
  obtain ⟨t, p, o⟩ := h
  exact ⟨_, pw_or1 p, o⟩
theorem DW.dt {e : Expr} {f : DM Bool} (h : DW X e f) : DT X e f := by
  obtain ⟨t, p, o⟩ := h
  exact ⟨_, p.pt, o⟩
theorem de_ifx {c a b : Expr} {f : DM Bool} {g h : DM Dt} {pos : Pos} (hc : DT X c f) (ha : DE X a g) (hb : DE X b h) : DE X (.IfExp c a b pos) (mIf f g h) := by
  obtain ⟨t, p, o⟩ := hc
  obtain ⟨u, p2, o2⟩ := ha
  obtain ⟨w, p3, o3⟩ := hb
  refine ⟨_, pe_ifExp p p2 p3, fun β P σ H G s b s' R e Q q => ?_⟩
  unfold mIf at e
  obtain ⟨⟨x, s1⟩, e1, e⟩ := Option.bind_eq_some_iff.mp e
  refine o β P σ H G s x s1 R e1 _ fun H1 G1 x1 R1 => ?_
  cases x with
  | true =>
    rw [if_pos rfl] at e ⊢
    exact o2 β P σ H1 G1 s1 b s' R1 e Q fun v H2 G2 x2 R2 i => q v H2 G2 (x1.trans x2) R2 i
  | false =>
    rw [if_neg Bool.false_ne_true] at e ⊢
    exact o3 β P σ H1 G1 s1 b s' R1 e Q fun v H2 G2 x2 R2 i => q v H2 G2 (x1.trans x2) R2 i
/-! as values: all but the last give truth values -/
omit [Me] in
def mAndV (f g : DM Dt) : DM Dt := fun s => (f s).bind fun p => match p.1 with
  | .bl true => g p.2
  | .bl false => some (.bl false, p.2)
  | _ => none
omit [Me] in
def mOrV (f g : DM Dt) : DM Dt := fun s => (f s).bind fun p => match p.1 with
  | .bl false => g p.2
  | .bl true => some (.bl true, p.2)
  | _ => none
omit [Me] in
def mNotV (f : DM Dt) : DM Dt := fun s => (f s).bind fun p => match p.1 with
  | .bl b => some (.bl !b, p.2)
  | _ => none
theorem de_one {op} {a : Expr} {f : DM Dt} {pos : Pos} (h : DE X a f) : DE X (.BoolOp op [a] pos) f := by
  obtain ⟨t, p, o⟩ := h
  exact ⟨_, pe_one p, o⟩
theorem de_and {a b : Expr} {rest : List Expr} {f g : DM Dt} {pos : Pos} (ha : DE X a f) (hb : DE X (.BoolOp .And (b :: rest) pos) g) : DE X (.BoolOp .And (a :: b :: rest) pos) (mAndV f g) := by
  obtain ⟨t, p, o⟩ := ha
  obtain ⟨u, p2, o2⟩ := hb
  refine ⟨_, pe_and p p2, fun β P σ H G s b s' R e Q q => ?_⟩
  unfold mAndV at e
  obtain ⟨⟨x, s1⟩, e1, e⟩ := Option.bind_eq_some_iff.mp e
  refine o β P σ H G s x s1 R e1 _ fun v H1 G1 x1 R1 i1 => ?_
  split at e
  · rename_i k
    rw [show x = Dt.bl true from k] at i1
    rw [is_bl.mp i1]
    exact ⟨true, rfl, iteT (o2 β P σ H1 G1 s1 b s' R1 e Q fun v H2 G2 x2 R2 i => q v H2 G2 (x1.trans x2) R2 i)⟩
  · rename_i k
    rw [show x = Dt.bl false from k] at i1
    cases e
    rw [is_bl.mp i1]
    exact ⟨false, rfl, iteF (q _ H1 G1 x1 R1 (is_bl.mpr rfl))⟩
  · cases e
theorem de_or {a b : Expr} {rest : List Expr} {f g : DM Dt} {pos : Pos} (ha : DE X a f) (hb : DE X (.BoolOp .Or (b :: rest) pos) g) : DE X (.BoolOp .Or (a :: b :: rest) pos) (mOrV f g) := by
  obtain ⟨t, p, o⟩ := ha
  obtain ⟨u, p2, o2⟩ := hb
  refine ⟨_, pe_or p p2, fun β P σ H G s b s' R e Q q => ?_⟩
  unfold mOrV at e
  obtain ⟨⟨x, s1⟩, e1, e⟩ := Option.bind_eq_some_iff.mp e
  refine o β P σ H G s x s1 R e1 _ fun v H1 G1 x1 R1 i1 => ?_
  split at e
  · rename_i k
    rw [show x = Dt.bl false from k] at i1
    rw [is_bl.mp i1]
    exact ⟨false, rfl, iteF (o2 β P σ H1 G1 s1 b s' R1 e Q fun v H2 G2 x2 R2 i => q v H2 G2 (x1.trans x2) R2 i)⟩
  · rename_i k
    cases e
    rw [show x = Dt.bl true from k] at i1
    rw [is_bl.mp i1]
    exact ⟨true, rfl, iteT (q _ H1 G1 x1 R1 (is_bl.mpr rfl))⟩
  · cases e
theorem de_not {a : Expr} {f : DM Dt} {pos : Pos} (ha : DE X a f) : DE X (.UnaryOp .Not a pos) (mNotV f) := by
  obtain ⟨t, p, o⟩ := ha
  refine ⟨_, pe_not p, fun β P σ H G s b s' R e Q q => ?_⟩
  unfold mNotV at e
  obtain ⟨⟨x, s1⟩, e1, e⟩ := Option.bind_eq_some_iff.mp e
  refine o β P σ H G s x s1 R e1 _ fun v H1 G1 x1 R1 i1 => ?_
  split at e
  · rename_i k c
    rw [show x = Dt.bl k from c] at i1
    cases e
    rw [is_bl.mp i1]
    exact ⟨k, rfl, q _ H1 G1 x1 R1 (is_bl.mpr rfl)⟩
  · cases e
/-! ### lists, tuples, arguments -/
omit [Me] in
def mNil : DM (List Dt) := fun s => some ([], s)
omit [Me] in
def mCons (f : DM Dt) (g : DM (List Dt)) : DM (List Dt) := fun s => (f s).bind fun p => (g p.2).bind fun q => some (p.1 :: q.1, q.2)
omit [Me] in
def mTup (f : DM (List Dt)) : DM Dt := fun s => (f s).bind fun p => if p.1.length ≤ 1000 then some (.tup p.1, p.2) else none
omit [Me] in
def mLst (f : DM (List Dt)) : DM Dt := fun s => (f s).bind fun p => if p.1.length ≤ 1000 then some (.lst p.1, p.2) else none
theorem da_nil : DA X [] mNil := ⟨_, pa_nil, fun β P σ H G s b s' R e Q q => by cases e; exact q _ H G (Ext.refl G) R (isl_nil.mpr rfl)⟩
theorem da_cons {e : Expr} {es : List Expr} {f : DM Dt} {g : DM (List Dt)} (ha : DE X e f) (hb : DA X es g) (hs : starEach (e :: es) X.env = (false, eval e X.env) :: starEach es X.env := by rfl) : DA X (e :: es) (mCons f g) := by
  obtain ⟨t, p, o⟩ := ha
  obtain ⟨u, p2, o2⟩ := hb
  refine ⟨_, pa_cons p p2 hs, fun β P σ H G s b s' R e Q q => ?_⟩
  unfold mCons at e
  obtain ⟨⟨x, s1⟩, e1, e⟩ := Option.bind_eq_some_iff.mp e
  obtain ⟨⟨y, s2⟩, e2, e⟩ := Option.bind_eq_some_iff.mp e
  cases e
  refine o β P σ H G s x s1 R e1 _ fun v H1 G1 x1 R1 i1 => ?_
  refine o2 β P σ H1 G1 s1 y s2 R1 e2 _ fun vs H2 G2 x2 R2 i2 => ?_
  exact q _ H2 G2 (x1.trans x2) R2 (isl_cons.mpr ⟨v, vs, rfl, IsD.mono x2 _ _ i1, i2⟩)
theorem le_line {n : Nat} (h : n ≤ 1000) : n ≤ sizeLine := Nat.le_trans h (by decide)
theorem de_tup {es : List Expr} {f : DM (List Dt)} {x1 pos} (h : DA X es f) : DE X (.Tuple es x1 pos) (mTup f) := by
  obtain ⟨t, p, o⟩ := h
  refine ⟨_, pe_tup p, fun β P σ H G s b s' R e Q q => ?_⟩
  unfold mTup at e
  obtain ⟨⟨x, s1⟩, e1, e⟩ := Option.bind_eq_some_iff.mp e
  refine o β P σ H G s x s1 R e1 _ fun vs H1 G1 x1 R1 i1 => ?_
  by_cases hl : x.length ≤ 1000
  · simp only [if_pos hl] at e
    cases e
    refine ⟨le_line (by rw [i1.len]; exact hl), fun p hp => ?_⟩
    exact q _ _ _ (x1.trans (Ext.new (R1.free hp))) (R1.new hp) (is_tup.mpr ⟨p, vs, rfl, .inl (.inl upd_same), IsL.mono (Ext.new (R1.free hp)) _ _ i1⟩)
  · simp only [if_neg hl] at e
    cases e
theorem de_lst {es : List Expr} {f : DM (List Dt)} {pos} (h : DA X es f) : DE X (.List es pos) (mLst f) := by
  obtain ⟨t, p, o⟩ := h
  refine ⟨_, pe_lst p, fun β P σ H G s b s' R e Q q => ?_⟩
  unfold mLst at e
  obtain ⟨⟨x, s1⟩, e1, e⟩ := Option.bind_eq_some_iff.mp e
  refine o β P σ H G s x s1 R e1 _ fun vs H1 G1 x1 R1 i1 => ?_
  by_cases hl : x.length ≤ 1000
  · simp only [if_pos hl] at e
    cases e
    refine ⟨le_line (by rw [i1.len]; exact hl), fun p hp => ?_⟩
    exact q _ _ _ (x1.trans (Ext.new (R1.free hp))) (R1.new hp) (is_lst.mpr ⟨p, vs, rfl, upd_same, IsL.mono (Ext.new (R1.free hp)) _ _ i1⟩)
  · simp only [if_neg hl] at e
    cases e
end
end DL

namespace DL
open PySem PySem.Spec PyProof.Rows L2
variable [Tabs] [Me]

section
variable {K : PySem.W.Frag}
/-! ### integers -/
omit [Me] in
def i2 (C : Int → Int → Bool) (g : Int → Int → Dt) : Dt → Dt → Option Dt
  | .int i, .int j => if C i j = true then some (g i j) else none
  | _, _ => none
theorem i2_some {C : Int → Int → Bool} {g : Int → Int → Dt} {x y d : Dt} (h : i2 C g x y = some d) : ∃ i j, x = .int i ∧ y = .int j ∧ C i j = true ∧ d = g i j := by
  unfold i2 at h
  split at h
  · rename_i i j
    split at h
    · rename_i c; cases h; exact ⟨i, j, rfl, rfl, c, rfl⟩
    · cases h
  · cases h
omit [Me] in
def cTrue (_ _ : Int) : Bool := true
theorem r2_int0 {g : Int → Int → Int} : R2ok K (rI0 fun i j => .int (g i j)) (i2 cTrue fun i j => .int (g i j)) := by
  intro β P σ H G s x y dx dy d R ix iy h Q q
  obtain ⟨i, j, rfl, rfl, _, rfl⟩ := i2_some h
  exact ⟨i, j, is_int.mp ix, is_int.mp iy, q _ H G (Ext.refl G) R (is_int.mpr rfl)⟩
theorem r2_intB {g : Int → Int → Bool} : R2ok K (rI0 fun i j => .bl (g i j)) (i2 cTrue fun i j => .bl (g i j)) := by
  intro β P σ H G s x y dx dy d R ix iy h Q q
  obtain ⟨i, j, rfl, rfl, _, rfl⟩ := i2_some h
  exact ⟨i, j, is_int.mp ix, is_int.mp iy, q _ H G (Ext.refl G) R (is_bl.mpr rfl)⟩
theorem r2_int {C : Int → Int → Prop} {B : Int → Int → Bool} {g : Int → Int → Int} (hB : ∀ i j, B i j = true → C i j) : R2ok K (rI C fun i j => .int (g i j)) (i2 B fun i j => .int (g i j)) := by
  intro β P σ H G s x y dx dy d R ix iy h Q q
  obtain ⟨i, j, rfl, rfl, c, rfl⟩ := i2_some h
  exact ⟨i, j, is_int.mp ix, is_int.mp iy, hB i j c, q _ H G (Ext.refl G) R (is_int.mpr rfl)⟩
omit [Me] in
def bMul (i j : Int) : Bool := (decide (-18446744073709551616 < j) && decide (j < 18446744073709551616)) || (decide (-18446744073709551616 < i) && decide (i < 18446744073709551616))
theorem bMul_ok (i j : Int) (h : bMul i j = true) : CMul i j := by
  unfold bMul at h
  rw [Bool.or_eq_true] at h
  rcases h with h | h
  · rw [Bool.and_eq_true] at h; exact .inr ⟨of_decide_eq_true h.1, of_decide_eq_true h.2⟩
  · rw [Bool.and_eq_true] at h; exact .inl ⟨of_decide_eq_true h.1, of_decide_eq_true h.2⟩
omit [Me] in
def bDiv (_ j : Int) : Bool := decide (0 < j) && decide (j < 1073741824)
theorem bDiv_ok (i j : Int) (h : bDiv i j = true) : CDivN i j := by
  unfold bDiv at h
  rw [Bool.and_eq_true] at h
  have h1 := of_decide_eq_true h.1
  have h2 := of_decide_eq_true h.2
  exact ⟨by omega, by omega⟩
omit [Me] in
def bMod (_ j : Int) : Bool := decide (0 < j)
theorem bMod_ok (i j : Int) (h : bMod i j = true) : 0 < j := of_decide_eq_true h
omit [Me] in
def bPow (i j : Int) : Bool := decide (0 ≤ j) && decide (j ≤ 1000000) && decide (i.natAbs < 2 ^ 64)
theorem bPow_ok (i j : Int) (h : bPow i j = true) : CPow i j := by
  unfold bPow at h
  rw [Bool.and_eq_true, Bool.and_eq_true] at h
  exact ⟨of_decide_eq_true h.1.1, of_decide_eq_true h.1.2, of_decide_eq_true h.2⟩
omit [Me] in
def gSub0 : Dt → Dt → Option Dt := i2 cTrue fun i j => .int (i - j)
omit [Me] in
def gMul : Dt → Dt → Option Dt := i2 bMul fun i j => .int (i * j)
omit [Me] in
def gDiv : Dt → Dt → Option Dt := i2 bDiv fun i j => .int (i.fdiv j)
omit [Me] in
def gMod : Dt → Dt → Option Dt := i2 bMod fun i j => .int (i % j)
omit [Me] in
def gPow : Dt → Dt → Option Dt := i2 bPow fun i j => .int (i ^ j.toNat)
omit [Me] in
def gLt : Dt → Dt → Option Dt := i2 cTrue fun i j => .bl (decide (i < j))
omit [Me] in
def gLe : Dt → Dt → Option Dt := i2 cTrue fun i j => .bl (decide (i ≤ j))
omit [Me] in
def gGt : Dt → Dt → Option Dt := i2 cTrue fun i j => .bl (decide (j < i))
omit [Me] in
def gGe : Dt → Dt → Option Dt := i2 cTrue fun i j => .bl (decide (j ≤ i))
theorem R2ok.or {r r' : R2} {g g' : Dt → Dt → Option Dt} (h : R2ok K r g) (h' : R2ok K r' g') : R2ok K (fun x y H Q => r x y H Q ∨ r' x y H Q) (fun x y => match g x y with | some d => some d | none => g' x y) := by
  intro β P σ H G s x y dx dy d R ix iy e Q q
  dsimp only at e
  split at e
  · rename_i d' k
    cases e
    exact .inl (h β P σ H G s x y dx dy d R ix iy k Q q)
  · exact .inr (h' β P σ H G s x y dx dy d R ix iy e Q q)
theorem R2ok.imp {r : R2} {g g' : Dt → Dt → Option Dt} (h : R2ok K r g) (hg : ∀ x y d, g' x y = some d → g x y = some d) : R2ok K r g' :=
  fun β P σ H G s x y dx dy d R ix iy e => h β P σ H G s x y dx dy d R ix iy (hg _ _ _ e)
/-! ### texts, lists, tuples -/
omit [Me] in
def gAddS : Dt → Dt → Option Dt
  | .str a, .str b => if a.length + b.length ≤ sizeLine then some (.str (a ++ b)) else none
  | _, _ => none
theorem r2_addS : R2ok K (fun x y H Q => ∃ i j, x = .str i ∧ y = .str j ∧ i.length + j.length ≤ sizeLine ∧ Q (.str (i ++ j)) H) gAddS := by
  intro β P σ H G s x y dx dy d R ix iy h Q q
  unfold gAddS at h
  split at h
  · rename_i a b
    split at h
    · rename_i c; cases h; exact ⟨a, b, is_str.mp ix, is_str.mp iy, c, q _ H G (Ext.refl G) R (is_str.mpr rfl)⟩
    · cases h
  · cases h
omit [Me] in
def gAddL : Dt → Dt → Option Dt
  | .lst a, .lst b => if a.length + b.length ≤ sizeLine then some (.lst (a ++ b)) else none
  | _, _ => none
theorem r2_addL : R2ok K rCat gAddL := by
  intro β P σ H G s x y dx dy d R ix iy h Q q
  unfold gAddL at h
  split at h
  · rename_i a b
    split at h
    · rename_i c
      cases h
      obtain ⟨p, vs, rfl, h1, h2⟩ := is_lst.mp ix
      obtain ⟨p', us, rfl, h3, h4⟩ := is_lst.mp iy
      refine ⟨p, p', vs, us, rfl, rfl, R.gh _ _ h1, R.gh _ _ h3, by rw [h2.len, h4.len]; exact c, fun l hl => ?_⟩
      exact q _ _ _ (Ext.new (R.free hl)) (R.new hl) (is_lst.mpr ⟨l, _, rfl, upd_same, IsL.mono (Ext.new (R.free hl)) _ _ (h2.append h4)⟩)
    · cases h
  · cases h
omit [Me] in
def gAddT : Dt → Dt → Option Dt
  | .tup a, .tup b => if a.length + b.length ≤ sizeLine then some (.tup (a ++ b)) else none
  | _, _ => none
theorem r2_addT : R2ok K (rCatA K) gAddT := by
  intro β P σ H G s x y dx dy d R ix iy h Q q
  unfold gAddT at h
  split at h
  · rename_i a b
    split at h
    · rename_i c
      cases h
      obtain ⟨p, vs, rfl, h1, h2⟩ := is_tup.mp ix
      obtain ⟨p', us, rfl, h3, h4⟩ := is_tup.mp iy
      refine ⟨p, p', vs, us, rfl, rfl, ext_t R.gh h1, ext_t R.gh h3, by rw [h2.len, h4.len]; exact c, fun e => ?_, fun e e' => ?_, fun e e' l hl => ?_⟩
      · refine q _ H G (Ext.refl G) R ?_
        have z : a = [] := by
          have := h2.len; rw [e] at this; exact List.eq_nil_of_length_eq_zero this.symm
        rw [z]; exact iy
      · refine q _ H G (Ext.refl G) R ?_
        have z : b = [] := by
          have := h4.len; rw [e'] at this; exact List.eq_nil_of_length_eq_zero this.symm
        rw [z, List.append_nil]; exact ix
      · exact q _ _ _ (Ext.new (R.free hl)) (R.new hl) (is_tup.mpr ⟨l, _, rfl, .inl (.inl upd_same), IsL.mono (Ext.new (R.free hl)) _ _ (h2.append h4)⟩)
    · cases h
  · cases h
omit [Me] in
/-- + of ints, texts, lists, tuples -/
def gAdd : Dt → Dt → Option Dt
  | .int i, .int j => some (.int (i + j))
  | .str a, .str b => if a.length + b.length ≤ sizeLine then some (.str (a ++ b)) else none
  | .lst a, .lst b => if a.length + b.length ≤ sizeLine then some (.lst (a ++ b)) else none
  | .tup a, .tup b => if a.length + b.length ≤ sizeLine then some (.tup (a ++ b)) else none
  | _, _ => none
section
variable {X : Cx}
theorem de_add {a b : Expr} {fa fb : DM Dt} {pos : Pos} (ha : DE X a fa) (hb : DE X b fb) : DE X (.BinOp a .Add b pos) (m2 gAdd fa fb) := by
  refine de_op (op_add.or (op_add_str.or (op_cat.or op_catA))) ((r2_int0.or (r2_addS.or (r2_addL.or r2_addT))).imp fun x y d h => ?_) ha hb
  unfold gAdd at h
  split at h
  · exact h
  · exact (show (match gAddS _ _ with | some d => some d | none => _) = _ by simp only [gAddS]; split at h <;> simp_all)
  · simp only [i2, gAddS, gAddL]; split at h <;> simp_all
  · simp only [i2, gAddS, gAddL, gAddT]; split at h <;> simp_all
  · cases h
theorem de_sub {a b : Expr} {fa fb : DM Dt} {pos : Pos} (ha : DE X a fa) (hb : DE X b fb) : DE X (.BinOp a .Sub b pos) (m2 gSub0 fa fb) := de_op op_sub r2_int0 ha hb
theorem de_mul {a b : Expr} {fa fb : DM Dt} {pos : Pos} (ha : DE X a fa) (hb : DE X b fb) : DE X (.BinOp a .Mult b pos) (m2 gMul fa fb) := de_op op_mul (r2_int bMul_ok) ha hb
theorem de_fdiv {a b : Expr} {fa fb : DM Dt} {pos : Pos} (ha : DE X a fa) (hb : DE X b fb) : DE X (.BinOp a .FloorDiv b pos) (m2 gDiv fa fb) := de_op op_fdivN (r2_int bDiv_ok) ha hb
theorem de_mod {a b : Expr} {fa fb : DM Dt} {pos : Pos} (ha : DE X a fa) (hb : DE X b fb) : DE X (.BinOp a .Mod b pos) (m2 gMod fa fb) := de_op op_mod (r2_int bMod_ok) ha hb
theorem de_pow {a b : Expr} {fa fb : DM Dt} {pos : Pos} (ha : DE X a fa) (hb : DE X b fb) : DE X (.BinOp a .Pow b pos) (m2 gPow fa fb) := de_op op_pow (r2_int bPow_ok) ha hb
end
/-! ### the comparisons -/
omit [Me] in
def strLt (a b : Str) : Bool := decide (a.cps.toList < b.cps.toList)
omit [Me] in
def s2 (g : Str → Str → Bool) : Dt → Dt → Option Dt
  | .str a, .str b => some (.bl (g a b))
  | _, _ => none
theorem r2_s2 {g : Str → Str → Bool} : R2ok K (fun x y H Q => ∃ i j, x = .str i ∧ y = .str j ∧ Q (.bl (g i j)) H) (s2 g) := by
  intro β P σ H G s x y dx dy d R ix iy h Q q
  unfold s2 at h
  split at h
  · rename_i a b; cases h; exact ⟨a, b, is_str.mp ix, is_str.mp iy, q _ H G (Ext.refl G) R (is_bl.mpr rfl)⟩
  · cases h
omit [Me] in
def oLt : Dt → Dt → Option Dt
  | .int i, .int j => some (.bl (decide (i < j)))
  | .str a, .str b => some (.bl (strLt a b))
  | _, _ => none
omit [Me] in
def oLe : Dt → Dt → Option Dt
  | .int i, .int j => some (.bl (decide (i ≤ j)))
  | .str a, .str b => some (.bl !(strLt b a))
  | _, _ => none
omit [Me] in
def oGt : Dt → Dt → Option Dt
  | .int i, .int j => some (.bl (decide (j < i)))
  | .str a, .str b => some (.bl (strLt b a))
  | _, _ => none
omit [Me] in
def oGe : Dt → Dt → Option Dt
  | .int i, .int j => some (.bl (decide (j ≤ i)))
  | .str a, .str b => some (.bl !(strLt a b))
  | _, _ => none
theorem r2_lt : R2ok K (fun x y H Q => rI0 (fun i j => .bl (decide (i < j))) x y H Q ∨ ∃ i j, x = .str i ∧ y = .str j ∧ Q (.bl (decide (i.cps.toList < j.cps.toList))) H) oLt :=
  (r2_intB.or (r2_s2 (g := strLt))).imp fun x y d h => by unfold oLt at h; split at h <;> first | exact h | cases h
theorem r2_le : R2ok K (fun x y H Q => rI0 (fun i j => .bl (decide (i ≤ j))) x y H Q ∨ ∃ i j, x = .str i ∧ y = .str j ∧ Q (.bl (!decide (j.cps.toList < i.cps.toList))) H) oLe :=
  (r2_intB.or (r2_s2 (g := fun a b => !strLt b a))).imp fun x y d h => by unfold oLe at h; split at h <;> first | exact h | cases h
theorem r2_gt : R2ok K (fun x y H Q => rI0 (fun i j => .bl (decide (j < i))) x y H Q ∨ ∃ i j, x = .str i ∧ y = .str j ∧ Q (.bl (decide (j.cps.toList < i.cps.toList))) H) oGt :=
  (r2_intB.or (r2_s2 (g := fun a b => strLt b a))).imp fun x y d h => by unfold oGt at h; split at h <;> first | exact h | cases h
theorem r2_ge : R2ok K (fun x y H Q => rI0 (fun i j => .bl (decide (j ≤ i))) x y H Q ∨ ∃ i j, x = .str i ∧ y = .str j ∧ Q (.bl (!decide (i.cps.toList < j.cps.toList))) H) oGe :=
  (r2_intB.or (r2_s2 (g := fun a b => !strLt a b))).imp fun x y d h => by unfold oGe at h; split at h <;> first | exact h | cases h
/-! == of data -/
omit [Me] in
mutual
def toPy : Dt → PyData
  | .non => .none
  | .bl b => .bool b
  | .int i => .int i
  | .str x => .str x
  | .tup l => .tuple (toPys l)
  | .lst l => .list (toPys l)
  | .bag => .none
  | .dic _ _ => .none
  | .ins _ _ _ => .none
  | .err _ _ _ => .none
def toPys : List Dt → List PyData
  | [] => []
  | d :: l => toPy d :: toPys l
end
omit [Me] in
mutual
def plain : Dt → Bool
  | .bag => false
  | .dic _ _ => false
  | .ins _ _ _ => false
  | .err _ _ _ => false
  | .tup l => plains l
  | .lst l => plains l
  | _ => true
def plains : List Dt → Bool
  | [] => true
  | d :: l => plain d && plains l
end
mutual
theorem dp_of {β : Addr} {G H : Hp} (e : Ext G H) : ∀ (d : Dt) (v : V), plain d = true → IsD K β G d v → Dp K H v (toPy d)
  | .non, v, _, h => by rw [is_non.mp h]; exact .non
  | .bl b, v, _, h => by rw [is_bl.mp h]; exact .bl b
  | .int b, v, _, h => by rw [is_int.mp h]; exact .int b
  | .str b, v, _, h => by rw [is_str.mp h]; exact .str b
  | .bag, _, p, _ => by cases p
  | .dic _ _, _, p, _ => by cases p
  | .ins _ _ _, _, p, _ => by cases p
  | .err _ _ _, _, p, _ => by cases p
  | .tup l, v, p, h => by
    obtain ⟨a, vs, rfl, h1, h2⟩ := is_tup.mp h
    unfold toPy
    exact .tup (ext_t e h1) (dps_of e l vs (by unfold plain at p; exact p) h2)
  | .lst l, v, p, h => by
    obtain ⟨a, vs, rfl, h1, h2⟩ := is_lst.mp h
    unfold toPy
    exact .lst (.inl (.inl (e _ _ h1))) (dps_of e l vs (by unfold plain at p; exact p) h2)
theorem dps_of {β : Addr} {G H : Hp} (e : Ext G H) : ∀ (l : List Dt) (vs : List V), plains l = true → IsL K β G l vs → DpAll K H vs (toPys l)
  | [], vs, _, h => by rw [isl_nil.mp h]; unfold toPys; exact .nil
  | d :: l, vs, p, h => by
    obtain ⟨v, r, rfl, h1, h2⟩ := isl_cons.mp h
    unfold plains at p
    rw [Bool.and_eq_true] at p
    unfold toPys
    exact .cons (dp_of e d v p.1 h1) (dps_of e l r p.2 h2)
end
omit [Me] in
def eqOk (d : Dt) : Bool := plain d && SeqAt.shaped (toPy d)
omit [Me] in
def eqD (d e : Dt) : Bool := PyData.eqv (toPy d) (toPy e)
omit [Me] in
def gEq (d e : Dt) : Option Dt := if (eqOk d && eqOk e) = true then some (.bl (eqD d e)) else none
omit [Me] in
def gNe (d e : Dt) : Option Dt := if (eqOk d && eqOk e) = true then some (.bl !(eqD d e)) else none
theorem r2_eq : R2ok K (rEqD K) gEq := by
  intro β P σ H G s x y dx dy d R ix iy h Q q
  unfold gEq at h
  split at h
  · rename_i c
    cases h
    unfold eqOk at c
    simp only [Bool.and_eq_true] at c
    exact ⟨_, _, dp_of R.gh _ _ c.1.1 ix, dp_of R.gh _ _ c.2.1 iy, c.1.2, c.2.2, q _ H G (Ext.refl G) R (is_bl.mpr rfl)⟩
  · cases h
theorem r2_ne : R2ok K (rNeD K) gNe := by
  intro β P σ H G s x y dx dy d R ix iy h Q q
  unfold gNe at h
  split at h
  · rename_i c
    cases h
    unfold eqOk at c
    simp only [Bool.and_eq_true] at c
    exact ⟨_, _, dp_of R.gh _ _ c.1.1 ix, dp_of R.gh _ _ c.2.1 iy, c.1.2, c.2.2, q _ H G (Ext.refl G) R (is_bl.mpr rfl)⟩
  · cases h
/-! is None -/
omit [Me] in
def isNon : Dt → Bool
  | .non => true
  | _ => false
theorem non_iff {β : Addr} {G : Hp} {d : Dt} {v : V} (h : IsD K β G d v) : decide (v = .non) = isNon d := by
  cases d with
  | non => rw [is_non.mp h]; rfl
  | bl b => rw [is_bl.mp h]; rfl
  | int b => rw [is_int.mp h]; rfl
  | str b => rw [is_str.mp h]; rfl
  | bag => rw [is_bag.mp h]; rfl
  | tup l => obtain ⟨a, vs, rfl, _⟩ := is_tup.mp h; rfl
  | lst l => obtain ⟨a, vs, rfl, _⟩ := is_lst.mp h; rfl
  | dic ks l => obtain ⟨a, vs, rfl, _⟩ := is_dic.mp h; rfl
  | ins c ks l => obtain ⟨a, C, dx, vs, rfl, _⟩ := is_ins.mp h; rfl
  | err c ks l => obtain ⟨a, C, dx, vs, rfl, _⟩ := is_err.mp h; rfl
omit [Me] in
def gIsN (x y : Dt) : Option Dt := if isNon y = true then some (.bl (isNon x)) else none
omit [Me] in
def gNotN (x y : Dt) : Option Dt := if isNon y = true then some (.bl !(isNon x)) else none
theorem r2_isN : R2ok K (fun x y H Q => y = .non ∧ Q (.bl (decide (x = .non))) H) gIsN := by
  intro β P σ H G s x y dx dy d R ix iy h Q q
  unfold gIsN at h
  split at h
  · rename_i c
    cases h
    have e := non_iff iy
    rw [c] at e
    exact ⟨of_decide_eq_true e, by rw [non_iff ix]; exact q _ H G (Ext.refl G) R (is_bl.mpr rfl)⟩
  · cases h
theorem r2_notN : R2ok K (fun x y H Q => y = .non ∧ Q (.bl (!decide (x = .non))) H) gNotN := by
  intro β P σ H G s x y dx dy d R ix iy h Q q
  unfold gNotN at h
  split at h
  · rename_i c
    cases h
    have e := non_iff iy
    rw [c] at e
    exact ⟨of_decide_eq_true e, by rw [non_iff ix]; exact q _ H G (Ext.refl G) R (is_bl.mpr rfl)⟩
  · cases h
/-! in -/
omit [Me] in
def flatD : Dt → Bool
  | .non => true
  | .bl _ => true
  | .int _ => true
  | .str _ => true
  | _ => false
omit [Me] in
def sameD : Dt → Dt → Bool
  | .non, .non => true
  | .bl a, .bl b => a == b
  | .bl a, .int b => (if a then 1 else 0) == b
  | .int a, .bl b => a == (if b then 1 else 0)
  | .int a, .int b => a == b
  | .str a, .str b => a == b
  | _, _ => false
theorem flat_ok {β : Addr} {G : Hp} {d : Dt} {v : V} (h : IsD K β G d v) (f : flatD d = true) : flatV v = true := by
  cases d with
  | non => rw [is_non.mp h]; rfl
  | bl b => rw [is_bl.mp h]; rfl
  | int b => rw [is_int.mp h]; rfl
  | str b => rw [is_str.mp h]; rfl
  | _ => cases f
theorem same_ok {β : Addr} {G : Hp} {d e : Dt} {v u : V} (h : IsD K β G d v) (f : flatD d = true) (h' : IsD K β G e u) (f' : flatD e = true) : eqV v u = sameD d e := by
  cases d with
  | non => rw [is_non.mp h]; cases e with
    | non => rw [is_non.mp h']; rfl
    | bl b => rw [is_bl.mp h']; rfl
    | int b => rw [is_int.mp h']; rfl
    | str b => rw [is_str.mp h']; rfl
    | _ => cases f'
  | bl b => rw [is_bl.mp h]; cases e with
    | non => rw [is_non.mp h']; rfl
    | bl b => rw [is_bl.mp h']; rfl
    | int b => rw [is_int.mp h']; rfl
    | str b => rw [is_str.mp h']; rfl
    | _ => cases f'
  | int b => rw [is_int.mp h]; cases e with
    | non => rw [is_non.mp h']; rfl
    | bl b => rw [is_bl.mp h']; rfl
    | int b => rw [is_int.mp h']; rfl
    | str b => rw [is_str.mp h']; rfl
    | _ => cases f'
  | str b => rw [is_str.mp h]; cases e with
    | non => rw [is_non.mp h']; rfl
    | bl b => rw [is_bl.mp h']; rfl
    | int b => rw [is_int.mp h']; rfl
    | str b => rw [is_str.mp h']; rfl
    | _ => cases f'
  | _ => cases f
theorem flats_ok {β : Addr} {G : Hp} : ∀ {l : List Dt} {vs : List V}, IsL K β G l vs → l.all flatD = true → vs.all flatV = true
  | [], vs, h, _ => by rw [isl_nil.mp h]; rfl
  | d :: l, vs, h, f => by
    obtain ⟨v, r, rfl, h1, h2⟩ := isl_cons.mp h
    simp only [List.all_cons, Bool.and_eq_true] at f ⊢
    exact ⟨flat_ok h1 f.1, flats_ok h2 f.2⟩
theorem ins_ok {β : Addr} {G : Hp} {e : Dt} {u : V} (hu : IsD K β G e u) (f' : flatD e = true) : ∀ {l : List Dt} {vs : List V}, IsL K β G l vs → l.all flatD = true → inV u vs = l.any fun d => sameD d e
  | [], vs, h, _ => by rw [isl_nil.mp h]; rfl
  | d :: l, vs, h, f => by
    obtain ⟨v, r, rfl, h1, h2⟩ := isl_cons.mp h
    simp only [List.all_cons, Bool.and_eq_true] at f
    show (eqV v u || inV u r) = _
    rw [same_ok h1 f.1 hu f', ins_ok hu f' h2 f.2]
    rfl
omit [Me] in
def inS (a b : Str) : Bool := !(Builtin.Str.occurrences b a 0 b.length 1).isEmpty
omit [Me] in
def gIn : Dt → Dt → Option Dt
  | .str a, .str b => some (.bl (inS a b))
  | x, .tup l => if (flatD x && l.all flatD) = true then some (.bl (l.any fun d => sameD d x)) else none
  | x, .lst l => if (flatD x && l.all flatD) = true then some (.bl (l.any fun d => sameD d x)) else none
  | _, _ => none
omit [Me] in
def gNin : Dt → Dt → Option Dt
  | .str a, .str b => some (.bl !(inS a b))
  | x, .tup l => if (flatD x && l.all flatD) = true then some (.bl !(l.any fun d => sameD d x)) else none
  | x, .lst l => if (flatD x && l.all flatD) = true then some (.bl !(l.any fun d => sameD d x)) else none
  | _, _ => none
theorem r2_in : R2ok K (fun x y H Q => (∃ i j, x = .str i ∧ y = .str j ∧ Q (.bl (!(Builtin.Str.occurrences j i 0 j.length 1).isEmpty)) H) ∨ rIn K false x y H Q) gIn := by
  intro β P σ H G s x y dx dy d R ix iy h Q q
  unfold gIn at h
  split at h
  · rename_i a b
    cases h
    exact .inl ⟨a, b, is_str.mp ix, is_str.mp iy, q _ H G (Ext.refl G) R (is_bl.mpr rfl)⟩
  · rename_i l
    split at h
    · rename_i c
      cases h
      rw [Bool.and_eq_true] at c
      obtain ⟨a, vs, rfl, h1, h2⟩ := is_tup.mp iy
      exact .inr ⟨a, vs, rfl, .inr (ext_t R.gh h1), flat_ok ix c.1, flats_ok h2 c.2, q _ H G (Ext.refl G) R (is_bl.mpr (by rw [ins_ok ix c.1 h2 c.2]; rfl))⟩
    · cases h
  · rename_i l
    split at h
    · rename_i c
      cases h
      rw [Bool.and_eq_true] at c
      obtain ⟨a, vs, rfl, h1, h2⟩ := is_lst.mp iy
      exact .inr ⟨a, vs, rfl, .inl (.inl (.inl (R.gh _ _ h1))), flat_ok ix c.1, flats_ok h2 c.2, q _ H G (Ext.refl G) R (is_bl.mpr (by rw [ins_ok ix c.1 h2 c.2]; rfl))⟩
    · cases h
  · cases h
theorem r2_nin : R2ok K (fun x y H Q => (∃ i j, x = .str i ∧ y = .str j ∧ Q (.bl (!(!(Builtin.Str.occurrences j i 0 j.length 1).isEmpty))) H) ∨ rIn K true x y H Q) gNin := by
  intro β P σ H G s x y dx dy d R ix iy h Q q
  unfold gNin at h
  split at h
  · rename_i a b
    cases h
    exact .inl ⟨a, b, is_str.mp ix, is_str.mp iy, q _ H G (Ext.refl G) R (is_bl.mpr rfl)⟩
  · rename_i l
    split at h
    · rename_i c
      cases h
      rw [Bool.and_eq_true] at c
      obtain ⟨a, vs, rfl, h1, h2⟩ := is_tup.mp iy
      exact .inr ⟨a, vs, rfl, .inr (ext_t R.gh h1), flat_ok ix c.1, flats_ok h2 c.2, q _ H G (Ext.refl G) R (is_bl.mpr (by rw [ins_ok ix c.1 h2 c.2]; rfl))⟩
    · cases h
  · rename_i l
    split at h
    · rename_i c
      cases h
      rw [Bool.and_eq_true] at c
      obtain ⟨a, vs, rfl, h1, h2⟩ := is_lst.mp iy
      exact .inr ⟨a, vs, rfl, .inl (.inl (.inl (R.gh _ _ h1))), flat_ok ix c.1, flats_ok h2 c.2, q _ H G (Ext.refl G) R (is_bl.mpr (by rw [ins_ok ix c.1 h2 c.2]; rfl))⟩
    · cases h
  · cases h
/-! ### an item, a slice -/
omit [Me] in
def gIx : Dt → Dt → Option Dt
  | .tup l, .int i => atI l i
  | .lst l, .int i => atI l i
  | .str z, .int i => if z.length ≤ sizeLine then (atI z.cps.toList i).bind fun c => some (.str ⟨#[c]⟩) else none
  | _, _ => none
theorem ati_ok {β : Addr} {G : Hp} {l : List Dt} {vs : List V} {i : Int} {d : Dt} (h : IsL K β G l vs) (e : atI l i = some d) : ∃ v, atI vs i = some v ∧ IsD K β G d v := by
  unfold atI at e ⊢
  obtain ⟨j, e1, e2⟩ := Option.bind_eq_some_iff.mp e
  obtain ⟨v, e3, e4⟩ := h.get e2
  exact ⟨v, by rw [h.len, e1]; exact e3, e4⟩
theorem r2_ix : R2ok K (rIx K) gIx := by
  intro β P σ H G s x y dx dy d R ix iy h Q q
  unfold gIx at h
  split at h
  · rename_i l i
    obtain ⟨a, vs, rfl, h1, h2⟩ := is_tup.mp ix
    obtain ⟨v, e1, e2⟩ := ati_ok h2 h
    exact .inr (.inl ⟨a, vs, i, v, rfl, is_int.mp iy, ext_t R.gh h1, e1, q _ H G (Ext.refl G) R e2⟩)
  · rename_i l i
    obtain ⟨a, vs, rfl, h1, h2⟩ := is_lst.mp ix
    obtain ⟨v, e1, e2⟩ := ati_ok h2 h
    exact .inl ⟨a, vs, i, v, rfl, is_int.mp iy, .inl (.inl (R.gh _ _ h1)), e1, q _ H G (Ext.refl G) R e2⟩
  · rename_i z i
    split at h
    · rename_i c
      obtain ⟨k, e1, e2⟩ := Option.bind_eq_some_iff.mp h
      cases e2
      exact .inr (.inr ⟨z, i, k, is_str.mp ix, is_int.mp iy, c, e1, q _ H G (Ext.refl G) R (is_str.mpr rfl)⟩)
    · cases h
  · cases h
end
section
variable {X : Cx}
theorem de_ix {a b : Expr} {fa fb : DM Dt} {pos : Pos} (ha : DE X a fa) (hb : DE X b fb) (hs : PlainIx b := by exact fun _ _ => rfl) : DE X (.Subscript a b pos) (m2 gIx fa fb) := by
  obtain ⟨ta, pa, oa⟩ := ha
  obtain ⟨tb, pb, ob⟩ := hb
  exact ⟨_, pe_ix ix_seq pa pb hs, te_op r2_ix oa ob⟩
end
end DL

namespace DL
open PySem PySem.Spec PyProof.Rows L2
variable [Tabs] [Me]

/-! ### slices -/
omit [Me] in
def mNoP : DM (Option Int) := fun s => some (none, s)
omit [Me] in
def mPart (f : DM Dt) : DM (Option Int) := fun s => (f s).bind fun p => match p.1 with
  | .int i => some (some i, p.2)
  | _ => none
omit [Me] in
def cutD {α : Type} (l : List α) (lo hi : Option Int) : List α := (l.drop (HT.sIx l.length 0 lo)).take (HT.sIx l.length l.length hi - HT.sIx l.length 0 lo)
omit [Me] in
def gSl : Dt → Option Int → Option Int → Option Dt
  | .str z, lo, hi => if z.length ≤ sizeLine then some (.str (cutS z lo hi)) else none
  | .lst l, lo, hi => some (.lst (cutD l lo hi))
  | .tup l, lo, hi => some (.tup (cutD l lo hi))
  | _, _, _ => none
omit [Me] in
def mSl (f : DM Dt) (g h : DM (Option Int)) : DM Dt := fun s => (f s).bind fun p => (g p.2).bind fun q => (h q.2).bind fun r => (gSl p.1 q.1 r.1).bind fun d => some (d, r.2)
theorem cutD_ok {K : PySem.W.Frag} {β : Addr} {G : Hp} {l : List Dt} {vs : List V} (h : IsL K β G l vs) (lo hi : Option Int) : IsL K β G (cutD l lo hi) (cutV vs lo hi) := by
  unfold cutD cutV
  rw [h.len]
  exact (h.drop _).take _
section
variable {X : Cx}
theorem do_none : DO X none mNoP := ⟨_, po_none, fun β P σ H G s o s' R e Q q => by cases e; exact q H G (Ext.refl G) R⟩
theorem do_some {e : Expr} {f : DM Dt} (h : DE X e f) : DO X (some e) (mPart f) := by
  obtain ⟨t, p, o⟩ := h
  refine ⟨_, po_some p, fun β P σ H G s b s' R e Q q => ?_⟩
  unfold mPart at e
  obtain ⟨⟨x, s1⟩, e1, e⟩ := Option.bind_eq_some_iff.mp e
  refine o β P σ H G s x s1 R e1 _ fun v H1 G1 x1 R1 i1 => ?_
  cases x with
  | int k => cases e; exact ⟨k, is_int.mp i1, q H1 G1 x1 R1⟩
  | _ => cases e
theorem de_sl {e : Expr} {lo hi : Option Expr} {f : DM Dt} {g h : DM (Option Int)} {p2 pos : Pos} (he : DE X e f) (hl : DO X lo g) (hh : DO X hi h) : DE X (.Subscript e (.Slice lo hi none p2) pos) (mSl f g h) := by
  obtain ⟨t, p, o⟩ := he
  obtain ⟨t2, p2, o2⟩ := hl
  obtain ⟨t3, p3, o3⟩ := hh
  refine ⟨_, pe_slice (sl_list.or (sl_str.or sl_tupA)) p p2 p3, fun β P σ H G s b s' R e Q q => ?_⟩
  unfold mSl at e
  obtain ⟨⟨x, s1⟩, e1, e⟩ := Option.bind_eq_some_iff.mp e
  obtain ⟨⟨l, s2⟩, e2, e⟩ := Option.bind_eq_some_iff.mp e
  obtain ⟨⟨u, s3⟩, e3, e⟩ := Option.bind_eq_some_iff.mp e
  obtain ⟨d, e4, e⟩ := Option.bind_eq_some_iff.mp e
  cases e
  refine o β P σ H G s x s1 R e1 _ fun v H1 G1 x1 R1 i1 => ?_
  refine o2 β P σ H1 G1 s1 l s2 R1 e2 _ fun H2 G2 x2 R2 => ?_
  refine o3 β P σ H2 G2 s2 u s3 R2 e3 _ fun H3 G3 x3 R3 => ?_
  have i3 := IsD.mono (x2.trans x3) _ _ i1
  have xx := (x1.trans x2).trans x3
  unfold gSl at e4
  dsimp only at e4
  split at e4
  · rename_i z lo hi
    split at e4
    · rename_i c
      cases e4
      exact .inr (.inl ⟨z, is_str.mp i3, c, q _ H3 G3 xx R3 (is_str.mpr rfl)⟩)
    · cases e4
  · rename_i m lo hi
    cases e4
    obtain ⟨a, vs, rfl, h1, h2⟩ := is_lst.mp i3
    refine .inl ⟨a, vs, rfl, .inl (.inl (R3.gh _ _ h1)), fun l hl => ?_⟩
    exact q _ _ _ (xx.trans (Ext.new (R3.free hl))) (R3.new hl) (is_lst.mpr ⟨l, _, rfl, upd_same, IsL.mono (Ext.new (R3.free hl)) _ _ (cutD_ok h2 _ _)⟩)
  · rename_i m lo hi
    cases e4
    obtain ⟨a, vs, rfl, h1, h2⟩ := is_tup.mp i3
    refine .inr (.inr ⟨a, vs, rfl, ext_t R3.gh h1, fun c => ?_, fun _ l hl => ?_⟩)
    · refine q _ H3 G3 xx R3 ?_
      have z : cutD m l u = m := by
        rw [h2.len] at c
        unfold cutD
        rw [c.1, c.2]
        simp
      rw [z]; exact i3
    · exact q _ _ _ (xx.trans (Ext.new (R3.free hl))) (R3.new hl) (is_tup.mpr ⟨l, _, rfl, .inl (.inl upd_same), IsL.mono (Ext.new (R3.free hl)) _ _ (cutD_ok h2 _ _)⟩)
  · cases e4
omit [Me] in
/-- xs[::-1] of a list -/
def mRev (f : DM Dt) : DM Dt := fun s => (f s).bind fun p => match p.1 with
  | .lst l => some (.lst l.reverse, p.2)
  | _ => none
theorem isl_rev {K : PySem.W.Frag} {β : Addr} {G : Hp} : ∀ {l : List Dt} {vs : List V}, IsL K β G l vs → IsL K β G l.reverse vs.reverse
  | [], vs, h => by rw [isl_nil.mp h]; exact isl_nil.mpr rfl
  | d :: l, vs, h => by
    obtain ⟨v, r, rfl, h1, h2⟩ := isl_cons.mp h
    rw [List.reverse_cons, List.reverse_cons]
    exact (isl_rev h2).snoc h1
theorem de_rev {e : Expr} {f : DM Dt} {k : Nat} {p1 p2 p3 pos : Pos} (he : DE X e f) : DE X (.Subscript e (.Slice none none (some (.UnaryOp .USub (.Constant (.int 1) k p1) p2)) p3) pos) (mRev f) := by
  obtain ⟨t, p, o⟩ := he
  refine ⟨_, pe_revL p, fun β P σ H G s b s' R e Q q => ?_⟩
  unfold mRev at e
  obtain ⟨⟨x, s1⟩, e1, e⟩ := Option.bind_eq_some_iff.mp e
  refine o β P σ H G s x s1 R e1 _ fun v H1 G1 x1 R1 i1 => ?_
  cases x with
  | lst m =>
    cases e
    obtain ⟨a, vs, rfl, h1, h2⟩ := is_lst.mp i1
    refine ⟨a, vs, rfl, .inl (.inl (R1.gh _ _ h1)), fun l hl => ?_⟩
    exact q _ _ _ (x1.trans (Ext.new (R1.free hl))) (R1.new hl) (is_lst.mpr ⟨l, _, rfl, upd_same, IsL.mono (Ext.new (R1.free hl)) _ _ (isl_rev h2)⟩)
  | _ => cases e
/-! ### a chain of two comparisons; is a truth value -/
omit [Me] in
def mChain (g g' : Dt → Dt → Option Dt) (f1 f2 f3 : DM Dt) : DM Dt := fun s => (f1 s).bind fun p => (f2 p.2).bind fun q => (g p.1 q.1).bind fun d => match d with
  | .bl true => (f3 q.2).bind fun r => (g' q.1 r.1).bind fun d' => some (d', r.2)
  | .bl false => some (.bl false, q.2)
  | _ => none
theorem te_chain {K : PySem.W.Frag} {r r' : R2} {g g' : Dt → Dt → Option Dt} {ta tb tc : TE} {fa fb fc : DM Dt} (hr : R2ok K r g) (hr' : R2ok K r' g') (ha : TEok K ta fa) (hb : TEok K tb fb) (hc : TEok K tc fc) : TEok K (tChain r r' ta tb tc) (mChain g g' fa fb fc) := by
  intro β P σ H G s d s' R h Q q
  unfold mChain at h
  obtain ⟨⟨x, s1⟩, e1, h⟩ := Option.bind_eq_some_iff.mp h
  obtain ⟨⟨y, s2⟩, e2, h⟩ := Option.bind_eq_some_iff.mp h
  obtain ⟨z, e3, h⟩ := Option.bind_eq_some_iff.mp h
  refine ha β P σ H G s x s1 R e1 _ fun v H1 G1 x1 R1 i1 => ?_
  refine hb β P σ H1 G1 s1 y s2 R1 e2 _ fun u H2 G2 x2 R2 i2 => ?_
  refine hr β P σ H2 G2 s2 v u x y z R2 (IsD.mono x2 _ _ i1) i2 e3 _ fun w H3 G3 x3 R3 i3 => ?_
  split at h
  · rw [is_bl.mp i3]
    obtain ⟨⟨z', s4⟩, e4, h⟩ := Option.bind_eq_some_iff.mp h
    obtain ⟨d', e5, h⟩ := Option.bind_eq_some_iff.mp h
    cases h
    refine ⟨true, rfl, iteT ?_⟩
    refine hc β P σ H3 G3 s2 z' s4 R3 e4 _ fun w' H4 G4 x4 R4 i4 => ?_
    exact hr' β P σ H4 G4 s4 u w' y z' d R4 (IsD.mono (x3.trans x4) _ _ i2) i4 e5 Q fun w5 H5 G5 x5 R5 i5 => q w5 H5 G5 ((((x1.trans x2).trans x3).trans x4).trans x5) R5 i5
  · rw [is_bl.mp i3]
    cases h
    exact ⟨false, rfl, iteF (q _ H3 G3 ((x1.trans x2).trans x3) R3 (is_bl.mpr rfl))⟩
  · cases h
theorem de_chain {op op' : CmpOp} {r r' : R2} {g g' : Dt → Dt → Option Dt} {a b c : Expr} {fa fb fc : DM Dt} {pos : Pos} (ho : OpR X (compareOp op) r) (hr : R2ok X.K r g) (ho' : OpR X (compareOp op') r') (hr' : R2ok X.K r' g') (ha : DE X a fa) (hb : DE X b fb) (hc : DE X c fc)
    (hm : lastMarks [op, op'] [b, c] = false := by with_unfolding_all rfl) : DE X (.Compare a [op, op'] [b, c] pos) (mChain g g' fa fb fc) := by
  obtain ⟨ta, pa, oa⟩ := ha
  obtain ⟨tb, pb, ob⟩ := hb
  obtain ⟨tc, pc, oc⟩ := hc
  exact ⟨_, pe_chain ho ho' pa pb pc hm, te_chain hr hr' oa ob oc⟩
theorem dt_chain {op op' : CmpOp} {r r' : R2} {g g' : Dt → Dt → Option Dt} {a b c : Expr} {fa fb fc : DM Dt} {pos : Pos} (ho : OpR X (compareOp op) r) (hr : R2ok X.K r g) (ho' : OpR X (compareOp op') r') (hr' : R2ok X.K r' g') (ha : DE X a fa) (hb : DE X b fb) (hc : DE X c fc)
    (hm : lastMarks [op, op'] [b, c] = false := by with_unfolding_all rfl) : DT X (.Compare a [op, op'] [b, c] pos) (mB (mChain g g' fa fb fc)) := by
  obtain ⟨ta, pa, oa⟩ := ha
  obtain ⟨tb, pb, ob⟩ := hb
  obtain ⟨tc, pc, oc⟩ := hc
  exact ⟨_, pt_chain ho ho' pa pb pc hm, tt_of (te_chain hr hr' oa ob oc)⟩
omit [Me] in
def gIsB : Dt → Dt → Option Dt
  | .bl a, .bl b => some (.bl (decide (a = b)))
  | _, _ => none
omit [Me] in
def gNotB : Dt → Dt → Option Dt
  | .bl a, .bl b => some (.bl !(decide (a = b)))
  | _, _ => none
theorem r2_isB {K : PySem.W.Frag} : R2ok K L2.rIsB gIsB := by
  intro β P σ H G s x y dx dy d R ix iy h Q q
  unfold gIsB at h
  split at h
  · rename_i a b; cases h; exact ⟨a, b, is_bl.mp ix, is_bl.mp iy, q _ H G (Ext.refl G) R (is_bl.mpr rfl)⟩
  · cases h
theorem r2_notB {K : PySem.W.Frag} : R2ok K L2.rNotB gNotB := by
  intro β P σ H G s x y dx dy d R ix iy h Q q
  unfold gNotB at h
  split at h
  · rename_i a b; cases h; exact ⟨a, b, is_bl.mp ix, is_bl.mp iy, q _ H G (Ext.refl G) R (is_bl.mpr rfl)⟩
  · cases h
end

/-! ### calls of what Python brings -/
omit [Me] in
def mCall (g : List Dt → Option Dt) (f : DM (List Dt)) : DM Dt := fun s => (f s).bind fun p => (g p.1).bind fun d => some (d, p.2)
omit [Me] in
def Rok (K : PySem.W.Frag) (r : List V → Hp → VK → Prop) (g : List Dt → Option Dt) : Prop := ∀ (β : Addr) (P : Hp) (σ : L2.St) (H G : Hp) (s : Sta) (vs : List V) (ds : List Dt) (d : Dt), Rel K β P σ H G s → IsL K β G ds vs → g ds = some d →
  ∀ Q : VK, (∀ v H' G', Ext G G' → Rel K β P σ H' G' s → IsD K β G' d v → Q v H') → r vs H Q
theorem te_call {K : PySem.W.Frag} {r : List V → Hp → VK → Prop} {g : List Dt → Option Dt} {t : TA} {f : DM (List Dt)} (hr : Rok K r g) (h : TAok K t f) : TEok K (tCB r t) (mCall g f) := by
  intro β P σ H G s d s' R e Q q
  unfold mCall at e
  obtain ⟨⟨x, s1⟩, e1, e⟩ := Option.bind_eq_some_iff.mp e
  obtain ⟨z, e2, e⟩ := Option.bind_eq_some_iff.mp e
  cases e
  refine h β P σ H G s x s1 R e1 _ fun vs H1 G1 x1 R1 i1 => ?_
  exact hr β P σ H1 G1 s1 vs x d R1 i1 e2 Q fun w H3 G3 x3 R3 i3 => q w H3 G3 (x1.trans x3) R3 i3
section
variable {X : Cx} {x : Str} {p pos : Pos} {e : Expr} {es : List Expr} {f : DM (List Dt)} {r : List V → Hp → VK → Prop} {g : List Dt → Option Dt} {id T : String}
theorem de_callB (hc : CallR X (.builtin id) r) (hr : Rok X.K r g) (hg : Gl X x) (hm : X.mg x = none) (hv : bootBuiltins x = some (.builtin id)) (ha : DA X (e :: es) f) (hn : x ≠ "__name__" := by decide) (hdb : (x == ("__debug__" : Str)) = false := by decide)
    (he : starEach (e :: es) X.env = (false, eval e X.env) :: starEach es X.env := by rfl) (hpl : (backTo pos (starEach es X.env)).any (·.1) = false := by rfl) : DE X (.Call (.Name x p) (e :: es) [] pos) (mCall g f) := by
  obtain ⟨t, p, o⟩ := ha
  exact ⟨_, pe_callB hc hg hm hv p hn hdb he hpl, te_call hr o⟩
theorem de_callT (hc : CallR X (.type T) r) (hr : Rok X.K r g) (hg : Gl X x) (hm : X.mg x = none) (hv : bootBuiltins x = some (.type T)) (ha : DA X (e :: es) f) (hn : x ≠ "__name__" := by decide) (hdb : (x == ("__debug__" : Str)) = false := by decide)
    (he : starEach (e :: es) X.env = (false, eval e X.env) :: starEach es X.env := by rfl) (hpl : (backTo pos (starEach es X.env)).any (·.1) = false := by rfl) : DE X (.Call (.Name x p) (e :: es) [] pos) (mCall g f) := by
  obtain ⟨t, p, o⟩ := ha
  exact ⟨_, pe_callTy hc hg hm hv p hn hdb he hpl, te_call hr o⟩
end
section
variable {K : PySem.W.Frag}
theorem one_of {β : Addr} {G : Hp} {d : Dt} {vs : List V} (h : IsL K β G [d] vs) : ∃ v, vs = [v] ∧ IsD K β G d v := by
  obtain ⟨v, r, rfl, h1, h2⟩ := isl_cons.mp h
  rw [isl_nil.mp h2]
  exact ⟨v, rfl, h1⟩
omit [Me] in
def gLen : List Dt → Option Dt
  | [.str y] => if y.length ≤ sizeLine then some (.int (y.length : Nat)) else none
  | [.tup l] => some (.int (l.length : Nat))
  | [.lst l] => some (.int (l.length : Nat))
  | _ => none
theorem ok_len : Rok K (fun xs H Q => ∃ x n, xs = [x] ∧ LenV K x H n ∧ Q (.int n) H) gLen := by
  intro β P σ H G s vs ds d R i e Q q
  unfold gLen at e
  split at e
  · rename_i y
    split at e
    · rename_i c
      cases e
      obtain ⟨v, rfl, h⟩ := one_of i
      rw [is_str.mp h]
      exact ⟨_, y.length, rfl, ⟨c, rfl⟩, q _ H G (Ext.refl G) R (is_int.mpr rfl)⟩
    · cases e
  · rename_i l
    cases e
    obtain ⟨v, rfl, h⟩ := one_of i
    obtain ⟨a, us, rfl, h1, h2⟩ := is_tup.mp h
    exact ⟨_, l.length, rfl, .inr ⟨us, ext_t R.gh h1, h2.len.symm⟩, q _ H G (Ext.refl G) R (is_int.mpr rfl)⟩
  · rename_i l
    cases e
    obtain ⟨v, rfl, h⟩ := one_of i
    obtain ⟨a, us, rfl, h1, h2⟩ := is_lst.mp h
    exact ⟨_, l.length, rfl, .inl ⟨us, .inl (.inl (R.gh _ _ h1)), h2.len.symm⟩, q _ H G (Ext.refl G) R (is_int.mpr rfl)⟩
  · cases e
omit [Me] in
def gInt1 : List Dt → Option Dt
  | [.int i] => some (.int i)
  | [.bl k] => some (.int (if k then 1 else 0))
  | _ => none
theorem ok_int1 : Rok K (fun xs H Q => (∃ i, xs = [.int i] ∧ Q (.int i) H) ∨ ∃ k, xs = [.bl k] ∧ Q (.int (if k then 1 else 0)) H) gInt1 := by
  intro β P σ H G s vs ds d R i e Q q
  unfold gInt1 at e
  split at e
  · cases e
    obtain ⟨v, rfl, h⟩ := one_of i
    exact .inl ⟨_, by rw [is_int.mp h], q _ H G (Ext.refl G) R (is_int.mpr rfl)⟩
  · cases e
    obtain ⟨v, rfl, h⟩ := one_of i
    exact .inr ⟨_, by rw [is_bl.mp h], q _ H G (Ext.refl G) R (is_int.mpr rfl)⟩
  · cases e
omit [Me] in
def gAbs : List Dt → Option Dt
  | [.int i] => some (.int (if i < 0 then -i else i))
  | _ => none
theorem ok_abs : Rok K (fun xs H Q => ∃ i, xs = [.int i] ∧ Q (.int (if i < 0 then -i else i)) H) gAbs := by
  intro β P σ H G s vs ds d R i e Q q
  unfold gAbs at e
  split at e
  · cases e
    obtain ⟨v, rfl, h⟩ := one_of i
    exact ⟨_, by rw [is_int.mp h], q _ H G (Ext.refl G) R (is_int.mpr rfl)⟩
  · cases e
omit [Me] in
/-- str of an int; of a text -/
def gStrI : List Dt → Option Dt
  | [.int i] => if i.natAbs.log2 < 1920 then some (.str (toString i)) else none
  | _ => none
theorem ok_strI : Rok K (fun xs H Q => ∃ i, xs = [.int i] ∧ i.natAbs.log2 < 1920 ∧ Q (.str (toString i)) H) gStrI := by
  intro β P σ H G s vs ds d R i e Q q
  unfold gStrI at e
  split at e
  · split at e
    · rename_i c
      cases e
      obtain ⟨v, rfl, h⟩ := one_of i
      exact ⟨_, by rw [is_int.mp h], c, q _ H G (Ext.refl G) R (is_str.mpr rfl)⟩
    · cases e
  · cases e
omit [Me] in
def bools : List Dt → Option (List Bool)
  | [] => some []
  | .bl b :: r => (bools r).bind fun bs => some (b :: bs)
  | _ => none
theorem bools_ok {β : Addr} {G : Hp} : ∀ {l : List Dt} {vs : List V} {bs : List Bool}, IsL K β G l vs → bools l = some bs → vs = bs.map V.bl
  | [], vs, bs, h, e => by cases e; exact isl_nil.mp h
  | .bl b :: r, vs, bs, h, e => by
    obtain ⟨v, us, rfl, h1, h2⟩ := isl_cons.mp h
    unfold bools at e
    obtain ⟨cs, e1, e⟩ := Option.bind_eq_some_iff.mp e
    cases e
    rw [is_bl.mp h1, bools_ok h2 e1]
    rfl
  | .non :: _, _, _, _, e => by cases e
  | .int _ :: _, _, _, _, e => by cases e
  | .str _ :: _, _, _, _, e => by cases e
  | .tup _ :: _, _, _, _, e => by cases e
  | .lst _ :: _, _, _, _, e => by cases e
  | .bag :: _, _, _, _, e => by cases e
omit [Me] in
def gAll : List Dt → Option Dt
  | [.lst l] => (bools l).bind fun bs => some (.bl (bs.all id))
  | _ => none
omit [Me] in
def gAny : List Dt → Option Dt
  | [.lst l] => (bools l).bind fun bs => some (.bl (bs.any id))
  | _ => none
theorem ok_all : Rok K (rAll K) gAll := by
  intro β P σ H G s vs ds d R i e Q q
  unfold gAll at e
  split at e
  · obtain ⟨bs, e1, e⟩ := Option.bind_eq_some_iff.mp e
    cases e
    obtain ⟨v, rfl, h⟩ := one_of i
    obtain ⟨a, us, rfl, h1, h2⟩ := is_lst.mp h
    exact ⟨a, bs, rfl, .inl (.inl (by rw [← bools_ok h2 e1]; exact R.gh _ _ h1)), q _ H G (Ext.refl G) R (is_bl.mpr rfl)⟩
  · cases e
theorem ok_any : Rok K (rAny K) gAny := by
  intro β P σ H G s vs ds d R i e Q q
  unfold gAny at e
  split at e
  · obtain ⟨bs, e1, e⟩ := Option.bind_eq_some_iff.mp e
    cases e
    obtain ⟨v, rfl, h⟩ := one_of i
    obtain ⟨a, us, rfl, h1, h2⟩ := is_lst.mp h
    exact ⟨a, bs, rfl, .inl (.inl (by rw [← bools_ok h2 e1]; exact R.gh _ _ h1)), q _ H G (Ext.refl G) R (is_bl.mpr rfl)⟩
  · cases e
omit [Me] in
def gListOf : List Dt → Option Dt
  | [.lst l] => some (.lst l)
  | [.tup l] => some (.lst l)
  | _ => none
theorem ok_listOf : Rok K (fun xs H Q => ∃ p ys, xs = [.ref p] ∧ (SqL K H p ys ∨ SqT K H p ys) ∧ ∀ l, H l = none → Q (.ref l) (upd H l (.lst ys))) gListOf := by
  intro β P σ H G s vs ds d R i e Q q
  unfold gListOf at e
  split at e
  · cases e
    obtain ⟨v, rfl, h⟩ := one_of i
    obtain ⟨a, us, rfl, h1, h2⟩ := is_lst.mp h
    refine ⟨a, us, rfl, .inl (.inl (.inl (R.gh _ _ h1))), fun l hl => ?_⟩
    exact q _ _ _ (Ext.new (R.free hl)) (R.new hl) (is_lst.mpr ⟨l, _, rfl, upd_same, IsL.mono (Ext.new (R.free hl)) _ _ h2⟩)
  · cases e
    obtain ⟨v, rfl, h⟩ := one_of i
    obtain ⟨a, us, rfl, h1, h2⟩ := is_tup.mp h
    refine ⟨a, us, rfl, .inr (ext_t R.gh h1), fun l hl => ?_⟩
    exact q _ _ _ (Ext.new (R.free hl)) (R.new hl) (is_lst.mpr ⟨l, _, rfl, upd_same, IsL.mono (Ext.new (R.free hl)) _ _ h2⟩)
  · cases e
end

/-! ### isinstance with a built-in class, or two -/
omit [Me] in
def tyN : Dt → String
  | .non => "NoneType"
  | .bl _ => "bool"
  | .int _ => "int"
  | .str _ => "str"
  | .tup _ => "tuple"
  | .lst _ => "list"
  | .bag => "list"
  | .dic _ _ => "dict"
  | .ins _ _ _ => "object"
  | .err _ _ _ => "object"
omit [Me] in
def insB : Dt → Bool
  | .ins _ _ _ => true
  | .err _ _ _ => true
  | _ => false
theorem ty_ok {K : PySem.W.Frag} {β : Addr} {P : Hp} {σ : L2.St} {H G : Hp} {s : Sta} {d : Dt} {v : V} (R : Rel K β P σ H G s) (h : IsD K β G d v) (hi : insB d = false) : TyX K H v (.type (tyN d)) := by
  cases d with
  | ins c ks l => cases hi
  | err c ks l => cases hi
  | non => rw [is_non.mp h]; exact .base .non
  | bl b => rw [is_bl.mp h]; exact .base (.bl b)
  | int b => rw [is_int.mp h]; exact .base (.int b)
  | str b => rw [is_str.mp h]; exact .base (.str b)
  | bag =>
    obtain ⟨vs, h1, _, _⟩ := R.bag
    rw [is_bag.mp h]; exact .base (.lst h1)
  | lst l =>
    obtain ⟨a, us, rfl, h1, h2⟩ := is_lst.mp h
    exact .base (.lst (R.gh _ _ h1))
  | dic ks l =>
    obtain ⟨a, us, rfl, h1, h2⟩ := is_dic.mp h
    exact .base (.dK (R.gh _ _ h1))
  | tup l =>
    obtain ⟨a, us, rfl, h1, h2⟩ := is_tup.mp h
    rcases ext_t R.gh h1 with (h | ⟨o, h⟩) | ⟨o, its, n, h, c, _⟩
    · exact .base (.tup h)
    · exact .fTuple h
    · exact .kTuple h c
omit [Me] in
def basics : List String := ["int", "str", "bool", "tuple", "list", "dict"]
omit [Me] in
/-- isinstance of a built-in class -/
def kitD (d : Dt) (T : String) : Option Bool := if insB d = true then (if basics.contains T = true then some false else none) else L2.kitB (tyN d) T
theorem kit_ok {K : PySem.W.Frag} {β : Addr} {P : Hp} {σ : L2.St} {H G : Hp} {s : Sta} {d : Dt} {v : V} {T : String} {b : Bool} (R : Rel K β P σ H G s) (h : IsD K β G d v) (e : kitD d T = some b) : ∃ t, TyE K H v t ∧ PySem.W.kitOne K t (.type T) = some b := by
  unfold kitD at e
  cases hi : insB d with
  | false =>
    rw [hi, if_neg Bool.false_ne_true] at e
    exact ⟨_, .inl (ty_ok R h hi), L2.kit_ty e⟩
  | true =>
    rw [hi, if_pos rfl] at e
    split at e
    · rename_i c
      cases e
      cases d with
      | ins c' ks l =>
        obtain ⟨a, C, dx, vs, rfl, h0, h1, _⟩ := is_ins.mp h
        exact ⟨.ref C, .inl (.base (.ins (R.gh _ _ h1) h0.cls h0.ha h0.hn h0.ht h0.hm)), h0.kit T (List.contains_iff_mem.mp c)⟩
      | err c' ks l =>
        obtain ⟨a, C, dx, vs, rfl, h0, h1, h2, _⟩ := is_err.mp h
        exact ⟨.ref C, .inr ⟨a, C, dx, _, rfl, rfl, R.gh _ _ h1, R.gh _ _ h2, h0.exc⟩, h0.kin (List.contains_iff_mem.mp c)⟩
      | _ => cases hi
    · cases e
theorem kit_ok2 {K : PySem.W.Frag} {β : Addr} {P : Hp} {σ : L2.St} {H G : Hp} {s : Sta} {d : Dt} {v : V} {T T2 : String} {b b2 : Bool} (R : Rel K β P σ H G s) (h : IsD K β G d v) (e : kitD d T = some b) (e2 : kitD d T2 = some b2) : ∃ t, TyE K H v t ∧ PySem.W.kitOne K t (.type T) = some b ∧ PySem.W.kitOne K t (.type T2) = some b2 := by
  unfold kitD at e e2
  cases hi : insB d with
  | false =>
    rw [hi, if_neg Bool.false_ne_true] at e e2
    exact ⟨_, .inl (ty_ok R h hi), L2.kit_ty e, L2.kit_ty e2⟩
  | true =>
    rw [hi, if_pos rfl] at e e2
    split at e
    · rename_i c
      split at e2
      · rename_i c2
        cases e
        cases e2
        cases d with
        | ins c' ks l =>
          obtain ⟨a, C, dx, vs, rfl, h0, h1, _⟩ := is_ins.mp h
          exact ⟨.ref C, .inl (.base (.ins (R.gh _ _ h1) h0.cls h0.ha h0.hn h0.ht h0.hm)), h0.kit T (List.contains_iff_mem.mp c), h0.kit T2 (List.contains_iff_mem.mp c2)⟩
        | err c' ks l =>
          obtain ⟨a, C, dx, vs, rfl, h0, h1, h2, _⟩ := is_err.mp h
          exact ⟨.ref C, .inr ⟨a, C, dx, _, rfl, rfl, R.gh _ _ h1, R.gh _ _ h2, h0.exc⟩, h0.kin (List.contains_iff_mem.mp c), h0.kin (List.contains_iff_mem.mp c2)⟩
        | _ => cases hi
      · cases e2
    · cases e
omit [Me] in
def mIsi (B : Dt → Bool) (f : DM Dt) : DM Dt := fun s => (f s).bind fun p => some (.bl (B p.1), p.2)
omit [Me] in
def isInt : Dt → Bool
  | .bl _ => true
  | .int _ => true
  | _ => false
omit [Me] in
def isStr : Dt → Bool
  | .str _ => true
  | _ => false
omit [Me] in
def isBl : Dt → Bool
  | .bl _ => true
  | _ => false
omit [Me] in
def isTup : Dt → Bool
  | .tup _ => true
  | _ => false
omit [Me] in
def isLst : Dt → Bool
  | .lst _ => true
  | .bag => true
  | _ => false
theorem kit_int (d : Dt) : kitD d "int" = some (isInt d) := by cases d <;> simp only [kitD, insB, Bool.false_eq_true, if_false, if_true, tyN, isInt] <;> decide +kernel
theorem kit_str (d : Dt) : kitD d "str" = some (isStr d) := by cases d <;> simp only [kitD, insB, Bool.false_eq_true, if_false, if_true, tyN, isStr] <;> decide +kernel
theorem kit_bl (d : Dt) : kitD d "bool" = some (isBl d) := by cases d <;> simp only [kitD, insB, Bool.false_eq_true, if_false, if_true, tyN, isBl] <;> decide +kernel
theorem kit_tup (d : Dt) : kitD d "tuple" = some (isTup d) := by cases d <;> simp only [kitD, insB, Bool.false_eq_true, if_false, if_true, tyN, isTup] <;> decide +kernel
theorem kit_lst (d : Dt) : kitD d "list" = some (isLst d) := by cases d <;> simp only [kitD, insB, Bool.false_eq_true, if_false, if_true, tyN, isLst] <;> decide +kernel
section
variable {X : Cx} {p pos p2 : Pos} {e : Expr} {f : DM Dt} {T T2 : String} {x x2 : Str} {B B2 : Dt → Bool}
theorem de_isi (hB : ∀ d, kitD d T = some (B d)) (hg : Gl X "isinstance") (hm : X.mg "isinstance" = none) (hv : bootBuiltins "isinstance" = some (.builtin "isinstance")) (he : DE X e f)
    (hx : Gl X x) (hxm : X.mg x = none) (hxv : bootBuiltins x = some (.type T)) (hn : x ≠ "__name__" := by decide) (hd : (x == ("__debug__" : Str)) = false := by decide)
    (hs : starEach [e, .Name x p2] X.env = (false, eval e X.env) :: starEach [.Name x p2] X.env := by rfl) (hpl : (backTo pos (starEach [.Name x p2] X.env)).any (·.1) = false := by rfl) :
    DE X (.Call (.Name "isinstance" p) [e, .Name x p2] [] pos) (mIsi B f) := by
  obtain ⟨t, pp, o⟩ := he
  refine ⟨_, pe_callB call_isE1 hg hm hv (pa_cons pp (pa_cons (pe_bltn (v := .ty T) hx hxm hxv rfl hn hd) pa_nil) hs) (by decide) (by decide) hs hpl, fun β P σ H G s b s' R e Q q => ?_⟩
  unfold mIsi at e
  obtain ⟨⟨y, s1⟩, e1, e⟩ := Option.bind_eq_some_iff.mp e
  cases e
  refine o β P σ H G s y s1 R e1 _ fun v H1 G1 x1 R1 i1 => ?_
  obtain ⟨tv, y1, y2⟩ := kit_ok R1 i1 (hB y)
  exact ⟨v, .ty T, tv, .type T, B y, rfl, .ty T, y1, y2, q _ H1 G1 x1 R1 (is_bl.mpr rfl)⟩
theorem de_isi2 (hB : ∀ d, kitD d T = some (B d)) (hB2 : ∀ d, kitD d T2 = some (B2 d)) (hg : Gl X "isinstance") (hm : X.mg "isinstance" = none) (hv : bootBuiltins "isinstance" = some (.builtin "isinstance")) (he : DE X e f)
    (hx : Gl X x) (hxm : X.mg x = none) (hxv : bootBuiltins x = some (.type T)) (hx2 : Gl X x2) (hxm2 : X.mg x2 = none) (hxv2 : bootBuiltins x2 = some (.type T2)) {k : Nat} {p3 pt : Pos}
    (hn : x ≠ "__name__" := by decide) (hd : (x == ("__debug__" : Str)) = false := by decide) (hn2 : x2 ≠ "__name__" := by decide) (hd2 : (x2 == ("__debug__" : Str)) = false := by decide)
    (hs : starEach [e, .Tuple [.Name x p2, .Name x2 p3] k pt] X.env = (false, eval e X.env) :: starEach [.Tuple [.Name x p2, .Name x2 p3] k pt] X.env := by rfl) (hpl : (backTo pos (starEach [.Tuple [.Name x p2, .Name x2 p3] k pt] X.env)).any (·.1) = false := by rfl) :
    DE X (.Call (.Name "isinstance" p) [e, .Tuple [.Name x p2, .Name x2 p3] k pt] [] pos) (mIsi (fun d => B d || B2 d) f) := by
  obtain ⟨t, pp, o⟩ := he
  refine ⟨_, pe_callB call_isET hg hm hv (pa_cons pp (pa_cons (pe_tup (pa_cons (pe_bltn (v := .ty T) hx hxm hxv rfl hn hd) (pa_cons (pe_bltn (v := .ty T2) hx2 hxm2 hxv2 rfl hn2 hd2) pa_nil))) pa_nil) hs) (by decide) (by decide) hs hpl, fun β P σ H G s b s' R e Q q => ?_⟩
  unfold mIsi at e
  obtain ⟨⟨y, s1⟩, e1, e⟩ := Option.bind_eq_some_iff.mp e
  cases e
  refine o β P σ H G s y s1 R e1 _ fun v H1 G1 x1 R1 i1 => ?_
  refine ⟨by show 2 ≤ sizeLine; decide, fun l hl => ?_⟩
  have R2 := R1.new (o := .tup [.ty T, .ty T2]) hl
  have x2 := Ext.new (o := .tup [.ty T, .ty T2]) (R1.free hl)
  obtain ⟨tv, y1, y2, y3⟩ := kit_ok2 R2 (IsD.mono x2 _ _ i1) (hB y) (hB2 y)
  refine ⟨v, l, [.ty T, .ty T2], tv, [.type T, .type T2], B y || B2 y, rfl, upd_same, .cons (.ty T) (.cons (.ty T2) .nil), y1, ?_, q _ _ _ (x1.trans x2) R2 (is_bl.mpr rfl)⟩
  refine L2.kitAny_cons (b := B y) y2 (fun h => ?_) (fun h => by rw [h]; rfl)
  rw [h, Bool.false_or]
  exact L2.kitAny_cons (b := B2 y) y3 (fun h => by rw [h]; exact L2.kitAny_nil) (fun h => h)
end

/-! ### methods of texts -/
omit [Me] in
def mM1 (g : Str → Dt → Option Dt) (f1 f2 : DM Dt) : DM Dt := fun s => (f1 s).bind fun p => match p.1 with
  | .str a => (f2 p.2).bind fun q => (g a q.1).bind fun d => some (d, q.2)
  | _ => none
omit [Me] in
def gJoin (a : Str) : Dt → Option Dt
  | .lst l => (txts l).bind fun ys => if (ys.map (·.length)).sum + ys.length * a.length ≤ 16777216 then some (.str (Txt.join a ys)) else none
  | _ => none
where txts : List Dt → Option (List Str)
  | [] => some []
  | .str b :: r => (txts r).bind fun bs => some (b :: bs)
  | _ => none
theorem strs_ok {K : PySem.W.Frag} {β : Addr} {G : Hp} : ∀ {l : List Dt} {vs : List V} {bs : List Str}, IsL K β G l vs → gJoin.txts l = some bs → vs = bs.map V.str
  | [], vs, bs, h, e => by cases e; exact isl_nil.mp h
  | .str b :: r, vs, bs, h, e => by
    obtain ⟨v, us, rfl, h1, h2⟩ := isl_cons.mp h
    unfold gJoin.txts at e
    obtain ⟨cs, e1, e⟩ := Option.bind_eq_some_iff.mp e
    cases e
    rw [is_str.mp h1, strs_ok h2 e1]
    rfl
  | .non :: _, _, _, _, e => by cases e
  | .int _ :: _, _, _, _, e => by cases e
  | .bl _ :: _, _, _, _, e => by cases e
  | .tup _ :: _, _, _, _, e => by cases e
  | .lst _ :: _, _, _, _, e => by cases e
  | .bag :: _, _, _, _, e => by cases e
omit [Me] in
def gSplit (a : Str) : Dt → Option Dt
  | .str b => if (b.length == 0) = false ∧ a.length + 2 ≤ sizeLine then some (.lst ((Txt.split a b).map Dt.str)) else none
  | _ => none
omit [Me] in
def gPartition (a : Str) : Dt → Option Dt
  | .str b => if (b.length == 0) = false ∧ a.length ≤ sizeLine then some (.tup [.str (Txt.partition a b).1, .str (Txt.partition a b).2.1, .str (Txt.partition a b).2.2]) else none
  | _ => none
omit [Me] in
def gStarts (a : Str) : Dt → Option Dt
  | .str b => some (.bl (Txt.startswith a b))
  | _ => none
omit [Me] in
def gFind (a : Str) : Dt → Option Dt
  | .str b => some (.int (Txt.find a b))
  | _ => none
section
variable {X : Cx} {o e : Expr} {f1 f2 : DM Dt} {apos pos : Pos}
omit [Me] in
def M1ok (K : PySem.W.Frag) (r : V → List V → Hp → VK → Prop) (g : Str → Dt → Option Dt) : Prop := ∀ (β : Addr) (P : Hp) (σ : L2.St) (H G : Hp) (s : Sta) (a : Str) (y : V) (dy d : Dt), Rel K β P σ H G s → IsD K β G dy y → g a dy = some d →
  ∀ Q : VK, (∀ v H' G', Ext G G' → Rel K β P σ H' G' s → IsD K β G' d v → Q v H') → r (.str a) [y] H Q
theorem te_m1 {K : PySem.W.Frag} {r : V → List V → Hp → VK → Prop} {g : Str → Dt → Option Dt} {to te : TE} (hr : M1ok K r g) (ho : TEok K to f1) (he : TEok K te f2) : TEok K (tM1 r to te) (mM1 g f1 f2) := by
  intro β P σ H G s d s' R h Q q
  unfold mM1 at h
  obtain ⟨⟨x, s1⟩, e1, h⟩ := Option.bind_eq_some_iff.mp h
  cases x with
  | str a =>
    obtain ⟨⟨y, s2⟩, e2, h⟩ := Option.bind_eq_some_iff.mp h
    obtain ⟨z, e3, h⟩ := Option.bind_eq_some_iff.mp h
    cases h
    refine ho β P σ H G s _ s1 R e1 _ fun v H1 G1 x1 R1 i1 => ?_
    rw [is_str.mp i1]
    refine ⟨⟨a, rfl⟩, he β P σ H1 G1 s1 y s2 R1 e2 _ fun u H2 G2 x2 R2 i2 => ?_⟩
    exact hr β P σ H2 G2 s2 a u y d R2 i2 e3 Q fun w H3 G3 x3 R3 i3 => q w H3 G3 ((x1.trans x2).trans x3) R3 i3
  | _ => cases h
theorem ok_join {K : PySem.W.Frag} : M1ok K (fun x xs H Q => ∃ a p, ∃ ys : List Str, x = .str a ∧ xs = [.ref p] ∧ (SqL K H p (ys.map V.str) ∨ SqT K H p (ys.map V.str)) ∧
    (ys.map (·.length)).sum + ys.length * a.length ≤ 16777216 ∧ Q (.str (Txt.join a ys)) H) gJoin := by
  intro β P σ H G s a y dy d R i e Q q
  unfold gJoin at e
  split at e
  · obtain ⟨ys, e1, e⟩ := Option.bind_eq_some_iff.mp e
    split at e
    · rename_i c
      cases e
      obtain ⟨b, us, rfl, h1, h2⟩ := is_lst.mp i
      exact ⟨a, b, ys, rfl, rfl, .inl (.inl (.inl (by rw [← strs_ok h2 e1]; exact R.gh _ _ h1))), c, q _ H G (Ext.refl G) R (is_str.mpr rfl)⟩
    · cases e
  · cases e
theorem new_strs {K : PySem.W.Frag} {β : Addr} {P : Hp} {σ : L2.St} {H G : Hp} {s : Sta} (R : Rel K β P σ H G s) {ys : List Str} {Q : VK} (q : ∀ v H' G', Ext G G' → Rel K β P σ H' G' s → IsD K β G' (.lst (ys.map Dt.str)) v → Q v H') : rNewStrs ys H Q :=
  fun l hl => q _ _ _ (Ext.new (R.free hl)) (R.new hl) (is_lst.mpr ⟨l, _, rfl, upd_same, IsL.txts⟩)
theorem ok_split {K : PySem.W.Frag} : M1ok K (fun x xs H Q => ∃ a b, x = .str a ∧ xs = [.str b] ∧ (b.length == 0) = false ∧ a.length + 2 ≤ sizeLine ∧ rNewStrs (Txt.split a b) H Q) gSplit := by
  intro β P σ H G s a y dy d R i e Q q
  unfold gSplit at e
  split at e
  · rename_i b
    split at e
    · rename_i c
      cases e
      rw [is_str.mp i]
      exact ⟨a, b, rfl, rfl, c.1, c.2, new_strs R q⟩
    · cases e
  · cases e
theorem ok_partition {K : PySem.W.Frag} : M1ok K (fun x xs H Q => ∃ a b, x = .str a ∧ xs = [.str b] ∧ (b.length == 0) = false ∧ a.length ≤ sizeLine ∧
    ∀ p, H p = none → Q (.ref p) (upd H p (.tup [.str (Txt.partition a b).1, .str (Txt.partition a b).2.1, .str (Txt.partition a b).2.2]))) gPartition := by
  intro β P σ H G s a y dy d R i e Q q
  unfold gPartition at e
  split at e
  · rename_i b
    split at e
    · rename_i c
      cases e
      rw [is_str.mp i]
      refine ⟨a, b, rfl, rfl, c.1, c.2, fun l hl => ?_⟩
      exact q _ _ _ (Ext.new (R.free hl)) (R.new hl) (is_tup.mpr ⟨l, _, rfl, .inl (.inl upd_same), isl_cons.mpr ⟨_, _, rfl, is_str.mpr rfl, isl_cons.mpr ⟨_, _, rfl, is_str.mpr rfl, isl_cons.mpr ⟨_, _, rfl, is_str.mpr rfl, isl_nil.mpr rfl⟩⟩⟩⟩)
    · cases e
  · cases e
theorem ok_starts {K : PySem.W.Frag} : M1ok K (fun x xs H Q => ∃ a b, x = .str a ∧ xs = [.str b] ∧ Q (.bl (Txt.startswith a b)) H) gStarts := by
  intro β P σ H G s a y dy d R i e Q q
  unfold gStarts at e
  split at e
  · rename_i b
    cases e
    rw [is_str.mp i]
    exact ⟨a, b, rfl, rfl, q _ H G (Ext.refl G) R (is_bl.mpr rfl)⟩
  · cases e
theorem ok_find {K : PySem.W.Frag} : M1ok K (fun x xs H Q => ∃ a b, x = .str a ∧ xs = [.str b] ∧ Q (.int (Txt.find a b)) H) gFind := by
  intro β P σ H G s a y dy d R i e Q q
  unfold gFind at e
  split at e
  · rename_i b
    cases e
    rw [is_str.mp i]
    exact ⟨a, b, rfl, rfl, q _ H G (Ext.refl G) R (is_int.mpr rfl)⟩
  · cases e
theorem de_m1 {id : String} {name : Str} {r : V → List V → Hp → VK → Prop} {g : Str → Dt → Option Dt} (slot : Slot "str" name id) (ty : typeOf (.builtin id) = pure (.type "method_descriptor")) (rule : MtR X id r) (hr : M1ok X.K r g) (ho : DE X o f1) (he : DE X e f2)
    (hs : starEach [e] X.env = [(false, eval e X.env)] := by rfl) (hbase : attributeBase o name X.env (eval o X.env) = eval o X.env := by rfl) (hline : (apos.endLine == pos.line) = true := by rfl) :
    DE X (.Call (.Attribute o name apos) [e] [] pos) (mM1 g f1 f2) := by
  obtain ⟨t, p1, o1⟩ := ho
  obtain ⟨u, p2, o2⟩ := he
  exact ⟨_, pe_m1 slot ty rule p1 p2 hs hbase hline, te_m1 hr o1 o2⟩
theorem de_join (ho : DE X o f1) (he : DE X e f2) (hs : starEach [e] X.env = [(false, eval e X.env)] := by rfl) (hbase : attributeBase o "join" X.env (eval o X.env) = eval o X.env := by rfl) (hline : (apos.endLine == pos.line) = true := by rfl) :
    DE X (.Call (.Attribute o "join" apos) [e] [] pos) (mM1 gJoin f1 f2) := by
  obtain ⟨t, p1, o1⟩ := ho
  obtain ⟨u, p2, o2⟩ := he
  exact ⟨_, pe_join p1 p2 hs hbase hline, te_m1 ok_join o1 o2⟩
theorem de_split (ho : DE X o f1) (he : DE X e f2) (hs : starEach [e] X.env = [(false, eval e X.env)] := by rfl) (hbase : attributeBase o "split" X.env (eval o X.env) = eval o X.env := by rfl) (hline : (apos.endLine == pos.line) = true := by rfl) :
    DE X (.Call (.Attribute o "split" apos) [e] [] pos) (mM1 gSplit f1 f2) := by
  obtain ⟨t, p1, o1⟩ := ho
  obtain ⟨u, p2, o2⟩ := he
  exact ⟨_, pe_split p1 p2 hs hbase hline, te_m1 ok_split o1 o2⟩
end
end DL

namespace DL
open PySem PySem.Spec PyProof.Rows L2
variable [Tabs] [Me]

/-! ### defs -/
omit [Me] in
abbrev FD := List Dt → List Dt → Option (Dt × List Dt)
omit [Me] in
def spD (K : PySem.W.Frag) (n : Nat) (F : FD) : Sp := fun vs H Q _ => ∃ (β : Addr) (P G : Hp) (ds bg : List Dt) (r : Dt) (bg' : List Dt), vs.length = n ∧ IsL K β G ds vs ∧ Rel K β P [] H G ⟨[], bg⟩ ∧ F ds bg = some (r, bg') ∧
  ∀ v H' G', Ext G G' → Rel K β P [] H' G' ⟨[], bg'⟩ → IsD K β G' r v → Q v H'
omit [Me] in
def mApp (F : FD) (f : DM (List Dt)) : DM Dt := fun s => (f s).bind fun p => (F p.1 p.2.bag).bind fun q => some (q.1, { p.2 with bag := q.2 })
section
variable {X : Cx}
theorem te_app {n : Nat} {K : PySem.W.Frag} {F : FD} {t : TA} {f : DM (List Dt)} (ho : TAok K t f) (hn : ∀ s ds s', f s = some (ds, s') → ds.length = n) : TEok K (tCall (spD K n F) [] E0 t) (mApp F f) := by
  intro β P σ H G s d s' R e Q q
  unfold mApp at e
  obtain ⟨⟨x, s1⟩, e1, e⟩ := Option.bind_eq_some_iff.mp e
  obtain ⟨⟨y, bg'⟩, e2, e⟩ := Option.bind_eq_some_iff.mp e
  cases e
  refine ho β P σ H G s x s1 R e1 _ fun vs H1 G1 x1 R1 i1 => ?_
  rw [List.append_nil]
  exact ⟨β, shut β H1 G1, G1, x, s1.bag, y, bg', by rw [i1.len]; exact hn _ _ _ e1, i1, R1.callee, e2, fun v H' G' x2 C i => q v H' G' (x1.trans x2) (R1.back x2 C) i⟩
theorem len_nil {n : Nat} (h : n = 0 := by rfl) : ∀ s ds s', mNil s = some (ds, s') → ds.length = n := fun s ds s' e => by cases e; exact h.symm
theorem len_cons {f : DM Dt} {g : DM (List Dt)} {n m : Nat} (hg : ∀ s ds s', g s = some (ds, s') → ds.length = n) (h : m = n + 1 := by rfl) : ∀ s ds s', mCons f g s = some (ds, s') → ds.length = m := fun s ds s' e => by
  unfold mCons at e
  obtain ⟨⟨x, s1⟩, e1, e⟩ := Option.bind_eq_some_iff.mp e
  obtain ⟨⟨y, s2⟩, e2, e⟩ := Option.bind_eq_some_iff.mp e
  cases e
  simp [hg _ _ _ e2, h]
theorem de_call {k : Nat} {f : Addr} {fd : FuncData} {ps : List Str} {n : Nat} {F : FD} {x : Str} {e : Expr} {es : List Expr} {p pos : Pos} {g : DM (List Dt)} (FF : FnOk X.prog X.w X.K X.mg X.base CX0 k f fd ps (spD X.K n F)) (hr : Room k X.A) (hg : Gl X x) (hm : X.mg x = some (.ref f)) (hk : PySem.W.keepIn X.K (.ref f) = true) (hb : Binds X.K fd ps [])
    (ha : DA X (e :: es) g) (hn : ∀ s ds s', g s = some (ds, s') → ds.length = n) (hdb : (x == ("__debug__" : Str)) = false := by decide) (he : starEach (e :: es) X.env = (false, eval e X.env) :: starEach es X.env := by rfl) (hpl : (backTo pos (starEach es X.env)).any (·.1) = false := by rfl) :
    DE X (.Call (.Name x p) (e :: es) [] pos) (mApp F g) := by
  obtain ⟨t, p1, o1⟩ := ha
  exact ⟨_, pe_call FF hr hg hm hk hb .nil pass0 p1 hdb he hpl, te_app o1 hn⟩
theorem de_call0 {k : Nat} {f : Addr} {fd : FuncData} {ps : List Str} {F : FD} {x : Str} {p pos : Pos} (FF : FnOk X.prog X.w X.K X.mg X.base CX0 k f fd ps (spD X.K 0 F)) (hr : Room k X.A) (hg : Gl X x) (hm : X.mg x = some (.ref f)) (hk : PySem.W.keepIn X.K (.ref f) = true) (hb : Binds X.K fd ps [])
    (hdb : (x == ("__debug__" : Str)) = false := by decide) : DE X (.Call (.Name x p) [] [] pos) (mApp F mNil) := by
  refine ⟨_, pe_call0 FF hr hg hm hk hb .nil pass0 hdb, ?_⟩
  exact te_app (t := tNil) (fun β P σ H G s b s' R e Q q => by cases e; exact q _ H G (Ext.refl G) R (isl_nil.mpr rfl)) len_nil
end

/-! ### targets -/
omit [Me] in
def DG (X : Cx) (tg : Expr) (is : List Nat) (h : Dt → Sta → Option Sta) : Prop := ∃ g, PG X tg g ∧ ∀ (β : Addr) (P : Hp) (σ : L2.St) (H G : Hp) (s : Sta) (d : Dt) (v : V) (s' : Sta), Rel X.K β P σ H G s → IsD X.K β G d v → h d s = some s' →
  ∀ Q : L2.St → Hp → Prop, (∀ σ' H' G', Ext G G' → Rel X.K β P σ' H' G' s' → (∀ j, j ∉ is → σ'[j]? = σ[j]?) → σ'.length = σ.length → Q σ' H') → g v σ H Q
omit [Me] in
def DGs (X : Cx) (tgs : List Expr) (is : List Nat) (h : List Dt → Sta → Option Sta) : Prop := ∃ g, PGs X tgs g ∧ ∀ (β : Addr) (P : Hp) (σ : L2.St) (H G : Hp) (s : Sta) (ds : List Dt) (vs : List V) (s' : Sta), Rel X.K β P σ H G s → IsL X.K β G ds vs → h ds s = some s' →
  ∀ Q : L2.St → Hp → Prop, (∀ σ' H' G', Ext G G' → Rel X.K β P σ' H' G' s' → (∀ j, j ∉ is → σ'[j]? = σ[j]?) → σ'.length = σ.length → Q σ' H') → g vs σ H Q
omit [Me] in
def hName (i : Nat) (d : Dt) (s : Sta) : Option Sta := some { s with sl := s.sl.set i (some (.dat d)) }
omit [Me] in
def hNil : List Dt → Sta → Option Sta
  | [], s => some s
  | _, _ => none
omit [Me] in
def hCons (h : Dt → Sta → Option Sta) (k : List Dt → Sta → Option Sta) : List Dt → Sta → Option Sta
  | d :: r, s => (h d s).bind (k r)
  | [], _ => none
omit [Me] in
def hTup (n : Nat) (k : List Dt → Sta → Option Sta) : Dt → Sta → Option Sta
  | .tup l, s => if l.length = n then k l s else none
  | _, _ => none
omit [Me] in
/-- bag[i] = .. -/
def hBag (fo fi : DM Dt) : Dt → Sta → Option Sta := fun d s => (fo s).bind fun p => match p.1 with
  | .bag => (fi p.2).bind fun q => match q.1 with
    | .int k => (ixN q.2.bag.length k).bind fun j => if plain d = true then some { q.2 with bag := q.2.bag.set j d } else none
    | _ => none
  | _ => none
mutual
theorem plain_free {K : PySem.W.Frag} {β γ : Addr} {G : Hp} : ∀ (d : Dt) (v : V), plain d = true → IsD K β G d v → IsD K γ G d v
  | .non, _, _, h => h
  | .bl _, _, _, h => h
  | .int _, _, _, h => h
  | .str _, _, _, h => h
  | .bag, _, p, _ => by cases p
  | .dic _ _, _, p, _ => by cases p
  | .ins _ _ _, _, p, _ => by cases p
  | .err _ _ _, _, p, _ => by cases p
  | .tup l, v, p, h => by
    obtain ⟨a, vs, rfl, h1, h2⟩ := is_tup.mp h
    exact is_tup.mpr ⟨a, vs, rfl, h1, plains_free l vs (by unfold plain at p; exact p) h2⟩
  | .lst l, v, p, h => by
    obtain ⟨a, vs, rfl, h1, h2⟩ := is_lst.mp h
    exact is_lst.mpr ⟨a, vs, rfl, h1, plains_free l vs (by unfold plain at p; exact p) h2⟩
theorem plains_free {K : PySem.W.Frag} {β γ : Addr} {G : Hp} : ∀ (l : List Dt) (vs : List V), plains l = true → IsL K β G l vs → IsL K γ G l vs
  | [], _, _, h => h
  | d :: l, vs, p, h => by
    obtain ⟨v, r, rfl, h1, h2⟩ := isl_cons.mp h
    unfold plains at p
    rw [Bool.and_eq_true] at p
    exact isl_cons.mpr ⟨v, r, rfl, plain_free d v p.1 h1, plains_free l r p.2 h2⟩
end
section
variable {X : Cx}
theorem Rel.setBag {K : PySem.W.Frag} {β : Addr} {P : Hp} {σ : L2.St} {H G : Hp} {s : Sta} (R : Rel K β P σ H G s) {bg : List Dt} {us : List V} (h : IsL K β G bg us) : Rel K β P σ (upd H β (.lst us)) G { s with bag := bg } where
  len := R.len
  gh := fun a o e => by
    obtain ⟨vs, h1, h2, _⟩ := R.bag
    rw [upd_ne (ne_of_none e h2)]; exact R.gh a o e
  pr := fun a o e => by
    have n : a ≠ β := fun z => by subst z; rw [R.pb] at e; cases e
    rw [upd_ne n]; exact R.pr a o e
  pb := R.pb
  bag := by
    obtain ⟨vs, h1, h2, _⟩ := R.bag
    exact ⟨us, upd_same, h2, h⟩
  dat := R.dat
  own := fun i l e => by
    obtain ⟨p, vs, h1, h2, h3, h4, h5, h6⟩ := R.own i l e
    exact ⟨p, vs, h1, by rw [upd_ne h5]; exact h2, h3, h4, h5, h6⟩
  dj := R.dj
  obj := fun i c ks l e => by
    obtain ⟨p, C, dx, vs, h1, h0, h2, h3⟩ := R.obj i c ks l e
    have n : p ≠ β := fun z => by
      obtain ⟨us, b1, _⟩ := R.bag
      rw [← z, h2] at b1
      cases b1
    exact ⟨p, C, dx, vs, h1, h0, by rw [upd_ne n]; exact h2, h3⟩
  oj := R.oj
  fns := R.fns
  tabs := fun q hq => by
    obtain ⟨t, g, n⟩ := R.tabs q hq
    obtain ⟨ws, b1, _⟩ := R.bag
    exact ⟨t.of (upd_ne (t.neL b1)) (Ext.refl G), g, n⟩
  pt := R.pt
  nt := R.nt
theorem dg_name {i : Nat} {x : Str} {pos : Pos} (hN : X.N.Nodup) (hi : X.N[i]? = some x) (hx : Loc X.env.scope x) (hf : X.fn x = true ∨ X.env.scope.names.lookup x = some .local := by first | exact .inl rfl | exact .inr rfl | assumption) : DG X (.Name x pos) [i] (hName i) := by
  refine ⟨_, pg_name hN hi hx hf, fun β P σ H G s d v s' R h e Q q => ?_⟩
  cases e
  refine q _ H G (Ext.refl G) (R.set h) (fun j hj => ?_) (by simp)
  rw [List.getElem?_set_ne]
  intro e; apply hj; simp [e]
theorem dgs_nil : DGs X [] [] hNil := ⟨_, pgs_nil, fun β P σ H G s ds vs s' R h e Q q => by
  cases ds with
  | nil => cases e; exact ⟨isl_nil.mp h, q σ H G (Ext.refl G) R (fun _ _ => rfl) rfl⟩
  | cons d r => cases e⟩
theorem dgs_cons {e : Expr} {es : List Expr} {is js : List Nat} {h : Dt → Sta → Option Sta} {k : List Dt → Sta → Option Sta} (h1 : DG X e is h) (h2 : DGs X es js k) (hs : (assignEach (e :: es) X.env).map (·.2) = assign e X.env :: (assignEach es X.env).map (·.2) := by rfl) :
    DGs X (e :: es) (is ++ js) (hCons h k) := by
  obtain ⟨g, p1, o1⟩ := h1
  obtain ⟨g2, p2, o2⟩ := h2
  refine ⟨_, pgs_cons p1 p2 hs, fun β P σ H G s ds vs s' R hi e Q q => ?_⟩
  cases ds with
  | nil => cases e
  | cons d r =>
    obtain ⟨v, us, rfl, i1, i2⟩ := isl_cons.mp hi
    obtain ⟨s1, e1, e2⟩ := Option.bind_eq_some_iff.mp (show (h d s).bind (k r) = some s' from e)
    refine ⟨v, us, rfl, o1 β P σ H G s d v s1 R i1 e1 _ fun σ1 H1 G1 x1 R1 c1 l1 => ?_⟩
    refine o2 β P σ1 H1 G1 s1 r us s' R1 (IsL.mono x1 _ _ i2) e2 _ fun σ2 H2 G2 x2 R2 c2 l2 => ?_
    refine q σ2 H2 G2 (x1.trans x2) R2 (fun j hj => ?_) (l2.trans l1)
    rw [List.mem_append, not_or] at hj
    exact (c2 j hj.2).trans (c1 j hj.1)
theorem dg_tup {es : List Expr} {k : Nat} {pos : Pos} {n : Nat} {is : List Nat} {h : List Dt → Sta → Option Sta} (hc : X.calm = true) (hg : DGs X es is h) (hn : (assignEach es X.env).length = n := by rfl) (hst : (assignEach es X.env).findIdx? (·.1) = none := by rfl) :
    DG X (.Tuple es k pos) is (hTup n h) := by
  obtain ⟨g, p1, o1⟩ := hg
  refine ⟨_, pg_tup hc p1 hn hst, fun β P σ H G s d v s' R hi e Q q => ?_⟩
  cases d with
  | tup l =>
    obtain ⟨a, vs, rfl, h1, h2⟩ := is_tup.mp hi
    unfold hTup at e
    dsimp only at e
    split at e
    · rename_i c
      exact ⟨a, vs, rfl, ext_t R.gh h1, by rw [h2.len]; exact c, o1 β P σ H G s l vs s' R h2 e Q q⟩
    · cases e
  | _ => cases e
theorem dg_bag {o i : Expr} {fo fi : DM Dt} {pos : Pos} (ho : DE X o fo) (hi : DE X i fi)
    (ha : ∀ v, assign (.Subscript o i pos) X.env v = (do
      let ov ← holding [v] (eval o X.env)
      let iv ← holding [v, ov] (eval i X.env)
      standAt pos
      holding [v, ov, iv] (setItem ov iv v)
      release [v, ov, iv] []) := by intro _; rfl) : DG X (.Subscript o i pos) [] (hBag fo fi) := by
  obtain ⟨t, p1, o1⟩ := ho
  obtain ⟨u, p2, o2⟩ := hi
  refine ⟨_, pg_sub p1 p2 set_list ha, fun β P σ H G s d v s' R h e Q q => ?_⟩
  unfold hBag at e
  obtain ⟨⟨x, s1⟩, e1, e⟩ := Option.bind_eq_some_iff.mp e
  cases x with
  | bag =>
    obtain ⟨⟨y, s2⟩, e2, e⟩ := Option.bind_eq_some_iff.mp e
    cases y with
    | int k =>
      obtain ⟨j, e3, e⟩ := Option.bind_eq_some_iff.mp e
      split at e
      · rename_i c
        cases e
        refine o1 β P σ H G s _ s1 R e1 _ fun w H1 G1 x1 R1 i1 => ?_
        refine o2 β P σ H1 G1 s1 _ s2 R1 e2 _ fun z H2 G2 x2 R2 i2 => ?_
        rw [is_bag.mp i1, is_int.mp i2]
        obtain ⟨vs, h1, h2, h3⟩ := R2.bag
        refine ⟨β, vs, k, j, rfl, rfl, h1, by rw [h3.len]; exact e3, ?_⟩
        exact q σ _ G2 (x1.trans x2) (R2.setBag (h3.set j (IsD.mono (x1.trans x2) _ _ h))) (fun _ _ => rfl) rfl
      · cases e
    | _ => cases e
  | _ => cases e
omit [Me] in
/-- bag[i] read -/
def mBagIx (fo fi : DM Dt) : DM Dt := fun s => (fo s).bind fun p => match p.1 with
  | .bag => (fi p.2).bind fun q => match q.1 with
    | .int k => (atI q.2.bag k).bind fun d => some (d, q.2)
    | _ => none
  | _ => none
theorem de_bagIx {a b : Expr} {fo fi : DM Dt} {pos : Pos} (ho : DE X a fo) (hi : DE X b fi) (hs : PlainIx b := by exact fun _ _ => rfl) : DE X (.Subscript a b pos) (mBagIx fo fi) := by
  obtain ⟨t, p1, o1⟩ := ho
  obtain ⟨u, p2, o2⟩ := hi
  refine ⟨_, pe_ix ix_list p1 p2 hs, fun β P σ H G s d s' R e Q q => ?_⟩
  unfold mBagIx at e
  obtain ⟨⟨x, s1⟩, e1, e⟩ := Option.bind_eq_some_iff.mp e
  cases x with
  | bag =>
    obtain ⟨⟨y, s2⟩, e2, e⟩ := Option.bind_eq_some_iff.mp e
    cases y with
    | int k =>
      obtain ⟨j, e3, e⟩ := Option.bind_eq_some_iff.mp e
      cases e
      refine o1 β P σ H G s _ s1 R e1 _ fun w H1 G1 x1 R1 i1 => ?_
      refine o2 β P σ H1 G1 s1 _ s2 R1 e2 _ fun z H2 G2 x2 R2 i2 => ?_
      rw [is_bag.mp i1, is_int.mp i2]
      obtain ⟨vs, h1, h2, h3⟩ := R2.bag
      obtain ⟨v, e4, i4⟩ := ati_ok h3 e3
      exact ⟨β, vs, k, v, rfl, rfl, .inl (.inl h1), e4, q v H2 G2 (x1.trans x2) R2 i4⟩
    | _ => cases e
  | _ => cases e
end

/-! ### statements -/
omit [Me] in
inductive Res where
  | nx | bk | ct | rt (d : Dt)
omit [Me] in
abbrev DMs := Sta → Option (Res × Sta)
omit [Me] in
def endOf (K : PySem.W.Frag) (β : Addr) (P G : Hp) (D : Ends) (r : Res) (s' : Sta) : Prop := match r with
  | .nx => ∀ σ' H' G', Ext G G' → Rel K β P σ' H' G' s' → D.nx σ' H'
  | .bk => ∀ σ' H' G', Ext G G' → Rel K β P σ' H' G' s' → D.bk σ' H'
  | .ct => ∀ σ' H' G', Ext G G' → Rel K β P σ' H' G' s' → D.ct σ' H'
  | .rt d => ∀ v σ' H' G', Ext G G' → Rel K β P σ' H' G' s' → IsD K β G' d v → D.rt v H'
theorem endOf.mono {K : PySem.W.Frag} {β : Addr} {P G G1 : Hp} {D : Ends} {r : Res} {s' : Sta} (e : Ext G G1) (h : endOf K β P G D r s') : endOf K β P G1 D r s' := by
  cases r with
  | nx => exact fun σ' H' G' x R => h σ' H' G' (e.trans x) R
  | bk => exact fun σ' H' G' x R => h σ' H' G' (e.trans x) R
  | ct => exact fun σ' H' G' x R => h σ' H' G' (e.trans x) R
  | rt d => exact fun v σ' H' G' x R => h v σ' H' G' (e.trans x) R
omit [Me] in
def TSok (K : PySem.W.Frag) (t : TS) (f : DMs) : Prop := ∀ (β : Addr) (P : Hp) (σ : L2.St) (H G : Hp) (s : Sta) (r : Res) (s' : Sta), Rel K β P σ H G s → f s = some (r, s') → ∀ D : Ends, endOf K β P G D r s' → t D σ H
omit [Me] in
def DS (X : Cx) (st : Stmt) (f : DMs) : Prop := ∃ t, PS X st t ∧ TSok X.K t f
omit [Me] in
def DSs (X : Cx) (st : List Stmt) (f : DMs) : Prop := ∃ t, PSs X st t ∧ TSok X.K t f
omit [Me] in
def kSkip : DMs := fun s => some (.nx, s)
omit [Me] in
def kSeq (f g : DMs) : DMs := fun s => (f s).bind fun p => match p.1 with
  | .nx => g p.2
  | r => some (r, p.2)
omit [Me] in
def kAsg (f : DM Dt) (h : Dt → Sta → Option Sta) : DMs := fun s => (f s).bind fun p => (h p.1 p.2).bind fun s' => some (.nx, s')
omit [Me] in
def kRet (f : DM Dt) : DMs := fun s => (f s).bind fun p => some (.rt p.1, p.2)
omit [Me] in
def kDrop (f : DM Dt) : DMs := fun s => (f s).bind fun p => some (.nx, p.2)
omit [Me] in
def kIf (c : DM Bool) (f g : DMs) : DMs := fun s => (c s).bind fun p => if p.1 = true then f p.2 else g p.2
omit [Me] in
def kCt : DMs := fun s => some (.ct, s)
omit [Me] in
def kBk : DMs := fun s => some (.bk, s)
section
variable {X : Cx}
theorem dss_nil : DSs X [] kSkip := ⟨_, pss_nil, fun β P σ H G s r s' R e D h => by cases e; exact h σ H G (Ext.refl G) R⟩
theorem dss_one {st : Stmt} {f : DMs} (h : DS X st f) : DSs X [st] f := by
  obtain ⟨t, p, o⟩ := h
  exact ⟨_, pss_one p, o⟩
theorem dss_cons {st : Stmt} {rest : List Stmt} {f g : DMs} (h1 : DS X st f) (h2 : DSs X rest g) : DSs X (st :: rest) (kSeq f g) := by
  obtain ⟨t, p, o⟩ := h1
  obtain ⟨u, p2, o2⟩ := h2
  refine ⟨_, pss_cons p p2, fun β P σ H G s r s' R e D h => ?_⟩
  unfold kSeq at e
  obtain ⟨⟨x, s1⟩, e1, e⟩ := Option.bind_eq_some_iff.mp e
  cases x with
  | nx =>
    refine o β P σ H G s .nx s1 R e1 _ ?_
    exact fun σ1 H1 G1 x1 R1 => o2 β P σ1 H1 G1 s1 r s' R1 e D (h.mono x1)
  | bk => cases e; exact o β P σ H G s .bk s1 R e1 _ h
  | ct => cases e; exact o β P σ H G s .ct s1 R e1 _ h
  | rt d => cases e; exact o β P σ H G s (.rt d) s1 R e1 _ h
theorem ds_asg {tg e : Expr} {f : DM Dt} {is : List Nat} {h : Dt → Sta → Option Sta} {pos : Pos} (he : DE X e f) (hg : DG X tg is h) (hs : swapsWithSole [tg] e pos.line X.env = pure false := by rfl) (hw : swappedStores [tg] e X.env = pure none := by rfl)
    (h1 : (assignEach [tg] X.env).map (·.2) = [assign tg X.env] := by rfl) : DS X (.Assign [tg] e pos) (kAsg f h) := by
  obtain ⟨t, p, o⟩ := he
  obtain ⟨g, p2, o2⟩ := hg
  refine ⟨_, ps_asg p p2 hs hw h1, fun β P σ H G s r s' R e D k => ?_⟩
  unfold kAsg at e
  obtain ⟨⟨x, s1⟩, e1, e⟩ := Option.bind_eq_some_iff.mp e
  obtain ⟨s2, e2, e⟩ := Option.bind_eq_some_iff.mp e
  cases e
  refine o β P σ H G s x s1 R e1 _ fun v H1 G1 x1 R1 i1 => ?_
  exact o2 β P σ H1 G1 s1 x v s' R1 i1 e2 _ fun σ2 H2 G2 x2 R2 _ _ => k σ2 H2 G2 (x1.trans x2) R2
theorem ds_set {i : Nat} {x : Str} {e : Expr} {f : DM Dt} {pos' pos : Pos} (hN : X.N.Nodup) (hi : X.N[i]? = some x) (hx : Loc X.env.scope x) (he : DE X e f) (hs : swapsWith e (some (.Name x pos')) pos.line X.env = pure false := by rfl) (hf : X.fn x = true ∨ X.env.scope.names.lookup x = some .local := by first | exact .inl rfl | exact .inr rfl | assumption) :
    DS X (.Assign [.Name x pos'] e pos) (kAsg f (hName i)) := by
  obtain ⟨t, p, o⟩ := he
  refine ⟨_, ps_set hN hi hx p hs hf, fun β P σ H G s r s' R e D k => ?_⟩
  unfold kAsg at e
  obtain ⟨⟨x, s1⟩, e1, e⟩ := Option.bind_eq_some_iff.mp e
  obtain ⟨s2, e2, e⟩ := Option.bind_eq_some_iff.mp e
  cases e2
  cases e
  refine o β P σ H G s x s1 R e1 _ fun v H1 G1 x1 R1 i1 => ?_
  exact k _ H1 G1 x1 (R1.set i1)
theorem ds_ret {e : Expr} {f : DM Dt} {pos : Pos} (he : DE X e f) : DS X (.Return (some e) pos) (kRet f) := by
  obtain ⟨t, p, o⟩ := he
  refine ⟨_, ps_ret p, fun β P σ H G s r s' R e D k => ?_⟩
  unfold kRet at e
  obtain ⟨⟨x, s1⟩, e1, e⟩ := Option.bind_eq_some_iff.mp e
  cases e
  exact o β P σ H G s x s1 R e1 _ fun v H1 G1 x1 R1 i1 => k v σ H1 G1 x1 R1 i1
theorem ds_expr {e : Expr} {f : DM Dt} {pos : Pos} (he : DE X e f) (hs : swapsWith e none pos.line X.env = pure false := by rfl) : DS X (.Expr e pos) (kDrop f) := by
  obtain ⟨t, p, o⟩ := he
  refine ⟨_, ps_expr p hs, fun β P σ H G s r s' R e D k => ?_⟩
  unfold kDrop at e
  obtain ⟨⟨x, s1⟩, e1, e⟩ := Option.bind_eq_some_iff.mp e
  cases e
  exact o β P σ H G s x s1 R e1 _ fun v H1 G1 x1 R1 i1 => k σ H1 G1 x1 R1
theorem ds_if {c : Expr} {a b : List Stmt} {fc : DM Bool} {f g : DMs} {pos : Pos} (hc : DT X c fc) (ha : DSs X a f) (hb : DSs X b g) : DS X (.If c a b pos) (kIf fc f g) := by
  obtain ⟨t, p, o⟩ := hc
  obtain ⟨t2, p2, o2⟩ := ha
  obtain ⟨t3, p3, o3⟩ := hb
  refine ⟨_, ps_if p p2 p3, fun β P σ H G s r s' R e D k => ?_⟩
  unfold kIf at e
  obtain ⟨⟨x, s1⟩, e1, e⟩ := Option.bind_eq_some_iff.mp e
  refine o β P σ H G s x s1 R e1 _ fun H1 G1 x1 R1 => ?_
  cases x with
  | true => rw [if_pos rfl] at e ⊢; exact o2 β P σ H1 G1 s1 r s' R1 e D (k.mono x1)
  | false => rw [if_neg Bool.false_ne_true] at e ⊢; exact o3 β P σ H1 G1 s1 r s' R1 e D (k.mono x1)
theorem ds_cont {pos : Pos} : DS X (.Continue pos) kCt := ⟨_, ps_continue, fun β P σ H G s r s' R e D k => by cases e; exact k σ H G (Ext.refl G) R⟩
theorem ds_never {st : Stmt} : DS X st fun _ => none := ⟨_, ps_never, fun β P σ H G s r s' R e D k => by cases e⟩
end

/-! ### a def -/
omit [Me] in
def fnD (n : Nat) (f : DMs) : FD := fun ds bg => (f ⟨ds.map (fun d => some (.dat d)) ++ List.replicate (n - ds.length) none, bg⟩).bind fun p => match p.1 with
  | .rt d => some (d, p.2.bag)
  | .nx => some (.non, p.2.bag)
  | _ => none
theorem start_get {ds : List Dt} {n i : Nat} {x : Slo} (h : (ds.map (fun d => some (Slo.dat d)) ++ List.replicate (n - ds.length) none)[i]? = some (some x)) : ∃ d, ds[i]? = some d ∧ x = .dat d := by
  rw [List.getElem?_append] at h
  split at h
  · rw [List.getElem?_map] at h
    cases e : ds[i]? with
    | none => rw [e] at h; cases h
    | some d => rw [e] at h; cases h; exact ⟨d, rfl, rfl⟩
  · rw [List.getElem?_replicate] at h
    split at h <;> cases h
theorem rel_start {K : PySem.W.Frag} {β : Addr} {P H G : Hp} {N : List Str} {ds bg : List Dt} {vs : List V} (i : IsL K β G ds vs) (R : Rel K β P [] H G ⟨[], bg⟩) :
    Rel K β P (L2.start N vs) H G ⟨ds.map (fun d => some (.dat d)) ++ List.replicate (N.length - ds.length) none, bg⟩ where
  len := by unfold L2.start; simp [i.len]
  gh := R.gh
  pr := R.pr
  pb := R.pb
  bag := R.bag
  dat := fun j d e => by
    obtain ⟨d', e1, e2⟩ := start_get e
    cases e2
    obtain ⟨v, h1, h2⟩ := i.get e1
    refine ⟨v, ?_, h2⟩
    unfold L2.start
    have hl : j < vs.length := (List.getElem?_eq_some_iff.mp h1).1
    rw [List.getElem?_append_left (by simpa using hl), List.getElem?_map, h1]
    rfl
  own := fun j l e => by
    obtain ⟨d', e1, e2⟩ := start_get e
    cases e2
  dj := fun j _ l _ p e => by
    obtain ⟨d', e1, e2⟩ := start_get e
    cases e2
  obj := fun j c ks l e => by
    obtain ⟨d', e1, e2⟩ := start_get e
    cases e2
  oj := fun j _ c ks l _ _ _ e => by
    obtain ⟨d', e1, e2⟩ := start_get e
    cases e2
  fns := fun j l q e => by
    obtain ⟨d', e1, e2⟩ := start_get e
    cases e2
  tabs := R.tabs
  pt := R.pt
  nt := R.nt
theorem Rel.leave {K : PySem.W.Frag} {β : Addr} {P : Hp} {σ : L2.St} {H G : Hp} {s : Sta} (R : Rel K β P σ H G s) : Rel K β P [] H G ⟨[], s.bag⟩ where
  len := rfl
  gh := R.gh
  pr := R.pr
  pb := R.pb
  bag := R.bag
  dat := fun i d e => by simp at e
  own := fun i d e => by simp at e
  dj := fun i j l m p e => by simp at e
  obj := fun i c ks l e => by simp at e
  oj := fun i j c ks l c' ks' l' e => by simp at e
  fns := fun i l q e => by simp at e
  tabs := R.tabs
  pt := R.pt
  nt := R.nt
section
variable {P : Program} {w : World} {K : PySem.W.Frag} {mg : Str → Option Value} {base : Heap}
theorem fn_ok {x qual : Str} {st : Stmt} {f : Addr} {fd : FuncData} {N ps : List Str} {k n : Nat} {g : DMs} (F : Fun K x qual st f fd) (S : FnScope N ps (defScope st)) (hn : ps.length = n := by rfl)
    (hb : ∀ (cdv : Value) (A : Around) (outer : List Env) (s : Shared) (H : Hp) (E : XK), Room k (A.deeper (envOfC qual (defScope st) s.heap.objs.size f cdv)) →
      DSs (cxOf CX0 P w K mg base N qual (defScope st) f cdv A outer s H E).nox (defBody st) g) : FnOk P w K mg base CX0 (k + 1) f fd ps (spD K n (fnD N.length g)) := by
  refine F.ok S (fun vs H Q E h => ?_) (fun cdv A outer s H vs Q E hr h => ?_)
  · obtain ⟨β, P, G, ds, bg, r, bg', h, _⟩ := h
    rw [hn]; exact h
  · obtain ⟨β, PP, G, ds, bg, r, bg', hl, i, R, e, q⟩ := h
    obtain ⟨t, p, o⟩ := hb cdv A outer s H E hr
    refine ⟨t, p, ?_⟩
    unfold fnD at e
    obtain ⟨⟨res, s'⟩, e1, e⟩ := Option.bind_eq_some_iff.mp e
    refine o β PP (L2.start N vs) H G _ res s' (rel_start i R) e1 _ ?_
    cases res with
    | nx =>
      cases e
      exact fun σ' H' G' x R' => q .non H' G' x R'.leave (is_non.mpr rfl)
    | rt d =>
      cases e
      exact fun v σ' H' G' x R' iv => q v H' G' x R'.leave iv
    | bk => cases e
    | ct => cases e
/-- a promise that nobody can call -/
theorem fn_none {f : Addr} {fd : FuncData} {ps : List Str} {k n : Nat} (hn : ps.length = n := by rfl) : FnOk P w K mg base CX0 k f fd ps (spD K n fun _ _ => none) :=
  ⟨fun vs H Q E h => by obtain ⟨β, P, G, ds, bg, r, bg', h, _⟩ := h; rw [hn]; exact h, fun A outer s H args us vs Q E _ _ _ _ h => by
    obtain ⟨β, P, G, ds, bg, r, bg', _, _, _, e, _⟩ := h
    cases e⟩
end
end DL

namespace DL
open PySem PySem.Spec PyProof.Rows L2
variable [Tabs] [Me]

/-! ### canonical readings -/
omit [Me] in
def tOf (K : PySem.W.Frag) (f : DM Dt) : TE := fun σ H Q => ∃ (β : Addr) (P G : Hp) (s : Sta) (d : Dt) (s' : Sta), Rel K β P σ H G s ∧ f s = some (d, s') ∧ ∀ v H' G', Ext G G' → Rel K β P σ H' G' s' → IsD K β G' d v → Q v H'
omit [Me] in
def ttOf (K : PySem.W.Frag) (f : DM Bool) : TT := fun σ H Q => ∃ (β : Addr) (P G : Hp) (s : Sta) (d : Bool) (s' : Sta), Rel K β P σ H G s ∧ f s = some (d, s') ∧ ∀ H' G', Ext G G' → Rel K β P σ H' G' s' → Q d H'
omit [Me] in
def TGok (K : PySem.W.Frag) (g : TG) (is : List Nat) (h : Dt → Sta → Option Sta) : Prop := ∀ (β : Addr) (P : Hp) (σ : L2.St) (H G : Hp) (s : Sta) (d : Dt) (v : V) (s' : Sta), Rel K β P σ H G s → IsD K β G d v → h d s = some s' →
  ∀ Q : L2.St → Hp → Prop, (∀ σ' H' G', Ext G G' → Rel K β P σ' H' G' s' → (∀ j, j ∉ is → σ'[j]? = σ[j]?) → σ'.length = σ.length → Q σ' H') → g v σ H Q
omit [Me] in
def gOf (K : PySem.W.Frag) (is : List Nat) (h : Dt → Sta → Option Sta) : TG := fun v σ H Q => ∃ (β : Addr) (P G : Hp) (s : Sta) (d : Dt) (s' : Sta), Rel K β P σ H G s ∧ IsD K β G d v ∧ h d s = some s' ∧
  ∀ σ' H' G', Ext G G' → Rel K β P σ' H' G' s' → (∀ j, j ∉ is → σ'[j]? = σ[j]?) → σ'.length = σ.length → Q σ' H'
theorem tOf_ok {K : PySem.W.Frag} {f : DM Dt} : TEok K (tOf K f) f := fun β P σ H G s d s' R e Q q => ⟨β, P, G, s, d, s', R, e, q⟩
theorem ttOf_ok {K : PySem.W.Frag} {f : DM Bool} : TTok K (ttOf K f) f := fun β P σ H G s d s' R e Q q => ⟨β, P, G, s, d, s', R, e, q⟩
theorem gOf_ok {K : PySem.W.Frag} {is : List Nat} {h : Dt → Sta → Option Sta} : TGok K (gOf K is h) is h := fun β P σ H G s d v s' R i e Q q => ⟨β, P, G, s, d, s', R, i, e, q⟩
section
variable {X : Cx}
theorem DE.pe {e : Expr} {f : DM Dt} (h : DE X e f) : PE X e (tOf X.K f) := by
  obtain ⟨t, p, o⟩ := h
  refine ⟨fun pins s σ H Q I k => ?_⟩
  obtain ⟨β, P, G, a, d, a', R, e1, q⟩ := k
  exact p.run pins s σ H Q I (o β P σ H G a d a' R e1 Q q)
theorem DT.pt {e : Expr} {f : DM Bool} (h : DT X e f) : PT X e (ttOf X.K f) := by
  obtain ⟨t, p, o⟩ := h
  refine ⟨fun pins s σ H Q I k => ?_⟩
  obtain ⟨β, P, G, a, d, a', R, e1, q⟩ := k
  exact p.run pins s σ H Q I (o β P σ H G a d a' R e1 Q q)
theorem DG.pg {e : Expr} {is : List Nat} {h : Dt → Sta → Option Sta} (k : DG X e is h) : PG X e (gOf X.K is h) := by
  obtain ⟨g, p, o⟩ := k
  refine ⟨fun pins s σ H v u Q I r k => ?_⟩
  obtain ⟨β, P, G, a, d, a', R, i, e1, q⟩ := k
  exact p.run pins s σ H v u Q I r (o β P σ H G a d _ a' R i e1 Q q)
end

/-! ### what is walked -/
omit [Me] in
def TIok (K : PySem.W.Frag) (wi : TI) (f : DM (List Dt)) : Prop := ∀ (β : Addr) (P : Hp) (σ : L2.St) (H G : Hp) (s : Sta) (l : List Dt) (s' : Sta), Rel K β P σ H G s → f s = some (l, s') →
  ∀ R : It → Hp → Prop, (∀ (J : It) (H' G' : Hp) (Gd : Hp → Prop) (Y : Nat → Hp → V → Hp → Prop), Ext G G' → Rel K β P σ H' G' s' → Walk J l.length Gd Y → (∀ H1 G1, Ext G' G1 → Ext G1 H1 → Gd H1) →
    (∀ (i : Nat) (d : Dt) (H1 : Hp) (x : V) (H2 P1 : Hp) (σ1 : L2.St) (G1 : Hp) (s1 : Sta), l[i]? = some d → Ext G' G1 → Rel K β P1 σ1 H1 G1 s1 → Y i H1 x H2 → ∃ G2, Ext G1 G2 ∧ Rel K β P1 σ1 H2 G2 s1 ∧ IsD K β G2 d x) → R J H') → wi σ H R
omit [Me] in
def DI (X : Cx) (tg iter : Expr) (f : DM (List Dt)) : Prop := ∃ wi, PI X tg iter wi ∧ TIok X.K wi f
omit [Me] in
def wLst (f : DM Dt) : DM (List Dt) := fun s => (f s).bind fun p => match p.1 with
  | .lst l => some (l, p.2)
  | _ => none
omit [Me] in
def wTup (f : DM Dt) : DM (List Dt) := fun s => (f s).bind fun p => match p.1 with
  | .tup l => some (l, p.2)
  | _ => none
omit [Me] in
def wStr (f : DM Dt) : DM (List Dt) := fun s => (f s).bind fun p => match p.1 with
  | .str z => some (z.cps.toList.map fun c => .str ⟨#[c]⟩, p.2)
  | _ => none
omit [Me] in
def bRng (j : Int) : Bool := decide (-(2 ^ 62) ≤ j) && decide (j < 2 ^ 62)
omit [Me] in
def rngD (lo : Int) (n : Nat) : List Dt := (List.range n).map fun i => .int (lo + (i : Nat))
omit [Me] in
def wRng1 (f : DM (List Dt)) : DM (List Dt) := fun s => (f s).bind fun p => match p.1 with
  | [.int j] => if bRng j = true then some (rngD 0 j.toNat, p.2) else none
  | _ => none
omit [Me] in
def wRng2 (f : DM (List Dt)) : DM (List Dt) := fun s => (f s).bind fun p => match p.1 with
  | [.int i, .int j] => if (bRng i && bRng j) = true then some (rngD i (j - i).toNat, p.2) else none
  | _ => none
omit [Me] in
def zipD : List Dt → List Dt → List Dt
  | x :: xs, y :: ys => .tup [x, y] :: zipD xs ys
  | _, _ => []
omit [Me] in
def wZip (f : DM (List Dt)) : DM (List Dt) := fun s => (f s).bind fun p => match p.1 with
  | [.lst a, .lst b] => some (zipD a b, p.2)
  | [.tup a, .tup b] => some (zipD a b, p.2)
  | _ => none
theorem zip_len : ∀ (a b : List Dt), (zipD a b).length = min a.length b.length
  | [], [] => rfl
  | [], _ :: _ => rfl
  | _ :: _, [] => rfl
  | x :: a, y :: b => by simp only [zipD, List.length_cons, zip_len a b]; omega
theorem zip_get : ∀ (a b : List Dt) (i : Nat) (d : Dt), (zipD a b)[i]? = some d → ∃ x y, a[i]? = some x ∧ b[i]? = some y ∧ d = .tup [x, y]
  | [], [], i, d, h => by simp [zipD] at h
  | [], _ :: _, i, d, h => by simp [zipD] at h
  | _ :: _, [], i, d, h => by simp [zipD] at h
  | x :: a, y :: b, 0, d, h => by simp [zipD] at h; exact ⟨x, y, rfl, rfl, h.symm⟩
  | x :: a, y :: b, i + 1, d, h => by
    simp [zipD] at h
    obtain ⟨u, v, h1, h2, h3⟩ := zip_get a b i d h
    exact ⟨u, v, by simpa using h1, by simpa using h2, h3⟩
theorem same_turn {K : PySem.W.Frag} {β : Addr} {P1 : Hp} {σ1 : L2.St} {H1 G1 : Hp} {s1 : Sta} (R : Rel K β P1 σ1 H1 G1 s1) {d : Dt} {x : V} (h : IsD K β G1 d x) : ∃ G2, Ext G1 G2 ∧ Rel K β P1 σ1 H1 G2 s1 ∧ IsD K β G2 d x := ⟨G1, Ext.refl G1, R, h⟩
section
variable {X : Cx} {tg e : Expr} {f : DM Dt}
theorem di_list (h : DE X e f) : DI X tg e (wLst f) := by
  obtain ⟨t, p, o⟩ := h
  refine ⟨_, pi_list p, fun β P σ H G s l s' R e Q q => ?_⟩
  unfold wLst at e
  obtain ⟨⟨x, s1⟩, e1, e⟩ := Option.bind_eq_some_iff.mp e
  cases x with
  | lst m =>
    cases e
    refine o β P σ H G s _ s1 R e1 _ fun v H1 G1 x1 R1 i1 => ?_
    obtain ⟨a, vs, rfl, h1, h2⟩ := is_lst.mp i1
    refine ⟨a, rfl, ⟨vs, .inl (.inl (R1.gh _ _ h1))⟩, q _ H1 G1 (fun H => SqL X.K H a vs) (YAt vs) x1 R1 (by rw [← h2.len]; exact walk_list) (fun H2 G2 x2 g => .inl (.inl (g _ _ (x2 _ _ h1)))) ?_⟩
    rintro i d H2 x H3 P1 σ1 G2 s2 hd x2 R2 ⟨rfl, hx⟩
    obtain ⟨v, e4, i4⟩ := h2.get hd
    rw [hx] at e4
    cases e4
    exact same_turn R2 (IsD.mono x2 _ _ i4)
  | _ => cases e
theorem di_tup (h : DE X e f) : DI X tg e (wTup f) := by
  obtain ⟨t, p, o⟩ := h
  refine ⟨_, pi_tup p, fun β P σ H G s l s' R e Q q => ?_⟩
  unfold wTup at e
  obtain ⟨⟨x, s1⟩, e1, e⟩ := Option.bind_eq_some_iff.mp e
  cases x with
  | tup m =>
    cases e
    refine o β P σ H G s _ s1 R e1 _ fun v H1 G1 x1 R1 i1 => ?_
    obtain ⟨a, vs, rfl, h1, h2⟩ := is_tup.mp i1
    refine ⟨a, rfl, ⟨vs, ext_t R1.gh h1⟩, q _ H1 G1 (fun H => SqT X.K H a vs) (YAt vs) x1 R1 (by rw [← h2.len]; exact walk_tup) (fun H2 G2 x2 g => ext_t (x2.trans g) h1) ?_⟩
    rintro i d H2 x H3 P1 σ1 G2 s2 hd x2 R2 ⟨rfl, hx⟩
    obtain ⟨v, e4, i4⟩ := h2.get hd
    rw [hx] at e4
    cases e4
    exact same_turn R2 (IsD.mono x2 _ _ i4)
  | _ => cases e
theorem di_str (h : DE X e f) : DI X tg e (wStr f) := by
  obtain ⟨t, p, o⟩ := h
  refine ⟨_, pi_str p, fun β P σ H G s l s' R e Q q => ?_⟩
  unfold wStr at e
  obtain ⟨⟨x, s1⟩, e1, e⟩ := Option.bind_eq_some_iff.mp e
  cases x with
  | str z =>
    cases e
    refine o β P σ H G s _ s1 R e1 _ fun v H1 G1 x1 R1 i1 => ?_
    refine ⟨z, is_str.mp i1, q _ H1 G1 (fun _ => True) _ x1 R1 (by rw [List.length_map, Array.length_toList]; exact walk_str) (fun _ _ _ _ => trivial) ?_⟩
    rintro i d H2 x H3 P1 σ1 G2 s2 hd x2 R2 ⟨rfl, c, hc, rfl⟩
    rw [List.getElem?_map, Array.getElem?_toList, hc] at hd
    cases hd
    exact same_turn R2 (is_str.mpr rfl)
  | _ => cases e
theorem bRng_ok {j : Int} (h : bRng j = true) : -(2 ^ 62) ≤ j ∧ j < 2 ^ 62 := by
  unfold bRng at h
  rw [Bool.and_eq_true] at h
  exact ⟨of_decide_eq_true h.1, of_decide_eq_true h.2⟩
theorem rng_turn {K : PySem.W.Frag} {β : Addr} {lo : Int} {n : Nat} (i : Nat) (d : Dt) (H1 : Hp) (x : V) (H2 P1 : Hp) (σ1 : L2.St) (G1 : Hp) (s1 : Sta) (hd : (rngD lo n)[i]? = some d) (R : Rel K β P1 σ1 H1 G1 s1) (y : YFn (fun i => V.int (lo + (i : Nat))) i H1 x H2) :
    ∃ G2, Ext G1 G2 ∧ Rel K β P1 σ1 H2 G2 s1 ∧ IsD K β G2 d x := by
  obtain ⟨rfl, rfl⟩ := y
  unfold rngD at hd
  rw [List.getElem?_map] at hd
  by_cases c : i < n
  · rw [List.getElem?_range c] at hd
    cases hd
    exact same_turn R (is_int.mpr rfl)
  · rw [List.getElem?_eq_none (by simpa using c)] at hd
    cases hd
theorem di_rng1 {a : Expr} {f : DM (List Dt)} {p pos : Pos} (hg : Gl X "range") (hm : X.mg "range" = none) (ha : DA X [a] f) (hs : starEach [a] X.env = [(false, eval a X.env)] := by rfl) : DI X tg (.Call (.Name "range" p) [a] [] pos) (wRng1 f) := by
  obtain ⟨t, p, o⟩ := ha
  refine ⟨_, pi_range1 hg hm p hs, fun β P σ H G s l s' R e Q q => ?_⟩
  unfold wRng1 at e
  obtain ⟨⟨x, s1⟩, e1, e⟩ := Option.bind_eq_some_iff.mp e
  split at e
  · rename_i j hx
    rw [show x = _ from hx] at e1
    split at e
    · rename_i c
      cases e
      refine o β P σ H G s _ s1 R e1 _ fun vs H1 G1 x1 R1 i1 => ?_
      obtain ⟨v, rfl, h⟩ := one_of i1
      rw [is_int.mp h]
      exact ⟨j, rfl, (bRng_ok c).1, (bRng_ok c).2, q _ H1 G1 (fun _ => True) _ x1 R1 (by rw [show (rngD 0 j.toNat).length = j.toNat by simp [rngD]]; exact walk_range) (fun _ _ _ _ => trivial) fun i d H2 x H3 P1 σ1 G2 s2 hd x2 R2 y => rng_turn i d H2 x H3 P1 σ1 G2 s2 hd R2 y⟩
    · cases e
  · cases e
theorem di_rng2 {a b : Expr} {f : DM (List Dt)} {p pos : Pos} (hg : Gl X "range") (hm : X.mg "range" = none) (ha : DA X [a, b] f) (hs : starEach [a, b] X.env = [(false, eval a X.env), (false, eval b X.env)] := by rfl) (hs2 : starEach [b] X.env = [(false, eval b X.env)] := by rfl) :
    DI X tg (.Call (.Name "range" p) [a, b] [] pos) (wRng2 f) := by
  obtain ⟨t, p, o⟩ := ha
  refine ⟨_, pi_range2 hg hm p hs hs2, fun β P σ H G s l s' R e Q q => ?_⟩
  unfold wRng2 at e
  obtain ⟨⟨x, s1⟩, e1, e⟩ := Option.bind_eq_some_iff.mp e
  split at e
  · rename_i i j hx
    rw [show x = _ from hx] at e1
    split at e
    · rename_i c
      cases e
      rw [Bool.and_eq_true] at c
      refine o β P σ H G s _ s1 R e1 _ fun vs H1 G1 x1 R1 i1 => ?_
      obtain ⟨v, r, rfl, h, h'⟩ := isl_cons.mp i1
      obtain ⟨v', rfl, h2'⟩ := one_of h'
      rw [is_int.mp h, is_int.mp h2']
      exact ⟨i, j, rfl, ⟨(bRng_ok c.1).1, (bRng_ok c.1).2, (bRng_ok c.2).1, (bRng_ok c.2).2⟩, q _ H1 G1 (fun _ => True) _ x1 R1 (by rw [show (rngD i (j - i).toNat).length = (j - i).toNat by simp [rngD]]; exact walk_range) (fun _ _ _ _ => trivial) fun i d H2 x H3 P1 σ1 G2 s2 hd x2 R2 y => rng_turn i d H2 x H3 P1 σ1 G2 s2 hd R2 y⟩
    · cases e
  · cases e
theorem pair_turn {K : PySem.W.Frag} {β : Addr} {a b : List Dt} {xs ys : List V} {G' : Hp} (h1 : IsL K β G' a xs) (h2 : IsL K β G' b ys) (i : Nat) (d : Dt) (H1 : Hp) (x : V) (H2 P1 : Hp) (σ1 : L2.St) (G1 : Hp) (s1 : Sta) (hd : (zipD a b)[i]? = some d) (e : Ext G' G1) (R : Rel K β P1 σ1 H1 G1 s1)
    (y : YPair (fun i => xs[i]?) (fun i => ys[i]?) i H1 x H2) : ∃ G2, Ext G1 G2 ∧ Rel K β P1 σ1 H2 G2 s1 ∧ IsD K β G2 d x := by
  obtain ⟨T, u, v, rfl, hT, rfl, hu, hv⟩ := y
  obtain ⟨da, db, e1, e2, rfl⟩ := zip_get a b i d hd
  obtain ⟨u', e3, i3⟩ := h1.get e1
  obtain ⟨v', e4, i4⟩ := h2.get e2
  dsimp only at hu hv
  rw [hu] at e3; cases e3
  rw [hv] at e4; cases e4
  have xx := Ext.new (o := .tup [u, v]) (R.free hT)
  exact ⟨_, xx, R.new hT, is_tup.mpr ⟨T, _, rfl, .inl (.inl upd_same), isl_cons.mpr ⟨_, _, rfl, IsD.mono (e.trans xx) _ _ i3, isl_cons.mpr ⟨_, _, rfl, IsD.mono (e.trans xx) _ _ i4, isl_nil.mpr rfl⟩⟩⟩⟩
theorem walk_zipT {K : PySem.W.Frag} {a b : Addr} {xs ys : List V} {n : Nat} (hn : n = min xs.length ys.length) : Walk (RZ.ItzT K a b) n (fun H => SqT K H a xs ∧ SqT K H b ys) (YPair (fun i => xs[i]?) (fun i => ys[i]?)) := by
  subst hn
  refine ⟨fun i _ hi q => ?_, fun _ q => ⟨xs, ys, q.1, q.2, by omega⟩, fun i H v H' _ q y => ?_⟩
  · have h1 : i < xs.length := by omega
    have h2 : i < ys.length := by omega
    exact ⟨xs, ys, xs[i], ys[i], q.1, q.2, by simp [h1], by simp [h2]⟩
  · obtain ⟨T, x, z, h1, h2, h3, h4, h5⟩ := y
    exact ⟨T, x, z, h1, h2, h3, h4 xs q.1, h5 ys q.2⟩
theorem di_zip {e e2 : Expr} {f : DM (List Dt)} {p pos tpos : Pos} {elts : List Expr} {kk : Nat} (hg : Gl X "zip") (hm : X.mg "zip" = none) (ha : DA X [e, e2] f)
    (hs : starEach [e, e2] X.env = (false, eval e X.env) :: starEach [e2] X.env := by rfl) (hpl : (backTo pos (starEach [e2] X.env)).any (·.1) = false := by rfl) :
    DI X (.Tuple elts kk tpos) (.Call (.Name "zip" p) [e, e2] [] pos) (wZip f) := by
  obtain ⟨t, p, o⟩ := ha
  refine ⟨_, RZ.pi_zipA hg hm p hs hpl, fun β P σ H G s l s' R e Q q => ?_⟩
  unfold wZip at e
  obtain ⟨⟨x, s1⟩, e1, e⟩ := Option.bind_eq_some_iff.mp e
  split at e
  · rename_i a b hx
    rw [show x = _ from hx] at e1
    cases e
    refine o β P σ H G s _ s1 R e1 _ fun vs H1 G1 x1 R1 i1 => ?_
    obtain ⟨v, r, rfl, h, h'⟩ := isl_cons.mp i1
    obtain ⟨v', rfl, h2'⟩ := one_of h'
    obtain ⟨pa, xs, rfl, g1, g2⟩ := is_lst.mp h
    obtain ⟨pb, ys, rfl, g3, g4⟩ := is_lst.mp h2'
    exact ⟨pa, pb, xs, ys, rfl, .inl ⟨.inl (.inl (R1.gh _ _ g1)), .inl (.inl (R1.gh _ _ g3)), q _ H1 G1 _ _ x1 R1 (walk_zip (xs := xs) (ys := ys) (by rw [zip_len, g2.len, g4.len]))
      (fun H2 G2 x2 g => ⟨.inl (.inl (g _ _ (x2 _ _ g1))), .inl (.inl (g _ _ (x2 _ _ g3)))⟩) fun i d H2 x H3 P1 σ1 G2 s2 hd x2 R2 y => pair_turn g2 g4 i d H2 x H3 P1 σ1 G2 s2 hd x2 R2 y⟩⟩
  · rename_i a b hx
    rw [show x = _ from hx] at e1
    cases e
    refine o β P σ H G s _ s1 R e1 _ fun vs H1 G1 x1 R1 i1 => ?_
    obtain ⟨v, r, rfl, h, h'⟩ := isl_cons.mp i1
    obtain ⟨v', rfl, h2'⟩ := one_of h'
    obtain ⟨pa, xs, rfl, g1, g2⟩ := is_tup.mp h
    obtain ⟨pb, ys, rfl, g3, g4⟩ := is_tup.mp h2'
    exact ⟨pa, pb, xs, ys, rfl, .inr ⟨ext_t R1.gh g1, ext_t R1.gh g3, q _ H1 G1 _ _ x1 R1 (walk_zipT (xs := xs) (ys := ys) (by rw [zip_len, g2.len, g4.len]))
      (fun H2 G2 x2 g => ⟨ext_t (x2.trans g) g1, ext_t (x2.trans g) g3⟩) fun i d H2 x H3 P1 σ1 G2 s2 hd x2 R2 y => pair_turn g2 g4 i d H2 x H3 P1 σ1 G2 s2 hd x2 R2 y⟩⟩
  · cases e
end

/-! ### for -/
omit [Me] in
def loopD (h : Dt → Sta → Option Sta) (b : DMs) : List Dt → DMs
  | [], s => some (.nx, s)
  | d :: r, s => (h d s).bind fun s1 => (b s1).bind fun p => match p.1 with
    | .nx => loopD h b r p.2
    | .ct => loopD h b r p.2
    | .bk => some (.nx, p.2)
    | .rt v => some (.rt v, p.2)
omit [Me] in
def kFor (f : DM (List Dt)) (h : Dt → Sta → Option Sta) (b : DMs) : DMs := fun s => (f s).bind fun p => loopD h b p.1 p.2
section
variable {X : Cx}
theorem ds_for {tg iter : Expr} {body : List Stmt} {f : DM (List Dt)} {is : List Nat} {h : Dt → Sta → Option Sta} {b : DMs} {pos : Pos} (hp : PassesOwn (model X.prog X.w) X.A X.env X.xe) (hc : X.calm = true) (hi : DI X tg iter f) (hg : DG X tg is h) (hb : DSs X body b)
    (hs : ∀ x, foldedSetIterable iter X.env x = pure x := by intro _; rfl) : DS X (.For tg iter body [] pos) (kFor f h b) := by
  obtain ⟨wi, p1, o1⟩ := hi
  obtain ⟨g, p2, o2⟩ := hg
  obtain ⟨tb, p3, o3⟩ := hb
  refine ⟨_, ps_for hp hc p1 p2 p3 hs, fun β P σ H G s r s' R e D k => ?_⟩
  unfold kFor at e
  obtain ⟨⟨l, s1⟩, e1, e⟩ := Option.bind_eq_some_iff.mp e
  refine o1 β P σ H G s l s1 R e1 _ fun J H1 G1 Gd Y x1 R1 wk hG hY => ?_
  refine for_it wk (fun i σ2 H2 => ∃ G2 s2, Ext G1 G2 ∧ Rel X.K β P σ2 H2 G2 s2 ∧ loopD h b (l.drop i) s2 = some (r, s')) ⟨G1, s1, Ext.refl G1, R1, e⟩ (fun i σ2 H2 hi ⟨G2, s2, x2, R2, _⟩ => hG H2 G2 x2 R2.gh) ?_ ?_
  · rintro i x σ2 H2 H3 hi ⟨G2, s2, x2, R2, e2⟩ y
    have hd : l[i]? = some l[i] := List.getElem?_eq_getElem hi
    obtain ⟨G3, x3, R3, i3⟩ := hY i l[i] H2 x H3 P σ2 G2 s2 hd x2 R2 y
    rw [List.drop_eq_getElem_cons hi] at e2
    unfold loopD at e2
    obtain ⟨s3, e3, e2⟩ := Option.bind_eq_some_iff.mp e2
    obtain ⟨⟨res, s4⟩, e4, e2⟩ := Option.bind_eq_some_iff.mp e2
    refine o2 β P σ2 H3 G3 s2 l[i] x s3 R3 i3 e3 _ fun σ4 H4 G4 x4 R4 _ _ => ?_
    refine o3 β P σ4 H4 G4 s3 res s4 R4 e4 _ ?_
    cases res with
    | nx => exact fun σ5 H5 G5 x5 R5 => ⟨G5, s4, ((x2.trans x3).trans x4).trans x5, R5, e2⟩
    | ct => exact fun σ5 H5 G5 x5 R5 => ⟨G5, s4, ((x2.trans x3).trans x4).trans x5, R5, e2⟩
    | bk => cases e2; exact fun σ5 H5 G5 x5 R5 => k σ5 H5 G5 ((((x1.trans x2).trans x3).trans x4).trans x5) R5
    | rt d => cases e2; exact fun v σ5 H5 G5 x5 R5 i5 => k v σ5 H5 G5 ((((x1.trans x2).trans x3).trans x4).trans x5) R5 i5
  · rintro σ2 H2 ⟨G2, s2, x2, R2, e2⟩
    rw [List.drop_length] at e2
    cases e2
    exact k σ2 H2 G2 (x1.trans x2) R2
end

/-! ### comprehensions -/
omit [Me] in
def datOnly : Option Slo → Option Slo
  | some (.dat d) => some (.dat d)
  | _ => none
omit [Me] in
def wipeS (sl : List (Option Slo)) : List Nat → List (Option Slo)
  | [] => sl
  | v :: vs => (wipeS sl vs).set v none
omit [Me] in
def compD (sl0 : List (Option Slo)) (h : Dt → Sta → Option Sta) (t : DM Bool) (e : DM Dt) : List Dt → List Dt → Option (List Dt × List Dt)
  | [], bg => some ([], bg)
  | d :: r, bg => (h d ⟨sl0, bg⟩).bind fun s1 => (t s1).bind fun p => if p.1 = true then (e p.2).bind fun q => (compD sl0 h t e r q.2.bag).bind fun z => some (q.1 :: z.1, z.2) else compD sl0 h t e r p.2.bag
omit [Me] in
def mComp (is : List Nat) (f : DM (List Dt)) (h : Dt → Sta → Option Sta) (t : DM Bool) (e : DM Dt) : DM Dt := fun s => (f s).bind fun p => if p.1.length ≤ 100000 then
  (compD (wipeS (p.2.sl.map datOnly) is) h t e p.1 p.2.bag).bind fun z => some (.lst z.1, { p.2 with bag := z.2 }) else none
theorem wipe_len : ∀ (vs : List Nat) (σ : L2.St), (wipe σ vs).length = σ.length
  | [], _ => rfl
  | v :: vs, σ => by show ((wipe σ vs).set v none).length = _; rw [List.length_set, wipe_len vs]
theorem wipeS_len : ∀ (vs : List Nat) (σ : List (Option Slo)), (wipeS σ vs).length = σ.length
  | [], _ => rfl
  | v :: vs, σ => by show ((wipeS σ vs).set v none).length = _; rw [List.length_set, wipeS_len vs]
theorem wipe_get : ∀ (vs : List Nat) (σ : L2.St) (j : Nat), (wipe σ vs)[j]? = if j ∈ vs ∧ j < σ.length then some none else σ[j]?
  | [], σ, j => by simp [wipe]
  | v :: vs, σ, j => by
    show ((wipe σ vs).set v none)[j]? = _
    rw [get_set, wipe_get vs, wipe_len]
    by_cases h : v = j
    · subst h
      by_cases q : v < σ.length
      · simp [q]
      · simp [q]
    · have h' : ¬ j = v := fun e => h e.symm
      simp [h, h']
theorem wipeS_get : ∀ (vs : List Nat) (σ : List (Option Slo)) (j : Nat), (wipeS σ vs)[j]? = if j ∈ vs ∧ j < σ.length then some none else σ[j]?
  | [], σ, j => by simp [wipeS]
  | v :: vs, σ, j => by
    show ((wipeS σ vs).set v none)[j]? = _
    rw [get_set, wipeS_get vs, wipeS_len]
    by_cases h : v = j
    · subst h
      by_cases q : v < σ.length
      · simp [q]
      · simp [q]
    · have h' : ¬ j = v := fun e => h e.symm
      simp [h, h']
theorem hid_get {sl : List (Option Slo)} {vs : List Nat} {j : Nat} {x : Slo} (h : (wipeS (sl.map datOnly) vs)[j]? = some (some x)) : j ∉ vs ∧ ∃ d, x = .dat d ∧ sl[j]? = some (some (.dat d)) := by
  rw [wipeS_get] at h
  split at h
  · cases h
  · rename_i c
    rw [List.getElem?_map] at h
    cases e : sl[j]? with
    | none => rw [e] at h; cases h
    | some y =>
      rw [e] at h
      have hl : j < sl.length := (List.getElem?_eq_some_iff.mp e).1
      have hj : j ∉ vs := fun m => c ⟨m, by simpa using hl⟩
      match y, h with
      | some (.dat d), h => cases h; exact ⟨hj, d, rfl, rfl⟩
      | some (.own l), h => cases h
      | some (.obj _ _ _), h => cases h
      | none, h => cases h
theorem rel_hide {K : PySem.W.Frag} {β : Addr} {P : Hp} {σ : L2.St} {H G : Hp} {s : Sta} (R : Rel K β P σ H G s) {D : Addr} (hD : H D = none) (vs : List Nat) :
    Rel K β (upd (shut β H G) D (.lst [])) (wipe σ vs) (upd H D (.lst [])) G ⟨wipeS (s.sl.map datOnly) vs, s.bag⟩ where
  len := by rw [wipe_len, wipeS_len, List.length_map]; exact R.len
  gh := fun a o e => by rw [upd_ne (ne_of_none e (R.free hD))]; exact R.gh a o e
  pr := fun p o e => by
    by_cases c : p = D
    · subst c; rw [upd_same] at e ⊢; exact ⟨e, R.free hD⟩
    · rw [upd_ne c] at e ⊢; exact R.callee.pr p o e
  pb := by
    obtain ⟨us, h1, _⟩ := R.bag
    rw [upd_ne (ne_of_none h1 hD)]; exact R.callee.pb
  bag := by
    obtain ⟨us, h1, h2, h3⟩ := R.bag
    exact ⟨us, by rw [upd_ne (ne_of_none h1 hD)]; exact h1, h2, h3⟩
  dat := fun i d e => by
    obtain ⟨hi, d', e1, e2⟩ := hid_get e
    cases e1
    obtain ⟨v, h1, h2⟩ := R.dat i d e2
    refine ⟨v, ?_, h2⟩
    rw [wipe_get, if_neg (fun q => hi q.1)]
    exact h1
  own := fun i l e => by
    obtain ⟨hi, d', e1, e2⟩ := hid_get e
    cases e1
  dj := fun i j l m p e => by
    obtain ⟨hi, d', e1, e2⟩ := hid_get e
    cases e1
  obj := fun i c ks l e => by
    obtain ⟨hi, d', e1, e2⟩ := hid_get e
    cases e1
  oj := fun i j c ks l c' ks' l' e => by
    obtain ⟨hi, d', e1, e2⟩ := hid_get e
    cases e1
  fns := fun i l q e => by
    obtain ⟨hi, d', e1, e2⟩ := hid_get e
    cases e1
  tabs := fun q hq => by
    obtain ⟨t, g, n⟩ := R.tabs q hq
    have z := t.ne hD
    exact ⟨t.of (upd_ne z) (Ext.refl G), g, by rw [upd_ne z]; exact shut_tab hq⟩
  pt := fun p o h => by
    by_cases c : p = D
    · subst c; rw [upd_same] at h; cases h; exact nx_lst
    · rw [upd_ne c] at h; exact shut_nx h
  nt := R.nt
theorem rel_acc {K : PySem.W.Frag} {β : Addr} {P : Hp} {σ σ0 : L2.St} {H H0 G G0 P0 : Hp} {s : Sta} {sl0 : List (Option Slo)} {bg0 : List Dt} {D : Addr} {o o' : HO} (R : Rel K β (upd P D o) σ H G s) (R0 : Rel K β P0 σ0 H0 G0 ⟨sl0, bg0⟩) (e : Ext G0 G) (hn : ∀ (i : Nat) (x : Slo), sl0[i]? = some (some x) → ∃ d, x = .dat d) (hx : Nx D o') :
    Rel K β (upd P D o') σ0 (upd H D o') G ⟨sl0, s.bag⟩ where
  len := R0.len
  gh := fun a u h => by
    have q := (R.pr D o upd_same).2
    rw [upd_ne (ne_of_none h q)]; exact R.gh a u h
  pr := fun p u h => by
    by_cases c : p = D
    · subst c; rw [upd_same] at h ⊢; exact ⟨h, (R.pr p o upd_same).2⟩
    · rw [upd_ne c] at h ⊢; exact R.pr p u (by rw [upd_ne c]; exact h)
  pb := by
    have q := R.pb
    by_cases c : β = D
    · subst c; rw [upd_same] at q; cases q
    · rw [upd_ne c] at q ⊢; exact q
  bag := by
    obtain ⟨us, h1, h2, h3⟩ := R.bag
    have c : β ≠ D := fun c => by have q := R.pb; rw [c, upd_same] at q; cases q
    exact ⟨us, by rw [upd_ne c]; exact h1, h2, h3⟩
  dat := fun i d h => by
    obtain ⟨v, h1, h2⟩ := R0.dat i d h
    exact ⟨v, h1, IsD.mono e _ _ h2⟩
  own := fun i l h => by
    obtain ⟨d, z⟩ := hn i _ h
    cases z
  dj := fun i j l m p h => by
    obtain ⟨d, z⟩ := hn i _ h
    cases z
  obj := fun i c ks l h => by
    obtain ⟨d, z⟩ := hn i _ h
    cases z
  oj := fun i j c ks l c' ks' l' h => by
    obtain ⟨d, z⟩ := hn i _ h
    cases z
  fns := fun i l q h => by
    obtain ⟨d, z⟩ := hn i _ h
    cases z
  tabs := fun q hq => by
    obtain ⟨t, g, n⟩ := R.tabs q hq
    have z : q.1 ≠ D := fun z => by rw [z, upd_same] at n; cases n
    exact ⟨t.of (upd_ne z) (Ext.refl G), g, by rw [upd_ne z] at n ⊢; exact n⟩
  pt := fun p u h => by
    by_cases c : p = D
    · subst c; rw [upd_same] at h; cases h; exact hx
    · rw [upd_ne c] at h; exact R.pt p u (by rw [upd_ne c]; exact h)
  nt := R.nt
theorem rel_skip {K : PySem.W.Frag} {β : Addr} {P : Hp} {σ σ0 : L2.St} {H H0 G G0 P0 : Hp} {s : Sta} {sl0 : List (Option Slo)} {bg0 : List Dt} (R : Rel K β P σ H G s) (R0 : Rel K β P0 σ0 H0 G0 ⟨sl0, bg0⟩) (e : Ext G0 G) (hn : ∀ (i : Nat) (x : Slo), sl0[i]? = some (some x) → ∃ d, x = .dat d) :
    Rel K β P σ0 H G ⟨sl0, s.bag⟩ where
  len := R0.len
  gh := R.gh
  pr := R.pr
  pb := R.pb
  bag := R.bag
  dat := fun i d h => by
    obtain ⟨v, h1, h2⟩ := R0.dat i d h
    exact ⟨v, h1, IsD.mono e _ _ h2⟩
  own := fun i l h => by
    obtain ⟨d, z⟩ := hn i _ h
    cases z
  dj := fun i j l m p h => by
    obtain ⟨d, z⟩ := hn i _ h
    cases z
  obj := fun i c ks l h => by
    obtain ⟨d, z⟩ := hn i _ h
    cases z
  oj := fun i j c ks l c' ks' l' h => by
    obtain ⟨d, z⟩ := hn i _ h
    cases z
  fns := fun i l q h => by
    obtain ⟨d, z⟩ := hn i _ h
    cases z
  tabs := R.tabs
  pt := R.pt
  nt := R.nt
theorem rel_done {K : PySem.W.Frag} {β : Addr} {P : Hp} {σ σ0 : L2.St} {H H0 G G0 : Hp} {s s0 : Sta} {D : Addr} {acc : List V} (R0 : Rel K β P σ H0 G0 s) (hD : H0 D = none) (R : Rel K β (upd (shut β H0 G0) D (.lst acc)) σ0 H G s0) (e : Ext G0 G) :
    Rel K β P σ H (upd G D (.lst acc)) { s with bag := s0.bag } := by
  have q := R.pr D _ upd_same
  have xx : Ext G (upd G D (.lst acc)) := Ext.new q.2
  have hb : β ≠ D := fun c => by have q := R.pb; rw [c, upd_same] at q; cases q
  have keep : ∀ p o, H0 p = some o → G0 p = none → p ≠ β → (∀ t ∈ Tabs.ts, t.1 ≠ p) → Nx p o → H p = some o ∧ upd G D (.lst acc) p = none := fun p o h1 h2 h3 h4 h5 => by
    have n : p ≠ D := ne_of_none h1 hD
    have k := R.pr p o (by rw [upd_ne n]; exact shut_some h1 h2 h3 h4 h5)
    exact ⟨k.1, by rw [upd_ne n]; exact k.2⟩
  exact {
    len := R0.len
    gh := fun a u h => by
      by_cases c : a = D
      · subst c; rw [upd_same] at h; cases h; exact q.1
      · rw [upd_ne c] at h; exact R.gh a u h
    pr := fun p o h => by
      have h1 := R0.pr p o h
      exact keep p o h1.1 h1.2 (fun z => by subst z; rw [R0.pb] at h; cases h) (fun t ht z => by rw [← z, (R0.tabs t ht).2.2] at h; cases h) (R0.pt p o h)
    pb := R0.pb
    bag := by
      obtain ⟨us, h1, h2, h3⟩ := R.bag
      exact ⟨us, h1, by rw [upd_ne hb]; exact h2, IsL.mono xx _ _ h3⟩
    dat := fun i d h => by
      obtain ⟨v, h1, h2⟩ := R0.dat i d h
      exact ⟨v, h1, IsD.mono (e.trans xx) _ _ h2⟩
    own := fun i l h => by
      obtain ⟨p, vs, h1, h2, h3, h4, h5, h6⟩ := R0.own i l h
      have k := keep p _ h2 h3 h5 (fun t ht z => (R0.tabs t ht).1.neL h2 z) nx_lst
      exact ⟨p, vs, h1, k.1, k.2, h4, h5, IsL.mono (e.trans xx) _ _ h6⟩
    dj := R0.dj
    obj := fun i c ks l h => by
      obtain ⟨p, C, dx, vs, h1, h0, h2, h3, h4, h5, h6⟩ := R0.obj i c ks l h
      have n : p ≠ β := fun z => by
        obtain ⟨us, b1, _⟩ := R0.bag
        rw [← z, h2] at b1
        cases b1
      have k := keep p _ h2 h3 n (fun t ht z => (R0.tabs t ht).1.neI h2 z) nx_ins
      exact ⟨p, C, dx, vs, h1, h0, k.1, k.2, h4, h5, IsL.mono (e.trans xx) _ _ h6⟩
    oj := R0.oj
    fns := fun i l q h => (R0.fns i l q h).mono (e.trans xx)
    tabs := fun y hy => by
      obtain ⟨t, g, n⟩ := R.tabs y hy
      have z : y.1 ≠ D := fun z => by rw [z, upd_same] at n; cases n
      exact ⟨t.of rfl xx, by rw [upd_ne z]; exact g, (R0.tabs y hy).2.2⟩
    pt := R0.pt
    nt := fun a ps h => by
      by_cases c : a = D
      · subst c; rw [upd_same] at h; cases h
      · rw [upd_ne c] at h; exact R.nt a ps h }
theorem wipe_same {σ σ0 : L2.St} {vs : List Nat} (hl : σ0.length = (wipe σ vs).length) (h : ∀ j, j ∉ vs → σ0[j]? = (wipe σ vs)[j]?) : wipe σ0 vs = wipe σ vs := by
  apply List.ext_getElem?
  intro j
  rw [wipe_len] at hl
  by_cases c : j ∈ vs
  · rw [wipe_get, wipe_get, hl]
    by_cases q : j < σ.length
    · rw [if_pos ⟨c, q⟩, if_pos ⟨c, q⟩]
    · rw [if_neg fun z => q z.2, if_neg fun z => q z.2, List.getElem?_eq_none (by omega), List.getElem?_eq_none (by omega)]
  · rw [wipe_get, if_neg fun z => c z.1, h j c]
theorem te_comp {K : PySem.W.Frag} {wi : TI} {g : TG} {tt : TT} {te : TE} {vs is : List Nat} {f : DM (List Dt)} {h : Dt → Sta → Option Sta} {ft : DM Bool} {fe : DM Dt} (hi : TIok K wi f) (hg : TGok K g is h) (ht : TTok K tt ft) (he : TEok K te fe) (hv : ∀ j ∈ is, j ∈ vs) :
    TEok K (tLc wi g tt te vs) (mComp vs f h ft fe) := by
  intro β P σ H G s d s' R e Q q
  unfold mComp at e
  obtain ⟨⟨l, s1⟩, e1, e⟩ := Option.bind_eq_some_iff.mp e
  dsimp only at e
  split at e
  case isFalse => cases e
  rename_i hlen
  obtain ⟨⟨ys, bgF⟩, e2, e⟩ := Option.bind_eq_some_iff.mp e
  cases e
  refine hi β P σ H G s l s1 R e1 _ fun J H1 G1 Gd Y x1 R1 wk hG hY => ?_
  intro D hD
  have hn : ∀ (i : Nat) (x : Slo), (wipeS (s1.sl.map datOnly) vs)[i]? = some (some x) → ∃ d, x = .dat d := fun i x z => by
    obtain ⟨_, d', e3, _⟩ := hid_get z
    exact ⟨d', e3⟩
  have R0 := rel_hide R1 hD vs
  refine lc_it wk (fun i H2 => ∃ G2 bg acc ds rs, Ext G1 G2 ∧ Rel K β (upd (shut β H1 G1) D (.lst acc)) (wipe σ vs) H2 G2 ⟨wipeS (s1.sl.map datOnly) vs, bg⟩ ∧ IsL K β G2 ds acc ∧ acc.length ≤ i ∧
    compD (wipeS (s1.sl.map datOnly) vs) h ft fe (l.drop i) bg = some (rs, bgF) ∧ ds ++ rs = ys) ⟨G1, s1.bag, [], [], ys, Ext.refl G1, R0, isl_nil.mpr rfl, Nat.le_refl _, e2, rfl⟩ ?_ ?_ ?_
  · rintro i H2 hi' ⟨G2, bg, acc, ds, rs, x2, R2, _⟩
    exact hG H2 G2 x2 R2.gh
  · rintro i x H2 H3 hi' ⟨G2, bg, acc, ds, rs, x2, R2, ia, la, e3, e4⟩ y
    have hd : l[i]? = some l[i] := List.getElem?_eq_getElem hi'
    obtain ⟨G3, x3, R3, i3⟩ := hY i l[i] H2 x H3 _ _ G2 _ hd x2 R2 y
    rw [List.drop_eq_getElem_cons hi'] at e3
    unfold compD at e3
    obtain ⟨s3, e5, e3⟩ := Option.bind_eq_some_iff.mp e3
    obtain ⟨⟨b, s4⟩, e6, e3⟩ := Option.bind_eq_some_iff.mp e3
    refine hg β _ _ H3 G3 _ l[i] x s3 R3 i3 e5 _ fun σ4 H4 G4 x4 R4 c4 l4 => ⟨wipe_same l4 fun j hj => c4 j fun z => hj (hv j z), ?_⟩
    refine ht β _ _ H4 G4 s3 b s4 R4 e6 _ fun H5 G5 x5 R5 => ?_
    cases b with
    | true =>
      rw [if_pos rfl] at e3 ⊢
      obtain ⟨⟨dy, s5⟩, e7, e3⟩ := Option.bind_eq_some_iff.mp e3
      obtain ⟨⟨zs, bz⟩, e8, e3⟩ := Option.bind_eq_some_iff.mp e3
      cases e3
      refine he β _ _ H5 G5 s4 dy s5 R5 e7 _ fun v H6 G6 x6 R6 i6 => ?_
      have xx : Ext G2 G6 := ((x3.trans x4).trans x5).trans x6
      refine ⟨acc, (R6.pr D _ upd_same).1, Nat.lt_of_le_of_lt la (Nat.lt_of_lt_of_le hi' (Nat.le_trans hlen (by decide))), G6, s5.bag, acc ++ [v], ds ++ [dy], zs, x2.trans xx, rel_acc R6 R2 xx hn nx_lst, (IsL.mono xx _ _ ia).snoc i6, by simp; exact la, e8, ?_⟩
      rw [← e4]
      simp
    | false =>
      rw [if_neg Bool.false_ne_true] at e3 ⊢
      have xx : Ext G2 G5 := (x3.trans x4).trans x5
      exact ⟨G5, s4.bag, acc, ds, rs, x2.trans xx, rel_skip R5 R2 xx hn, IsL.mono xx _ _ ia, Nat.le_succ_of_le la, e3, e4⟩
  · rintro H2 ⟨G2, bg, acc, ds, rs, x2, R2, ia, la, e3, e4⟩
    rw [List.drop_length] at e3
    cases e3
    rw [List.append_nil] at e4
    subst e4
    have qd := R2.pr D _ upd_same
    have xx : Ext G2 (upd G2 D (.lst acc)) := Ext.new qd.2
    exact q (.ref D) H2 _ ((x1.trans x2).trans xx) (rel_done R1 hD R2 x2) (is_lst.mpr ⟨D, acc, rfl, upd_same, IsL.mono xx _ _ ia⟩)
omit [Me] in
def mYes : DM Bool := fun s => some (true, s)
omit [Me] in
def DTs (X : Cx) (ifs : List Expr) (f : DM Bool) : Prop := PTs X ifs (ttOf X.K f)
section
variable {X : Cx}
theorem dts_nil : DTs X [] mYes := by
  refine ⟨fun pins s σ H Q I k => ?_⟩
  obtain ⟨β, P, G, a, d, a', R, e1, q⟩ := k
  cases e1
  exact pts_nil.run pins s σ H Q I (q H G (Ext.refl G) R)
theorem dts_one {c : Expr} {f : DM Bool} (h : DT X c f) : DTs X [c] f := pts_one h.pt
theorem de_comp {elt tg iter : Expr} {ifs : List Expr} {scope : Scope} {own : List (Str × Nat)} {pos : Pos} {is : List Nat} {f : DM (List Dt)} {h : Dt → Sta → Option Sta} {ft : DM Bool} {fe : DM Dt} (hc : X.calm = true) (hN : X.N.Nodup) (hi : DI X tg iter f) (ok : BlkOk X.N X.env.scope scope own)
    (hg : ∀ (s : Shared) (H : Hp) (C : Addr) (cl : List (Str × Addr)) (fp : List Addr), DG (X.blk s H scope (compEnvC scope cl C X.env) fp) tg is h) (ht : ∀ (s : Shared) (H : Hp) (C : Addr) (cl : List (Str × Addr)) (fp : List Addr), DTs (X.blk s H scope (compEnvC scope cl C X.env) fp) ifs ft)
    (he : ∀ (s : Shared) (H : Hp) (C : Addr) (cl : List (Str × Addr)) (fp : List Addr), DE (X.blk s H scope (compEnvC scope cl C X.env) fp) elt fe) (hv : ∀ j ∈ is, j ∈ own.map (·.2)) (hs : ∀ x, foldedSetIterable iter X.env x = pure x := by intro _; rfl) :
    DE X (.ListComp elt [⟨tg, iter, ifs, 0⟩] scope pos) (mComp (own.map (·.2)) f h ft fe) := by
  obtain ⟨wi, p1, o1⟩ := hi
  exact ⟨_, pe_lc (g := gOf X.K is h) (tt := ttOf X.K ft) (te := tOf X.K fe) hc hN p1 ok (fun s H C cl fp => (hg s H C cl fp).pg) (fun s H C cl fp => ht s H C cl fp) (fun s H C cl fp => (he s H C cl fp).pe) hs, te_comp o1 gOf_ok ttOf_ok tOf_ok hv⟩
theorem ds_setComp {i : Nat} {y : Str} {py : Pos} {elt tg iter : Expr} {ifs : List Expr} {scope : Scope} {own : List (Str × Nat)} {pos spos : Pos} {is : List Nat} {f : DM (List Dt)} {h : Dt → Sta → Option Sta} {ft : DM Bool} {fe : DM Dt} (hc : X.calm = true) (hN : X.N.Nodup) (hy : X.N[i]? = some y) (hyl : X.env.scope.names.lookup y = some .local)
    (hsw : swapsWith (.ListComp elt [⟨tg, iter, ifs, 0⟩] scope pos) (some (.Name y py)) spos.line X.env = pure true) (hi : DI X tg iter f) (ok : BlkOk X.N X.env.scope scope own)
    (hg : ∀ (s : Shared) (H : Hp) (C : Addr) (cl : List (Str × Addr)) (fp : List Addr), DG (X.blk s H scope (compEnvC scope cl C X.env) fp) tg is h) (ht : ∀ (s : Shared) (H : Hp) (C : Addr) (cl : List (Str × Addr)) (fp : List Addr), DTs (X.blk s H scope (compEnvC scope cl C X.env) fp) ifs ft)
    (he : ∀ (s : Shared) (H : Hp) (C : Addr) (cl : List (Str × Addr)) (fp : List Addr), DE (X.blk s H scope (compEnvC scope cl C X.env) fp) elt fe) (hv : ∀ j ∈ is, j ∈ own.map (·.2)) (hs : ∀ x, foldedSetIterable iter X.env x = pure x := by intro _; rfl) :
    DS X (.Assign [.Name y py] (.ListComp elt [⟨tg, iter, ifs, 0⟩] scope pos) spos) (kAsg (mComp (own.map (·.2)) f h ft fe) (hName i)) := by
  obtain ⟨wi, p1, o1⟩ := hi
  refine ⟨_, ps_setLc (g := gOf X.K is h) (tt := ttOf X.K ft) (te := tOf X.K fe) hc hN hy hyl hsw p1 ok (fun s H C cl fp => (hg s H C cl fp).pg) (fun s H C cl fp => ht s H C cl fp) (fun s H C cl fp => (he s H C cl fp).pe) hs, fun β P σ H G s r s' R e D k => ?_⟩
  unfold kAsg at e
  obtain ⟨⟨x, s1⟩, e1, e⟩ := Option.bind_eq_some_iff.mp e
  obtain ⟨s2, e2, e⟩ := Option.bind_eq_some_iff.mp e
  cases e2
  cases e
  refine te_comp o1 gOf_ok ttOf_ok tOf_ok hv β P σ H G s x s1 R e1 _ fun v H1 G1 x1 R1 i1 => ?_
  exact k _ H1 G1 x1 (R1.set i1)
end
end DL

namespace DL
open PySem PySem.Spec PyProof.Rows L2
variable [Tabs] [Me]
/-! a, b = e1, e2 over two locals -/
omit [Me] in
def kPar (i j : Nat) (f : DM (List Dt)) : DMs := fun s => (f s).bind fun p => match p.1 with
  | [d, e] => some (.nx, { p.2 with sl := (p.2.sl.set i (some (.dat d))).set j (some (.dat e)) })
  | _ => none
section
variable {X : Cx}
theorem ds_par {i j : Nat} {x y : Str} {a b : Expr} {f : DM (List Dt)} {px py pt : Pos} {kt k2 pt2 pos} (hc : X.calm = true) (hN : X.N.Nodup) (hi : X.N[i]? = some x) (hj : X.N[j]? = some y) (hij : i ≠ j)
    (hx : X.env.scope.names.lookup x = some .local) (hy : X.env.scope.names.lookup y = some .local) (ha : DA X [a, b] f)
    (hw : swappedStores [.Tuple [.Name x px, .Name y py] kt pt] (.Tuple [a, b] k2 pt2) X.env = pure (some [x, y]))
    (hs : swapsWithSole [.Tuple [.Name x px, .Name y py] kt pt] (.Tuple [a, b] k2 pt2) pos.line X.env = pure false := by rfl) :
    DS X (.Assign [.Tuple [.Name x px, .Name y py] kt pt] (.Tuple [a, b] k2 pt2) pos) (kPar i j f) := by
  obtain ⟨t, p, o⟩ := ha
  refine ⟨_, ps_par hc hN hi hj hij hx hy p hw hs, fun β P σ H G s r s' R e D k => ?_⟩
  unfold kPar at e
  obtain ⟨⟨l, s1⟩, e1, e⟩ := Option.bind_eq_some_iff.mp e
  split at e
  · rename_i d d' hl
    rw [show l = _ from hl] at e1
    cases e
    refine o β P σ H G s _ s1 R e1 _ fun vs H1 G1 x1 R1 i1 => ?_
    obtain ⟨v, r, rfl, h1, h2⟩ := isl_cons.mp i1
    obtain ⟨v', rfl, h3⟩ := one_of h2
    exact ⟨v, v', rfl, k _ H1 G1 x1 ((R1.set h1).set h3)⟩
  · cases e
/-! -a -/
omit [Me] in
def mNeg (f : DM Dt) : DM Dt := fun s => (f s).bind fun p => match p.1 with
  | .int i => some (.int (-i), p.2)
  | _ => none
theorem de_neg {a : Expr} {f : DM Dt} {pos : Pos} (h : DE X a f) : DE X (.UnaryOp .USub a pos) (mNeg f) := by
  obtain ⟨t, p, o⟩ := h
  refine ⟨_, pe_un un_neg p, fun β P σ H G s r s' R e Q q => ?_⟩
  unfold mNeg at e
  obtain ⟨⟨x, s1⟩, e1, e⟩ := Option.bind_eq_some_iff.mp e
  refine o β P σ H G s x s1 R e1 _ fun v H1 G1 x1 R1 i1 => ?_
  cases x with
  | int i => cases e; exact ⟨i, is_int.mp i1, q _ H1 G1 x1 R1 (is_int.mpr rfl)⟩
  | _ => cases e
end
/-! ### calls by keywords alone -/
section
variable {X : Cx} {k : Nat} {f : Addr} {fd : FuncData} {ps ks : List Str} {sp : Sp} {E : XK} {CX : CXT} {x : Str} {p pos : Pos} {kws : List Keyword} {tk : TA} {g : List Value → List Value → List Value} {gV : List V → List V → List V}
theorem pe_callK0 (F : FnOk X.prog X.w X.K X.mg X.base CX k f fd ps sp) (hr : Room k X.A) (hg : Gl X x) (hm : X.mg x = some (.ref f)) (hk : PySem.W.keepIn X.K (.ref f) = true) (hb : KBinds X.K fd ps ks g gV) (hx : Passes CX X E)
    (hkw : PK X kws tk) (hall : (backToKw pos (keywordEach kws X.env)).all (·.1.isSome) = true := by rfl) (hks : (backToKw pos (keywordEach kws X.env)).filterMap (·.1) = ks := by rfl)
    (hdb : (x == ("__debug__" : Str)) = false := by decide)
    (hpl : ((backTo pos (starEach [] X.env)).any (·.1) || (backToKw pos (keywordEach kws X.env)).any (·.1.isNone)) = false := by rfl) :
    PE X (.Call (.Name x p) [] kws pos) (fun σ H Q => tk σ H fun zs H2 => sp (gV [] zs) H2 Q E) := by
  refine ⟨fun pins s σ H Q I h => ?_⟩
  refine wpAny_Call_Name_kw (ld_glob I hg hm ?_ hdb)
  refine PySem.W.callWith_KW0 (h₀ := X.base) I.ok.mod.kin hk hall ?_ hpl
  refine thn (hkw.run pos pins s σ H _ I h) fun ws s2 ⟨zs, H2, I2, rz, q2⟩ => ⟨I2.kIn, ?_⟩
  rw [hks]
  exact run_fnk F hr hb hx I2 .nil rz q2
end
omit [Me] in
def DK (X : Cx) (kws : List Keyword) (f : DM (List Dt)) : Prop := ∃ t, PK X kws t ∧ TAok X.K t f
section
variable {X : Cx}
theorem dk_nil : DK X [] mNil := ⟨_, pk_nil, fun β P σ H G s b s' R e Q q => by cases e; exact q _ H G (Ext.refl G) R (isl_nil.mpr rfl)⟩
theorem dk_cons {e : Expr} {es : List Keyword} {f : DM Dt} {g : DM (List Dt)} {nm : Option Str} {kpos : Pos} (ha : DE X e f) (hb : DK X es g) : DK X (⟨nm, e, kpos⟩ :: es) (mCons f g) := by
  obtain ⟨t, p, o⟩ := ha
  obtain ⟨u, p2, o2⟩ := hb
  refine ⟨_, pk_cons p p2, fun β P σ H G s b s' R e Q q => ?_⟩
  unfold mCons at e
  obtain ⟨⟨x, s1⟩, e1, e⟩ := Option.bind_eq_some_iff.mp e
  obtain ⟨⟨y, s2⟩, e2, e⟩ := Option.bind_eq_some_iff.mp e
  cases e
  refine o β P σ H G s x s1 R e1 _ fun v H1 G1 x1 R1 i1 => ?_
  refine o2 β P σ H1 G1 s1 y s2 R1 e2 _ fun vs H2 G2 x2 R2 i2 => ?_
  exact q _ H2 G2 (x1.trans x2) R2 (isl_cons.mpr ⟨v, vs, rfl, IsD.mono x2 _ _ i1, i2⟩)
omit [Me] in
def mAppK (pm : List Nat) (F : FD) (f : DM (List Dt)) : DM Dt := fun s => (f s).bind fun p => (F (pm.filterMap fun i => p.1[i]?) p.2.bag).bind fun q => some (q.1, { p.2 with bag := q.2 })
theorem isl_perm {K : PySem.W.Frag} {β : Addr} {G : Hp} {ds : List Dt} {vs : List V} (h : IsL K β G ds vs) : ∀ pm : List Nat, IsL K β G (pm.filterMap fun i => ds[i]?) (pm.filterMap fun i => vs[i]?)
  | [] => isl_nil.mpr rfl
  | i :: r => by
    rw [List.filterMap_cons, List.filterMap_cons]
    cases e : ds[i]? with
    | none =>
      have e' : vs[i]? = none := by
        rw [List.getElem?_eq_none_iff] at e ⊢
        rw [h.len]; exact e
      rw [e']
      exact isl_perm h r
    | some d =>
      obtain ⟨v, e1, i1⟩ := h.get e
      rw [e1]
      exact isl_cons.mpr ⟨v, _, rfl, i1, isl_perm h r⟩
theorem vals_perm {vs : List V} {us : List Value} (h : Vals vs us) : ∀ pm : List Nat, Vals (pm.filterMap fun i => vs[i]?) (pm.filterMap fun i => us[i]?)
  | [] => .nil
  | i :: r => by
    rw [List.filterMap_cons, List.filterMap_cons]
    cases e : vs[i]? with
    | none =>
      rw [h.none_of e]
      exact vals_perm h r
    | some d =>
      obtain ⟨v, e1, i1⟩ := h.get e
      rw [e1]
      exact .cons i1 (vals_perm h r)
omit [Me] in
def kwG {α : Type} (pm : List Nat) : List α → List α → List α
  | [], ws => pm.filterMap fun i => ws[i]?
  | _ :: _, _ => []
theorem de_callK0 {k : Nat} {f : Addr} {fd : FuncData} {ps ks : List Str} {n : Nat} {F : FD} {x : Str} {p pos : Pos} {kws : List Keyword} {g : DM (List Dt)} {pm : List Nat} (FF : FnOk X.prog X.w X.K X.mg X.base CX0 k f fd ps (spD X.K n F)) (hr : Room k X.A) (hg : Gl X x) (hm : X.mg x = some (.ref f)) (hk : PySem.W.keepIn X.K (.ref f) = true)
    (hb : KBinds X.K fd ps ks (kwG pm) (kwG pm)) (ha : DK X kws g) {m : Nat} (hn : ∀ s ds s', g s = some (ds, s') → ds.length = m) (hpm : ∀ ds : List Dt, ds.length = m → (pm.filterMap fun i => ds[i]?).length = n)
    (hall : (backToKw pos (keywordEach kws X.env)).all (·.1.isSome) = true := by rfl) (hks : (backToKw pos (keywordEach kws X.env)).filterMap (·.1) = ks := by rfl)
    (hdb : (x == ("__debug__" : Str)) = false := by decide)
    (hpl : ((backTo pos (starEach [] X.env)).any (·.1) || (backToKw pos (keywordEach kws X.env)).any (·.1.isNone)) = false := by rfl) : DE X (.Call (.Name x p) [] kws pos) (mAppK pm F g) := by
  obtain ⟨t, p1, o1⟩ := ha
  refine ⟨_, pe_callK0 FF hr hg hm hk hb pass0 p1 hall hks hdb hpl, fun β P σ H G s d s' R e Q q => ?_⟩
  unfold mAppK at e
  obtain ⟨⟨x, s1⟩, e1, e⟩ := Option.bind_eq_some_iff.mp e
  obtain ⟨⟨y, bg'⟩, e2, e⟩ := Option.bind_eq_some_iff.mp e
  cases e
  refine o1 β P σ H G s x s1 R e1 _ fun vs H1 G1 x1 R1 i1 => ?_
  exact ⟨β, shut β H1 G1, G1, _, s1.bag, y, bg', by show (pm.filterMap fun i => vs[i]?).length = n; rw [(isl_perm i1 pm).len]; exact hpm _ (hn _ _ _ e1), isl_perm i1 pm, R1.callee, e2, fun v H' G' x2 C i => q v H' G' (x1.trans x2) (R1.back x2 C) i⟩
theorem kb_of {K : PySem.W.Frag} {x qual : Str} {st : Stmt} {f : Addr} {fd : FuncData} {ps ks : List Str} {pm : List Nat} (F : Fun K x qual st f fd) (hp : 0 < ps.length)
    (h : ∀ (kV doc pmv : Value) (an : Option Addr) (cdv ct : Value) (ws : List Value), (pm.filterMap fun i => ws[i]?).length = ps.length → bindArgs (PySem.W.fnOf x qual (defArgs st) (defBody st) (defScope st) .none kV doc pmv an cdv ct) ⟨[], ks.zip ws⟩ = pure (ps.zip (pm.filterMap fun i => ws[i]?))) :
    KBinds K fd ps ks (kwG pm) (kwG pm) := by
  obtain ⟨oc, od, kV, doc, pmv, an, cdv, ct, osl, rfl, lk, hcd⟩ := F.ex
  refine ⟨fun s us ws _ hl => ?_, fun {vs us zs ws} r rz => ?_⟩
  · cases us with
    | nil => exact .of_eq (h kV doc pmv an cdv ct ws hl)
    | cons u us => simp [kwG] at hl; omega
  · cases r with
    | nil => exact vals_perm rz pm
    | cons _ _ => exact .nil
end
/-! ### the script, the law -/
omit [Me] in
def spLaw (K : PySem.W.Frag) : Sp := fun vs H Q _ => ∃ (a : Addr) (ns : List Int), vs = [.ref a] ∧ SqL K H a (ns.map V.int) ∧ ns.length ≤ 63 ∧ (∀ q ∈ Tabs.ts, H q.1 = some (.tbl #[])) ∧ ∀ H', Q (.bl true) H'
omit [Me] in
def bag0 (ns : List Int) (seed : Int) : List Dt := [.lst (ns.map Dt.int), .int 0, .int 0, .int seed, .int 0]
theorem law_rel {K : PySem.W.Frag} {β l : Addr} {ns : List Int} {seed : Int} {H : Hp} {a : V} {n : Nat} (hn : β ≠ l) (hl : H l = some (.lst (ns.map V.int))) (hb : H β = some (.lst [.ref l, .int 0, .int 0, .int seed, .int 0])) (ht : ∀ q ∈ Tabs.ts, H q.1 = some (.tbl #[])) :
    Rel K β (fun _ => none) ([some a, some (.ref β)] ++ List.replicate n none) H (upd (fun _ => none) l (.lst (ns.map V.int))) ⟨[none, some (.dat .bag)] ++ List.replicate n none, bag0 ns seed⟩ where
  len := by simp
  gh := fun p o e => by
    by_cases c : p = l
    · subst c; rw [upd_same] at e; cases e; exact hl
    · rw [upd_ne c] at e; cases e
  pr := fun p o e => by cases e
  pb := rfl
  bag := ⟨_, hb, by rw [upd_ne hn], isl_cons.mpr ⟨_, _, rfl, is_lst.mpr ⟨l, _, rfl, upd_same, IsL.ints⟩, isl_cons.mpr ⟨_, _, rfl, is_int.mpr rfl, isl_cons.mpr ⟨_, _, rfl, is_int.mpr rfl, isl_cons.mpr ⟨_, _, rfl, is_int.mpr rfl, isl_cons.mpr ⟨_, _, rfl, is_int.mpr rfl, isl_nil.mpr rfl⟩⟩⟩⟩⟩⟩
  dat := fun i d e => by
    match i, e with
    | 0, e => cases e
    | 1, e => cases e; exact ⟨_, rfl, is_bag.mpr rfl⟩
    | i + 2, e =>
      simp only [List.cons_append, List.nil_append, List.getElem?_cons_succ, List.getElem?_replicate] at e
      split at e <;> cases e
  own := fun i d e => by
    match i, e with
    | 0, e => cases e
    | 1, e => cases e
    | i + 2, e =>
      simp only [List.cons_append, List.nil_append, List.getElem?_cons_succ, List.getElem?_replicate] at e
      split at e <;> cases e
  dj := fun i _ d _ _ e => by
    match i, e with
    | 0, e => cases e
    | 1, e => cases e
    | i + 2, e =>
      simp only [List.cons_append, List.nil_append, List.getElem?_cons_succ, List.getElem?_replicate] at e
      split at e <;> cases e
  obj := fun i c ks l e => by
    match i, e with
    | 0, e => cases e
    | 1, e => cases e
    | i + 2, e =>
      simp only [List.cons_append, List.nil_append, List.getElem?_cons_succ, List.getElem?_replicate] at e
      split at e <;> cases e
  oj := fun i _ c ks l _ _ _ e => by
    match i, e with
    | 0, e => cases e
    | 1, e => cases e
    | i + 2, e =>
      simp only [List.cons_append, List.nil_append, List.getElem?_cons_succ, List.getElem?_replicate] at e
      split at e <;> cases e
  fns := fun i l q e => by
    match i, e with
    | 0, e => cases e
    | 1, e => cases e
    | i + 2, e =>
      simp only [List.cons_append, List.nil_append, List.getElem?_cons_succ, List.getElem?_replicate] at e
      split at e <;> cases e
  tabs := fun q hq => by
    have h := ht q hq
    refine ⟨⟨#[], h, trivial, fun pos cv hc => by cases hc⟩, ?_, rfl⟩
    rw [upd_ne (fun z => by rw [z, hl] at h; cases h)]
  pt := fun p o h => by cases h
  nt := fun p ps e => by
    by_cases c : p = l
    · subst c; rw [upd_same] at e; cases e
    · rw [upd_ne c] at e; cases e
end DL

namespace DL
open PySem PySem.Spec PyProof.Rows L2
variable [Tabs] [Me]
/-! ### str of ints and texts, int of texts, f-strings -/
omit [Me] in
def gStr : List Dt → Option Dt
  | [.int i] => if i.natAbs.log2 < 1920 then some (.str (toString i)) else none
  | [.str z] => some (.str z)
  | _ => none
theorem ok_str {K : PySem.W.Frag} : Rok K (fun xs H Q => (∃ i, xs = [.int i] ∧ i.natAbs.log2 < 1920 ∧ Q (.str (toString i)) H) ∨ ∃ a, xs = [.str a] ∧ Q (.str a) H) gStr := by
  intro β P σ H G s vs ds d R i e Q q
  unfold gStr at e
  split at e
  · split at e
    · rename_i c
      cases e
      obtain ⟨v, rfl, h⟩ := one_of i
      exact .inl ⟨_, by rw [is_int.mp h], c, q _ H G (Ext.refl G) R (is_str.mpr rfl)⟩
    · cases e
  · cases e
    obtain ⟨v, rfl, h⟩ := one_of i
    exact .inr ⟨_, by rw [is_str.mp h], q _ H G (Ext.refl G) R (is_str.mpr rfl)⟩
  · cases e
omit [Me] in
def gIntS : List Dt → Option Dt
  | [.str z] => if z.length ≤ 640 then (PySem.intText? z).bind fun n => some (.int n) else none
  | _ => none
theorem ok_intS {K : PySem.W.Frag} : Rok K (fun xs H Q => ∃ a n, xs = [.str a] ∧ PySem.intText? a = some n ∧ a.length ≤ 640 ∧ Q (.int n) H) gIntS := by
  intro β P σ H G s vs ds d R i e Q q
  unfold gIntS at e
  split at e
  · split at e
    · rename_i c
      obtain ⟨n, e1, e⟩ := Option.bind_eq_some_iff.mp e
      cases e
      obtain ⟨v, rfl, h⟩ := one_of i
      exact ⟨_, n, by rw [is_str.mp h], e1, c, q _ H G (Ext.refl G) R (is_int.mpr rfl)⟩
    · cases e
  · cases e
omit [Me] in
/-- a part {x} -/
def mFmt (f : DM Dt) : DM Dt := fun s => (f s).bind fun p => match p.1 with
  | .str y => if y.length ≤ sizeLine then some (.str y, p.2) else none
  | .int i => if i.natAbs.log2 < 1920 then some (.str (toString i), p.2) else none
  | _ => none
omit [Me] in
def mJs : List (DM Dt) → Str → DM Str
  | [], acc, s => some (acc, s)
  | f :: fs, acc, s => (f s).bind fun p => match p.1 with
    | .str y => if (acc ++ y).length ≤ sizeLine then mJs fs (acc ++ y) p.2 else none
    | _ => none
omit [Me] in
def mJoined (fs : List (DM Dt)) : DM Dt := fun s => (mJs fs Str.empty s).bind fun p => some (.str p.1, p.2)
omit [Me] in
inductive DJ (X : Cx) : List Expr → List (DM Dt) → Prop where
  | nil : DJ X [] []
  | cons {e : Expr} {f : DM Dt} {es : List Expr} {fs : List (DM Dt)} (h : DE X e f) (r : DJ X es fs) : DJ X (e :: es) (f :: fs)
section
variable {X : Cx}
theorem de_fmt {e : Expr} {f : DM Dt} {pos : Pos} (h : DE X e f) : DE X (.FormattedValue e (-1) none pos) (mFmt f) := by
  obtain ⟨t, p, o⟩ := h
  refine ⟨_, pe_fmt p, fun β P σ H G s d s' R e Q q => ?_⟩
  unfold mFmt at e
  obtain ⟨⟨x, s1⟩, e1, e⟩ := Option.bind_eq_some_iff.mp e
  refine o β P σ H G s x s1 R e1 _ fun v H1 G1 x1 R1 i1 => ?_
  cases x with
  | str y =>
    dsimp only at e
    split at e
    · rename_i c; cases e; exact .inl ⟨y, is_str.mp i1, c, q _ H1 G1 x1 R1 (is_str.mpr rfl)⟩
    · cases e
  | int i =>
    dsimp only at e
    split at e
    · rename_i c; cases e; exact .inr ⟨i, is_int.mp i1, c, q _ H1 G1 x1 R1 (is_str.mpr rfl)⟩
    · cases e
  | _ => cases e
theorem dj_ok {es : List Expr} {fs : List (DM Dt)} (h : DJ X es fs) : ∃ ts, PJ X es ts ∧ ∀ (β : Addr) (P : Hp) (σ : L2.St) (H G : Hp) (s : Sta) (acc out : Str) (s' : Sta), Rel X.K β P σ H G s → mJs fs acc s = some (out, s') →
    ∀ Q : Str → Hp → Prop, (∀ H' G', Ext G G' → Rel X.K β P σ H' G' s' → Q out H') → tJs ts acc σ H Q := by
  induction h with
  | nil => exact ⟨[], .nil, fun β P σ H G s acc out s' R e Q q => by cases e; exact q H G (Ext.refl G) R⟩
  | @cons e f es fs h r ih =>
    obtain ⟨t, p, o⟩ := h
    obtain ⟨ts, pj, oj⟩ := ih
    refine ⟨t :: ts, .cons p pj, fun β P σ H G s acc out s' R e Q q => ?_⟩
    unfold mJs at e
    obtain ⟨⟨x, s1⟩, e1, e⟩ := Option.bind_eq_some_iff.mp e
    refine o β P σ H G s x s1 R e1 _ fun v H1 G1 x1 R1 i1 => ?_
    cases x with
    | str y =>
      dsimp only at e
      split at e
      · rename_i c
        exact ⟨y, is_str.mp i1, c, oj β P σ H1 G1 s1 (acc ++ y) out s' R1 e Q fun H2 G2 x2 R2 => q H2 G2 (x1.trans x2) R2⟩
      · cases e
    | _ => cases e
theorem de_joined {v1 v2 : Expr} {rest : List Expr} {fs : List (DM Dt)} {pos : Pos} (h : DJ X (v1 :: v2 :: rest) fs) : DE X (.JoinedStr (v1 :: v2 :: rest) pos) (mJoined fs) := by
  obtain ⟨ts, pj, oj⟩ := dj_ok h
  refine ⟨_, pe_joined pj, fun β P σ H G s d s' R e Q q => ?_⟩
  unfold mJoined at e
  obtain ⟨⟨out, s1⟩, e1, e⟩ := Option.bind_eq_some_iff.mp e
  cases e
  exact oj β P σ H G s Str.empty out s1 R e1 _ fun H1 G1 x1 R1 => q _ H1 G1 x1 R1 (is_str.mpr rfl)
end
end DL

namespace DL
open PySem PySem.Spec PyProof.Rows L2
variable [Tabs] [Me]
/-! ### lists that one name alone holds: made, grown, popped; while -/
section
variable {K : PySem.W.Frag} {β : Addr} {P : Hp} {σ : L2.St} {H G : Hp} {s : Sta}
/-- a new list, held by slot i alone -/
theorem Rel.setOwn (R : Rel K β P σ H G s) {i : Nat} {p : Addr} {l : List Dt} {vs : List V} (hp : H p = none) (h : IsL K β G l vs) :
    Rel K β P (σ.set i (some (.ref p))) (upd H p (.lst vs)) G { s with sl := s.sl.set i (some (.own l)) } where
  len := by simp [R.len]
  gh := fun a o e => by rw [upd_ne (ne_of_none e (R.free hp))]; exact R.gh a o e
  pr := fun a o e => by
    have h1 := R.pr a o e
    rw [upd_ne (ne_of_none h1.1 hp)]; exact h1
  pb := R.pb
  bag := by
    obtain ⟨us, h1, h2, h3⟩ := R.bag
    exact ⟨us, by rw [upd_ne (ne_of_none h1 hp)]; exact h1, h2, h3⟩
  dat := fun j d q => by
    rw [get_set] at q ⊢
    rw [R.len]
    by_cases c : i = j ∧ i < s.sl.length
    · rw [if_pos c] at q; cases q
    · rw [if_neg c] at q ⊢; exact R.dat j d q
  own := fun j m q => by
    rw [get_set] at q ⊢
    rw [R.len]
    by_cases c : i = j ∧ i < s.sl.length
    · rw [if_pos c] at q ⊢
      cases q
      obtain ⟨us, b1, _, _⟩ := R.bag
      refine ⟨p, vs, rfl, upd_same, R.free hp, ?_, (ne_of_none b1 hp).symm, h⟩
      cases e : P p with
      | none => rfl
      | some o => have := (R.pr p o e).1; rw [hp] at this; cases this
    · rw [if_neg c] at q ⊢
      obtain ⟨p', us, h1, h2, h3⟩ := R.own j m q
      exact ⟨p', us, h1, by rw [upd_ne (ne_of_none h2 hp)]; exact h2, h3⟩
  dj := fun j k l m a q1 q2 r1 r2 => by
    simp only [get_set] at q1 q2 r1 r2
    rw [R.len] at r1 r2
    by_cases c : i = j ∧ i < s.sl.length
    · by_cases c' : i = k ∧ i < s.sl.length
      · exact c.1.symm.trans c'.1
      · rw [if_pos c] at r1
        rw [if_neg c'] at q2 r2
        cases r1
        obtain ⟨p', us, h1, h2, _⟩ := R.own k m q2
        rw [h1] at r2
        cases r2
        rw [hp] at h2; cases h2
    · by_cases c' : i = k ∧ i < s.sl.length
      · rw [if_pos c'] at r2
        rw [if_neg c] at q1 r1
        cases r2
        obtain ⟨p', us, h1, h2, _⟩ := R.own j l q1
        rw [h1] at r1
        cases r1
        rw [hp] at h2; cases h2
      · rw [if_neg c] at q1 r1
        rw [if_neg c'] at q2 r2
        exact R.dj j k l m a q1 q2 r1 r2
  obj := fun j c0 ks l q => by
    rw [get_set] at q
    by_cases c : i = j ∧ i < s.sl.length
    · rw [if_pos c] at q
      cases q
    · rw [if_neg c] at q
      obtain ⟨p', C, dx, us, h1, h0, h2, h3⟩ := R.obj j c0 ks l q
      refine ⟨p', C, dx, us, ?_, h0, by rw [upd_ne (ne_of_none h2 hp)]; exact h2, h3⟩
      rw [get_set, R.len, if_neg c]
      exact h1
  oj := fun j k c0 ks l c1 ks' l' q1 q2 => by
    simp only [get_set] at q1 q2
    by_cases c : i = j ∧ i < s.sl.length
    · rw [if_pos c] at q1; cases q1
    by_cases c' : i = k ∧ i < s.sl.length
    · rw [if_pos c'] at q2; cases q2
    rw [if_neg c] at q1
    rw [if_neg c'] at q2
    exact R.oj j k _ _ _ _ _ _ q1 q2
  fns := fun j l q e => by
    rw [get_set] at e
    by_cases c : i = j ∧ i < s.sl.length
    · rw [if_pos c] at e; cases e
    · rw [if_neg c] at e
      exact (R.fns j l q e).of (by rw [get_set, R.len, if_neg c])
  tabs := fun q hq => by
    obtain ⟨t, g, n⟩ := R.tabs q hq
    exact ⟨t.of (upd_ne (t.ne hp)) (Ext.refl G), g, n⟩
  pt := R.pt
  nt := R.nt
/-- what an own list holds is changed -/
theorem Rel.putOwn (R : Rel K β P σ H G s) {i : Nat} {p : Addr} {l l' : List Dt} {vs' : List V} (hi : s.sl[i]? = some (some (.own l))) (hp : σ[i]? = some (some (.ref p))) (h : IsL K β G l' vs') :
    Rel K β P σ (upd H p (.lst vs')) G { s with sl := s.sl.set i (some (.own l')) } := by
  obtain ⟨p', vs, e1, e2, e3, e4, e5, _⟩ := R.own i l hi
  rw [hp] at e1
  cases e1
  have hlen : i < s.sl.length := (List.getElem?_eq_some_iff.mp hi).1
  exact {
    len := by simp [R.len]
    gh := fun a o e => by rw [upd_ne (ne_of_none e e3)]; exact R.gh a o e
    pr := fun a o e => by
      have n : a ≠ p := fun z => by rw [z, e4] at e; cases e
      rw [upd_ne n]; exact R.pr a o e
    pb := R.pb
    bag := by
      obtain ⟨us, h1, h2, h3⟩ := R.bag
      exact ⟨us, by rw [upd_ne e5.symm]; exact h1, h2, h3⟩
    dat := fun j d q => by
      rw [get_set] at q
      by_cases c : i = j ∧ i < s.sl.length
      · rw [if_pos c] at q; cases q
      · rw [if_neg c] at q; exact R.dat j d q
    own := fun j m q => by
      rw [get_set] at q
      by_cases c : i = j ∧ i < s.sl.length
      · rw [if_pos c] at q
        cases q
        obtain ⟨rfl, _⟩ := c
        exact ⟨p, vs', hp, upd_same, e3, e4, e5, h⟩
      · rw [if_neg c] at q
        obtain ⟨p', us, h1, h2, h3⟩ := R.own j m q
        have n : p' ≠ p := fun z => by
          subst z
          exact c ⟨R.dj i j l m p' hi q hp h1, hlen⟩
        exact ⟨p', us, h1, by rw [upd_ne n]; exact h2, h3⟩
    dj := fun j k l1 m a q1 q2 r1 r2 => by
      simp only [get_set] at q1 q2
      by_cases c : i = j ∧ i < s.sl.length
      · obtain ⟨rfl, _⟩ := c
        by_cases c' : i = k ∧ i < s.sl.length
        · exact c'.1
        · rw [if_neg c'] at q2
          exact R.dj i k l m a hi q2 r1 r2
      · rw [if_neg c] at q1
        by_cases c' : i = k ∧ i < s.sl.length
        · obtain ⟨rfl, _⟩ := c'
          exact R.dj j i l1 l a q1 hi r1 r2
        · rw [if_neg c'] at q2
          exact R.dj j k l1 m a q1 q2 r1 r2
    obj := fun j c0 ks m q => by
      rw [get_set] at q
      by_cases c : i = j ∧ i < s.sl.length
      · rw [if_pos c] at q; cases q
      · rw [if_neg c] at q
        obtain ⟨p', C, dx, us, h1, h0, h2, h3⟩ := R.obj j c0 ks m q
        have n : p' ≠ p := fun z => by
          rw [z, e2] at h2
          cases h2
        exact ⟨p', C, dx, us, h1, h0, by rw [upd_ne n]; exact h2, h3⟩
    oj := fun j k c0 ks l c1 ks' l' q1 q2 => by
      simp only [get_set] at q1 q2
      by_cases c : i = j ∧ i < s.sl.length
      · rw [if_pos c] at q1; cases q1
      by_cases c' : i = k ∧ i < s.sl.length
      · rw [if_pos c'] at q2; cases q2
      rw [if_neg c] at q1
      rw [if_neg c'] at q2
      exact R.oj j k _ _ _ _ _ _ q1 q2
    fns := fun j l q e => by
      rw [get_set] at e
      by_cases c : i = j ∧ i < s.sl.length
      · rw [if_pos c] at e; cases e
      · rw [if_neg c] at e
        exact R.fns j l q e
    tabs := fun q hq => by
      obtain ⟨t, g, n⟩ := R.tabs q hq
      exact ⟨t.of (upd_ne (t.neL e2)) (Ext.refl G), g, n⟩
    pt := R.pt
    nt := R.nt }
/-- an own list is let go: from now on it is data -/
theorem Rel.freeze (R : Rel K β P σ H G s) {i : Nat} {l : List Dt} (hi : s.sl[i]? = some (some (.own l))) : ∃ p vs G', σ[i]? = some (some (.ref p)) ∧ Ext G G' ∧ Rel K β P σ H G' { s with sl := s.sl.set i (some (.dat (.lst l))) } ∧ IsD K β G' (.lst l) (.ref p) ∧ G' p = some (.lst vs) := by
  obtain ⟨p, vs, e1, e2, e3, e4, e5, e6⟩ := R.own i l hi
  have xx : Ext G (upd G p (.lst vs)) := Ext.new e3
  have hd : IsD K β (upd G p (.lst vs)) (.lst l) (.ref p) := is_lst.mpr ⟨p, vs, rfl, upd_same, IsL.mono xx _ _ e6⟩
  have hlen : i < s.sl.length := (List.getElem?_eq_some_iff.mp hi).1
  refine ⟨p, vs, _, e1, xx, ?_, hd, upd_same⟩
  exact {
    len := by simp [R.len]
    gh := fun a o e => by
      by_cases c : a = p
      · subst c; rw [upd_same] at e; cases e; exact e2
      · rw [upd_ne c] at e; exact R.gh a o e
    pr := fun a o e => by
      have n : a ≠ p := fun z => by rw [z, e4] at e; cases e
      rw [upd_ne n]; exact R.pr a o e
    pb := R.pb
    bag := by
      obtain ⟨us, h1, h2, h3⟩ := R.bag
      exact ⟨us, h1, by rw [upd_ne e5.symm]; exact h2, IsL.mono xx _ _ h3⟩
    dat := fun j d q => by
      rw [get_set] at q
      by_cases c : i = j ∧ i < s.sl.length
      · rw [if_pos c] at q
        cases q
        obtain ⟨rfl, _⟩ := c
        exact ⟨_, e1, hd⟩
      · rw [if_neg c] at q
        obtain ⟨v, h1, h2⟩ := R.dat j d q
        exact ⟨v, h1, IsD.mono xx _ _ h2⟩
    own := fun j m q => by
      rw [get_set] at q
      by_cases c : i = j ∧ i < s.sl.length
      · rw [if_pos c] at q; cases q
      · rw [if_neg c] at q
        obtain ⟨p', us, h1, h2, h3, h4, h5, h6⟩ := R.own j m q
        have n : p' ≠ p := fun z => by
          subst z
          exact c ⟨R.dj i j l m p' hi q e1 h1, hlen⟩
        exact ⟨p', us, h1, h2, by rw [upd_ne n]; exact h3, h4, h5, IsL.mono xx _ _ h6⟩
    dj := fun j k l1 m a q1 q2 r1 r2 => by
      simp only [get_set] at q1 q2
      by_cases c : i = j ∧ i < s.sl.length
      · rw [if_pos c] at q1; cases q1
      · rw [if_neg c] at q1
        by_cases c' : i = k ∧ i < s.sl.length
        · rw [if_pos c'] at q2; cases q2
        · rw [if_neg c'] at q2
          exact R.dj j k l1 m a q1 q2 r1 r2
    obj := fun j c0 ks m q => by
      rw [get_set] at q
      by_cases c : i = j ∧ i < s.sl.length
      · rw [if_pos c] at q; cases q
      · rw [if_neg c] at q
        obtain ⟨p', C, dx, us, h1, h0, h2, h3, h4, h5, h6⟩ := R.obj j c0 ks m q
        have n : p' ≠ p := fun z => by
          rw [z, e2] at h2
          cases h2
        exact ⟨p', C, dx, us, h1, h0, h2, by rw [upd_ne n]; exact h3, h4, h5, IsL.mono xx _ _ h6⟩
    oj := fun j k c0 ks l c1 ks' l' q1 q2 => by
      simp only [get_set] at q1 q2
      by_cases c : i = j ∧ i < s.sl.length
      · rw [if_pos c] at q1; cases q1
      by_cases c' : i = k ∧ i < s.sl.length
      · rw [if_pos c'] at q2; cases q2
      rw [if_neg c] at q1
      rw [if_neg c'] at q2
      exact R.oj j k _ _ _ _ _ _ q1 q2
    fns := fun j l q e => by
      rw [get_set] at e
      by_cases c : i = j ∧ i < s.sl.length
      · rw [if_pos c] at e; cases e
      · rw [if_neg c] at e
        exact (R.fns j l q e).mono xx
    tabs := fun q hq => by
      obtain ⟨t, g, n⟩ := R.tabs q hq
      exact ⟨t.of rfl xx, by rw [upd_ne (t.neL e2)]; exact g, n⟩
    pt := R.pt
    nt := fun a ps h => by
      by_cases c : a = p
      · subst c; rw [upd_same] at h; cases h
      · rw [upd_ne c] at h; exact R.nt a ps h }
end
omit [Me] in
/-- x = [..], x being changed later on -/
def kOwn (i : Nat) (f : DM (List Dt)) : DMs := fun s => (f s).bind fun p => if p.1.length ≤ 1000 then some (.nx, { p.2 with sl := p.2.sl.set i (some (.own p.1)) }) else none
omit [Me] in
/-- the value of such a name: it is let go -/
def mMove (i : Nat) : DM Dt := fun s => match s.sl[i]? with
  | some (some (.own l)) => some (.lst l, { s with sl := s.sl.set i (some (.dat (.lst l))) })
  | _ => none
omit [Me] in
def mTruOwn (i : Nat) : DM Bool := fun s => match s.sl[i]? with
  | some (some (.own l)) => some (!l.isEmpty, s)
  | _ => none
omit [Me] in
def mPop (i : Nat) : DM Dt := fun s => match s.sl[i]? with
  | some (some (.own l)) => (l[l.length - 1]?).bind fun d => some (d, { s with sl := s.sl.set i (some (.own l.dropLast)) })
  | _ => none
omit [Me] in
def mAppend (i : Nat) (f : DM Dt) : DM Dt := fun s => (f s).bind fun p => match p.2.sl[i]? with
  | some (some (.own l)) => if l.length < 100000 then some (.non, { p.2 with sl := p.2.sl.set i (some (.own (l ++ [p.1]))) }) else none
  | _ => none
omit [Me] in
def mExtend (i : Nat) (f : DM Dt) : DM Dt := fun s => (f s).bind fun p => match p.2.sl[i]?, p.1 with
  | some (some (.own l)), .lst m => if l.length + m.length ≤ 100000 then some (.non, { p.2 with sl := p.2.sl.set i (some (.own (l ++ m))) }) else none
  | _, _ => none
theorem IsL.dropLast {K : PySem.W.Frag} {β : Addr} {G : Hp} {l : List Dt} {vs : List V} (h : IsL K β G l vs) : IsL K β G l.dropLast vs.dropLast := by
  rw [List.dropLast_eq_take, List.dropLast_eq_take, h.len]
  exact h.take _
section
variable {X : Cx}
theorem ds_own {i : Nat} {x : Str} {es : List Expr} {f : DM (List Dt)} {pos' p pos : Pos} (hN : X.N.Nodup) (hi : X.N[i]? = some x) (hx : Loc X.env.scope x) (ha : DA X es f) (hs : swapsWith (.List es p) (some (.Name x pos')) pos.line X.env = pure false := by rfl) (hf : X.fn x = true ∨ X.env.scope.names.lookup x = some .local := by first | exact .inl rfl | exact .inr rfl | assumption) :
    DS X (.Assign [.Name x pos'] (.List es p) pos) (kOwn i f) := by
  obtain ⟨t, pp, o⟩ := ha
  refine ⟨_, ps_set hN hi hx (pe_lst pp) hs hf, fun β P σ H G s r s' R e D k => ?_⟩
  unfold kOwn at e
  obtain ⟨⟨l, s1⟩, e1, e⟩ := Option.bind_eq_some_iff.mp e
  dsimp only at e
  split at e
  · rename_i hl
    cases e
    refine o β P σ H G s l s1 R e1 _ fun vs H1 G1 x1 R1 i1 => ?_
    refine ⟨le_line (by rw [i1.len]; exact hl), fun a ha => ?_⟩
    exact k _ _ G1 x1 (R1.setOwn ha i1)
  · cases e
theorem de_move {e : Expr} (i : Nat) (h : PE X e (tVar i)) : DE X e (mMove i) := ⟨_, h, fun β P σ H G s d s' R e Q q => by
  unfold mMove at e
  split at e
  · rename_i l hi
    cases e
    obtain ⟨p, vs, G', e1, xx, R', hd, _⟩ := R.freeze hi
    exact ⟨_, e1, q _ H G' xx R' hd⟩
  · cases e⟩
theorem dt_own {e : Expr} (i : Nat) (h : PE X e (tVar i)) (he : ∀ whole, isTrue e X.env whole = (do let v ← whole; standAt e.pos; holding [v] (truthy v)) := by intro _; rfl) : DT X e (mTruOwn i) := ⟨_, pt_truth h he, fun β P σ H G s b s' R e Q q => by
  unfold mTruOwn at e
  split at e
  · rename_i l hi
    cases e
    obtain ⟨p, vs, e1, e2, e3, e4, e5, e6⟩ := R.own i l hi
    exact ⟨_, e1, _, .inl ⟨vs, .inl (.inl e2), len_empty e6⟩, q H G (Ext.refl G) R⟩
  · cases e⟩
theorem de_pop {o : Expr} {apos cpos : Pos} (i : Nat) (h : PE X o (tVar i)) (hbase : attributeBase o "pop" X.env (eval o X.env) = eval o X.env := by rfl) (hline : (apos.endLine == cpos.line) = true := by rfl) :
    DE X (.Call (.Attribute o "pop" apos) [] [] cpos) (mPop i) := ⟨_, pe_bm0 PySem.F.plainAttrs_list PySem.F.slot_list_pop PySem.F.type_list_pop mt_pop h hbase hline, fun β P σ H G s d s' R e Q q => by
  unfold mPop at e
  split at e
  · rename_i l hi
    obtain ⟨d', e0, e⟩ := Option.bind_eq_some_iff.mp e
    cases e
    obtain ⟨p, vs, e1, e2, e3, e4, e5, e6⟩ := R.own i l hi
    obtain ⟨v, hv, iv⟩ := e6.get e0
    refine ⟨_, e1, .inl ⟨rfl, vs, .inl (.inl e2)⟩, p, vs, v, rfl, rfl, e2, by rw [e6.len]; exact hv, ?_⟩
    exact q v _ G (Ext.refl G) (R.putOwn hi e1 e6.dropLast) iv
  · cases e⟩
theorem de_append {o a : Expr} {f : DM Dt} {apos cpos : Pos} (i : Nat) (h : PE X o (tVar i)) (ha : DE X a f) (hne : ∀ s d s', f s = some (d, s') → s'.sl[i]? = s.sl[i]?)
    (hbase : attributeBase o "append" X.env (eval o X.env) = eval o X.env := by rfl)
    (hfew : ((backTo cpos (starEach [a] X.env)).all (fun x => !x.1) && (backToKw cpos (keywordEach [] X.env)).all (fun x => x.1.isSome)
      && decide ([a].length + ([] : List Keyword).length + (if ([] : List Keyword).isEmpty then 0 else 1) < 30)) = true := by rfl)
    (hline : (apos.endLine == cpos.line) = true := by rfl) (hs : starEach [a] X.env = (false, eval a X.env) :: starEach [] X.env := by rfl) (hplain : (backTo cpos (starEach [] X.env)).any (·.1) = false := by rfl) :
    DE X (.Call (.Attribute o "append" apos) [a] [] cpos) (mAppend i f) := by
  obtain ⟨t, p1, o1⟩ := ha
  refine ⟨_, pe_bm PySem.F.plainAttrs_list PySem.F.slot_list_append PySem.F.type_list_append mt_append h (pa_cons p1 pa_nil hs) hbase hfew hline hs hplain, fun β P σ H G s d s' R e Q q => ?_⟩
  unfold mAppend at e
  obtain ⟨⟨x, s1⟩, e1, e⟩ := Option.bind_eq_some_iff.mp e
  dsimp only at e
  split at e
  · rename_i l hi
    split at e
    · rename_i hl
      cases e
      have hi0 : s.sl[i]? = some (some (.own l)) := by rw [← hne _ _ _ e1]; exact hi
      obtain ⟨p, vs, q1, q2, _⟩ := R.own i l hi0
      refine ⟨_, q1, .inl ⟨rfl, vs, .inl (.inl q2)⟩, ?_⟩
      refine o1 β P σ H G s x s1 R e1 _ fun v H1 G1 x1 R1 i1 => ?_
      obtain ⟨p', vs', r1, r2, r3, r4, r5, r6⟩ := R1.own i l hi
      rw [q1] at r1
      cases r1
      refine ⟨p, vs', v, rfl, rfl, r2, by rw [r6.len]; exact Nat.lt_of_lt_of_le hl (by decide), ?_⟩
      exact q _ _ G1 x1 (R1.putOwn hi q1 (r6.snoc i1)) (is_non.mpr rfl)
    · cases e
  · cases e
theorem de_extend {o a : Expr} {f : DM Dt} {apos cpos : Pos} (i : Nat) (h : PE X o (tVar i)) (ha : DE X a f) (hne : ∀ s d s', f s = some (d, s') → s'.sl[i]? = s.sl[i]?)
    (hbase : attributeBase o "extend" X.env (eval o X.env) = eval o X.env := by rfl)
    (hfew : ((backTo cpos (starEach [a] X.env)).all (fun x => !x.1) && (backToKw cpos (keywordEach [] X.env)).all (fun x => x.1.isSome)
      && decide ([a].length + ([] : List Keyword).length + (if ([] : List Keyword).isEmpty then 0 else 1) < 30)) = true := by rfl)
    (hline : (apos.endLine == cpos.line) = true := by rfl) (hs : starEach [a] X.env = (false, eval a X.env) :: starEach [] X.env := by rfl) (hplain : (backTo cpos (starEach [] X.env)).any (·.1) = false := by rfl) :
    DE X (.Call (.Attribute o "extend" apos) [a] [] cpos) (mExtend i f) := by
  obtain ⟨t, p1, o1⟩ := ha
  refine ⟨_, pe_bm PySem.F.plainAttrs_list PySem.F.slot_list_extend PySem.F.type_list_extend mt_extend h (pa_cons p1 pa_nil hs) hbase hfew hline hs hplain, fun β P σ H G s d s' R e Q q => ?_⟩
  unfold mExtend at e
  obtain ⟨⟨x, s1⟩, e1, e⟩ := Option.bind_eq_some_iff.mp e
  dsimp only at e
  split at e
  · rename_i l m hi
    split at e
    · rename_i hl
      cases e
      have hi0 : s.sl[i]? = some (some (.own l)) := by rw [← hne _ _ _ e1]; exact hi
      obtain ⟨p, vs, q1, q2, _⟩ := R.own i l hi0
      refine ⟨_, q1, .inl ⟨rfl, vs, .inl (.inl q2)⟩, ?_⟩
      refine o1 β P σ H G s _ s1 R e1 _ fun v H1 G1 x1 R1 i1 => ?_
      obtain ⟨b, us, rfl, b1, b2⟩ := is_lst.mp i1
      obtain ⟨p', vs', r1, r2, r3, r4, r5, r6⟩ := R1.own i l hi
      rw [q1] at r1
      cases r1
      refine ⟨p, b, vs', us, rfl, rfl, r2, R1.gh _ _ b1, by rw [r6.len, b2.len]; exact Nat.le_trans hl (by decide), ?_⟩
      exact q _ _ G1 x1 (R1.putOwn hi q1 (r6.append b2)) (is_non.mpr rfl)
    · cases e
  · cases e
/-! while -/
omit [Me] in
def whileD (c : DM Bool) (b : DMs) : Nat → DMs
  | 0, _ => none
  | n + 1, s => (c s).bind fun p => if p.1 = true then (b p.2).bind fun q => match q.1 with
      | .nx => whileD c b n q.2
      | .ct => whileD c b n q.2
      | .bk => some (.nx, q.2)
      | .rt d => some (.rt d, q.2)
    else some (.nx, p.2)
theorem ds_while {c : Expr} {body : List Stmt} {fc : DM Bool} {b : DMs} {pos : Pos} (n : Nat) (hp : PassesOwn (model X.prog X.w) X.A X.env X.xe) (hc : DT X c fc) (hb : DSs X body b) : DS X (.While c body [] pos) (whileD fc b n) := by
  obtain ⟨tc, p1, o1⟩ := hc
  obtain ⟨tb, p2, o2⟩ := hb
  refine ⟨_, ps_while hp p1 p2, fun β P σ H G s r s' R e D k => ?_⟩
  refine ⟨fun m σ2 H2 => ∃ G2 s2, Ext G G2 ∧ Rel X.K β P σ2 H2 G2 s2 ∧ whileD fc b m s2 = some (r, s'), ⟨n, G, s, Ext.refl G, R, e⟩, ?_⟩
  rintro m σ2 H2 ⟨G2, s2, x2, R2, e2⟩
  cases m with
  | zero => cases e2
  | succ m =>
    unfold whileD at e2
    obtain ⟨⟨bv, s3⟩, e3, e2⟩ := Option.bind_eq_some_iff.mp e2
    refine o1 β P σ2 H2 G2 s2 bv s3 R2 e3 _ fun H3 G3 x3 R3 => ?_
    cases bv with
    | true =>
      rw [if_pos rfl] at e2 ⊢
      obtain ⟨⟨res, s4⟩, e4, e2⟩ := Option.bind_eq_some_iff.mp e2
      refine ⟨fun σ' H' => ∃ G2 s2, Ext G G2 ∧ Rel X.K β P σ' H' G2 s2 ∧ whileD fc b m s2 = some (r, s'), fun σ' H' h => ⟨m, Nat.lt_succ_self m, h⟩, ?_⟩
      refine o2 β P σ2 H3 G3 s3 res s4 R3 e4 _ ?_
      cases res with
      | nx => exact fun σ5 H5 G5 x5 R5 => ⟨G5, s4, (x2.trans x3).trans x5, R5, e2⟩
      | ct => exact fun σ5 H5 G5 x5 R5 => ⟨G5, s4, (x2.trans x3).trans x5, R5, e2⟩
      | bk => cases e2; exact fun σ5 H5 G5 x5 R5 => k σ5 H5 G5 ((x2.trans x3).trans x5) R5
      | rt d => cases e2; exact fun v σ5 H5 G5 x5 R5 i5 => k v σ5 H5 G5 ((x2.trans x3).trans x5) R5 i5
    | false =>
      rw [if_neg Bool.false_ne_true] at e2 ⊢
      cases e2
      exact k σ2 H3 G3 (x2.trans x3) R3
end
end DL

namespace DL
open PySem PySem.Spec PyProof.Rows L2
variable [Tabs] [Me]

/-! ### dicts: written ones with text keys, as data -/
theorem pairs_const : ∀ (l : List (Str × Str)) (σ : L2.St) (H : Hp) (Q : List (V × V) → Hp → Prop), Q (l.map fun p => (V.str p.1, V.str p.2)) H → tPairs (l.map fun p => (tC (.str p.1), tC (.str p.2))) σ H Q
  | [], _, _, _, h => h
  | p :: l, σ, H, Q, h => by
    show tPairs (l.map fun p => (tC (.str p.1), tC (.str p.2))) σ H fun ps H3 => Q ((V.str p.1, V.str p.2) :: ps) H3
    exact pairs_const l σ H _ h
omit [Me] in
def dicS (l : List (Str × Str)) : Dt := .dic (l.map fun p => .inr p.1) (l.map fun p => .str p.2)
theorem zip_dicS : ∀ l : List (Str × Str), (l.map fun p => (Sum.inr p.1 : Key)).zip (l.map fun p => V.str p.2) = l.map fun p => ((Sum.inr p.1 : Key), V.str p.2)
  | [] => rfl
  | p :: l => by simp only [List.map_cons, List.zip_cons_cons, zip_dicS l]
theorem isl_strs {K : PySem.W.Frag} {β : Addr} {G : Hp} : ∀ l : List (Str × Str), IsL K β G (l.map fun p => Dt.str p.2) (l.map fun p => V.str p.2)
  | [] => isl_nil.mpr rfl
  | p :: l => isl_cons.mpr ⟨_, _, rfl, is_str.mpr rfl, isl_strs l⟩
section
variable {X : Cx}
theorem de_dicS {pos : Pos} {keys : List (Option Expr)} {values : List Expr} {trs : List (TE × TE)} (l : List (Str × Str)) (h : PPs X pos keys values trs) (ht : trs = l.map (fun p => (tC (.str p.1), tC (.str p.2))) := by rfl) (hall : keys.all (·.isSome) = true := by rfl) (hl : keys.length = values.length := by rfl) (h0 : keys ≠ [] := by intro z; cases z)
    (h15 : keys.length ≤ 15 := by decide) (hlen : l.length ≤ 15 := by decide) (hm : mergeK [] (l.map fun p => ((Sum.inr p.1 : Key), V.str p.2)) = l.map fun p => ((Sum.inr p.1 : Key), V.str p.2) := by rfl) : DE X (.Dict keys values pos) (mC (dicS l)) := by
  refine ⟨_, pe_disp h hall hl h0 h15, fun β P σ H G s d s' R e Q q => ?_⟩
  cases e
  intro p hp
  rw [ht]
  refine pairs_const l σ _ _ ?_
  refine ⟨upd_same, l.map fun p => ((Sum.inr p.1 : Key), V.str p.2), ?_, by rw [List.length_map]; exact hlen, ?_⟩
  · rw [List.map_map] <;> rfl
  · rw [hm]
    have e2 : upd (upd H p (.dK [])) p (.dK (l.map fun p => ((Sum.inr p.1 : Key), V.str p.2))) = upd H p (.dK (l.map fun p => ((Sum.inr p.1 : Key), V.str p.2))) := by
      funext b
      by_cases c : b = p
      · subst c; rw [upd_same, upd_same]
      · rw [upd_ne c, upd_ne c, upd_ne c]
    rw [e2]
    exact q _ _ _ (Ext.new (R.free hp)) (R.new hp) (is_dic.mpr ⟨p, l.map fun p => V.str p.2, rfl, by rw [zip_dicS]; exact upd_same, by rw [List.length_map, List.length_map], isl_strs l⟩)
end
omit [Me] in
def lookD : List Key → List Dt → Key → Option Dt
  | k :: ks, d :: l, x => if k = x then some d else lookD ks l x
  | _, _, _ => none
theorem look_ok {K : PySem.W.Frag} {β : Addr} {G : Hp} : ∀ {ks : List Key} {l : List Dt} {vs : List V} {k : Key} {d : Dt}, IsL K β G l vs → lookD ks l k = some d → ∃ v, valV (ks.zip vs) k = some v ∧ IsD K β G d v
  | [], _, _, _, _, _, e => by simp [lookD] at e
  | _ :: _, [], _, _, _, _, e => by simp [lookD] at e
  | k :: ks, d :: l, vs, x, y, h, e => by
    obtain ⟨v, r, rfl, h1, h2⟩ := isl_cons.mp h
    unfold lookD at e
    rw [List.zip_cons_cons]
    by_cases c : k = x
    · rw [if_pos c] at e
      cases e
      exact ⟨v, valV_pos (p := (k, v)) c, h1⟩
    · rw [if_neg c] at e
      rw [valV_neg (p := (k, v)) c]
      exact look_ok h2 e
omit [Me] in
def keyD : Dt → Option Key
  | .str x => some (.inr x)
  | .int i => some (.inl i)
  | _ => none
omit [Me] in
def gDget : Dt → Dt → Option Dt
  | .dic ks l, d => (keyD d).bind fun k => lookD ks l k
  | _, _ => none
theorem keyD_ok {K : PySem.W.Frag} {β : Addr} {G : Hp} {d : Dt} {k : Key} {v : V} (h : IsD K β G d v) (e : keyD d = some k) : v = kV k := by
  cases d with
  | str x => cases e; exact is_str.mp h
  | int x => cases e; exact is_int.mp h
  | _ => cases e
section
variable {X : Cx} {a b : Expr} {fa fb : DM Dt} {pos : Pos}
theorem de_dget (hu : X.A.units + 1 < cLine) (ha : DE X a fa) (hb : DE X b fb) (hs : NoSl b := by exact fun _ _ => rfl) : DE X (.Subscript a b pos) (m2 gDget fa fb) := by
  obtain ⟨ta, pa, oa⟩ := ha
  obtain ⟨tb, pb, ob⟩ := hb
  refine ⟨_, pe_dget hu pa pb hs, fun β P σ H G s d s' R e Q q => ?_⟩
  unfold m2 at e
  obtain ⟨⟨x, s1⟩, e1, e⟩ := Option.bind_eq_some_iff.mp e
  obtain ⟨⟨y, s2⟩, e2, e⟩ := Option.bind_eq_some_iff.mp e
  obtain ⟨z, e3, e⟩ := Option.bind_eq_some_iff.mp e
  cases e
  refine oa β P σ H G s x s1 R e1 _ fun v H1 G1 x1 R1 i1 => ?_
  refine ob β P σ H1 G1 s1 y s2 R1 e2 _ fun u H2 G2 x2 R2 i2 => ?_
  unfold gDget at e3
  split at e3
  · rename_i ks l hx
    rw [show x = _ from hx] at i1
    obtain ⟨k, e4, e5⟩ := Option.bind_eq_some_iff.mp e3
    obtain ⟨p, vs, rfl, g1, g2, g3⟩ := is_dic.mp i1
    obtain ⟨w, w1, w2⟩ := look_ok g3 e5
    rw [keyD_ok i2 e4]
    refine ⟨p, w, rfl, ?_, q w H2 G2 (x1.trans x2) R2 (IsD.mono x2 _ _ w2)⟩
    rw [← w1]
    exact DGet.k (R2.gh _ _ (x2 _ _ g1))
  · cases e3
end

/-! ### dicts of the module, text to text -/
omit [Me] in
inductive Tbl : List DictEntry → List (Str × Str) → Prop
  | nil : Tbl [] []
  | cons {h : Int} {k v : Str} {t u : Tok} {r : List DictEntry} {l : List (Str × Str)} (n : Tbl r l) : Tbl (⟨h, .str k t, .str v u⟩ :: r) ((k, v) :: l)
omit [Me] in
def tblGet : List (Str × Str) → Str → Option Str
  | [], _ => none
  | (k, v) :: l, z => if (k == z) = true then some v else tblGet l z
theorem tbl_find {es : List DictEntry} {l : List (Str × Str)} (h : Tbl es l) (z : Str) : es.any (·.refKey) = false ∧ (match es.find? (·.key.isStr z) with | some e => ∃ v, tblGet l z = some v ∧ RelV (.str v) e.val | none => tblGet l z = none) := by
  induction h with
  | nil => exact ⟨rfl, rfl⟩
  | @cons hh k v t u r l n ih =>
    refine ⟨by rw [List.any_cons, ih.1]; rfl, ?_⟩
    have e : (Value.str k t).isStr z = (k == z) := PySem.W.isStr_of z _
    cases c : (k == z) with
    | true =>
      have e1 : List.find? (fun x => x.key.isStr z) ((⟨hh, .str k t, .str v u⟩ : DictEntry) :: r) = some ⟨hh, .str k t, .str v u⟩ := by
        rw [List.find?_cons_of_pos]
        show (Value.str k t).isStr z = true
        rw [e, c]
      rw [e1]
      exact ⟨v, by unfold tblGet; rw [c]; rfl, ⟨u, rfl⟩⟩
    | false =>
      have e1 : List.find? (fun x => x.key.isStr z) ((⟨hh, .str k t, .str v u⟩ : DictEntry) :: r) = List.find? (fun x => x.key.isStr z) r := by
        rw [List.find?_cons_of_neg]
        show ¬ (Value.str k t).isStr z = true
        rw [e, c]
        exact Bool.false_ne_true
      have e2 : tblGet ((k, v) :: l) z = tblGet l z := by
        show (if (k == z) = true then some v else tblGet l z) = _
        rw [c]
        rfl
      rw [e1, e2]
      exact ih.2
omit [Me] in
structure KTbl (K : PySem.W.Frag) (w : World) (d : Addr) (l : List (Str × Str)) : Prop where
  ex : ∃ es n, KDict K w d es n ∧ Tbl es.toList l
theorem KTbl.get {K : PySem.W.Frag} {w : World} {d : Addr} {l : List (Str × Str)} (T : KTbl K w d l) (z : Str) : match tblGet l z with | some v => ∃ u, PySem.W.nsIn K d z = some (some u) ∧ RelV (.str v) u | none => PySem.W.nsIn K d z = some none := by
  obtain ⟨es, n, D, t⟩ := T.ex
  obtain ⟨h1, h2⟩ := tbl_find t z
  have e : PySem.W.nsIn K d z = (match es.toList.find? (·.key.isStr z) with | some e => some (some e.val) | none => if es.toList.any (·.refKey) then none else some none) := by
    unfold PySem.W.nsIn
    rw [D.at_]
    rfl
  rw [e, h1]
  cases c : es.toList.find? (·.key.isStr z) with
  | some e' =>
    rw [c] at h2
    obtain ⟨v, a, b⟩ := h2
    rw [a]
    exact ⟨_, rfl, b⟩
  | none =>
    rw [c] at h2
    rw [h2]
    rfl
omit [Me] in
def mKIn (l : List (Str × Str)) (f : DM Dt) : DM Dt := fun s => (f s).bind fun p => match p.1 with
  | .str z => some (.bl (tblGet l z).isSome, p.2)
  | _ => none
omit [Me] in
def mKNin (l : List (Str × Str)) (f : DM Dt) : DM Dt := fun s => (f s).bind fun p => match p.1 with
  | .str z => some (.bl !(tblGet l z).isSome, p.2)
  | _ => none
omit [Me] in
def mKIx (l : List (Str × Str)) (f : DM Dt) : DM Dt := fun s => (f s).bind fun p => match p.1 with
  | .str z => (tblGet l z).bind fun v => some (.str v, p.2)
  | _ => none
section
variable {X : Cx} {e : Expr} {f : DM Dt} {nm : Str} {d : Addr} {l : List (Str × Str)} {p pos : Pos}
theorem te_kin (T : KTbl X.K X.w d l) (h : DE X e f) (hg : Gl X nm) (hm : X.mg nm = some (.ref d)) (hdb : (nm == ("__debug__" : Str)) = false := by decide) (hb : behindInMarks .In (.Name nm p) = false := by rfl) : ∃ t, PE X (.Compare e [.In] [.Name nm p] pos) t ∧ PT X (.Compare e [.In] [.Name nm p] pos) (tTest t) ∧ TEok X.K t (mKIn l f) := by
  obtain ⟨t, p1, o⟩ := h
  obtain ⟨es, n, D, tb⟩ := T.ex
  have pg : PE X (.Name nm p) (tC (.ref d)) := pe_glob hg hm rfl hdb
  refine ⟨_, pe_cmpR (op_in_kd D) p1 pg hb, pt_cmpR (op_in_kd D) p1 pg hb, fun β P σ H G s d' s' R e1 Q q => ?_⟩
  unfold mKIn at e1
  obtain ⟨⟨x, s1⟩, e2, e1⟩ := Option.bind_eq_some_iff.mp e1
  cases x with
  | str z =>
    cases e1
    refine o β P σ H G s _ s1 R e2 _ fun v H1 G1 x1 R1 i1 => ?_
    have g := T.get z
    rw [is_str.mp i1]
    cases c : tblGet l z with
    | none =>
      rw [c] at g
      exact ⟨z, none, rfl, rfl, g, q _ H1 G1 x1 R1 (is_bl.mpr (by rw [c]; rfl))⟩
    | some w =>
      rw [c] at g
      obtain ⟨u, g1, g2⟩ := g
      exact ⟨z, some u, rfl, rfl, g1, q _ H1 G1 x1 R1 (is_bl.mpr (by rw [c]; rfl))⟩
  | _ => cases e1
theorem te_knin (T : KTbl X.K X.w d l) (h : DE X e f) (hg : Gl X nm) (hm : X.mg nm = some (.ref d)) (hdb : (nm == ("__debug__" : Str)) = false := by decide) (hb : behindInMarks .NotIn (.Name nm p) = false := by rfl) : ∃ t, PE X (.Compare e [.NotIn] [.Name nm p] pos) t ∧ PT X (.Compare e [.NotIn] [.Name nm p] pos) (tTest t) ∧ TEok X.K t (mKNin l f) := by
  obtain ⟨t, p1, o⟩ := h
  obtain ⟨es, n, D, tb⟩ := T.ex
  have pg : PE X (.Name nm p) (tC (.ref d)) := pe_glob hg hm rfl hdb
  refine ⟨_, pe_cmpR (op_notIn_kd D) p1 pg hb, pt_cmpR (op_notIn_kd D) p1 pg hb, fun β P σ H G s d' s' R e1 Q q => ?_⟩
  unfold mKNin at e1
  obtain ⟨⟨x, s1⟩, e2, e1⟩ := Option.bind_eq_some_iff.mp e1
  cases x with
  | str z =>
    cases e1
    refine o β P σ H G s _ s1 R e2 _ fun v H1 G1 x1 R1 i1 => ?_
    have g := T.get z
    rw [is_str.mp i1]
    cases c : tblGet l z with
    | none =>
      rw [c] at g
      exact ⟨z, none, rfl, rfl, g, q _ H1 G1 x1 R1 (is_bl.mpr (by rw [c]; rfl))⟩
    | some w =>
      rw [c] at g
      obtain ⟨u, g1, g2⟩ := g
      exact ⟨z, some u, rfl, rfl, g1, q _ H1 G1 x1 R1 (is_bl.mpr (by rw [c]; rfl))⟩
  | _ => cases e1
theorem de_kin (T : KTbl X.K X.w d l) (hg : Gl X nm) (hm : X.mg nm = some (.ref d)) (h : DE X e f) (hdb : (nm == ("__debug__" : Str)) = false := by decide) (hb : behindInMarks .In (.Name nm p) = false := by rfl) : DE X (.Compare e [.In] [.Name nm p] pos) (mKIn l f) := by
  obtain ⟨t, p1, p2, o⟩ := te_kin (pos := pos) T h hg hm hdb hb
  exact ⟨t, p1, o⟩
theorem dt_kin (T : KTbl X.K X.w d l) (hg : Gl X nm) (hm : X.mg nm = some (.ref d)) (h : DE X e f) (hdb : (nm == ("__debug__" : Str)) = false := by decide) (hb : behindInMarks .In (.Name nm p) = false := by rfl) : DT X (.Compare e [.In] [.Name nm p] pos) (mB (mKIn l f)) := by
  obtain ⟨t, p1, p2, o⟩ := te_kin (pos := pos) T h hg hm hdb hb
  exact ⟨_, p2, tt_of o⟩
theorem de_knin (T : KTbl X.K X.w d l) (hg : Gl X nm) (hm : X.mg nm = some (.ref d)) (h : DE X e f) (hdb : (nm == ("__debug__" : Str)) = false := by decide) (hb : behindInMarks .NotIn (.Name nm p) = false := by rfl) : DE X (.Compare e [.NotIn] [.Name nm p] pos) (mKNin l f) := by
  obtain ⟨t, p1, p2, o⟩ := te_knin (pos := pos) T h hg hm hdb hb
  exact ⟨t, p1, o⟩
theorem dt_knin (T : KTbl X.K X.w d l) (hg : Gl X nm) (hm : X.mg nm = some (.ref d)) (h : DE X e f) (hdb : (nm == ("__debug__" : Str)) = false := by decide) (hb : behindInMarks .NotIn (.Name nm p) = false := by rfl) : DT X (.Compare e [.NotIn] [.Name nm p] pos) (mB (mKNin l f)) := by
  obtain ⟨t, p1, p2, o⟩ := te_knin (pos := pos) T h hg hm hdb hb
  exact ⟨_, p2, tt_of o⟩
theorem de_kix (T : KTbl X.K X.w d l) (hg : Gl X nm) (hm : X.mg nm = some (.ref d)) (h : DE X e f) (hdb : (nm == ("__debug__" : Str)) = false := by decide) (hs : PlainIx e := by exact fun _ _ => rfl) : DE X (.Subscript (.Name nm p) e pos) (mKIx l f) := by
  obtain ⟨t, p1, o⟩ := h
  obtain ⟨es, n, D, tb⟩ := T.ex
  have pg : PE X (.Name nm p) (tC (.ref d)) := pe_glob hg hm rfl hdb
  refine ⟨_, pe_ix ix_kdict pg p1 hs, fun β P σ H G s d' s' R e1 Q q => ?_⟩
  unfold mKIx at e1
  obtain ⟨⟨x, s1⟩, e2, e1⟩ := Option.bind_eq_some_iff.mp e1
  cases x with
  | str z =>
    obtain ⟨w, e3, e1⟩ := Option.bind_eq_some_iff.mp e1
    cases e1
    refine o β P σ H G s _ s1 R e2 _ fun v H1 G1 x1 R1 i1 => ?_
    have g := T.get z
    rw [e3] at g
    obtain ⟨u, g1, g2⟩ := g
    rw [is_str.mp i1]
    exact ⟨d, z, .str w, rfl, rfl, ⟨es, n, u, D.at_, D.lit, g1, g2⟩, q _ H1 G1 x1 R1 (is_str.mpr rfl)⟩
  | _ => cases e1
end

/-! ### reversed, list(range), stars -/
omit [Me] in
def wRev (f : DM Dt) : DM (List Dt) := fun s => (f s).bind fun p => match p.1 with
  | .lst l => some (l.reverse, p.2)
  | .tup l => some (l.reverse, p.2)
  | _ => none
theorem rev_get {α : Type} {l : List α} {i : Nat} {d : α} (h : l.reverse[i]? = some d) : l[l.length - 1 - i]? = some d := by
  have hi : i < l.length := by
    have := (List.getElem?_eq_some_iff.mp h).1
    simpa using this
  rw [List.getElem?_reverse hi] at h
  exact h
theorem walk_revT {K : PySem.W.Frag} {a : Addr} {xs : List V} : Walk (RT.ItvT K a xs.length) xs.length (fun H => SqT K H a xs) (fun i H x H' => H' = H ∧ xs[xs.length - 1 - i]? = some x) :=
  ⟨fun i _ hi q => ⟨hi, xs, xs[xs.length - 1 - i]'(by omega), q, by simp [show xs.length - 1 - i < xs.length by omega]⟩, fun _ _ => Nat.le_refl _, fun _ _ _ _ _ q y => ⟨y.1, y.2 xs q⟩⟩
section
variable {X : Cx} {tg e : Expr} {f : DM Dt} {p pos : Pos}
theorem di_rev (hg : Gl X "reversed") (hm : X.mg "reversed" = none) (h : DE X e f) (hs : starEach [e] X.env = (false, eval e X.env) :: starEach [] X.env := by rfl) : DI X tg (.Call (.Name "reversed" p) [e] [] pos) (wRev f) := by
  obtain ⟨t, p1, o⟩ := h
  refine ⟨_, RT.pi_revA hg hm p1 hs, fun β P σ H G s l s' R e1 Q q => ?_⟩
  unfold wRev at e1
  obtain ⟨⟨x, s1⟩, e2, e1⟩ := Option.bind_eq_some_iff.mp e1
  cases x with
  | lst m =>
    cases e1
    refine o β P σ H G s _ s1 R e2 _ fun v H1 G1 x1 R1 i1 => ?_
    obtain ⟨a, vs, rfl, h1, h2⟩ := is_lst.mp i1
    refine ⟨a, vs, rfl, .inl ⟨.inl (.inl (R1.gh _ _ h1)), ?_⟩⟩
    refine q _ H1 G1 (fun H => SqL X.K H a vs) _ x1 R1 (by rw [List.length_reverse, ← h2.len]; exact walk_rev) (fun H2 G2 x2 g => .inl (.inl (g _ _ (x2 _ _ h1)))) ?_
    rintro i d H2 x H3 P1 σ1 G2 s2 hd x2 R2 ⟨rfl, hx⟩
    obtain ⟨v, e4, i4⟩ := h2.get (rev_get hd)
    rw [h2.len, e4] at hx
    cases hx
    exact same_turn R2 (IsD.mono x2 _ _ i4)
  | tup m =>
    cases e1
    refine o β P σ H G s _ s1 R e2 _ fun v H1 G1 x1 R1 i1 => ?_
    obtain ⟨a, vs, rfl, h1, h2⟩ := is_tup.mp i1
    refine ⟨a, vs, rfl, .inr ⟨ext_t R1.gh h1, ?_⟩⟩
    refine q _ H1 G1 (fun H => SqT X.K H a vs) _ x1 R1 (by rw [List.length_reverse, ← h2.len]; exact walk_revT) (fun H2 G2 x2 g => ext_t (x2.trans g) h1) ?_
    rintro i d H2 x H3 P1 σ1 G2 s2 hd x2 R2 ⟨rfl, hx⟩
    obtain ⟨v, e4, i4⟩ := h2.get (rev_get hd)
    rw [h2.len, e4] at hx
    cases hx
    exact same_turn R2 (IsD.mono x2 _ _ i4)
  | _ => cases e1
omit [Me] in
def bRgOk (i j : Int) : Bool := bRng i && bRng j && decide ((j - i).toNat ≤ 2 ^ 24)
omit [Me] in
def gRgL : Dt → Dt → Option Dt
  | .int i, .int j => if bRgOk i j = true then some (.lst (rngD i (j - i).toNat)) else none
  | _, _ => none
theorem isl_rg {K : PySem.W.Frag} {β : Addr} {G : Hp} {i : Int} : ∀ (l : List Nat), IsL K β G (l.map fun n => Dt.int (i + (n : Nat))) (l.map fun n => V.int (i + (n : Nat)))
  | [] => isl_nil.mpr rfl
  | n :: l => isl_cons.mpr ⟨_, _, rfl, is_int.mpr rfl, isl_rg l⟩
theorem de_listRg {a b : Expr} {fa fb : DM Dt} {p2 pos2 : Pos} (hc : X.calm = true) (hg : Gl X "list") (hm : X.mg "list" = none) (hg2 : Gl X "range") (hm2 : X.mg "range" = none) (ha : DE X a fa) (hb : DE X b fb)
    (na : starEach [a, b] X.env = (false, eval a X.env) :: starEach [b] X.env := by rfl) (nb : starEach [b] X.env = (false, eval b X.env) :: starEach [] X.env := by rfl)
    (nd : (backTo pos2 (starEach [b] X.env)).any (·.1) = false := by rfl) (nc : starEach [.Call (.Name "range" p2) [a, b] [] pos2] X.env = (false, eval (.Call (.Name "range" p2) [a, b] [] pos2) X.env) :: starEach [] X.env := by rfl) :
    DE X (.Call (.Name "list" p) [.Call (.Name "range" p2) [a, b] [] pos2] [] pos) (m2 gRgL fa fb) := by
  obtain ⟨ta, pa, oa⟩ := ha
  obtain ⟨tb, pb, ob⟩ := hb
  refine ⟨_, pe_listRg hc hg hm (prg_2 hg2 hm2 pa pb na nb nd) nc, fun β P σ H G s d s' R e Q q => ?_⟩
  unfold m2 at e
  obtain ⟨⟨x, s1⟩, e1, e⟩ := Option.bind_eq_some_iff.mp e
  obtain ⟨⟨y, s2⟩, e2, e⟩ := Option.bind_eq_some_iff.mp e
  obtain ⟨z, e3, e⟩ := Option.bind_eq_some_iff.mp e
  cases e
  refine oa β P σ H G s x s1 R e1 _ fun v H1 G1 x1 R1 i1 => ?_
  refine ob β P σ H1 G1 s1 y s2 R1 e2 _ fun u H2 G2 x2 R2 i2 => ?_
  unfold gRgL at e3
  split at e3
  · rename_i i j hx hy
    split at e3
    · rename_i c
      cases e3
      rw [show x = _ from hx] at i1
      rw [show y = _ from hy] at i2
      unfold bRgOk at c
      rw [Bool.and_eq_true, Bool.and_eq_true] at c
      obtain ⟨⟨c1, c2⟩, c3⟩ := c
      obtain ⟨a1, a2⟩ := bRng_ok c1
      obtain ⟨b1, b2⟩ := bRng_ok c2
      refine ⟨i, j, is_int.mp i1, is_int.mp i2, ⟨a1, a2, b1, b2, of_decide_eq_true c3⟩, fun p hp => ?_⟩
      exact q _ _ _ ((x1.trans x2).trans (Ext.new (R2.free hp))) (R2.new hp) (is_lst.mpr ⟨p, _, rfl, upd_same, isl_rg _⟩)
    · cases e3
  · cases e3
omit [Me] in
/-- f(*x, y), (*x, y) -/
def mStar (f : DM Dt) (g : DM (List Dt)) : DM (List Dt) := fun s => (f s).bind fun p => match p.1 with
  | .tup l => (g p.2).bind fun q => some (l ++ q.1, q.2)
  | .lst l => (g p.2).bind fun q => some (l ++ q.1, q.2)
  | _ => none
theorem da_star {es : List Expr} {g : DM (List Dt)} (h : DE X e f) (hr : DA X es g) (hs : starEach (.Starred e p :: es) X.env = (true, eval e X.env) :: starEach es X.env := by rfl) : DA X (.Starred e p :: es) (mStar f g) := by
  obtain ⟨t, p1, o1⟩ := h
  obtain ⟨u, p2, o2⟩ := hr
  refine ⟨_, StX.pa_star p1 p2 hs, fun β P σ H G s ds s' R e1 Q q => ?_⟩
  unfold mStar at e1
  obtain ⟨⟨x, s1⟩, e2, e1⟩ := Option.bind_eq_some_iff.mp e1
  cases x with
  | tup l =>
    obtain ⟨⟨y, s2⟩, e3, e1⟩ := Option.bind_eq_some_iff.mp e1
    cases e1
    refine o1 β P σ H G s _ s1 R e2 _ fun v H1 G1 x1 R1 i1 => ?_
    obtain ⟨a, vs, rfl, h1, h2⟩ := is_tup.mp i1
    refine ⟨a, vs, rfl, .inl (ext_t R1.gh h1), ?_⟩
    exact o2 β P σ H1 G1 s1 y s2 R1 e3 _ fun us H2 G2 x2 R2 i2 => q _ H2 G2 (x1.trans x2) R2 ((IsL.mono x2 _ _ h2).append i2)
  | lst l =>
    obtain ⟨⟨y, s2⟩, e3, e1⟩ := Option.bind_eq_some_iff.mp e1
    cases e1
    refine o1 β P σ H G s _ s1 R e2 _ fun v H1 G1 x1 R1 i1 => ?_
    obtain ⟨a, vs, rfl, h1, h2⟩ := is_lst.mp i1
    refine ⟨a, vs, rfl, .inr (.inl (.inl (R1.gh _ _ h1))), ?_⟩
    exact o2 β P σ H1 G1 s1 y s2 R1 e3 _ fun us H2 G2 x2 R2 i2 => q _ H2 G2 (x1.trans x2) R2 ((IsL.mono x2 _ _ h2).append i2)
  | _ => cases e1
end
end DL

namespace DL
open PySem PySem.Spec PyProof.Rows L2
variable [Tabs] [Me]

/-! ### s.replace("y", "z"): wants a token out; a def with a parameter has one -/
section
variable {X : Cx}
theorem pet_of {e : Expr} {t : TE} (h : PE X e t) : PET X e t := fun pins s σ H Q _ I q => h.run pins s σ H Q I q
omit [Me] in
def tRepC (y z : Str) (to : TE) : TE := fun σ H Q => to σ H fun x H1 => ∃ a : Str, x = .str a ∧ a.length + (a.length + 1) * z.length ≤ 16777216 ∧ Q (.str (Txt.replace a y z)) H1
theorem pet_replace {o : Expr} {y z : Str} {j0 j1 : Nat} {c0 c1 apos pos : Pos} {to : TE} (ho : PET X o to) (hyz : (y == z) = false := by decide +kernel)
    (hst : starEach [.Constant (.str y) j0 c0, .Constant (.str z) j1 c1] X.env = [(false, eval (.Constant (.str y) j0 c0) X.env), (false, eval (.Constant (.str z) j1 c1) X.env)] := by rfl)
    (hbase : attributeBase o "replace" X.env (eval o X.env) = eval o X.env := by rfl) (hline : (apos.endLine == pos.line) = true := by rfl) :
    PET X (.Call (.Attribute o "replace" apos) [.Constant (.str y) j0 c0, .Constant (.str z) j1 c1] [] pos) (tRepC y z to) := by
  intro pins s σ H Q h0 I h
  refine PySem.Call_method2 hbase hst hline (wpAny_mono (PySem.wpAny_toks (ho pins s σ H _ h0 I h)) (fun v s1 q => ?_) fun _ _ x => x.2)
  obtain ⟨hk, x, H1, I1, r1, a, ex, hb, q⟩ := q
  subst ex
  obtain ⟨tx, rfl⟩ := (show ∃ t, v = Value.str a t from r1)
  have h1 : 1 ≤ s1.toks := Nat.le_trans h0 hk
  refine ⟨"str", _, F.plainAttrs_str, F.slot_str_replace, F.type_str_replace, typeIs_str _ _ _, (fun _ e => nomatch e), Calls.callWith_builtin rfl (Calls.evalArgs_plain (Calls.spliced_cons (Calls.Constant_str (Calls.spliced_cons (Calls.Constant_str (Calls.spliced_nil ?_))))))⟩
  refine PySem.SC.replace (show s1.toks ≠ 0 by omega) (show s1.toks + 1 ≠ 0 by omega) (show s1.toks ≠ s1.toks + 1 by omega) hyz hb fun t' k => ?_
  exact ⟨.str (Txt.replace a y z), H1, I1.tok k, ⟨t', rfl⟩, q⟩
theorem pet_m1 {o e : Expr} {to te : TE} {id : String} {name : Str} {apos pos : Pos} {r : V → List V → Hp → VK → Prop} (slot : Slot "str" name id) (ty : typeOf (.builtin id) = pure (.type "method_descriptor")) (rule : MtR X id r) (ho : PET X o to) (he : PE X e te)
    (hs : starEach [e] X.env = [(false, eval e X.env)] := by rfl) (hbase : attributeBase o name X.env (eval o X.env) = eval o X.env := by rfl) (hline : (apos.endLine == pos.line) = true := by rfl) :
    PET X (.Call (.Attribute o name apos) [e] [] pos) (tM1 r to te) := by
  intro pins s σ H Q h0 I h
  refine PySem.Call_method1 hbase hs hline (thn (ho pins s σ H _ h0 I h) fun v s1 ⟨x, H1, I1, r1, q1⟩ => ?_)
  obtain ⟨⟨a, rfl⟩, q1⟩ := q1
  obtain ⟨t, rfl⟩ := _root_.id r1
  refine ⟨"str", _, F.plainAttrs_str, slot, ty, typeIs_str _ _ _, (fun _ e => nomatch e), Calls.callWith_builtin rfl (Calls.evalArgs_plain (Calls.spliced_cons ?_))⟩
  exact thn (he.run pins s1 σ H1 _ I1 q1) fun u s2 ⟨y, H2, I2, r2, q2⟩ => Calls.spliced_nil (rule pins s2 σ H2 _ [y] _ [u] Q I2 r1 (.cons r2 .nil) q2)
omit [Me] in
def DET (X : Cx) (e : Expr) (f : DM Dt) : Prop := ∃ t, PET X e t ∧ TEok X.K t f
omit [Me] in
def DSsT (X : Cx) (st : List Stmt) (f : DMs) : Prop := ∃ t, PSsT X st t ∧ TSok X.K t f
theorem det_of {e : Expr} {f : DM Dt} (h : DE X e f) : DET X e f := by
  obtain ⟨t, p, o⟩ := h
  exact ⟨t, pet_of p, o⟩
omit [Me] in
def mRepC (y z : Str) (f : DM Dt) : DM Dt := fun s => (f s).bind fun p => match p.1 with
  | .str a => if a.length + (a.length + 1) * z.length ≤ 16777216 then some (.str (Txt.replace a y z), p.2) else none
  | _ => none
theorem det_replace {o : Expr} {y z : Str} {j0 j1 : Nat} {c0 c1 apos pos : Pos} {f : DM Dt} (ho : DET X o f) (hyz : (y == z) = false := by decide +kernel)
    (hst : starEach [.Constant (.str y) j0 c0, .Constant (.str z) j1 c1] X.env = [(false, eval (.Constant (.str y) j0 c0) X.env), (false, eval (.Constant (.str z) j1 c1) X.env)] := by rfl)
    (hbase : attributeBase o "replace" X.env (eval o X.env) = eval o X.env := by rfl) (hline : (apos.endLine == pos.line) = true := by rfl) :
    DET X (.Call (.Attribute o "replace" apos) [.Constant (.str y) j0 c0, .Constant (.str z) j1 c1] [] pos) (mRepC y z f) := by
  obtain ⟨t, p, o1⟩ := ho
  refine ⟨_, pet_replace p hyz hst hbase hline, fun β P σ H G s d s' R e Q q => ?_⟩
  unfold mRepC at e
  obtain ⟨⟨x, s1⟩, e1, e⟩ := Option.bind_eq_some_iff.mp e
  cases x with
  | str a =>
    dsimp only at e
    split at e
    · rename_i c
      cases e
      exact o1 β P σ H G s _ _ R e1 _ fun v H1 G1 x1 R1 i1 => ⟨a, is_str.mp i1, c, q _ H1 G1 x1 R1 (is_str.mpr rfl)⟩
    · cases e
  | _ => cases e
theorem det_split {o e : Expr} {f1 f2 : DM Dt} {apos pos : Pos} (ho : DET X o f1) (he : DE X e f2) (hs : starEach [e] X.env = [(false, eval e X.env)] := by rfl) (hbase : attributeBase o "split" X.env (eval o X.env) = eval o X.env := by rfl) (hline : (apos.endLine == pos.line) = true := by rfl) :
    DET X (.Call (.Attribute o "split" apos) [e] [] pos) (mM1 gSplit f1 f2) := by
  obtain ⟨to, p1, o1⟩ := ho
  obtain ⟨te, p2, o2⟩ := he
  exact ⟨_, pet_m1 F.slot_str_split F.type_str_split mt_split p1 p2 hs hbase hline, te_m1 ok_split o1 o2⟩
theorem dsst_of {st : List Stmt} {f : DMs} (h : DSs X st f) : DSsT X st f := by
  obtain ⟨t, p, o⟩ := h
  exact ⟨t, PSsT.of p, o⟩
theorem tsok_seq {K : PySem.W.Frag} {t u : TS} {f g : DMs} (o : TSok K t f) (o2 : TSok K u g) : TSok K (tSeq t u) (kSeq f g) := by
  intro β P σ H G s r s' R e D h
  unfold kSeq at e
  obtain ⟨⟨x, s1⟩, e1, e⟩ := Option.bind_eq_some_iff.mp e
  cases x with
  | nx =>
    refine o β P σ H G s .nx s1 R e1 _ ?_
    exact fun σ1 H1 G1 x1 R1 => o2 β P σ1 H1 G1 s1 r s' R1 e D (h.mono x1)
  | bk => cases e; exact o β P σ H G s _ s1 R e1 _ h
  | ct => cases e; exact o β P σ H G s _ s1 R e1 _ h
  | rt d => cases e; exact o β P σ H G s _ s1 R e1 _ h
theorem dsst_cons {st : Stmt} {rest : List Stmt} {f g : DMs} (h1 : DS X st f) (h2 : DSsT X rest g) : DSsT X (st :: rest) (kSeq f g) := by
  obtain ⟨t, p, o⟩ := h1
  obtain ⟨u, p2, o2⟩ := h2
  exact ⟨_, psst_cons (PST.of p) p2, tsok_seq o o2⟩
theorem pst_set {te : TE} {i : Nat} {x : Str} {e : Expr} {pos' pos : Pos} (hN : X.N.Nodup) (hi : X.N[i]? = some x) (hx : Loc X.env.scope x) (he : PET X e te) (hs : swapsWith e (some (.Name x pos')) pos.line X.env = pure false := by rfl)
    (hf : X.fn x = true ∨ X.env.scope.names.lookup x = some .local := by first | exact .inl rfl | exact .inr rfl | assumption) : PST X (.Assign [.Name x pos'] e pos) (tAsg te (gName i)) := by
  intro pins s σ H D h0 I h
  refine wpAny_Assign_Name (thn (he pins s σ H _ h0 I h) fun v s1 ⟨y, H1, I1, r1, q1⟩ => ?_) hs
  exact store_ok I1 hN hi hx r1 (fun s2 I2 => ⟨_, H1, I2, q1⟩) hf
theorem dsst_set {i : Nat} {x : Str} {e : Expr} {f : DM Dt} {rest : List Stmt} {g : DMs} {pos' pos : Pos} (hN : X.N.Nodup) (hi : X.N[i]? = some x) (hx : Loc X.env.scope x) (he : DET X e f) (hr : DSsT X rest g) (hs : swapsWith e (some (.Name x pos')) pos.line X.env = pure false := by rfl)
    (hf : X.fn x = true ∨ X.env.scope.names.lookup x = some .local := by first | exact .inl rfl | exact .inr rfl | assumption) : DSsT X (.Assign [.Name x pos'] e pos :: rest) (kSeq (kAsg f (hName i)) g) := by
  obtain ⟨t, p, o⟩ := he
  obtain ⟨u, p2, o2⟩ := hr
  refine ⟨_, psst_cons (pst_set hN hi hx p hs hf) p2, tsok_seq (fun β P σ H G s r s' R e D k => ?_) o2⟩
  unfold kAsg at e
  obtain ⟨⟨x, s1⟩, e1, e⟩ := Option.bind_eq_some_iff.mp e
  obtain ⟨s2, e2, e⟩ := Option.bind_eq_some_iff.mp e
  cases e2
  cases e
  refine o β P σ H G s x s1 R e1 _ fun v H1 G1 x1 R1 i1 => ?_
  exact k _ H1 G1 x1 (R1.set i1)
end
section
variable {P : Program} {w : World} {K : PySem.W.Frag} {mg : Str → Option Value} {base : Heap}
theorem fn_okT {x qual : Str} {st : Stmt} {f : Addr} {fd : FuncData} {N ps : List Str} {k n : Nat} {g : DMs} (F : Fun K x qual st f fd) (S : FnScope N ps (defScope st)) (hnc : ∀ y ∈ (defScope st).names, y.2 ≠ .cell) (hps : 1 ≤ ps.length) (hn : ps.length = n := by rfl)
    (hb : ∀ (cdv : Value) (A : Around) (outer : List Env) (s : Shared) (H : Hp) (E : XK), Room k (A.deeper (envOfC qual (defScope st) s.heap.objs.size f cdv)) →
      DSsT (cxOf CX0 P w K mg base N qual (defScope st) f cdv A outer s H E) (defBody st) g) : FnOk P w K mg base CX0 (k + 1) f fd ps (spD K n (fnD N.length g)) := by
  obtain ⟨oc, od, kV, doc, pm, an, cdv, ct, osl, rfl, lk, hcd⟩ := F.ex
  refine fn_ofT lk hcd S hnc hps (fun vs H Q E h => ?_) fun A outer s H vs Q E hr h => ?_
  · obtain ⟨β, P, G, ds, bg, r, bg', h, _⟩ := h
    rw [hn]; exact h
  · obtain ⟨β, PP, G, ds, bg, r, bg', hl, i, R, e, q⟩ := h
    obtain ⟨t, p, o⟩ := hb cdv A outer s H E hr
    refine ⟨t, p, ?_⟩
    unfold fnD at e
    obtain ⟨⟨res, s'⟩, e1, e⟩ := Option.bind_eq_some_iff.mp e
    refine o β PP (L2.start N vs) H G _ res s' (rel_start i R) e1 _ ?_
    cases res with
    | nx =>
      cases e
      exact fun σ' H' G' x R' => q .non H' G' x R'.leave (is_non.mpr rfl)
    | rt d =>
      cases e
      exact fun v σ' H' G' x R' iv => q v H' G' x R'.leave iv
    | bk => cases e
    | ct => cases e
end
/-! ### slots that an expression leaves alone -/
omit [Me] in
def Kp (i : Nat) {α : Type} (f : DM α) : Prop := ∀ s d s', f s = some (d, s') → s'.sl[i]? = s.sl[i]?
theorem kp_var {i j : Nat} : Kp i (mVar j) := fun s d s' h => by
  unfold mVar at h
  split at h <;> first | (cases h; rfl) | cases h
theorem kp_c {i : Nat} {d : Dt} : Kp i (mC d) := fun s d s' h => by cases h; rfl
theorem kp_nil {i : Nat} : Kp i mNil := fun s d s' h => by cases h; rfl
theorem kp_bind {i : Nat} {α γ : Type} {f : DM α} {g : α → Sta → Option (γ × Sta)} (hf : Kp i f) (hg : ∀ a, Kp i (g a)) : Kp i (fun s => (f s).bind fun p => g p.1 p.2) := fun s d s' h => by
  obtain ⟨⟨x, s1⟩, e1, h⟩ := Option.bind_eq_some_iff.mp h
  exact (hg x s1 d s' h).trans (hf s x s1 e1)
theorem kp_cons {i : Nat} {f : DM Dt} {g : DM (List Dt)} (hf : Kp i f) (hg : Kp i g) : Kp i (mCons f g) := fun s d s' h => by
  unfold mCons at h
  obtain ⟨⟨x, s1⟩, e1, h⟩ := Option.bind_eq_some_iff.mp h
  obtain ⟨⟨y, s2⟩, e2, h⟩ := Option.bind_eq_some_iff.mp h
  cases h
  exact (hg _ _ _ e2).trans (hf _ _ _ e1)
theorem kp_tup {i : Nat} {f : DM (List Dt)} (hf : Kp i f) : Kp i (mTup f) := fun s d s' h => by
  unfold mTup at h
  obtain ⟨⟨x, s1⟩, e1, h⟩ := Option.bind_eq_some_iff.mp h
  dsimp only at h
  split at h <;> first | (cases h; exact hf _ _ _ e1) | cases h
theorem kp_app {i : Nat} {F : FD} {f : DM (List Dt)} (hf : Kp i f) : Kp i (mApp F f) := fun s d s' h => by
  unfold mApp at h
  obtain ⟨⟨x, s1⟩, e1, h⟩ := Option.bind_eq_some_iff.mp h
  obtain ⟨⟨y, b⟩, e2, h⟩ := Option.bind_eq_some_iff.mp h
  cases h
  exact (hf s x s1 e1 : s1.sl[i]? = s.sl[i]?)
theorem kp_rev {i : Nat} {f : DM Dt} (hf : Kp i f) : Kp i (wRev f) := fun s d s' h => by
  unfold wRev at h
  obtain ⟨⟨x, s1⟩, e1, h⟩ := Option.bind_eq_some_iff.mp h
  cases x <;> first | (cases h; exact hf _ _ _ e1) | cases h
theorem kp_wlst {i : Nat} {f : DM Dt} (hf : Kp i f) : Kp i (wLst f) := fun s d s' h => by
  unfold wLst at h
  obtain ⟨⟨x, s1⟩, e1, h⟩ := Option.bind_eq_some_iff.mp h
  cases x <;> first | (cases h; exact hf _ _ _ e1) | cases h
theorem kp_comp {i : Nat} {is : List Nat} {f : DM (List Dt)} {h : Dt → Sta → Option Sta} {t : DM Bool} {e : DM Dt} (hf : Kp i f) : Kp i (mComp is f h t e) := fun s d s' k => by
  unfold mComp at k
  obtain ⟨⟨x, s1⟩, e1, k⟩ := Option.bind_eq_some_iff.mp k
  dsimp only at k
  split at k
  · obtain ⟨z, e2, k⟩ := Option.bind_eq_some_iff.mp k
    cases k
    exact (hf s x s1 e1 : s1.sl[i]? = s.sl[i]?)
  · cases k
theorem kp_ix {i : Nat} {g : Dt → Dt → Option Dt} {f1 f2 : DM Dt} (h1 : Kp i f1) (h2 : Kp i f2) : Kp i (m2 g f1 f2) := fun s d s' h => by
  unfold m2 at h
  obtain ⟨⟨x, s1⟩, e1, h⟩ := Option.bind_eq_some_iff.mp h
  obtain ⟨⟨y, s2⟩, e2, h⟩ := Option.bind_eq_some_iff.mp h
  obtain ⟨z, e3, h⟩ := Option.bind_eq_some_iff.mp h
  cases h
  exact (h2 _ _ _ e2).trans (h1 _ _ _ e1)
/-! s.count(t) -/
omit [Me] in
def gCount (a : Str) : Dt → Option Dt
  | .str b => some (.int (Txt.count a b))
  | _ => none
theorem ok_count {K : PySem.W.Frag} : M1ok K (fun x xs H Q => ∃ a b, x = .str a ∧ xs = [.str b] ∧ Q (.int (Txt.count a b)) H) gCount := by
  intro β P σ H G s a y dy d R i e Q q
  unfold gCount at e
  split at e
  · rename_i b
    cases e
    rw [is_str.mp i]
    exact ⟨a, b, rfl, rfl, q _ H G (Ext.refl G) R (is_int.mpr rfl)⟩
  · cases e
end DL

set_option maxHeartbeats 4000000
/-! own classes of errors over any built-in one -/
namespace DX
open PySem PySem.Spec PySem.Calls PyProof.Rows PySem.W L2
open Builtin Builtin.ObjectAttr

/-! ### stores, by the rule of plain objects -/
section
variable {prog : Program} {w : World} {A : Around}
variable {R : Result → Shared → Prop} {hp : Heap}
variable {g : Array GenState} {d : Drawn} {t : Nat} {os : OsState}
variable {K : Frag} {name : Str} {tk : Tok} {v : Value} {x C : Addr}
variable {fv : Array Value} {cd : ClassData} {B : String} {bmB : List Value}
theorem takes_none (ha : findIn K (.ref C) name = some none) : takerIn K C name = some none := by
  unfold takerIn
  rw [ha]
  rfl
theorem osaG_new (SF : StoreFacts B bmB "object.__setattr__" "object") (X : K.In hp)
    (hx : hp.get? x = some { cls := .ref C, data := .fields fv }) (hcd : clsIn K C = some cd)
    (ho : excOver K C bmB = true) (hh : cd.hasDict = true) (ha : findIn K (.ref C) name = some none)
    (hq : ∀ h' tk' dx, (∀ b o, b ≠ x → hp.get? b = some o → h'.get? b = some o) → hp.objs.size ≤ dx → dx ≠ x →
      h'.get? x = some { cls := .ref C, dict := some dx, data := .fields fv } →
      h'.Ns1 dx (fun y => if y = name then some v else none) → R (.ok (.ret .none)) ⟨h', g, d, tk', os⟩) :
    codeAny (model prog w) A (.call (.builtin "object.__setattr__") ⟨[.ref x, .str name tk, v], []⟩) R ⟨hp, g, d, t, os⟩ := by
  have J : InstAt hp x { cls := .ref C, data := .fields fv } C none := ⟨hx, rfl, rfl, trivial⟩
  have ne1 : x ≠ hp.objs.size := Nat.ne_of_lt (Heap.lt_size hx)
  have LC : Looks (model prog w) hp (classData C) cd := looks_clsIn X hcd
  refine osa_openX SF X J ho (takes_none ha) fun b => ?_
  dsimp only
  obtain ⟨nm, bs, mro, ns, qn, hd, sn, sb, ab, col, del⟩ := cd
  dsimp only at hh
  subst hh
  unfold storeInOwnDict
  unfold ownDictForStores
  repeat (first
    | with_reducible refine PX.store_in_new ?_ ?_
    | with_reducible refine wpAny_loadPart_at hx ?_
    | with_reducible refine LC.at ?_
    | wp_step)
  · exact ⟨_, #[], _,
      (Heap.get?_update_ne _ _ _ _ ne1.symm).trans (Heap.get?_push_at rfl rfl),
      rfl, fun e he => absurd he (by simp), fun _ => rfl⟩
  · intro h' tk' hn' hs
    have hx2 := Heap.get?_push_of_some (h := hp) { cls := .type "dict", data := .dict #[] } hx
    refine hq h' tk' hp.objs.size (fun b o hb e => ?_) (Nat.le_refl _) ne1.symm ?_ hn'
    · have h1 := Heap.get?_push_of_some (h := hp) { cls := .type "dict", data := .dict #[] } e
      exact (hs.2 b (Nat.ne_of_lt (Heap.lt_size e))).trans ((Heap.get?_update_ne _ _ _ _ hb).trans h1)
    · exact (hs.2 x ne1).trans (Heap.get?_update_self _ hx2 rfl)
theorem osaG_old {dx : Addr} {m0 : Str → Option Value} {nl : List Str} (SF : StoreFacts B bmB "object.__setattr__" "object") (X : K.In hp)
    (hx : hp.get? x = some { cls := .ref C, dict := some dx, data := .fields fv }) (hns : hp.Ns1 dx m0) (hw : Within m0 nl) (hz : nl.length ≤ 1000)
    (hcd : clsIn K C = some cd) (ho : excOver K C bmB = true) (hh : cd.hasDict = true) (ha : findIn K (.ref C) name = some none)
    (hq : ∀ h' tk', (∀ b o, b ≠ dx → hp.get? b = some o → h'.get? b = some o) →
      h'.Ns1 dx (fun y => if y = name then some v else m0 y) → R (.ok (.ret .none)) ⟨h', g, d, tk', os⟩) :
    codeAny (model prog w) A (.call (.builtin "object.__setattr__") ⟨[.ref x, .str name tk, v], []⟩) R ⟨hp, g, d, t, os⟩ := by
  obtain ⟨oD, esD, epD, hoD, hdD, _⟩ := hns.count hw
  have J : InstAt hp x { cls := .ref C, dict := some dx, data := .fields fv } C (some oD) := ⟨hx, rfl, rfl, hoD⟩
  have LC : Looks (model prog w) hp (classData C) cd := looks_clsIn X hcd
  refine osa_openX SF X J ho (takes_none ha) fun b => ?_
  dsimp only
  obtain ⟨nm, bs, mro, ns, qn, hd, sn, sb, ab, col, del⟩ := cd
  dsimp only at hh
  subst hh
  unfold storeInOwnDict
  unfold ownDictForStores
  repeat (first
    | with_reducible refine OEX.store_in_old hns hw hz ?_
    | with_reducible refine wpAny_loadPart_at hx ?_
    | with_reducible refine LC.at ?_
    | wp_step)
  intro h' tk' hn' hs
  exact hq h' tk' (fun b o hb e => (hs.2 b hb).trans e) hn'
end

/-! ### what the written part says of the class -/
structure OexG (K : Frag) (C : Addr) : Prop where
  cls : ∃ B newId initId bmB nm q N bs bm sn sub ab col dd k0 k1 k2 k3 k5, ExcBaseFacts B newId initId bmB ∧ StoreFacts B bmB "object.__setattr__" "object" ∧
    K.lookup C = some (excClassObj nm q C N bs bm true sn sub ab col dd k0 k1 k2 k3 k5 newId) ∧ excTail bmB bm = true
  sa : findIn K (.ref C) "__setattr__" = some (some (.builtin "object.__setattr__"))
  exC : subIn K (.ref C) (.type "BaseException") = some true
  tyC : typeIn K (.ref C) = some (.type "type")
  kC : keepIn K (.ref C) = true
theorem OexG.store {K : Frag} {C : Addr} (T : OexG K C) : ∃ (B : String) (bmB : List Value) (cd : ClassData), StoreFacts B bmB "object.__setattr__" "object" ∧ clsIn K C = some cd ∧ excOver K C bmB = true ∧ cd.hasDict = true := by
  obtain ⟨B, newId, initId, bmB, nm, q, N, bs, bm, sn, sub, ab, col, dd, k0, k1, k2, k3, k5, FB, SF, hC, ht⟩ := T.cls
  have hcl : clsIn K C = some { name := nm, bases := bs, mro := .ref C :: bm, ns := N, qualname := q, hasDict := true, slotNames := sn, subclasses := sub, abstract := ab, collection := col, hasDel := false } := by
    unfold clsIn
    rw [hC] <;> rfl
  refine ⟨B, bmB, _, SF, hcl, ?_, rfl⟩
  unfold excOver
  rw [hcl]
  show (C == C && excTail bmB bm) = true
  rw [ht, beq_self_eq_true]
  rfl
/-- over ValueError -/
theorem OexG.of {K : Frag} {C : Addr} (T : L2.OexC K C) : OexG K C := by
  obtain ⟨nm, q, N, bs, bm, sn, sub, ab, col, dd, k0, k1, k2, k3, k5, hC, hbm⟩ := T.cls
  refine ⟨⟨_, _, _, _, nm, q, N, bs, bm, sn, sub, ab, col, dd, k0, k1, k2, k3, k5, F.excBase_ValueError, F.store_ValueError, hC, ?_⟩, T.sa, T.exC, T.tyC, T.kC⟩
  have key : ∀ l : List Value, PySem.HandSPX.refsVE l = true → excTail [.type "ValueError", .type "Exception", .type "BaseException", .type "object"] l = true := by
    intro l
    induction l with
    | nil => intro e; exact absurd e (by decide)
    | cons a r ih =>
      intro e
      rcases PySem.HandSPX.refsVE_cases (a :: r) e with ⟨c, r', q, h⟩ | q
      · obtain ⟨rfl, rfl⟩ := List.cons.inj q
        exact ih h
      · rw [q]; decide
  exact key bm hbm

section
variable {X : Cx} {pins : List (Addr × Obj)} {σ : L2.St} {H : Hp} {s : Shared} {a C dx : Addr} {f : Str} {y : V} {u : Value}
variable {fs : List (Str × V)} {Q : Unit → Shared → Prop} {E : Value → Shared → Prop} {A : Around}
theorem ostG_new (T : OexG X.K C) (I : Inv X pins σ H s) (e : H a = some (exo a C none)) (hno : findIn X.K (.ref C) f = some none) (ry : RelV y u)
    (h : ∀ dx s', H dx = none → dx ≠ a → Inv X pins σ (upd (upd H dx (exd dx [(f, y)])) a (exo a C (some dx))) s' → Q () s') :
    wpAny (model X.prog X.w) A (setAttr (.ref a) f u) Q E s := by
  obtain ⟨B, bmB, cd, SF, hcl, hov, hdi⟩ := T.store
  obtain ⟨t1, ho⟩ := exo_at I.hok e
  obtain ⟨hp, g, d, t, os⟩ := s
  have J : InstAt hp a { cls := .ref C, dict := none, data := .fields #[.ref t1, .none, .none, .none, .bool false, .none] } C none := ⟨ho, rfl, rfl, trivial⟩
  refine set_plain I.kIn J T.sa ?_
  refine osaG_new SF I.kIn ho hcl hov hdi hno fun h' tk' dx k dn dne hx hn => ?_
  have n1 : H dx = none := I.hok.fresh dn
  have n2 : ∀ {b : Addr} {o : Obj}, hp.get? b = some o → b ≠ dx := fun {b o} q => Nat.ne_of_lt (Nat.lt_of_lt_of_le (Heap.lt_size q) dn)
  have n3 : ∀ {b : Addr}, H b = none → b ≠ a := fun {b} n z => by
    rw [z, e] at n
    cases n
  have U : Un X.fs [] H (upd (upd H dx (exd dx [(f, y)])) a (exo a C (some dx))) hp h' := by
    refine ⟨fun b o q n _ _ => k b o (n3 n) q, fun b o q n _ _ => ⟨o.slots, k b o (n3 n) q⟩, fun b o q n _ => ?_, fun b o q _ => ?_, fun b xs q => ?_, fun b o v q => ?_, fun b ps q => ⟨#[], ?_⟩⟩
    · rw [upd_ne (n3 n), upd_ne (n2 q)]; exact n
    · by_cases hb : b = a
      · exact ⟨_, by rw [hb]; exact hx⟩
      · exact ⟨o, k b o hb q⟩
    · rw [upd_ne (at_ne e q exo_tup), upd_ne (ne_of_none q n1)]; exact q
    · rw [upd_ne (at_ne e q exo_frz), upd_ne (ne_of_none q n1)]; exact q
    · rw [upd_ne (at_ne e q exo_tbl), upd_ne (ne_of_none q n1), q]; simp
  refine h dx _ n1 dne (I.un (t' := tk') U fun b o q => ?_)
  by_cases hb : b = a
  · subst hb
    rw [upd_same] at q
    cases q
    exact exo_ok hx
  rw [upd_ne hb] at q
  by_cases hd : b = dx
  · subst hd
    rw [upd_same] at q
    cases q
    exact exd_ok hn (relO_put (fs := []) ry fun g => True.intro)
  rw [upd_ne hd] at q
  refine (I.hok b o q).stay (fun c v hc z => k c v ?_ z) (fun c hc => ?_) (fun c xs hc => ?_)
  · rcases hc with hc | hc
    · rw [hc]
      exact hb
    · exact at_ne e hc exo_own
  · rw [upd_ne (at_ne e hc exo_own), upd_ne (ne_of_none hc n1)]; exact hc
  · rw [upd_ne (at_ne e hc exo_tup), upd_ne (ne_of_none hc n1)]; exact hc
theorem ostG_old (T : OexG X.K C) (I : Inv X pins σ H s) (e : H a = some (exo a C (some dx))) (ed : H dx = some (exd dx fs)) (hl : fs.length ≤ 900) (hno : findIn X.K (.ref C) f = some none) (ry : RelV y u)
    (h : ∀ s', Inv X pins σ (upd H dx (exd dx ((f, y) :: fs))) s' → Q () s') : wpAny (model X.prog X.w) A (setAttr (.ref a) f u) Q E s := by
  obtain ⟨B, bmB, cd, SF, hcl, hov, hdi⟩ := T.store
  obtain ⟨t1, ho⟩ := exo_at I.hok e
  obtain ⟨mA, hns, rel⟩ := exd_at I.hok ed
  have hw := within_of rel
  obtain ⟨hp, g, d, t, os⟩ := s
  obtain ⟨oD, _, _, hoD, _, _⟩ := hns.count hw
  have J : InstAt hp a { cls := .ref C, dict := some dx, data := .fields #[.ref t1, .none, .none, .none, .bool false, .none] } C (some oD) := ⟨ho, rfl, rfl, hoD⟩
  refine set_plain I.kIn J T.sa ?_
  refine osaG_old SF I.kIn ho hns hw (by rw [List.length_map]; omega) hcl hov hdi hno fun h' tk' k hn => ?_
  have hd : ∃ o, h'.get? dx = some o := by
    obtain ⟨o, _, _, e', _⟩ := hn
    exact ⟨o, e'⟩
  refine h _ (I.write (t' := tk') (x := dx) (e := dx) (o := exd dx ((f, y) :: fs)) ?_ (.inl rfl) k hd (exd_ok hn (relO_put ry rel)))
  rw [ed]
  exact True.intro
end
/-- self.f = e -/
def tOstG (K : Frag) (f : Str) (to te : TE) : TS := fun D σ H => te σ H fun y H1 => to σ H1 fun x H2 => ∃ a C : Addr, x = .ref a ∧ OexG K C ∧ findIn K (.ref C) f = some none ∧
  ((H2 a = some (exo a C none) ∧ ∀ dx, H2 dx = none → dx ≠ a → D.nx σ (upd (upd H2 dx (exd dx [(f, y)])) a (exo a C (some dx)))) ∨
    ∃ (dx : Addr) (fs : List (Str × V)), H2 a = some (exo a C (some dx)) ∧ H2 dx = some (exd dx fs) ∧ fs.length ≤ 900 ∧ D.nx σ (upd H2 dx (exd dx ((f, y) :: fs))))
theorem ps_ostG {X : Cx} {o e : Expr} {to te : TE} {f : Str} {p' pos : Pos} (ho : PE X o to) (he : PE X e te) (hs : swapsWith e (some (.Attribute o f p')) pos.line X.env = pure false := by rfl) :
    PS X (.Assign [.Attribute o f p'] e pos) (tOstG X.K f to te) := by
  refine ⟨fun pins s σ H D I h => ?_⟩
  refine plainObj_wpAny_Assign_Attribute (thn (he.run pins s σ H _ I h) fun v s1 hh => ?_) hs
  obtain ⟨y, H1, I1, r1, q1⟩ := hh
  refine thn (ho.run pins s1 σ H1 _ I1 q1) fun u s2 hh => ?_
  obtain ⟨x, H2, I2, r2, a, C, ex, T, hno, q⟩ := hh
  subst ex
  obtain rfl : u = Value.ref a := r2
  rcases q with ⟨ea, q⟩ | ⟨dx, fs, ea, ed, hl, q⟩
  · exact ostG_new T I2 ea hno r1 fun dx s' n ne J => ⟨σ, _, J, q dx n ne⟩
  · exact ostG_old T I2 ea ed hl hno r1 fun s' J => ⟨σ, _, J, q⟩

/-! ### C(e, ..) -/
/-- the exception made, with its dict, as the call's own __init__ leaves it: sp is what that keeps -/
def tMkG (C : Addr) (sp : Sp) (ta : TA) : TE := fun σ H Q => ta σ H fun vs H1 => vs.length ≤ 1000 ∧ ∀ a, H1 a = none → sp (.ref a :: vs) (upd H1 a (exo a C none))
  (fun v H2 => v = .non ∧ Q (.ref a) H2) (fun _ _ _ => False)
/-- the same, raised -/
def tRsG (C : Addr) (sp : Sp) (ta : TA) : L2.St → Hp → XK → Prop := fun σ H Q => ta σ H fun vs H1 => vs.length ≤ 1000 ∧ ∀ a, H1 a = none → sp (.ref a :: vs) (upd H1 a (exo a C none))
  (fun v H2 => v = .non ∧ ∃ (d : Addr) (fs : List (Str × V)), H2 a = some (exo a C (some d)) ∧ H2 d = some (exd d fs) ∧ H1 d = none ∧ Q (.ref C) (some d) (upd (del H2 a) d (.xd fs))) (fun _ _ _ => False)
section
variable {X : Cx}
/-- the call itself, its arguments read -/
theorem call_errG {CX : CXT} {C fI : Addr} {k : Nat} {fd : FuncData} {ps : List Str} {sp : Sp} {pins : List (Addr × Obj)} {σ : L2.St} {H1 : Hp} {s1 : Shared} {us : List Value} {vs : List V} {QQ : Addr → VK} {Z : Value → Shared → Prop}
    (T : OexG X.K C) (iC : findIn X.K (.ref C) "__init__" = some (some (.ref fI))) (tI : typeIn X.K (.ref fI) = some (.type "function")) (F1 : FnOk X.prog X.w X.K X.mg X.base CX k fI fd ps sp) (hr : Room (k + 1) X.A) (hb : L2.Binds X.K fd ps [])
    (hx : Passes CX X (fun _ _ _ => False)) (I1 : Inv X pins σ H1 s1) (r1 : Vals vs us) (hz : vs.length ≤ 1000)
    (q : ∀ a, H1 a = none → sp (.ref a :: vs) (upd H1 a (exo a C none)) (QQ a) (fun _ _ _ => False))
    (qz : ∀ a v H2, H1 a = none → s1.heap.objs.size ≤ a → QQ a v H2 → v = .non ∧ ∀ hp2 h2 g2 d2 t2, (∀ b o, s1.heap.get? b = some o → hp2.get? b = some o) →
      Un (frs X.stack) [] (upd H1 a (exo a C none)) H2 hp2 h2 → HOk X.prog X.w H2 h2 → AllBare g2 → Inv X pins σ (upd H1 a (exo a C none)) { s1 with heap := hp2 } → Z (.ref a) ⟨h2, g2, d2, t2, s1.os⟩) :
    wpAny (model X.prog X.w) X.A (call (.ref C) us) Z X.xe s1 := by
  obtain ⟨B, newId, initId, bmB, nm, qn, N, bs, bm, sn, sub, ab, col, dd, k0, k1, k2, k3, k5, FB, SF, hC, ht⟩ := T.cls
  obtain ⟨hp, g, dr, tk, os⟩ := s1
  let e : Addr := hp.objs.size + 1
  have se : hp.objs.size ≤ e := Nat.le_succ _
  have ne : H1 e = none := I1.hok.fresh se
  have hq := q e ne
  have grow : ∀ b o, hp.get? b = some o → ((hp.push (kdv_tup us)).push (PySem.HandSPX.excO C hp.objs.size)).get? b = some o := fun b o z => Heap.get?_push_of_some _ (Heap.get?_push_of_some _ z)
  have at_e : ((hp.push (kdv_tup us)).push (PySem.HandSPX.excO C hp.objs.size)).get? (hp.objs.size + 1) = some (PySem.HandSPX.excO C hp.objs.size) := by
    heap_get
  have I2 : Inv X pins σ (upd H1 e (exo e C none)) ⟨(hp.push (kdv_tup us)).push (PySem.HandSPX.excO C hp.objs.size), g, dr, tk, os⟩ :=
    I1.laid (t' := tk) (a := e) (o := exo e C none) grow se (exo_ok at_e)
  have r2 : Vals (V.ref e :: vs) (Value.ref e :: us) := .cons rfl r1
  have hl : (Value.ref e :: us).length = ps.length := by
    have z := r2.length
    rw [F1.len _ _ _ _ hq] at z
    exact z.symm
  have hus : us.length ≤ sizeLine := by
    rw [← Paired.length r1, sizeLine_eq]
    omega
  have hT : ∀ Y : String, bm.contains (.type Y) = bmB.contains (.type Y) := fun Y => excTail_contains Y bm ht
  refine wpAny_call (PySem.HandSPX.call_own FB hT (I1.kIn _ _ hC) (looks_findIn I1.kIn iC) (fun self => bind_fn I1.kIn self tI) hus ?_)
  have bb := hb _ (Value.ref e :: us) I2.kIn (by rw [List.append_nil]; exact hl)
  refine codeAny_mono (F1.run _ X.stack _ _ ⟨Value.ref e :: us, []⟩ (Value.ref e :: us) _ _ (fun _ _ _ => False) (hr.make C us []) (I2.env0.make C us []) (by rw [List.append_nil] at bb; exact bb) r2 hq) fun r s' z => ?_
  cases r with
  | error er => exact hx pins σ _ _ er s' I2 z
  | ok fl =>
    cases fl with
    | ret u =>
      obtain ⟨v, H2, os2, bare2, un2, hok2, rv, qv⟩ := z
      obtain ⟨ev, fin⟩ := qz e v H2 ne se qv
      subst ev
      obtain ⟨h2, g2, d2, t2, os'⟩ := s'
      have os2' : os' = os := os2
      subst os2'
      exact ⟨rv, fin _ h2 g2 d2 t2 grow un2 hok2 bare2 I2⟩
    | next => exact False.elim z
    | brk => exact False.elim z
    | cont => exact False.elim z
end
section
variable {X : Cx} {CX : CXT} {C fI : Addr} {k : Nat} {fd : FuncData} {ps : List Str} {sp : Sp} {x : Str} {e : Expr} {es : List Expr} {ta : TA} {p pos : Pos}
theorem pe_errG (T : OexG X.K C) (iC : findIn X.K (.ref C) "__init__" = some (some (.ref fI))) (tI : typeIn X.K (.ref fI) = some (.type "function")) (F1 : FnOk X.prog X.w X.K X.mg X.base CX k fI fd ps sp) (hr : Room (k + 1) X.A) (hb : L2.Binds X.K fd ps [])
    (hx : Passes CX X (fun _ _ _ => False)) (hg : Gl X x) (hm : X.mg x = some (.ref C)) (ha : PA X (e :: es) ta) (hdb : (x == ("__debug__" : Str)) = false := by decide)
    (he : starEach (e :: es) X.env = (false, eval e X.env) :: starEach es X.env := by rfl) (hpl : (backTo pos (starEach es X.env)).any (·.1) = false := by rfl) : PE X (.Call (.Name x p) (e :: es) [] pos) (tMkG C sp ta) := by
  refine ⟨fun pins s σ H Q I h => ?_⟩
  refine wpAny_Call_Name_kw (ld_glob I hg hm ?_ hdb)
  refine callWith_K (h₀ := X.base) I.ok.mod.kin T.kC (thn (ha.run pos pins s σ H _ I h) fun us s1 z => ?_) he hpl
  obtain ⟨vs, H1, I1, r1, hz, q1⟩ := z
  refine ⟨I1.kIn, call_errG T iC tI F1 hr hb hx I1 r1 hz (QQ := fun a v H2 => v = .non ∧ Q (.ref a) H2) q1 fun a v H2 na sa z => ?_⟩
  obtain ⟨ev, q⟩ := z
  exact ⟨ev, fun hp2 h2 g2 d2 t2 kp un hok hb2 I2 => ⟨.ref a, H2, I2.call' (ch := []) rfl un hok hb2 (fun b z => absurd z (by simp)), rfl, q⟩⟩
theorem pe_errG0 (T : OexG X.K C) (iC : findIn X.K (.ref C) "__init__" = some (some (.ref fI))) (tI : typeIn X.K (.ref fI) = some (.type "function")) (F1 : FnOk X.prog X.w X.K X.mg X.base CX k fI fd ps sp) (hr : Room (k + 1) X.A) (hb : L2.Binds X.K fd ps [])
    (hx : Passes CX X (fun _ _ _ => False)) (hg : Gl X x) (hm : X.mg x = some (.ref C)) (hdb : (x == ("__debug__" : Str)) = false := by decide) : PE X (.Call (.Name x p) [] [] pos) (tMkG C sp tNil) := by
  refine ⟨fun pins s σ H Q I h => ?_⟩
  refine wpAny_Call_Name_kw (ld_glob I hg hm ?_ hdb)
  refine callWith_K0 I.kIn T.kC ?_
  show wpAny _ _ (call (.ref C) []) _ _ _
  obtain ⟨hz, q1⟩ := h
  refine call_errG T iC tI F1 hr hb hx I .nil hz (QQ := fun a v H2 => v = .non ∧ Q (.ref a) H2) q1 fun a v H2 na sa z => ?_
  obtain ⟨ev, q⟩ := z
  exact ⟨ev, fun hp2 h2 g2 d2 t2 kp un hok hb2 I2 => ⟨.ref a, H2, I2.call' (ch := []) rfl un hok hb2 (fun b z => absurd z (by simp)), rfl, q⟩⟩
theorem pmk_errG (T : OexG X.K C) (iC : findIn X.K (.ref C) "__init__" = some (some (.ref fI))) (tI : typeIn X.K (.ref fI) = some (.type "function")) (F1 : FnOk X.prog X.w X.K X.mg X.base CX k fI fd ps sp) (hr : Room (k + 1) X.A) (hb : L2.Binds X.K fd ps [])
    (hx : Passes CX X (fun _ _ _ => False)) (hg : Gl X x) (hm : X.mg x = some (.ref C)) (ha : PA X (e :: es) ta) (hdb : (x == ("__debug__" : Str)) = false := by decide)
    (he : starEach (e :: es) X.env = (false, eval e X.env) :: starEach es X.env := by rfl) (hpl : (backTo pos (starEach es X.env)).any (·.1) = false := by rfl) : PMk X (.Call (.Name x p) (e :: es) [] pos) (tRsG C sp ta) := by
  intro pins s σ H Q I h
  refine wpAny_Call_Name_kw (ld_glob I hg hm ?_ hdb)
  refine callWith_K (h₀ := X.base) I.ok.mod.kin T.kC (thn (ha.run pos pins s σ H _ I h) fun us s1 z => ?_) he hpl
  obtain ⟨vs, H1, I1, r1, hz, q1⟩ := z
  refine ⟨I1.kIn, call_errG T iC tI F1 hr hb hx I1 r1 hz (QQ := fun a v H2 => v = .non ∧ ∃ (d : Addr) (fs : List (Str × V)), H2 a = some (exo a C (some d)) ∧ H2 d = some (exd d fs) ∧ H1 d = none ∧ Q (.ref C) (some d) (upd (del H2 a) d (.xd fs))) q1 fun a v H2 na sa z => ?_⟩
  obtain ⟨ev, d, fs, ea, ed, hd1, q⟩ := z
  exact ⟨ev, fun hp2 h2 g2 d2 t2 kp un hok hb2 I2 => mk_end (raises_own T.exC T.tyC) I1 sa kp un hok rfl hb2 ea ed hd1 q⟩
theorem pmk_errG0 (T : OexG X.K C) (iC : findIn X.K (.ref C) "__init__" = some (some (.ref fI))) (tI : typeIn X.K (.ref fI) = some (.type "function")) (F1 : FnOk X.prog X.w X.K X.mg X.base CX k fI fd ps sp) (hr : Room (k + 1) X.A) (hb : L2.Binds X.K fd ps [])
    (hx : Passes CX X (fun _ _ _ => False)) (hg : Gl X x) (hm : X.mg x = some (.ref C)) (hdb : (x == ("__debug__" : Str)) = false := by decide) : PMk X (.Call (.Name x p) [] [] pos) (tRsG C sp tNil) := by
  intro pins s σ H Q I h
  refine wpAny_Call_Name_kw (ld_glob I hg hm ?_ hdb)
  refine callWith_K0 I.kIn T.kC ?_
  show wpAny _ _ (call (.ref C) []) _ _ _
  obtain ⟨hz, q1⟩ := h
  refine call_errG T iC tI F1 hr hb hx I .nil hz (QQ := fun a v H2 => v = .non ∧ ∃ (d : Addr) (fs : List (Str × V)), H2 a = some (exo a C (some d)) ∧ H2 d = some (exd d fs) ∧ H d = none ∧ Q (.ref C) (some d) (upd (del H2 a) d (.xd fs))) q1 fun a v H2 na sa z => ?_
  obtain ⟨ev, d, fs, ea, ed, hd1, q⟩ := z
  exact ⟨ev, fun hp2 h2 g2 d2 t2 kp un hok hb2 I2 => mk_end (raises_own T.exC T.tyC) I sa kp un hok rfl hb2 ea ed hd1 q⟩
end
end DX

set_option maxHeartbeats 4000000
namespace DX
open PySem PySem.Spec PySem.Calls PyProof.Rows PySem.W
variable [DL.Tabs] [DL.Me]

omit [DL.Me] in
/-- the name that a class's object bears -/
def nameIn (K : Frag) (C : Addr) : Option Str := match K.lookup C with
  | some ⟨_, _, .cls _, sl⟩ => match (sl[2]? : Option (Option Value)) with
    | some (some (Value.str x _)) => some x
    | _ => none
  | _ => none
theorem name_slot {K : Frag} {C : Addr} {x : Str} (e : nameIn K C = some x) : ∃ (o : Obj) (tk : Tok), K.lookup C = some o ∧ o.slots[2]? = some (some (.str x tk)) := by
  unfold nameIn at e
  split at e
  · rename_i c d cd sl ho
    split at e
    · rename_i y tk hs
      cases e
      exact ⟨_, tk, ho, hs⟩
    · cases e
  · cases e
section
variable {prog : Program} {w : World} {A : Around} {E : Value → Shared → Prop} {s : Shared} {K : Frag} {R : Result → Shared → Prop} {C a : Addr} {x : Str}
theorem cname_code {tp : Value} (KX : K.In s.heap) (ht : typeIn K (.ref C) = some (.type "type")) (hx : nameIn K C = some x) (h : ∀ tk, R (.ok (.ret (.str x tk))) s) :
    codeAny (model prog w) A (.call (.builtin "getset_descriptor.__get__") ⟨[.builtin "type.__name__", .ref C, tp], []⟩) R s := by
  obtain ⟨o, tk, ho, hsl⟩ := name_slot hx
  have hC := KX _ _ ho
  obtain ⟨hp, gs, dr, tt, so⟩ := s
  have La : Looks (model prog w) hp (typeOf (.ref C)) (.type "type") := looks_typeIn KX ht
  have Lb : Looks (model prog w) hp (isSubtype (.type "type") (.type "type")) true := Looks.of_pure (by rw [isSubtype_type]; kernel_rfl)
  refine codeAny_call_builtin KF.slot_gs.plain KF.entry_gs (KF.slot_gs.check _ _ _ _ _ _ _ _ ktyn_type (KF.args_gs _ _ _) ?_)
  unfold Builtin.«getset_descriptor.__get__» Builtin.Getset_descriptor.descrGet
  rw [dga_obj]
  refine wpAny_bind ?_
  refine wpAny_pure ?_
  unfold Builtin.Getset_descriptor.descrGetter Builtin.Getset_descriptor.descrCheckInstance Builtin.Getset_descriptor.descrNameAndClass isInstance
  simp only [ktyn_owner]
  repeat lk
  refine ⟨Code.quiet_builtin _ (by decide +kernel), codeAny_builtin ktyn_entry ?_⟩
  unfold Builtin.«type.__name__»
  dsimp only
  unfold Builtin.keptObject
  dsimp only
  unfold slotAt
  refine wpAny_bind ?_
  refine wpAny_bind (wpAny_loadPart hC ?_)
  rw [hsl]
  exact wpAny_pure (wpAny_pure (h tk))

theorem cname_attr {expr : Bool} {Q : Value → Shared → Prop} (KX : K.In s.heap) (hr : readsIn K C (.type "type") = true)
    (hf : findCls K (.ref C) (.type "type") "__name__" = some (.get (.builtin "getset_descriptor.__get__") (.builtin "type.__name__") (.ref C) (.type "type")))
    (hx : nameIn K C = some x) (h : ∀ tk, Q (.str x tk) { s with toks := s.toks + 1 }) : wpAny (model prog w) A (getAttr (.ref C) "__name__" expr) Q E s := by
  have ht : typeIn K (.ref C) = some (.type "type") := by
    simp only [readsIn, Bool.and_eq_true, beq_iff_eq] at hr
    exact hr.1.1.1.2
  refine cls_bind KX hr hf (wpAny_call (cname_code (s := { s with toks := s.toks + 1 }) KX ht hx fun tk => ?_))
  exact handed_on rfl (h tk)
/-- e.__class__, e an instance of an own error class -/
theorem ecls_attr {ox : Obj} {od : Option Obj} {expr : Bool} {Q : Value → Shared → Prop} (T : L2.ExcC K C) (KX : K.In s.heap) (J : InstAt s.heap a ox C od) (hfo : findObj K C od "__class__" = some (.bind (.builtin "getset_descriptor.__get__") (.builtin "object.__class__")))
    (h : Q (.ref C) { s with toks := s.toks + 1 }) : wpAny (model prog w) A (getAttr (.ref a) "__class__" expr) Q E s := by
  obtain ⟨hp, gs, dr, tt, so⟩ := s
  have La := J.type (M := model prog w)
  have Lb := looks_findIn (M := model prog w) KX T.hg
  have Lc := looks_findIn (M := model prog w) KX T.hk
  have Ld := looks_find (M := model prog w) KX J hfo
  have Le : Looks (model prog w) hp (isInstance (.ref a) (.type "BaseException")) true := La.andThen (looks_subIn KX T.hs)
  have z0 : (expr && onTheHeap (Value.builtin "BaseException.__getattribute__")) = false := by cases expr <;> rfl
  have z1 : (onTheHeap (Value.ref C) && Value.builtin "BaseException.__getattribute__" == Value.builtin "object.__getattribute__") = false := by
    rw [show (Value.builtin "BaseException.__getattribute__" == Value.builtin "object.__getattribute__") = false from by decide +kernel]
    rfl
  unfold getAttr getAttrBy
  refine wpAny_bind (wpAny_mkText ?_)
  refine wpAny_holding ?_
  refine wpAny_bind (La.at ?_)
  refine wpAny_bind (Lb.at ?_)
  show wpAny _ _ (if (onTheHeap (Value.ref C) && Value.builtin "BaseException.__getattribute__" == Value.builtin "object.__getattribute__") = true then _ else _) _ _ _
  rw [z1]
  rw [if_neg Bool.false_ne_true]
  unfold getAttrByItsOwn hookBefore
  refine wpAny_bind ?_
  rw [if_pos (show onTheHeap (Value.ref C) = true from rfl)]
  refine Lc.at ?_
  refine wpAny_bind ?_
  refine wpAny_attempt (wpAny_holding ?_)
  unfold callGetattribute
  rw [z0]
  rw [if_neg Bool.false_ne_true]
  unfold boundAndCalled
  rw [PySem.F.excAttr_ValueError.ga.bind (.ref a)]
  refine wpAny_bind ?_
  refine wpAny_pure ?_
  show wpAny _ _ (call (.builtin "BaseException.__getattribute__") [.ref a, .str "__class__" tt]) _ _ _
  refine wpAny_call ?_
  refine codeAny_call_builtin PySem.F.excAttr_ValueError.ga.plain PySem.F.entry_bexc_ga ?_
  refine @check_slot (model prog w) _ _ ⟨hp, gs, dr, tt + 1, so⟩ "BaseException.__getattribute__" "BaseException" "__getattribute__" (.ref a) [.str "__class__" tt] [] _ ?k1 ?k2 Le ?k3 ?_
  case k1 => decide +kernel
  case k2 => decide +kernel
  case k3 => exact PySem.F.args_bexc_ga (.ref a) (.str "__class__" tt)
  unfold Builtin.«object.__getattribute__»
  refine wpAny_bind ?_
  refine wpAny_of_eq (a := ((Value.ref a : Value), [Value.str "__class__" tt])) (by first | rfl | (simp only [slotArgs]; rfl)) ?_
  refine wpAny_bind ?_
  refine wpAny_pure ?_
  refine wpAny_bind (La.at ?_)
  refine wpAny_bind (Ld.at ?_)
  show wpAny _ _ (holding [Value.builtin "object.__class__"] (call (.builtin "getset_descriptor.__get__") [.builtin "object.__class__", .ref a, .ref C]) >>= ret) _ _ _
  refine wpAny_bind (wpAny_holding (wpAny_call (class_get (s := ⟨hp, gs, dr, tt + 1, so⟩) (ox := ox) (od := od) KX J T.hm ?_)))
  refine wpAny_pure ?_
  show wpAny _ _ (handedOut (.ref C)) _ _ _
  rw [handedOut_of (v := .ref C) rfl]
  exact wpAny_pure h
end

/-! ### an own class of errors -/
omit [DL.Me] in
/-- the fields that errors bear besides their code -/
def errFields : List Str := ["path", "index", "given", "witness", "key", "name", "word", "most", "limit"]
omit [DL.Me] in
def noField (K : Frag) (C : Addr) (f : Str) : Bool := match findIn K (.ref C) f with
  | some none => true
  | _ => false
omit [DL.Me] in
structure ErrC (K : Frag) (C : Addr) (x : Str) : Prop where
  oex : OexG K C
  exc : L2.ExcC K C
  rd : readsIn K C (.type "type") = true
  fc : findCls K (.ref C) (.type "type") "__name__" = some (.get (.builtin "getset_descriptor.__get__") (.builtin "type.__name__") (.ref C) (.type "type"))
  nm : nameIn K C = some x
  noc : findIn K (.ref C) "code" = some none
  nf : (errFields.all fun f => noField K C f) = true
  ns : subIn K (.ref C) (.type "StopIteration") = some false
  ca : ∀ T1 T2 T3 : Addr, nsIn K mainGlobals "TableError" = some (some (.ref T1)) → nsIn K mainGlobals "Missing" = some (some (.ref T2)) → nsIn K mainGlobals "NothingLeft" = some (some (.ref T3)) → exmAny K (.ref C) [.ref T1, .ref T2, .ref T3] = some true
open L2
theorem ErrC.nof {K : Frag} {C : Addr} {x f : Str} (T : ErrC K C x) (h : f ∈ errFields) : findIn K (.ref C) f = some none := by
  have e := List.all_eq_true.mp T.nf f h
  unfold noField at e
  split at e
  · assumption
  · cases e
theorem ErrC.obj {K : Frag} {C : Addr} {x : Str} (T : ErrC K C x) : findObj K C none "__class__" = some (.bind (.builtin "getset_descriptor.__get__") (.builtin "object.__class__")) :=
  findObj_dataN (by
    obtain ⟨cd, hc, _⟩ := any_some T.exc.hd
    rw [hc] <;> rfl) T.exc.ha T.exc.hn T.exc.ht
omit [DL.Me] in
/-- e.__class__.__name__ -/
def tCn (K : Frag) (te : TE) : TE := fun σ H Q => te σ H fun v H1 => ∃ a C x, v = .ref a ∧ H1 a = some (exo a C none) ∧ ErrC K C x ∧ Q (.str x) H1
theorem pe_cname {X : Cx} {e : Expr} {te : TE} {p1 p2 : Pos} (he : PE X e te) (hb1 : attributeBase e "__class__" X.env (eval e X.env) = eval e X.env := by rfl)
    (hb2 : attributeBase (.Attribute e "__class__" p1) "__name__" X.env (eval (.Attribute e "__class__" p1) X.env) = eval (.Attribute e "__class__" p1) X.env := by rfl) :
    PE X (.Attribute (.Attribute e "__class__" p1) "__name__" p2) (tCn X.K te) := by
  refine ⟨fun pins s σ H Q I h => ?_⟩
  refine attr_of hb2 (attr_of hb1 (thn (he.run pins s σ H _ I h) fun u s1 z => ?_))
  obtain ⟨v, H1, I1, r1, a, C, x, ev, ea, T, q⟩ := z
  subst ev
  obtain rfl : u = Value.ref a := r1
  obtain ⟨t1, ho⟩ := exo_at I1.hok ea
  have J : InstAt s1.heap a { cls := .ref C, dict := none, data := .fields #[.ref t1, .none, .none, .none, .bool false, .none] } C none := ⟨ho, rfl, rfl, trivial⟩
  refine ecls_attr T.exc I1.kIn J T.obj ?_
  exact cname_attr (I1.tok _).kIn T.rd T.fc T.nm fun tk => ⟨.str x, H1, (I1.tok _).tok _, ⟨tk, rfl⟩, q⟩

/-! ### def __init__(self): self.code = self.__class__.__name__ -/
omit [DL.Me] in
def spInit (K : Frag) : Sp := fun vs H Q _ => ∃ a C x, vs = [.ref a] ∧ H a = some (exo a C none) ∧ ErrC K C x ∧ ∀ dx, H dx = none → dx ≠ a → Q .non (upd (upd H dx (exd dx [("code", .str x)])) a (exo a C (some dx)))
section
variable {P : Program} {w : World} {K : Frag} {mg : Str → Option Value} {base : Heap} {CX : CXT}
theorem fn_init0 {k : Nat} {f : Addr} {name qual : Str} {params : Arguments} {scope : Scope} {dV kV doc pm cdv ct oc : Value} {an od : Option Addr} {osl : Array (Option Value)} {N : List Str} {p1 p2 p3 p4 p5 p6 : Pos}
    (lk : K.lookup f = some ⟨oc, od, .func (PySem.W.fnOf name qual params [.Assign [.Attribute (.Name "self" p1) "code" p2] (.Attribute (.Attribute (.Name "self" p3) "__class__" p4) "__name__" p5) p6] scope dV kV doc pm an cdv ct), osl⟩)
    (hcd : codeIn K cdv qual = true) (S : FnScope N ["self"] scope) (hN : N[0]? = some ("self" : Str)) (hv : Vis scope "self") (h0 : ∀ v : V, (L2.start N [v])[0]? = some (some v)) : FnOk P w K mg base CX (k + 1) f (PySem.W.fnOf name qual params [.Assign [.Attribute (.Name "self" p1) "code" p2] (.Attribute (.Attribute (.Name "self" p3) "__class__" p4) "__name__" p5) p6] scope dV kV doc pm an cdv ct) ["self"] (spInit K) := by
  refine fn_of lk hcd S (fun vs H Q E h => ?_) fun A outer s H vs Q E hr h => ?_
  · obtain ⟨a, C, x, e, _⟩ := h
    rw [e]
    rfl
  · obtain ⟨a, C, x, rfl, ea, T, q⟩ := h
    refine ⟨_, pss_one (ps_ostG (pe_var (i := 0) hN hv) (pe_cname (pe_var (i := 0) hN hv))), ?_⟩
    refine ⟨.ref a, h0 _, a, C, x, rfl, ea, T, ?_⟩
    refine ⟨.ref a, h0 _, a, C, rfl, T.oex, T.noc, .inl ⟨ea, fun dx n ne => ?_⟩⟩
    exact q dx n ne
end
end DX

set_option maxHeartbeats 4000000
namespace DX
open PySem PySem.Spec PySem.Calls PyProof.Rows PySem.W L2
variable [DL.Tabs] [DL.Me]

/-! ### C(), C's own or inherited __init__ being the one of TableError -/
omit [DL.Me] in
/-- the exception's dict bears code alone; H1 is as before but for it -/
def tErr (C : Addr) (x : Str) : L2.St → Hp → XK → Prop := fun _ H Q => ∀ d, H d = none → Q (.ref C) (some d) (upd H d (.xd [("code", .str x)]))
section
variable {X : Cx}
theorem pmk_err0 {CX : CXT} {nm x : Str} {C fI : Addr} {k : Nat} {fd : FuncData} {p pos : Pos} (T : ErrC X.K C nm) (iC : findIn X.K (.ref C) "__init__" = some (some (.ref fI))) (tI : typeIn X.K (.ref fI) = some (.type "function"))
    (F1 : FnOk X.prog X.w X.K X.mg X.base CX k fI fd ["self"] (spInit X.K)) (hr : Room (k + 1) X.A) (hb : Binds X.K fd ["self"] []) (hx : Passes CX X (fun _ _ _ => False)) (hg : Gl X x) (hm : X.mg x = some (.ref C))
    (hdb : (x == ("__debug__" : Str)) = false := by decide) : PMk X (.Call (.Name x p) [] [] pos) (tErr C nm) := by
  intro pins s σ H Q I h
  refine pmk_errG0 (p := p) (pos := pos) T.oex iC tI F1 hr hb hx hg hm hdb pins s σ H Q I ?_
  refine ⟨Nat.zero_le _, fun a na => ⟨a, C, nm, rfl, upd_same, T, fun dx n nd => ?_⟩⟩
  rw [upd_ne nd] at n
  refine ⟨rfl, dx, [("code", .str nm)], upd_same, by rw [upd_ne nd, upd_same], n, ?_⟩
  have eq : upd (del (upd (upd (upd H a (exo a C none)) dx (exd dx [("code", .str nm)])) a (exo a C (some dx))) a) dx (.xd [("code", .str nm)]) = upd H dx (.xd [("code", .str nm)]) := by
    funext b
    by_cases hbd : b = dx
    · rw [hbd, upd_same, upd_same]
    · rw [upd_ne hbd, upd_ne hbd]
      by_cases hbe : b = a
      · rw [hbe, del_same, na]
      · rw [del_ne hbe, upd_ne hbe, upd_ne hbd, upd_ne hbe]
  rw [eq]
  exact h dx n
end
end DX

set_option maxHeartbeats 4000000
namespace DX
open PySem PySem.Spec PySem.Calls PyProof.Rows PySem.W L2
variable [DL.Tabs] [DL.Me]

theorem fly_push {B h : Heap} {l : List Env} {a : Addr} {Z : Obj → Prop} (o : Obj) (x : HandSPX.FlyingZ B l a Z h) : HandSPX.FlyingZ B l a Z (h.push o) := by
  obtain ⟨y1, y2, y3, oe, vs, T, oT, ts, y4, y5, y6, y7, y8, y9, y10, y11, y12⟩ := x
  refine ⟨fun b u z => Heap.get?_push_of_some _ (y1 b u z), y2, Heap.FunFrames.of_keeps (fun b u z _ => ⟨u, Heap.get?_push_of_some _ z, rfl⟩) y3, oe, vs, T, oT, ts, Heap.get?_push_of_some _ y4, y5, y6, y7, y8, y9, Heap.get?_push_of_some _ y10, y11, y12⟩

omit [DL.Me] in
/-- except (C1, C2, C3) as n, every exception of the body being one of them; slot i is n's -/
def wAs3 (K : Frag) (m : Nat) (C1 C2 C3 : Addr) (i : Nat) (ts : Addr → Value → Option Addr → TS) (D : Ends) : WX := fun cls d σ H => exmAny K cls [.ref C1, .ref C2, .ref C3] = some true ∧
  ∀ a, H a = none → σ.length = m → ts a cls d { nx := fun σ' H' => D.nx (σ'.set i none) H', rt := D.rt, bk := fun σ' H' => D.bk (σ'.set i none) H', ct := fun σ' H' => D.ct (σ'.set i none) H' } (σ.set i (some (.ref a))) H
section
variable {X : Cx} {x1 x2 x3 n : Str} {C1 C2 C3 : Addr} {i kk : Nat} {body suite : List Stmt} {b0 : Stmt} {q1 q2 q3 q4 q5 q6 : Pos} {tb : WX → TS} {ts : Addr → Value → Option Addr → TS}
theorem ps_try_as3 (hs : X.stack = X.env :: X.outer) (hf : X.env.frame = some X.env.locals) (hN : X.N.Nodup) (hi : X.N[i]? = some n) (hln : X.env.kindOf n = some .local)
    (g1 : Gl X x1) (m1 : X.mg x1 = some (.ref C1)) (d1 : (x1 == ("__debug__" : Str)) = false) (g2 : Gl X x2) (m2 : X.mg x2 = some (.ref C2)) (d2 : (x2 == ("__debug__" : Str)) = false) (g3 : Gl X x3) (m3 : X.mg x3 = some (.ref C3)) (d3 : (x3 == ("__debug__" : Str)) = false)
    (hb : ∀ (W : WX) (pn : List (Addr × Obj)) (xe : Value → Shared → Prop), Takes (X.tr pn xe) W → PassesOwn (model X.prog X.w) X.A X.env xe → PSs (X.tr pn xe) body (tb W))
    (hsu : ∀ (a : Addr) (oe : Obj) (cls : Value) (d : Option Addr) (pn : List (Addr × Obj)), Zc cls d oe → (∃ vs, oe.data = .fields vs) → PSs (X.suite a ((a, oe) :: pn)) (b0 :: suite) (ts a cls d)) :
    PS X (.Try body [.ExceptHandler (some (.Tuple [.Name x1 q1, .Name x2 q2, .Name x3 q3] kk q4)) (some n) (b0 :: suite) q5] [] [] q6) (fun D σ H => tb (wAs3 X.K X.N.length C1 C2 C3 i ts D) D σ H) := by
  refine ⟨fun pp s σ H D I hyp => ?_⟩
  have okX := I.ok
  have frX : X.A.frames = some (X.env :: X.outer) := by rw [okX.frames, hs]
  have locN : Loc X.env.scope n := .inl hln
  refine wpAny_Try_except ?_
  refine wpAny_mono ((hb (wAs3 X.K X.N.length C1 C2 C3 i ts D) (X.pn ++ pp) (fun e sa => wpAny (model X.prog X.w) X.A (noteFrame e X.env) (fun _ sb => wpAny (model X.prog X.w) X.A (setFlight e none) (fun _ sc =>
    wpAny (model X.prog X.w) X.A (handleBy e X.env [.ExceptHandler (some (.Tuple [.Name x1 q1, .Name x2 q2, .Name x3 q3] kk q4)) (some n) (b0 :: suite) q5]) (SP X pp D) X.xe sc) X.xe sb) X.xe sa) (fun u s' xx => ?_) PassesOwn.looking).run [] s σ H D (I.toTry _) hyp) (fun fl sa z => ?_) (fun e sa z => z)
  · obtain ⟨a, B, sI, pins', σ', H', cls, d, rfl, J', nb, up, sky, na, os, ag, em, yes⟩ := xx
    have J : Inv X pp σ' H' sI := J'.ofTry okX
    have sky' : Sky B (X.env :: X.outer) a (Zc cls d) X.env.locals s'.heap := by rw [← hs]; exact sky
    show wpAny (model X.prog X.w) X.A (noteFrame (.ref a) X.env) _ _ _
    refine Sky.land Zc.steady frX hf sky' fun ha fa ua => ?_
    have Ja : Inv X pp σ' H' { s' with heap := ha } := J.landed nb fa.1 (up.trans ua) os ag
    obtain ⟨oa, va, ga, za, da⟩ := fa.there
    have out : a ∉ frs (X.env :: X.outer) := fun hm => by
      obtain ⟨_, o', e', hnf⟩ := fa.2.2.1.mem hm
      rw [ga] at e'
      cases e'
      exact hnf _ da
    have nL : a ≠ X.env.locals := fun z => out (List.mem_filterMap.mpr ⟨X.env, List.mem_cons_self, by rw [hf, z]⟩)
    have nF : a ∉ X.fs := fun hm => by
      obtain ⟨ev, h1, h2⟩ := List.mem_filterMap.mp hm
      exact out (List.mem_filterMap.mpr ⟨ev, List.mem_cons_of_mem _ h1, h2⟩)
    have Sa := Ja.suite ga da na nL nF
    refine wpAny_handleBy_cons (codeAny_handlers_test ?_) (by intro q; cases q)
    have key : wpAny (model X.prog X.w) (X.suite a ((a, oa) :: (X.pn ++ pp))).A (eval (.Tuple [.Name x1 q1, .Name x2 q2, .Name x3 q3] kk q4) X.env) (fun v sd => v = .ref ha.objs.size ∧ sd = { s' with heap := ha.push { cls := .type "tuple", data := .seq [Value.ref C1, .ref C2, .ref C3].toArray } }) (fun _ _ => False) { s' with heap := ha } := by
      refine wpAny_Tuple_spliced ?_
      show wpAny _ _ (spliced [(false, eval (.Name x1 q1) X.env), (false, eval (.Name x2 q2) X.env), (false, eval (.Name x3 q3) X.env)]) _ _ _
      refine spliced_cons (ld_glob (X := X.suite a ((a, oa) :: (X.pn ++ pp))) Sa g1 m1 ?_ d1)
      refine spliced_cons (ld_glob (X := X.suite a ((a, oa) :: (X.pn ++ pp))) Sa g2 m2 ?_ d2)
      refine spliced_cons (ld_glob (X := X.suite a ((a, oa) :: (X.pn ++ pp))) Sa g3 m3 ?_ d3)
      exact spliced_nil ⟨by show 3 ≤ sizeLine; rw [sizeLine_eq]; omega, rfl, rfl⟩
    refine wpAny_mono key (fun v sd hv => ?_) (fun _ _ z => z.elim)
    obtain ⟨hv1, hv2⟩ := hv
    subst hv1
    subst hv2
    have fb := fly_push { cls := .type "tuple", data := .seq [Value.ref C1, .ref C2, .ref C3].toArray } fa
    have ub : ha.UpToSlots (ha.push { cls := .type "tuple", data := .seq [Value.ref C1, .ref C2, .ref C3].toArray }) := Heap.UpToSlots.of_keeps fun b o z => Heap.get?_push_of_some _ z
    have gt : (ha.push { cls := .type "tuple", data := .seq [Value.ref C1, .ref C2, .ref C3].toArray }).get? ha.objs.size = some { cls := .type "tuple", data := .seq [Value.ref C1, .ref C2, .ref C3].toArray } := Heap.get?_push_size _ rfl
    generalize ha.push { cls := .type "tuple", data := .seq [Value.ref C1, .ref C2, .ref C3].toArray } = hc at fb ub gt
    have Jb : Inv X pp σ' H' { s' with heap := hc } := J.landed nb fb.1 ((up.trans ua).trans ub) os ag
    obtain ⟨ob, vb, gb, zb, db⟩ := fb.there
    have LT : Looks (model X.prog X.w) hc (typeOf (.ref a)) cls := fun A Q E s k q => wpAny_typeOf_ref (k _ _ gb) (by rw [zb.1]; exact q)
    refine (exm_tup3 (M := model X.prog X.w) Jb.kIn LT gt em).here ?_
    refine codeAny_handlers_suite_as ?_
    refine HandSPX.lands_againZ fb fun hd fd ud => ?_
    have Jd : Inv X pp σ' H' { s' with heap := hd } := J.landed nb fd.1 (((up.trans ua).trans ub).trans ud) os ag
    obtain ⟨od, vd, gd, zd, dd⟩ := fd.there
    have Sd := Jd.suite gd dd na nL nF
    refine store_ok (X := X.suite a ((a, od) :: (X.pn ++ pp))) (v := .ref a) Sd hN hi locN rfl (fun se Se => ?_) (.inr hln)
    refine wpAny_mono ((hsu a od cls d (X.pn ++ pp) zd ⟨_, dd⟩).run [] se _ H' _ Se (yes a na J.len)) (fun fl sg z => ?_) (fun _ _ z => False.elim z)
    have bye : ∀ {σ6 : L2.St} {H6 : Hp} {Q : Shared → Prop}, Inv (X.suite a ((a, od) :: (X.pn ++ pp))) [] σ6 H6 sg → (∀ sh, Inv X pp (σ6.set i none) H6 sh → Q sh) →
        wpAny (model X.prog X.w) X.A (do bindName X.env n .none; unbindBehindTheSuite X.env n q5) (fun _ sh => Q sh) X.xe sg := fun {σ6 H6 Q} S6 hq => gone_ok (S6.unsuite okX) hN hi hln hq
    cases fl with
    | next =>
      obtain ⟨σ6, H6, S6, w6⟩ := z
      exact bye S6 fun sh Jh => ⟨_, _, Jh, w6⟩
    | brk =>
      obtain ⟨σ6, H6, S6, w6⟩ := z
      exact bye S6 fun sh Jh => ⟨_, _, Jh, w6⟩
    | cont =>
      obtain ⟨σ6, H6, S6, w6⟩ := z
      exact bye S6 fun sh Jh => ⟨_, _, Jh, w6⟩
    | ret u =>
      obtain ⟨v6, σ6, H6, S6, r6, w6⟩ := z
      exact bye S6 fun sh Jh => ⟨_, _, _, Jh, r6, w6⟩
  · cases fl with
    | next =>
      obtain ⟨σ6, H6, J6, w6⟩ := z
      exact wpAny_execs_nil ⟨σ6, H6, J6.ofTry okX, w6⟩
    | brk =>
      obtain ⟨σ6, H6, J6, w6⟩ := z
      exact ⟨σ6, H6, J6.ofTry okX, w6⟩
    | cont =>
      obtain ⟨σ6, H6, J6, w6⟩ := z
      exact ⟨σ6, H6, J6.ofTry okX, w6⟩
    | ret u =>
      obtain ⟨v6, σ6, H6, J6, r6, w6⟩ := z
      exact ⟨v6, σ6, H6, J6.ofTry okX, r6, w6⟩
end
end DX

set_option maxHeartbeats 4000000
namespace DX
open PySem PySem.Spec PySem.Calls PyProof.Rows PySem.W L2
variable [DL.Tabs] [DL.Me]
open L2H (RoomH PinOk cxH inv_startH)

/-! ### a def that is called in an except suite: it knows the exception p that is handled; nothing leaves it -/
omit [DL.Me] in
structure FnS (P : Program) (w : World) (K : Frag) (mg : Str → Option Value) (base : Heap) (k : Nat) (f : Addr) (fd : FuncData) (ps : List Str) (sp : Addr × Obj → Sp) : Prop where
  len : ∀ p vs H Q E, sp p vs H Q E → vs.length = ps.length
  run : ∀ (A : Around) (outer : List Env) (s : Shared) (H : Hp) (args : Args) (us : List Value) (vs : List V) (Q : VK) (p : Addr × Obj), RoomH k A → PinOk outer H s p → Env0 P w K mg base A outer s H →
    BindsTo s fd args (ps.zip us) → Vals vs us → sp p vs H Q E0 → codeAny (model P w) A (.call (.ref f) args) (CR CX0 outer P w H s Q E0) s
theorem fn_suite {P : Program} {w : World} {K : Frag} {mg : Str → Option Value} {base : Heap} {k : Nat} {f : Addr} {name qual : Str} {params : Arguments} {body : List Stmt} {scope : Scope} {dV kV doc pm cdv ct oc : Value} {an od : Option Addr} {osl : Array (Option Value)} {N ps : List Str}
    {sp : Addr × Obj → Sp} (lk : K.lookup f = some ⟨oc, od, .func (fnOf name qual params body scope dV kV doc pm an cdv ct), osl⟩) (hcd : codeIn K cdv qual = true) (S : FnScope N ps scope) (len : ∀ p vs H Q E, sp p vs H Q E → vs.length = ps.length)
    (hbody : ∀ (A : Around) (outer : List Env) (s : Shared) (H : Hp) (vs : List V) (Q : VK) (p : Addr × Obj), RoomH k (A.deeper (envOfC qual scope s.heap.objs.size f cdv)) → sp p vs H Q E0 →
      ∃ t, PSs (cxH CX0 P w K mg base N qual scope f cdv A outer s H E0 p) body t ∧ t { nx := fun _ H' => Q .non H', rt := Q } (L2.start N vs) H) :
    FnS P w K mg base (k + 1) f (fnOf name qual params body scope dV kV doc pm an cdv ct) ps sp := by
  refine ⟨len, fun A outer s H args us vs Q p rm pin env bnd rv hsp => ?_⟩
  have lenV := len _ _ _ _ _ hsp
  have KX : K.In s.heap := env.mod.kin.keeps fun b o z => (env.bs b o z).1
  have nolim : s.heap.NoLimit := env.mod.nolimit.keeps fun b o z => (env.bs b o z).1
  refine codeAny_call_function rm.depth (KX _ _ lk) rfl S.co S.gen rfl (codeRec_of KX hcd) (bnd _ _ _ _ ?_)
  refine wpAny_newFunctionEnv_cells S.kind (fun ⟨y, v⟩ hy => ?_) fun ev hev sa xa => ?_
  · rcases S.par y (List.of_mem_zip hy).1 with z | z
    · exact .inl z
    · exact .inr ⟨z, cellsFrom_some _ _ _ (.inl z)⟩
  subst hev
  refine ⟨nolim.keeps xa.toInCall.keep, ?_⟩
  refine codeAny_func ?_
  obtain ⟨t, pt, qt⟩ := hbody A outer s H vs Q p (rm.deeper _) hsp
  have I := inv_startH (CX := CX0) (E := E0) (f := f) (cd := cdv) S pin env lenV rv xa
  refine wpAny_mono (pt.run [] sa (L2.start N vs) H _ I qt) (fun fl sb z => ?_) fun e sb z => z
  cases fl with
  | ret u =>
    obtain ⟨v, σ', H', J, r, q⟩ := z
    exact ⟨v, H', J.os, J.bare, J.base, J.hok, r, q⟩
  | next =>
    obtain ⟨σ', H', J, q⟩ := z
    exact ⟨.non, H', J.os, J.bare, J.base, J.hok, rfl, q⟩
  | brk => exact False.elim z.choose_spec.choose_spec.2
  | cont => exact False.elim z.choose_spec.choose_spec.2
section
variable {X : Cx}
theorem pe_callS {k : Nat} {f : Addr} {fd : FuncData} {ps : List Str} {sp : Addr × Obj → Sp} {x : Str} {q pos : Pos} {e : Expr} {es : List Expr} {t : TA} {p : Addr × Obj} (F : FnS X.prog X.w X.K X.mg X.base k f fd ps sp) (hr : RoomH k X.A) (hp : p ∈ X.pn) (hg : Gl X x) (hm : X.mg x = some (.ref f))
    (hk : keepIn X.K (.ref f) = true) (hb : L2.Binds X.K fd ps []) (ha : PA X (e :: es) t) (hdb : (x == ("__debug__" : Str)) = false := by decide) (he : starEach (e :: es) X.env = (false, eval e X.env) :: starEach es X.env := by rfl)
    (hpl : (backTo pos (starEach es X.env)).any (·.1) = false := by rfl) : PE X (.Call (.Name x q) (e :: es) [] pos) (fun σ H Q => t σ H fun vs H1 => sp p vs H1 Q E0) := by
  refine ⟨fun pins s σ H Q I h => ?_⟩
  refine wpAny_Call_Name_kw (ld_glob I hg hm ?_ hdb)
  refine callWith_K (h₀ := X.base) I.ok.mod.kin hk (thn (ha.run pos pins s σ H _ I h) fun us sa z => ?_) he hpl
  obtain ⟨vs, Ha, Ia, ra, hs⟩ := z
  refine ⟨Ia.kIn, ?_⟩
  have le : us.length = ps.length := by
    rw [← ra.length]
    exact F.len _ _ _ _ _ hs
  have bd := hb sa us Ia.kIn (by rw [List.append_nil]; exact le)
  rw [List.append_nil] at bd
  obtain ⟨w1, w2, w3, w4, w5⟩ := Ia.pin p (List.mem_append_left _ hp)
  have pin : PinOk X.stack Ha sa p := ⟨w1, w2, fun hm => (List.mem_cons.mp (Ia.stkSub p.1 hm)).elim w3 w4, w5⟩
  show wpAny _ _ (call (.ref f) us) _ _ _
  refine wpAny_call (codeAny_mono (F.run X.A X.stack sa Ha ⟨us, []⟩ us vs Q p hr pin Ia.env0 bd ra hs) fun r sb z => ?_)
  cases r with
  | error er => exact False.elim z
  | ok fl =>
    cases fl with
    | ret u => exact Ia.after z
    | next => exact False.elim z
    | brk => exact False.elim z
    | cont => exact False.elim z
/-! ### e.code, e the exception p that is handled -/
omit [DL.Me] in
def tCode (K : Frag) (a : Addr) (cls : Value) (d : Option Addr) (te : TE) : TE := fun σ H Q => ∃ C nm dd, cls = .ref C ∧ d = some dd ∧ ErrC K C nm ∧ te σ H fun x H1 => x = .ref a ∧ (∃ xs : List (Str × V), H1 dd = some (.xd xs) ∧ List.lookup ("code" : Str) xs = some (V.str nm)) ∧ Q (.str nm) H1
theorem pe_ecode {a : Addr} {oe : Obj} {cls : Value} {d : Option Addr} {e : Expr} {te : TE} {pos : Pos} (hp : (a, oe) ∈ X.pn) (hz : Zc cls d oe) (hf : ∃ vs, oe.data = .fields vs) (he : PE X e te)
    (hb : attributeBase e "code" X.env (eval e X.env) = eval e X.env := by rfl) : PE X (.Attribute e "code" pos) (tCode X.K a cls d te) := by
  refine ⟨fun pins s σ H Q I h => ?_⟩
  obtain ⟨C, nm, dd, ec, ed, T, h⟩ := h
  subst ec
  subst ed
  refine attr_of hb (thn (he.run pins s σ H _ I h) fun u sa z => ?_)
  obtain ⟨x, Ha, Ia, ra, ex, ⟨xs, ea, el⟩, q⟩ := z
  subst ex
  obtain rfl : u = Value.ref a := ra
  obtain ⟨ga, _⟩ := Ia.pin (a, oe) (List.mem_append_left _ hp)
  obtain ⟨vs, hd⟩ := hf
  have hx : ObjOk X.prog X.w Ha sa.heap dd (.xd xs) := Ia.hok dd _ ea
  obtain ⟨mA, hns, hr⟩ := hx
  obtain ⟨od, ho, hl⟩ := lookIn_ns hns
  obtain ⟨v, hv, rv⟩ := RelO.some_of (v := V.str nm) (o := mA "code") (by have y := hr "code"; rw [el] at y; exact y)
  have J : InstAt sa.heap a oe C (some od) := ⟨ga, hz.1, by unfold notCls; rw [hd] <;> rfl, by rw [hz.2]; exact ho⟩
  exact HandSPX.exc_get Ia.kIn J T.exc.hg T.exc.hk T.exc.hs (findObj_own T.exc.hd T.noc rfl (by rw [hl, hv])) (handed_of rv) ⟨_, Ha, Ia.tok _, rv, q⟩
omit [DL.Me] in
/-- e.f, e the exception that is handled, of the class at C -/
def tEf (a : Addr) (d : Option Addr) (f : Str) (te : TE) : TE := fun σ H Q => te σ H fun x H1 => x = .ref a ∧ ∃ (dd : Addr) (xs : List (Str × V)) (v : V), d = some dd ∧ H1 dd = some (.xd xs) ∧ List.lookup f xs = some v ∧ Q v H1
theorem pe_ef {a C : Addr} {oe : Obj} {d : Option Addr} {nm f : Str} {e : Expr} {te : TE} {pos : Pos} (T : ErrC X.K C nm) (hno : findIn X.K (.ref C) f = some none) (hp : (a, oe) ∈ X.pn) (hz : Zc (.ref C) d oe) (hf : ∃ vs, oe.data = .fields vs) (he : PE X e te)
    (hb : attributeBase e f X.env (eval e X.env) = eval e X.env := by rfl) : PE X (.Attribute e f pos) (tEf a d f te) := by
  refine ⟨fun pins s σ H Q I h => ?_⟩
  refine attr_of hb (thn (he.run pins s σ H _ I h) fun u sa z => ?_)
  obtain ⟨x, Ha, Ia, ra, ex, dd, xs, v, ed, ea, el, q⟩ := z
  subst ex
  subst ed
  obtain rfl : u = Value.ref a := ra
  obtain ⟨ga, _⟩ := Ia.pin (a, oe) (List.mem_append_left _ hp)
  obtain ⟨vs, hd⟩ := hf
  have hx : ObjOk X.prog X.w Ha sa.heap dd (.xd xs) := Ia.hok dd _ ea
  obtain ⟨mA, hns, hr⟩ := hx
  obtain ⟨od, ho, hl⟩ := lookIn_ns hns
  obtain ⟨w, hv, rv⟩ := RelO.some_of (v := v) (o := mA f) (by have y := hr f; rw [el] at y; exact y)
  have J : InstAt sa.heap a oe C (some od) := ⟨ga, hz.1, by unfold notCls; rw [hd] <;> rfl, by rw [hz.2]; exact ho⟩
  exact HandSPX.exc_get Ia.kIn J T.exc.hg T.exc.hk T.exc.hs (findObj_own T.exc.hd hno rfl (by rw [hl, hv])) (handed_of rv) ⟨v, Ha, Ia.tok _, rv, q⟩
end
end DX

set_option maxHeartbeats 4000000
namespace DX
open PySem PySem.Spec PySem.Calls PyProof.Rows PySem.W L2 LamX
variable [DL.Tabs] [DL.Me]
open L2H (RoomH PinOk cxH inv_startH)

omit [DL.Me] in
/-- the further field that is told of an error of the class nm: fl says which -/
def fldV (fl : List (Str × Str)) (nm : Str) (xs : List (Str × V)) : Option (List V) := match fl.lookup nm with
  | none => some []
  | some f => (xs.lookup f).map fun v => [v]
omit [DL.Me] in
/-- what is wished of an error of the lambda: it is caught, and told by its code and the field's tuple -/
def errTold (K : Frag) (fl : List (Str × Str)) (T1 T2 T3 : Addr) (Q : VK) : XK := fun cls d H => exmAny K cls [.ref T1, .ref T2, .ref T3] = some true ∧ ∃ C nm dd xs ws, cls = .ref C ∧ d = some dd ∧ ErrC K C nm ∧ H dd = some (.xd xs) ∧ List.lookup ("code" : Str) xs = some (V.str nm) ∧ fldV fl nm xs = some ws ∧
  ∀ p q, H p = none → upd H p (.tup ws) q = none → Q (.ref q) (upd (upd H p (.tup ws)) q (.tup [.str nm, .ref p]))
omit [DL.Me] in
def TTtry (K : Frag) (fl : List (Str × Str)) (T1 T2 T3 : Addr) (e0 : Str) : (XK → Hp → VK → Prop) → Hp → VK → Prop := fun tl H Q =>
  tl (errTold K fl T1 T2 T3 Q) H fun v H1 => 2 ≤ sizeLine ∧ ∀ p, H1 p = none → Q (.ref p) (upd H1 p (.tup [.str e0, v]))
omit [DL.Me] in
/-- the field's tuple of the error at a -/
def spFld (K : Frag) (fl : List (Str × Str)) (a : Addr) (cls : Value) (d : Option Addr) : Sp := fun vs H Q _ => ∃ C nm dd xs ws, cls = .ref C ∧ d = some dd ∧ vs = [.ref a] ∧ ErrC K C nm ∧ H dd = some (.xd xs) ∧ List.lookup ("code" : Str) xs = some (V.str nm) ∧ fldV fl nm xs = some ws ∧
  ∀ q, H q = none → Q (.ref q) (upd H q (.tup ws))
omit [DL.Me] in
def spField (K : Frag) (fl : List (Str × Str)) : Addr × Obj → Sp := fun p vs H Q E => ∃ cls d, Zc cls d p.2 ∧ (∃ fv, p.2.data = .fields fv) ∧ spFld K fl p.1 cls d vs H Q E
omit [DL.Me] in
/-- the body of the law's field def: if e.code == c: return (e.f,), .., return () -/
inductive FieldB (y : Str) : List Stmt → List (Str × Str) → Prop where
  | nil {kk : Nat} {p1 p2 : Pos} : FieldB y [.Return (some (.Tuple [] kk p1)) p2] []
  | cons {c f : Str} {rest : List Stmt} {fl : List (Str × Str)} {j kk : Nat} {p1 p2 p3 p4 p5 p6 p7 p8 p9 : Pos} (hf : f ∈ errFields) (h : FieldB y rest fl) :
      FieldB y (.If (.Compare (.Attribute (.Name y p1) "code" p2) [.Eq] [.Constant (.str c) j p3] p4) [.Return (some (.Tuple [.Attribute (.Name y p5) f p6] kk p7)) p8] [] p9 :: rest) ((c, f) :: fl)
theorem field_body {X : Cx} {y nm : Str} {a C : Addr} {oe : Obj} {dd : Addr} {xs : List (Str × V)} (hp : (a, oe) ∈ X.pn) (hz : Zc (.ref C) (some dd) oe) (hf : ∃ fv, oe.data = .fields fv) (T : ErrC X.K C nm) (hc : List.lookup ("code" : Str) xs = some (V.str nm))
    (hN : X.N[0]? = some y) (hv : Vis X.env.scope y) (dy : (y == ("__debug__" : Str)) = false) (cy : (y == ("__classdict__" : Str)) = false) {body : List Stmt} {fl : List (Str × Str)} (B : FieldB y body fl) :
    ∀ {ws : List V}, fldV fl nm xs = some ws → ∃ t, PSs X body t ∧ ∀ (σ : L2.St) (H : Hp) (D : Ends), σ[0]? = some (some (.ref a)) → H dd = some (.xd xs) → (∀ q, H q = none → D.rt (.ref q) (upd H q (.tup ws))) → t D σ H := by
  have one : 1 ≤ sizeLine := by rw [sizeLine_eq]; omega
  induction B with
  | nil =>
    intro ws e
    cases e
    exact ⟨_, pss_one (ps_ret (pe_tup pa_nil)), fun σ H D h0 hx k => ⟨Nat.zero_le _, k⟩⟩
  | @cons c f rest fl j kk p1 p2 p3 p4 p5 p6 p7 p8 p9 hff h ih =>
    intro ws e
    have pv : ∀ {p : Pos}, PE X (.Name y p) (tVar 0) := fun {p} => pe_var hN hv dy cy
    have pc : PE X (.Attribute (.Name y p1) "code" p2) (tEf a (some dd) "code" (tVar 0)) := pe_ef T T.noc hp hz hf pv
    have pf : PE X (.Attribute (.Name y p5) f p6) (tEf a (some dd) f (tVar 0)) := pe_ef T (T.nof hff) hp hz hf pv
    have pt := pt_cmpR (pos := p4) op_eq pc (pe_str (X := X) (x := c) (j := j) (pos := p3)) (nomark _)
    have ret := pss_one (ps_ret (pos := p8) (pe_tup (x1 := kk) (pos := p7) (pa_cons pf pa_nil)))
    unfold fldV at e
    rw [List.lookup_cons] at e
    cases hq : (nm == c) with
    | true =>
      rw [hq] at e
      obtain rfl : nm = c := eq_of_beq hq
      obtain ⟨v, hv2, ew⟩ := Option.map_eq_some_iff.mp e
      cases ew
      refine ⟨_, pss_cons (ps_if (pos := p9) pt ret pss_nil) (pss_never (sts := rest)), fun σ H D h0 hx k => ?_⟩
      refine ⟨.ref a, h0, rfl, dd, xs, _, rfl, hx, hc, rfl, _, rfl, ?_⟩
      show if (decide (V.str nm = V.str nm)) = true then _ else _
      rw [if_pos (decide_eq_true rfl)]
      exact ⟨.ref a, h0, rfl, dd, xs, v, rfl, hx, hv2, one, k⟩
    | false =>
      rw [hq] at e
      obtain ⟨t, pt2, ht⟩ := ih e
      refine ⟨_, pss_cons (ps_if (pos := p9) pt ret pss_nil) pt2, fun σ H D h0 hx k => ?_⟩
      have ne : ¬ (V.str nm = V.str c) := fun z => by
        cases z
        rw [beq_self_eq_true] at hq
        cases hq
      refine ⟨.ref a, h0, rfl, dd, xs, _, rfl, hx, hc, rfl, _, rfl, ?_⟩
      show if (decide (V.str nm = V.str c)) = true then _ else _
      rw [if_neg (by rw [decide_eq_false ne]; exact Bool.false_ne_true)]
      exact ht σ H D h0 hx k
theorem fn_field {P : Program} {w : World} {K : Frag} {mg : Str → Option Value} {base : Heap} {k : Nat} {f : Addr} {name qual y : Str} {params : Arguments} {scope : Scope} {dV kV doc pm cdv ct oc : Value} {an od : Option Addr} {osl : Array (Option Value)} {N : List Str} {body : List Stmt} {fl : List (Str × Str)}
    (lk : K.lookup f = some ⟨oc, od, .func (fnOf name qual params body scope dV kV doc pm an cdv ct), osl⟩) (hcd : codeIn K cdv qual = true) (S : FnScope N [y] scope) (B : FieldB y body fl) (hN : N[0]? = some y) (h0 : ∀ v : V, (L2.start N [v])[0]? = some (some v))
    (dy : (y == ("__debug__" : Str)) = false := by decide) (cy : (y == ("__classdict__" : Str)) = false := by decide) :
    FnS P w K mg base (k + 1) f (fnOf name qual params body scope dV kV doc pm an cdv ct) [y] (spField K fl) := by
  refine fn_suite lk hcd S (fun p vs H Q E h => ?_) fun A outer s H vs Q p rm h => ?_
  · obtain ⟨_, _, _, _, _, _, _, _, _, _, _, e, _⟩ := h
    rw [e]
    rfl
  · obtain ⟨cls, d, hz, hf, C, nm, dd, xs, ws, ec, ed, ev, T, hx, hc, hw, q⟩ := h
    subst ec ed ev
    have hv : Vis scope y := (S.par y List.mem_cons_self).elim .inl fun z => .inr (.inl z)
    obtain ⟨t, pt, ht⟩ := field_body (X := L2H.cxH CX0 P w K mg base N qual scope f cdv A outer s H E0 p) (a := p.1) (oe := p.2) List.mem_cons_self hz hf T hc hN hv dy cy B hw
    exact ⟨t, pt, ht _ _ _ (h0 _) hx q⟩
section
variable {X : Cx}
theorem try_gives {fl : List (Str × Str)} {Ng : List Str} {x a e e0 q x1 x2 x3 xf yf : Str} {sg : Scope} {g T1 T2 T3 ff : Addr} {fd : FuncData} {cdg : Value} {j k kk i1 i2 : Nat} {p1 p2 p3 p4 p5 p6 p7 p8 p9 p10 p11 p12 p13 p14 p15 p16 p17 p18 p19 p20 : Pos}
    (g1 : sg.names.lookup x1 = some .globalImplicit) (m1 : X.mg x1 = some (.ref T1)) (d1 : (x1 == ("__debug__" : Str)) = false) (g2 : sg.names.lookup x2 = some .globalImplicit) (m2 : X.mg x2 = some (.ref T2)) (d2 : (x2 == ("__debug__" : Str)) = false)
    (g3 : sg.names.lookup x3 = some .globalImplicit) (m3 : X.mg x3 = some (.ref T3)) (d3 : (x3 == ("__debug__" : Str)) = false) (gf : sg.names.lookup xf = some .globalImplicit) (mf : X.mg xf = some (.ref ff)) (df : (xf == ("__debug__" : Str)) = false)
    (kf : keepIn X.K (.ref ff) = true) (F : FnS X.prog X.w X.K X.mg X.base k ff fd [yf] (spField X.K fl)) (bf : L2.Binds X.K fd [yf] [])
    (nd : Ng.Nodup) (hN : Ng[1]? = some e) (le : sg.names.lookup e = some .local) (de : (e == ("__debug__" : Str)) = false) (ce : (e == ("__classdict__" : Str)) = false)
    (hrm : ∀ (s : Shared) (b : Addr), RoomH k ((X.A.deeper (envOfC x sg s.heap.objs.size g cdg)).mark (some (.ref b))))
    (h0 : ∀ f : Addr, (L2.start Ng [V.ref f])[0]? = some (some (V.ref f))) (hl : Ng.length = 2) :
    GivesTo X Ng x sg g cdg [.Try [.Return (some (.Tuple [.Constant (.str e0) j p1, .Call (.Name a p2) [] [] p3] i1 p4)) p5]
      [.ExceptHandler (some (.Tuple [.Name x1 p6, .Name x2 p7, .Name x3 p8] kk p9)) (some e) [.Return (some (.Tuple [.Attribute (.Name e p10) "code" p11, .Call (.Name xf p12) [.Name e p13] [] p14] i2 p15)) p16] p17] [] [] p18] a q (TTtry X.K fl T1 T2 T3 e0) := by
  intro f c' s H Q tl act hc h
  let Z : Cx := (cxOf C8.CX0 X.prog X.w X.K X.mg X.base Ng x sg g cdg X.A X.stack s H C8.E0).nox
  refine ⟨_, pss_one (ps_try_as3 (X := Z) (i := 1) (ts := fun a cls d => tRet (tTup (tCons (tCode X.K a cls d (tVar 1)) (tCons (fun σ H Q => tCons (tVar 1) tNil σ H fun vs H1 => spFld X.K fl a cls d vs H1 Q E0) tNil))))
    (tb := fun W D σ H => ∃ Ech : XK, (∀ cls d σ' H', Ech cls d H' → W cls d σ' H') ∧ σ[0]? = some (some (.ref f)) ∧ H c' = some (CodeO c' q) ∧ tl Ech H fun v H1 => 2 ≤ sizeLine ∧ ∀ p, H1 p = none → D.rt (.ref p) (upd H1 p (.tup [.str e0, v])))
    rfl rfl nd hN le g1 m1 d1 g2 m2 d2 g3 m3 d3 (fun W pn xe tk _ => ?_) (fun a oe cls d pn hz hf => ?_)), ?_⟩
  · refine ⟨fun pp sa σ Ha D I hh => ?_⟩
    obtain ⟨Ech, hW, k1, k2, k3⟩ := hh
    have body := pss_one (ps_ret (pos := p5) (pe_tup (x1 := i1) (pos := p4) (pa_cons (pe_str (x := e0) (j := j) (pos := p1)) (pa_cons (act W pn xe Ech p2 p3 tk hW) pa_nil))))
    exact body.run pp sa σ Ha D I ⟨k1, k2, k3⟩
  · have pe1 : PE (Z.suite a ((a, oe) :: pn)) (.Name e p10) (tVar 1) := pe_var (X := Z.suite a ((a, oe) :: pn)) (i := 1) hN (.inl le) de ce
    have pe2 : PE (Z.suite a ((a, oe) :: pn)) (.Name e p13) (tVar 1) := pe_var (X := Z.suite a ((a, oe) :: pn)) (i := 1) hN (.inl le) de ce
    have pe3 := pe_ecode (X := Z.suite a ((a, oe) :: pn)) (d := d) (cls := cls) (a := a) (oe := oe) (pos := p11) List.mem_cons_self hz hf pe1
    have pe5 : PE (Z.suite a ((a, oe) :: pn)) (.Call (.Name xf p12) [.Name e p13] [] p14) (fun σ H Q => tCons (tVar 1) tNil σ H fun vs H1 => spField X.K fl (a, oe) vs H1 Q E0) :=
      pe_callS (X := Z.suite a ((a, oe) :: pn)) (p := (a, oe)) F (hrm s a) List.mem_cons_self gf mf kf bf (pa_cons pe2 pa_nil) df
    have pe4 : PE (Z.suite a ((a, oe) :: pn)) (.Call (.Name xf p12) [.Name e p13] [] p14) (fun σ H Q => tCons (tVar 1) tNil σ H fun vs H1 => spFld X.K fl a cls d vs H1 Q E0) :=
      ⟨fun pins s σ H Q I hh => pe5.run pins s σ H Q I (by
        obtain ⟨v, e1, e2⟩ := hh
        exact ⟨v, e1, cls, d, hz, hf, e2⟩)⟩
    exact pss_one (ps_ret (pe_tup (pa_cons pe3 (pa_cons pe4 pa_nil))))
  · refine ⟨errTold X.K fl T1 T2 T3 Q, fun cls d σ' H' z => ?_, h0 f, hc, h⟩
    obtain ⟨em, C, nm, dd, xs, ws, ec, ed, T, hx, hc0, hw, done⟩ := z
    refine ⟨em, fun b nb lb => ?_⟩
    have at1 : (σ'.set 1 (some (V.ref b)))[1]? = some (some (V.ref b)) := by
      rw [List.getElem?_set_self (by rw [lb]; show 1 < Ng.length; rw [hl]; exact Nat.lt_succ_self 1)]
    refine ⟨C, nm, dd, ec, ed, T, .ref b, at1, rfl, ⟨xs, hx, hc0⟩, .ref b, at1, C, nm, dd, xs, ws, ec, ed, rfl, T, hx, hc0, hw, fun p np => ⟨by rw [sizeLine_eq]; show 2 ≤ _; omega, fun r nr => ?_⟩⟩
    exact done p r np nr
end
end DX

set_option maxHeartbeats 4000000
namespace DX
open PySem PySem.Spec PySem.Calls PyProof.Rows PySem.W L2 LamX DL
variable [DL.Tabs] [DL.Me]

/-! ### the table has grown: the new code objects are known from now on -/
theorem rel_lam2 {K : Frag} {β : Addr} {P : Hp} {σ : L2.St} {H H1 G : Hp} {s : Sta} (R : Rel K β P σ H G s) (eN : ExtN H H1) (tS : ∀ q ∈ Tabs.ts, TabS H1 q.1 q.2) : ∃ G1, Ext G G1 ∧ Rel K β P σ H1 G1 s ∧ ∀ c q, H1 c = some (CodeO c q) → G1 c = some (CodeO c q) := by
  classical
  have cnl : ∀ (p : Addr) (q : Str) (vs : List V), CodeO p q ≠ .lst vs := fun p q vs z => by
    have z' : HO.ext _ = HO.lst vs := z
    cases z'
  let G1 : Hp := fun p => if G p = none ∧ P p = none ∧ ∃ q, H1 p = some (CodeO p q) then H1 p else G p
  have some1 : ∀ {p o}, G p = some o → G1 p = some o := fun {p o} e => by
    show (if _ then _ else _) = _
    rw [if_neg (fun z => by rw [z.1] at e; cases e)]
    exact e
  have none1 : ∀ {p o}, G p = none → G1 p = some o → H1 p = some o ∧ P p = none ∧ ∃ q, o = CodeO p q := fun {p o} g e => by
    have e' : (if G p = none ∧ P p = none ∧ ∃ q, H1 p = some (CodeO p q) then H1 p else G p) = some o := e
    split at e'
    · rename_i c
      obtain ⟨_, c2, q, c3⟩ := c
      rw [c3] at e'
      cases e'
      exact ⟨c3, c2, q, rfl⟩
    · rw [g] at e'
      cases e'
  have stay : ∀ {p}, G p = none → (∀ q, H1 p ≠ some (CodeO p q)) → G1 p = none := fun {p} g h => by
    show (if _ then _ else _) = _
    rw [if_neg (fun z => z.2.2.elim fun q hq => h q hq)]
    exact g
  have xx : Ext G G1 := fun p o e => some1 e
  have lst1 : ∀ {p vs}, H p = some (.lst vs) → G p = none → H1 p = some (.lst vs) ∧ G1 p = none := fun {p vs} h g => by
    have h1 := eN p _ h (fun ps z => by cases z)
    exact ⟨h1, stay g fun q z => by rw [h1] at z; exact cnl p q vs (Option.some.inj z).symm⟩
  have noT : ∀ {p ps}, G p ≠ some (.tbl ps) := fun {p ps} => R.nt p ps
  have all : ∀ c q, H1 c = some (CodeO c q) → G1 c = some (CodeO c q) := fun c q e => by
    cases hg : G c with
    | some o =>
      have z := eN c o (R.gh c o hg) (fun ps z => R.nt c ps (by rw [hg, z]))
      rw [e] at z
      rw [some1 hg]
      exact z.symm
    | none =>
      have pn : P c = none := by
        cases hp : P c with
        | none => rfl
        | some o =>
          have h1 := eN c o (R.pr c o hp).1 (R.pt c o hp).1
          rw [e] at h1
          exact absurd (Option.some.inj h1).symm ((R.pt c o hp).2 q)
      show (if _ then _ else _) = _
      rw [if_pos ⟨hg, pn, q, e⟩]
      exact e
  refine ⟨G1, xx, ?_, all⟩
  exact {
    len := R.len
    gh := fun p o e => by
      cases hg : G p with
      | some o' =>
        rw [some1 hg] at e
        cases e
        exact eN p o (R.gh p o hg) (fun ps z => R.nt p ps (by rw [hg, z]))
      | none => exact (none1 hg e).1
    pr := fun p o e => by
      obtain ⟨h1, h2⟩ := R.pr p o e
      refine ⟨eN p o h1 (R.pt p o e).1, ?_⟩
      cases g : G1 p with
      | none => rfl
      | some o' =>
        have := (none1 h2 g).2.1
        rw [e] at this
        cases this
    pb := R.pb
    bag := by
      obtain ⟨us, h1, h2, h3⟩ := R.bag
      obtain ⟨k1, k2⟩ := lst1 h1 h2
      exact ⟨us, k1, k2, IsL.mono xx _ _ h3⟩
    dat := fun j d e => by
      obtain ⟨v, h1, h2⟩ := R.dat j d e
      exact ⟨v, h1, IsD.mono xx _ _ h2⟩
    own := fun j l e => by
      obtain ⟨p, vs, h1, h2, h3, h4, h5, h6⟩ := R.own j l e
      obtain ⟨k1, k2⟩ := lst1 h2 h3
      exact ⟨p, vs, h1, k1, k2, h4, h5, IsL.mono xx _ _ h6⟩
    dj := R.dj
    obj := fun j c0 ks l e => by
      obtain ⟨p, C, dx, vs, h1, h0, h2, h3, h4, h5, h6⟩ := R.obj j c0 ks l e
      have g1 := eN p _ h2 (fun ps z => by cases z)
      exact ⟨p, C, dx, vs, h1, h0, g1, stay h3 (fun q z => by
        rw [g1] at z
        exact nx_ins.2 q (Option.some.inj z)), h4, h5, IsL.mono xx _ _ h6⟩
    oj := R.oj
    fns := fun i l q e => (R.fns i l q e).mono xx
    tabs := fun q hq => by
      obtain ⟨t0, ga, np⟩ := R.tabs q hq
      obtain ⟨ps, k1, k2, k3⟩ := tS q hq
      refine ⟨⟨ps, k1, k2, fun pos cv hc => ?_⟩, ?_, np⟩
      · obtain ⟨c, c1, c2⟩ := k3 pos cv hc
        refine ⟨c, c1, ?_⟩
        cases hg : G c with
        | some o =>
          rw [some1 hg]
          have := eN c o (R.gh c o hg) (fun ps z => R.nt c ps (by rw [hg, z]))
          rw [c2] at this
          exact this.symm
        | none =>
          have pn : P c = none := by
            cases e : P c with
            | none => rfl
            | some o =>
              have h1 := eN c o (R.pr c o e).1 (R.pt c o e).1
              rw [c2] at h1
              exact absurd (Option.some.inj h1).symm ((R.pt c o e).2 q.2)
          show (if _ then _ else _) = _
          rw [if_pos ⟨hg, pn, q.2, c2⟩]
          exact c2
      · refine stay ga fun r z => ?_
        rw [k1] at z
        exact codeO_ne ps (Option.some.inj z).symm
    nt := fun p ps e => by
      cases hg : G p with
      | some o =>
        rw [some1 hg] at e
        exact R.nt p ps (by rw [hg, e])
      | none =>
        obtain ⟨_, _, q, z⟩ := none1 hg e
        exact codeO_ne ps z.symm
    pt := R.pt }

theorem rel_lam {K : Frag} {β : Addr} {P : Hp} {σ : L2.St} {H H1 G : Hp} {s : Sta} (R : Rel K β P σ H G s) (eN : ExtN H H1) (tS : ∀ q ∈ Tabs.ts, TabS H1 q.1 q.2) : ∃ G1, Ext G G1 ∧ Rel K β P σ H1 G1 s :=
  let ⟨G1, a, b, _⟩ := rel_lam2 R eN tS
  ⟨G1, a, b⟩

/-! ### data, or an error of that name -/
omit [DL.Me] in
/-- an error: the name of its class, its further fields -/
structure Er where
  nm : Str
  fs : List (Str × Dt)
omit [DL.Me] in
abbrev DMX := Sta → Option ((Dt ⊕ Er) × Sta)
omit [DL.Me] in
/-- the dict of such an error stands at dd -/
def xdOk (K : Frag) (β : Addr) (G : Hp) (dd : Addr) (er : Er) : Prop := ∃ xs : List (Str × V), G dd = some (.xd xs) ∧ List.lookup ("code" : Str) xs = some (V.str er.nm) ∧ ∀ p ∈ er.fs, ∃ v, xs.lookup p.1 = some v ∧ IsD K β G p.2 v
omit [DL.Me] in
/-- what is wished at an error of the name nm -/
def errAt (K : Frag) (β : Addr) (P : Hp) (σ : L2.St) (G : Hp) (s : Sta) (W : XK) (er : Er) : Prop := ∀ C dd H' G', Ext G G' → Rel K β P σ H' G' s → ErrC K C er.nm → xdOk K β G' dd er → W (.ref C) (some dd) H'
omit [DL.Me] in
def tOfX (K : Frag) (f : DMX) (W : XK) : TE := fun σ H Q => ∃ (β : Addr) (P G : Hp) (s : Sta) (r : Dt ⊕ Er) (s' : Sta), Rel K β P σ H G s ∧ f s = some (r, s') ∧ match r with
  | .inl d => ∀ v H' G', Ext G G' → Rel K β P σ H' G' s' → IsD K β G' d v → Q v H'
  | .inr er => errAt K β P σ G s' W er
omit [DL.Me] in
def DEX (X : Cx) (W : XK) (e : Expr) (f : DMX) : Prop := PE X e (tOfX X.K f W)
omit [DL.Me] in
/-- the further field that is told of an error -/
def fldE (fl : List (Str × Str)) (er : Er) : Option (List Dt) := match fl.lookup er.nm with
  | none => some []
  | some f => (er.fs.lookup f).map fun d => [d]
omit [DL.Me] in
def mTry (fl : List (Str × Str)) (e0 : Str) (f : DMX) : DM Dt := fun s => (f s).bind fun p => match p.1 with
  | .inl d => some (.tup [.str e0, d], p.2)
  | .inr er => (fldE fl er).bind fun ds => some (.tup [.str er.nm, .tup ds], p.2)
theorem fld_is {K : Frag} {β : Addr} {G : Hp} {fl : List (Str × Str)} {er : Er} {ds : List Dt} {xs : List (Str × V)} (e : fldE fl er = some ds) (h : ∀ p ∈ er.fs, ∃ v, xs.lookup p.1 = some v ∧ IsD K β G p.2 v) : ∃ ws, fldV fl er.nm xs = some ws ∧ IsL K β G ds ws := by
  unfold fldE at e
  unfold fldV
  cases hq : fl.lookup er.nm with
  | none =>
    rw [hq] at e
    cases e
    exact ⟨[], rfl, isl_nil.mpr rfl⟩
  | some f =>
    rw [hq] at e
    obtain ⟨d, hd, ed⟩ := Option.map_eq_some_iff.mp e
    cases ed
    obtain ⟨v, hv, iv⟩ := h (f, d) (PySem.mem_of_lookup hd)
    exact ⟨[v], by show (xs.lookup f).map _ = _; rw [show xs.lookup f = some v from hv]; rfl, isl_cons.mpr ⟨v, [], rfl, iv, isl_nil.mpr rfl⟩⟩
theorem te_try {fl : List (Str × Str)} {K : Frag} {T1 T2 T3 : Addr} {e0 : Str} {f : DMX} (hT : ∀ C nm, ErrC K C nm → exmAny K (.ref C) [.ref T1, .ref T2, .ref T3] = some true) :
    TEok K (tLam Tabs.ts (TTtry K fl T1 T2 T3 e0) (fun E => tOfX K f E)) (mTry fl e0 f) := by
  intro β P σ H G s d s' R e Q k
  unfold mTry at e
  obtain ⟨⟨r, s1⟩, e1, e⟩ := Option.bind_eq_some_iff.mp e
  refine ⟨fun q hq => ?_, fun H1 eN tS => ?_⟩
  · obtain ⟨⟨ps, t1, t2, t3⟩, ga, np⟩ := R.tabs q hq
    refine ⟨ps, t1, t2, fun pos cv hc => ?_⟩
    obtain ⟨c, c1, c2⟩ := t3 pos cv hc
    exact ⟨c, c1, R.gh c _ c2⟩
  · obtain ⟨G1, x1, R1⟩ := rel_lam R eN fun q hq => tS q hq
    refine ⟨β, P, G1, s, r, s1, R1, e1, ?_⟩
    cases r with
    | inl d0 =>
      cases e
      intro v H2 G2 x2 R2 i2
      refine ⟨by rw [sizeLine_eq]; omega, fun p hp => ?_⟩
      have xn := Ext.new (o := HO.tup [.str e0, v]) (R2.free hp)
      exact k _ _ _ ((x1.trans x2).trans xn) (R2.new hp) (is_tup.mpr ⟨p, _, rfl, .inl (.inl upd_same), isl_cons.mpr ⟨_, _, rfl, is_str.mpr rfl, isl_cons.mpr ⟨v, _, rfl, IsD.mono xn _ _ i2, isl_nil.mpr rfl⟩⟩⟩)
    | inr er =>
      obtain ⟨ds, e2, e⟩ := Option.bind_eq_some_iff.mp e
      cases e
      intro C dd H2 G2 x2 R2 ec g2
      obtain ⟨xs, g3, g4, g5⟩ := g2
      obtain ⟨ws, w1, w2⟩ := fld_is e2 g5
      refine ⟨hT C er.nm ec, C, er.nm, dd, xs, ws, rfl, rfl, ec, R2.gh dd _ g3, g4, w1, fun p r hp hr => ?_⟩
      have R3 := R2.new (o := .tup ws) hp
      have x3 := Ext.new (o := HO.tup ws) (R2.free hp)
      have x4 := Ext.new (o := HO.tup [.str er.nm, .ref p]) (R3.free hr)
      have R4 := R3.new (o := .tup [.str er.nm, .ref p]) hr
      refine k _ _ _ (((x1.trans x2).trans x3).trans x4) R4 (is_tup.mpr ⟨r, _, rfl, .inl (.inl upd_same), isl_cons.mpr ⟨_, _, rfl, is_str.mpr rfl, isl_cons.mpr ⟨.ref p, _, rfl, IsD.mono x4 _ _ (is_tup.mpr ⟨p, ws, rfl, .inl (.inl upd_same), IsL.mono x3 _ _ w2⟩), isl_nil.mpr rfl⟩⟩⟩)
end DX

set_option maxHeartbeats 4000000
namespace DX
open PySem PySem.Spec PySem.Calls PyProof.Rows PySem.W L2 DL
variable [DL.Tabs] [DL.Me]

/-! ### defs that may raise -/
omit [DL.Me] in
abbrev FDX := List Dt → List Dt → Option ((Dt ⊕ Er) × List Dt)
omit [DL.Me] in
def spX (K : Frag) (n : Nat) (F : FDX) : Sp := fun vs H Q E => ∃ (β : Addr) (P G : Hp) (ds bg : List Dt) (r : Dt ⊕ Er) (bg' : List Dt), vs.length = n ∧ IsL K β G ds vs ∧ Rel K β P [] H G ⟨[], bg⟩ ∧ F ds bg = some (r, bg') ∧ match r with
  | .inl d => ∀ v H' G', Ext G G' → Rel K β P [] H' G' ⟨[], bg'⟩ → IsD K β G' d v → Q v H'
  | .inr nm => errAt K β P [] G ⟨[], bg'⟩ E nm
omit [DL.Me] in
def mAppX (F : FDX) (f : DM (List Dt)) : DMX := fun s => (f s).bind fun p => (F p.1 p.2.bag).bind fun q => some (q.1, { p.2 with bag := q.2 })
omit [DL.Me] in
def mVal (f : DM Dt) : DMX := fun s => (f s).bind fun p => some (.inl p.1, p.2)
section
variable {X : Cx} {W : XK}
theorem dex_val {e : Expr} {f : DM Dt} (h : DE X e f) : DEX X W e (mVal f) := by
  obtain ⟨t, p, o⟩ := h
  refine ⟨fun pins s σ H Q I k => ?_⟩
  obtain ⟨β, P, G, a, r, a', R, e1, q⟩ := k
  unfold mVal at e1
  obtain ⟨⟨d, s1⟩, e2, e1⟩ := Option.bind_eq_some_iff.mp e1
  cases e1
  exact p.run pins s σ H Q I (o β P σ H G a d s1 R e2 Q q)
theorem dex_call {k : Nat} {f : Addr} {fd : FuncData} {ps : List Str} {n : Nat} {F : FDX} {x : Str} {e : Expr} {es : List Expr} {p pos : Pos} {g : DM (List Dt)} (FF : FnOk X.prog X.w X.K X.mg X.base (L2.CX X.prog X.w) k f fd ps (spX X.K n F)) (hr : Room k X.A) (hg : Gl X x) (hm : X.mg x = some (.ref f))
    (hk : keepIn X.K (.ref f) = true) (hb : L2.Binds X.K fd ps []) (tk : Takes X (fun cls d _ H => W cls d H)) (ha : DA X (e :: es) g) (hn : ∀ s ds s', g s = some (ds, s') → ds.length = n) (hdb : (x == ("__debug__" : Str)) = false := by decide)
    (he : starEach (e :: es) X.env = (false, eval e X.env) :: starEach es X.env := by rfl) (hpl : (backTo pos (starEach es X.env)).any (·.1) = false := by rfl) : DEX X W (.Call (.Name x p) (e :: es) [] pos) (mAppX F g) := by
  obtain ⟨t, p1, o1⟩ := ha
  have pe := pe_call (p := p) (pos := pos) FF hr hg hm hk hb .nil (passes_call (E := W) tk fun _ _ _ _ h => h) p1 hdb he hpl
  refine ⟨fun pins s σ H Q I h => pe.run pins s σ H Q I ?_⟩
  obtain ⟨β, P, G, a, r, a', R, e1, q⟩ := h
  unfold mAppX at e1
  obtain ⟨⟨y, s1⟩, e2, e1⟩ := Option.bind_eq_some_iff.mp e1
  obtain ⟨⟨z, bg'⟩, e3, e1⟩ := Option.bind_eq_some_iff.mp e1
  cases e1
  refine o1 β P σ H G a y s1 R e2 _ fun vs H1 G1 x1 R1 i1 => ?_
  rw [List.append_nil]
  refine ⟨β, shut β H1 G1, G1, y, s1.bag, z, bg', by rw [i1.len]; exact hn _ _ _ e2, i1, R1.callee, e3, ?_⟩
  cases z with
  | inl d => exact fun v H' G' x2 C i => q v H' G' (x1.trans x2) (R1.back x2 C) i
  | inr nm => exact fun C dd H' G' x2 R2 ec gd => q C dd H' G' (x1.trans x2) (R1.back x2 R2) ec gd
end

/-! ### statements -/
omit [DL.Me] in
inductive ResX where
  | nx | bk | ct | rt (d : Dt) | ex (er : Er)
omit [DL.Me] in
abbrev DMsX := Sta → Option (ResX × Sta)
omit [DL.Me] in
def endX (K : Frag) (β : Addr) (P G : Hp) (D : Ends) (W : XK) (r : ResX) (s' : Sta) : Prop := match r with
  | .nx => ∀ σ' H' G', Ext G G' → Rel K β P σ' H' G' s' → D.nx σ' H'
  | .bk => ∀ σ' H' G', Ext G G' → Rel K β P σ' H' G' s' → D.bk σ' H'
  | .ct => ∀ σ' H' G', Ext G G' → Rel K β P σ' H' G' s' → D.ct σ' H'
  | .rt d => ∀ v σ' H' G', Ext G G' → Rel K β P σ' H' G' s' → IsD K β G' d v → D.rt v H'
  | .ex er => ∀ C dd σ' H' G', Ext G G' → Rel K β P σ' H' G' s' → ErrC K C er.nm → xdOk K β G' dd er → W (.ref C) (some dd) H'
theorem endX.mono {K : Frag} {β : Addr} {P G G1 : Hp} {D : Ends} {W : XK} {r : ResX} {s' : Sta} (e : Ext G G1) (h : endX K β P G D W r s') : endX K β P G1 D W r s' := by
  cases r with
  | nx => exact fun σ' H' G' x R => h σ' H' G' (e.trans x) R
  | bk => exact fun σ' H' G' x R => h σ' H' G' (e.trans x) R
  | ct => exact fun σ' H' G' x R => h σ' H' G' (e.trans x) R
  | rt d => exact fun v σ' H' G' x R => h v σ' H' G' (e.trans x) R
  | ex nm => exact fun C dd σ' H' G' x R => h C dd σ' H' G' (e.trans x) R
omit [DL.Me] in
def tsX (K : Frag) (f : DMsX) (W : XK) : TS := fun D σ H => ∃ (β : Addr) (P G : Hp) (s : Sta) (r : ResX) (s' : Sta), Rel K β P σ H G s ∧ f s = some (r, s') ∧ endX K β P G D W r s'
omit [DL.Me] in
def DSX (X : Cx) (W : XK) (st : Stmt) (f : DMsX) : Prop := PS X st (tsX X.K f W)
omit [DL.Me] in
def DSXs (X : Cx) (W : XK) (st : List Stmt) (f : DMsX) : Prop := PSs X st (tsX X.K f W)
omit [DL.Me] in
def toX : Res → ResX
  | .nx => .nx
  | .bk => .bk
  | .ct => .ct
  | .rt d => .rt d
omit [DL.Me] in
def kVal (f : DMs) : DMsX := fun s => (f s).bind fun p => some (toX p.1, p.2)
omit [DL.Me] in
def kSeqX (f g : DMsX) : DMsX := fun s => (f s).bind fun p => match p.1 with
  | .nx => g p.2
  | r => some (r, p.2)
omit [DL.Me] in
def kIfX (c : DM Bool) (f g : DMsX) : DMsX := fun s => (c s).bind fun p => if p.1 = true then f p.2 else g p.2
omit [DL.Me] in
def kRetX (f : DMX) : DMsX := fun s => (f s).bind fun p => match p.1 with
  | .inl d => some (.rt d, p.2)
  | .inr nm => some (.ex nm, p.2)
omit [DL.Me] in
def kAsgX (i : Nat) (f : DMX) : DMsX := fun s => (f s).bind fun p => match p.1 with
  | .inl d => some (.nx, { p.2 with sl := p.2.sl.set i (some (.dat d)) })
  | .inr nm => some (.ex nm, p.2)
omit [DL.Me] in
/-- a target of any form -/
def kAsgG (f : DMX) (h : Dt → Sta → Option Sta) : DMsX := fun s => (f s).bind fun p => match p.1 with
  | .inl d => (h d p.2).bind fun s' => some (.nx, s')
  | .inr nm => some (.ex nm, p.2)
omit [DL.Me] in
def kDropX (f : DMX) : DMsX := fun s => (f s).bind fun p => match p.1 with
  | .inl _ => some (.nx, p.2)
  | .inr nm => some (.ex nm, p.2)
omit [DL.Me] in
def kRaise (nm : Str) : DMsX := fun s => some (.ex ⟨nm, []⟩, s)
section
variable {X : Cx} {W : XK}
theorem dsx_val {st : Stmt} {f : DMs} (h : DS X st f) : DSX X W st (kVal f) := by
  obtain ⟨t, p, o⟩ := h
  refine ⟨fun pins s σ H D I k => p.run pins s σ H D I ?_⟩
  obtain ⟨β, P, G, a, r, a', R, e1, q⟩ := k
  unfold kVal at e1
  obtain ⟨⟨y, s1⟩, e2, e1⟩ := Option.bind_eq_some_iff.mp e1
  cases e1
  refine o β P σ H G a y s1 R e2 D ?_
  cases y <;> exact q
theorem dssx_val {st : List Stmt} {f : DMs} (h : DSs X st f) : DSXs X W st (kVal f) := by
  obtain ⟨t, p, o⟩ := h
  refine ⟨fun pins s σ H D I k => p.run pins s σ H D I ?_⟩
  obtain ⟨β, P, G, a, r, a', R, e1, q⟩ := k
  unfold kVal at e1
  obtain ⟨⟨y, s1⟩, e2, e1⟩ := Option.bind_eq_some_iff.mp e1
  cases e1
  refine o β P σ H G a y s1 R e2 D ?_
  cases y <;> exact q
theorem dssx_one {st : Stmt} {f : DMsX} (h : DSX X W st f) : DSXs X W [st] f := pss_one h
theorem dssx_cons {st : Stmt} {rest : List Stmt} {f g : DMsX} (h1 : DSX X W st f) (h2 : DSXs X W rest g) : DSXs X W (st :: rest) (kSeqX f g) := by
  have p := pss_cons h1 h2
  refine ⟨fun pins s σ H D I k => p.run pins s σ H D I ?_⟩
  obtain ⟨β, P, G, a, r, a', R, e1, q⟩ := k
  unfold kSeqX at e1
  obtain ⟨⟨y, s1⟩, e2, e1⟩ := Option.bind_eq_some_iff.mp e1
  refine ⟨β, P, G, a, y, s1, R, e2, ?_⟩
  cases y with
  | nx => exact fun σ1 H1 G1 x1 R1 => ⟨β, P, G1, s1, r, a', R1, e1, q.mono x1⟩
  | bk => cases e1; exact q
  | ct => cases e1; exact q
  | rt d => cases e1; exact q
  | ex nm => cases e1; exact q
theorem dsx_if {c : Expr} {a b : List Stmt} {fc : DM Bool} {f g : DMsX} {pos : Pos} (hc : DT X c fc) (ha : DSXs X W a f) (hb : DSXs X W b g) : DSX X W (.If c a b pos) (kIfX fc f g) := by
  obtain ⟨t, p, o⟩ := hc
  have p2 := ps_if (pos := pos) p ha hb
  refine ⟨fun pins s σ H D I k => p2.run pins s σ H D I ?_⟩
  obtain ⟨β, P, G, z, r, z', R, e1, q⟩ := k
  unfold kIfX at e1
  obtain ⟨⟨y, s1⟩, e2, e1⟩ := Option.bind_eq_some_iff.mp e1
  refine o β P σ H G z y s1 R e2 _ fun H1 G1 x1 R1 => ?_
  cases y with
  | true =>
    rw [if_pos rfl] at e1 ⊢
    exact ⟨β, P, G1, s1, r, z', R1, e1, q.mono x1⟩
  | false =>
    rw [if_neg Bool.false_ne_true] at e1 ⊢
    exact ⟨β, P, G1, s1, r, z', R1, e1, q.mono x1⟩
theorem dsx_ret {e : Expr} {f : DMX} {pos : Pos} (h : DEX X W e f) : DSX X W (.Return (some e) pos) (kRetX f) := by
  have p := ps_ret (pos := pos) h
  refine ⟨fun pins s σ H D I k => p.run pins s σ H D I ?_⟩
  obtain ⟨β, P, G, z, r, z', R, e1, q⟩ := k
  unfold kRetX at e1
  obtain ⟨⟨y, s1⟩, e2, e1⟩ := Option.bind_eq_some_iff.mp e1
  refine ⟨β, P, G, z, y, s1, R, e2, ?_⟩
  cases y with
  | inl d => cases e1; exact fun v H' G' x R' i => q v σ H' G' x R' i
  | inr nm => cases e1; exact fun C dd H' G' x R' ec gd => q C dd σ H' G' x R' ec gd
theorem dsx_set {i : Nat} {x : Str} {e : Expr} {f : DMX} {pos' pos : Pos} (hN : X.N.Nodup) (hi : X.N[i]? = some x) (hx : Loc X.env.scope x) (h : DEX X W e f) (hs : swapsWith e (some (.Name x pos')) pos.line X.env = pure false := by rfl)
    (hf : X.fn x = true ∨ X.env.scope.names.lookup x = some .local := by first | exact .inl rfl | exact .inr rfl | assumption) : DSX X W (.Assign [.Name x pos'] e pos) (kAsgX i f) := by
  have p := ps_set (pos' := pos') (pos := pos) hN hi hx h hs hf
  refine ⟨fun pins s σ H D I k => p.run pins s σ H D I ?_⟩
  obtain ⟨β, P, G, z, r, z', R, e1, q⟩ := k
  unfold kAsgX at e1
  obtain ⟨⟨y, s1⟩, e2, e1⟩ := Option.bind_eq_some_iff.mp e1
  refine ⟨β, P, G, z, y, s1, R, e2, ?_⟩
  cases y with
  | inl d => cases e1; exact fun v H' G' x R' i => q _ H' G' x (R'.set i)
  | inr nm => cases e1; exact fun C dd H' G' x R' ec gd => q C dd σ H' G' x R' ec gd
theorem dsx_asg {tg e : Expr} {f : DMX} {is : List Nat} {h : Dt → Sta → Option Sta} {pos : Pos} (he : DEX X W e f) (hg : DG X tg is h) (hs : swapsWithSole [tg] e pos.line X.env = pure false := by rfl) (hw : swappedStores [tg] e X.env = pure none := by rfl)
    (h1 : (assignEach [tg] X.env).map (·.2) = [assign tg X.env] := by rfl) : DSX X W (.Assign [tg] e pos) (kAsgG f h) := by
  obtain ⟨g, p2, o2⟩ := hg
  have p := ps_asg (pos := pos) he p2 hs hw h1
  refine ⟨fun pins s σ H D I k => p.run pins s σ H D I ?_⟩
  obtain ⟨β, P, G, z, r, z', R, e1, q⟩ := k
  unfold kAsgG at e1
  obtain ⟨⟨y, s1⟩, e2, e1⟩ := Option.bind_eq_some_iff.mp e1
  refine ⟨β, P, G, z, y, s1, R, e2, ?_⟩
  cases y with
  | inl d =>
    obtain ⟨s2, e3, e1⟩ := Option.bind_eq_some_iff.mp e1
    cases e1
    exact fun v H' G' x R' i => o2 β P σ H' G' s1 d v z' R' i e3 _ fun σ2 H2 G2 x2 R2 _ _ => q σ2 H2 G2 (x.trans x2) R2
  | inr nm => cases e1; exact fun C dd H' G' x R' ec gd => q C dd σ H' G' x R' ec gd
theorem dsx_expr {e : Expr} {f : DMX} {pos : Pos} (h : DEX X W e f) (hs : swapsWith e none pos.line X.env = pure false := by rfl) : DSX X W (.Expr e pos) (kDropX f) := by
  have p := ps_expr (pos := pos) h hs
  refine ⟨fun pins s σ H D I k => p.run pins s σ H D I ?_⟩
  obtain ⟨β, P, G, z, r, z', R, e1, q⟩ := k
  unfold kDropX at e1
  obtain ⟨⟨y, s1⟩, e2, e1⟩ := Option.bind_eq_some_iff.mp e1
  refine ⟨β, P, G, z, y, s1, R, e2, ?_⟩
  cases y with
  | inl d => cases e1; exact fun v H' G' x R' i => q σ H' G' x R'
  | inr nm => cases e1; exact fun C dd H' G' x R' ec gd => q C dd σ H' G' x R' ec gd
theorem dsx_raise {CX : CXT} {nm x : Str} {C fI : Addr} {k : Nat} {fd : FuncData} {p p2 pos : Pos} (hc : X.calm = true) (tk : Takes X (fun cls d _ H => W cls d H)) (T : ErrC X.K C nm) (iC : findIn X.K (.ref C) "__init__" = some (some (.ref fI))) (tI : typeIn X.K (.ref fI) = some (.type "function"))
    (F1 : FnOk X.prog X.w X.K X.mg X.base CX k fI fd ["self"] (spInit X.K)) (hr : Room (k + 1) X.A) (hb : L2.Binds X.K fd ["self"] []) (hx : Passes CX X (fun _ _ _ => False)) (hg : Gl X x) (hm : X.mg x = some (.ref C))
    (hdb : (x == ("__debug__" : Str)) = false := by decide) : DSX X W (.Raise (some (.Call (.Name x p) [] [] p2)) none pos) (kRaise nm) := by
  have pr := ps_raise (pos := pos) hc tk (pmk_err0 (p := p) (pos := p2) T iC tI F1 hr hb hx hg hm hdb)
  refine ⟨fun pins s σ H D I k => pr.run pins s σ H D I ?_⟩
  obtain ⟨β, P, G, z, r, z', R, e1, q⟩ := k
  cases e1
  intro d hd
  exact q C d σ _ _ (Ext.new (R.free hd)) (R.new hd) T ⟨_, upd_same, by rfl, fun p hp => nomatch hp⟩
end

/-! ### a def -/
omit [DL.Me] in
def fnDX (n : Nat) (f : DMsX) : FDX := fun ds bg => (f ⟨ds.map (fun d => some (.dat d)) ++ List.replicate (n - ds.length) none, bg⟩).bind fun p => match p.1 with
  | .rt d => some (.inl d, p.2.bag)
  | .nx => some (.inl .non, p.2.bag)
  | .ex nm => some (.inr nm, p.2.bag)
  | _ => none
section
variable {P : Program} {w : World} {K : Frag} {mg : Str → Option Value} {base : Heap}
theorem fnx_ok {x qual : Str} {st : Stmt} {f : Addr} {fd : FuncData} {N ps : List Str} {k n : Nat} {g : DMsX} (F : Fun K x qual st f fd) (S : FnScope N ps (defScope st)) (hn : ps.length = n := by rfl)
    (hb : ∀ (cdv : Value) (A : Around) (outer : List Env) (s : Shared) (H : Hp) (E : XK), Room k (A.deeper (envOfC qual (defScope st) s.heap.objs.size f cdv)) → Takes (cxOf (L2.CX P w) P w K mg base N qual (defScope st) f cdv A outer s H E) (fun cls d _ H => E cls d H) →
      DSXs (cxOf (L2.CX P w) P w K mg base N qual (defScope st) f cdv A outer s H E) E (defBody st) g) : FnOk P w K mg base (L2.CX P w) (k + 1) f fd ps (spX K n (fnDX N.length g)) := by
  refine F.okX S (fun vs H Q E h => ?_) (fun cdv A outer s H vs Q E hr h => ?_)
  · obtain ⟨β, P, G, ds, bg, r, bg', h, _⟩ := h
    rw [hn]
    exact h
  · obtain ⟨β, PP, G, ds, bg, r, bg', hl, i, R, e, q⟩ := h
    refine ⟨_, hb cdv A outer s H E hr (takes_of rfl rfl rfl rfl), ?_⟩
    unfold fnDX at e
    obtain ⟨⟨res, s'⟩, e1, e⟩ := Option.bind_eq_some_iff.mp e
    refine ⟨β, PP, G, _, res, s', rel_start i R, e1, ?_⟩
    cases res with
    | nx =>
      cases e
      exact fun σ' H' G' x R' => q .non H' G' x R'.leave (is_non.mpr rfl)
    | rt d =>
      cases e
      exact fun v σ' H' G' x R' iv => q v H' G' x R'.leave iv
    | ex nm =>
      cases e
      exact fun C dd σ' H' G' x R' ec gd => q C dd H' G' x R'.leave ec gd
    | bk => cases e
    | ct => cases e
end
end DX

set_option maxHeartbeats 4000000
namespace DX
open PySem PySem.Spec PySem.Calls PyProof.Rows PySem.W L2 LamX DL
variable [DL.Tabs] [DL.Me]

/-! ### the law's try(lambda: ..) -/
section
variable {X : Cx}
theorem de_try {fl : List (Str × Str)} {T1 T2 T3 g c Pt : Addr} {x a e0 : Str} {k : Nat} {pg : Arguments} {bg : List Stmt} {sg : Scope} {dV kV doc pm cdv ct oc : Value} {an od : Option Addr} {osl : Array (Option Value)} {Ng : List Str} {params : Arguments} {body : Expr} {scope : Scope} {f : DMX} {p lpos pos : Pos}
    (hT : ∀ C nm, ErrC X.K C nm → exmAny X.K (.ref C) [.ref T1, .ref T2, .ref T3] = some true) (hg : Gl X x) (hm : X.mg x = some (.ref g)) (hk : keepIn X.K (.ref g) = true)
    (lk : X.K.lookup g = some ⟨oc, od, .func (fnOf x x pg bg sg dV kV doc pm an cdv ct), osl⟩) (hcg : codeIn X.K cdv x = true) (hb : L2.Binds X.K (fnOf x x pg bg sg dV kV doc pm an cdv ct) [a] []) (Sg : FnScope Ng [a] sg) (hNg : Ng[0]? = some a) (hva : Vis sg a)
    (hG : GivesTo X Ng x sg g cdv bg a (X.env.qual ++ "<lambda>") (TTtry X.K fl T1 T2 T3 e0)) (hmT : (Pt, X.env.qual ++ "<lambda>") ∈ Tabs.ts) (TB : TabB X.base X.mg c Pt) (hcode : X.env.code = .ref c) (hr : Room (k + 2) X.A) (L : LamS X.env.scope scope) (hdef : defaultsOf params X.env = ([], []))
    (hbind : ∀ (q : Str) (cl : List (Str × Addr)) (pm cv ctv : Value), bindArgs (kla_fn "<lambda>" q params body scope cl pm cv ctv) ⟨[], []⟩ = pure [])
    (hbody : ∀ (A : Around) (outer : List Env) (s : Shared) (H : Hp) (E : XK) (fa c' : Addr), Room k (A.deeper (lamEnv X scope s.heap.objs.size fa c')) → DEX (lamCx X A outer s H E scope fa c') E body f)
    (hdb : (x == ("__debug__" : Str)) = false := by decide) (hd : (a == ("__debug__" : Str)) = false := by decide) (hcd : (a == ("__classdict__" : Str)) = false := by decide) :
    DE X (.Call (.Name x p) [.Lambda params body scope lpos] [] pos) (mTry fl e0 f) :=
  ⟨_, pe_lamcall (T := Tabs.ts) (t := fun E => tOfX X.K f E) hg hm hk lk hcg hb Sg hNg hva hG TB hcode hmT (fun p hp e => Tabs.uq p hp _ hmT e) hr L hdef hbind hbody hdb hd hcd, te_try hT⟩
end

end DX

set_option maxHeartbeats 4000000
namespace DX
open PySem PySem.Spec PySem.Calls PyProof.Rows PySem.W L2 DL
variable [DL.Tabs] [DL.Me]

/-! ### for, in a def that may raise -/
omit [DL.Me] in
def loopX (h : Dt → Sta → Option Sta) (b : DMsX) : List Dt → DMsX
  | [], s => some (.nx, s)
  | d :: r, s => (h d s).bind fun s1 => (b s1).bind fun p => match p.1 with
    | .nx => loopX h b r p.2
    | .ct => loopX h b r p.2
    | .bk => some (.nx, p.2)
    | .rt v => some (.rt v, p.2)
    | .ex nm => some (.ex nm, p.2)
omit [DL.Me] in
def kForX (f : DM (List Dt)) (h : Dt → Sta → Option Sta) (b : DMsX) : DMsX := fun s => (f s).bind fun p => loopX h b p.1 p.2
omit [DL.Me] in
def whileX (c : DM Bool) (b : DMsX) : Nat → DMsX
  | 0, _ => none
  | n + 1, s => (c s).bind fun p => if p.1 = true then (b p.2).bind fun q => match q.1 with
      | .nx => whileX c b n q.2
      | .ct => whileX c b n q.2
      | .bk => some (.nx, q.2)
      | .rt d => some (.rt d, q.2)
      | .ex nm => some (.ex nm, q.2)
    else some (.nx, p.2)
section
variable {X : Cx} {W : XK}
theorem dsx_for {tg iter : Expr} {body : List Stmt} {f : DM (List Dt)} {is : List Nat} {h : Dt → Sta → Option Sta} {b : DMsX} {pos : Pos} (hp : PassesOwn (model X.prog X.w) X.A X.env X.xe) (hc : X.calm = true) (hi : DI X tg iter f) (hg : DG X tg is h) (hb : DSXs X W body b)
    (hs : ∀ x, foldedSetIterable iter X.env x = pure x := by intro _; rfl) : DSX X W (.For tg iter body [] pos) (kForX f h b) := by
  obtain ⟨wi, p1, o1⟩ := hi
  obtain ⟨g, p2, o2⟩ := hg
  have pf := ps_for (pos := pos) hp hc p1 p2 hb hs
  refine ⟨fun pins s0 σ H D I kk => pf.run pins s0 σ H D I ?_⟩
  obtain ⟨β, P, G, s, r, s', R, e, k⟩ := kk
  unfold kForX at e
  obtain ⟨⟨l, s1⟩, e1, e⟩ := Option.bind_eq_some_iff.mp e
  refine o1 β P σ H G s l s1 R e1 _ fun J H1 G1 Gd Y x1 R1 wk hG hY => ?_
  refine for_it wk (fun i σ2 H2 => ∃ G2 s2, Ext G1 G2 ∧ Rel X.K β P σ2 H2 G2 s2 ∧ loopX h b (l.drop i) s2 = some (r, s')) ⟨G1, s1, Ext.refl G1, R1, e⟩ (fun i σ2 H2 hi ⟨G2, s2, x2, R2, _⟩ => hG H2 G2 x2 R2.gh) ?_ ?_
  · rintro i x σ2 H2 H3 hi ⟨G2, s2, x2, R2, e2⟩ y
    have hd : l[i]? = some l[i] := List.getElem?_eq_getElem hi
    obtain ⟨G3, x3, R3, i3⟩ := hY i l[i] H2 x H3 P σ2 G2 s2 hd x2 R2 y
    rw [List.drop_eq_getElem_cons hi] at e2
    unfold loopX at e2
    obtain ⟨s3, e3, e2⟩ := Option.bind_eq_some_iff.mp e2
    obtain ⟨⟨res, s4⟩, e4, e2⟩ := Option.bind_eq_some_iff.mp e2
    refine o2 β P σ2 H3 G3 s2 l[i] x s3 R3 i3 e3 _ fun σ4 H4 G4 x4 R4 _ _ => ?_
    refine ⟨β, P, G4, s3, res, s4, R4, e4, ?_⟩
    have xx := ((x1.trans x2).trans x3).trans x4
    cases res with
    | nx => exact fun σ5 H5 G5 x5 R5 => ⟨G5, s4, ((x2.trans x3).trans x4).trans x5, R5, e2⟩
    | ct => exact fun σ5 H5 G5 x5 R5 => ⟨G5, s4, ((x2.trans x3).trans x4).trans x5, R5, e2⟩
    | bk => cases e2; exact fun σ5 H5 G5 x5 R5 => k σ5 H5 G5 (xx.trans x5) R5
    | rt d => cases e2; exact fun v σ5 H5 G5 x5 R5 i5 => k v σ5 H5 G5 (xx.trans x5) R5 i5
    | ex nm => cases e2; exact fun C dd σ5 H5 G5 x5 R5 ec gd => k C dd σ5 H5 G5 (xx.trans x5) R5 ec gd
  · rintro σ2 H2 ⟨G2, s2, x2, R2, e2⟩
    rw [List.drop_length] at e2
    cases e2
    exact k σ2 H2 G2 (x1.trans x2) R2
theorem dsx_while {c : Expr} {body : List Stmt} {fc : DM Bool} {b : DMsX} {pos : Pos} (n : Nat) (hp : PassesOwn (model X.prog X.w) X.A X.env X.xe) (hc : DT X c fc) (hb : DSXs X W body b) : DSX X W (.While c body [] pos) (whileX fc b n) := by
  obtain ⟨tc, p1, o1⟩ := hc
  have pw := ps_while (pos := pos) hp p1 hb
  refine ⟨fun pins s0 σ H D I kk => pw.run pins s0 σ H D I ?_⟩
  obtain ⟨β, P, G, s, r, s', R, e, k⟩ := kk
  refine ⟨fun m σ2 H2 => ∃ G2 s2, Ext G G2 ∧ Rel X.K β P σ2 H2 G2 s2 ∧ whileX fc b m s2 = some (r, s'), ⟨n, G, s, Ext.refl G, R, e⟩, ?_⟩
  rintro m σ2 H2 ⟨G2, s2, x2, R2, e2⟩
  cases m with
  | zero => cases e2
  | succ m =>
    unfold whileX at e2
    obtain ⟨⟨bv, s3⟩, e3, e2⟩ := Option.bind_eq_some_iff.mp e2
    refine o1 β P σ2 H2 G2 s2 bv s3 R2 e3 _ fun H3 G3 x3 R3 => ?_
    cases bv with
    | true =>
      rw [if_pos rfl] at e2 ⊢
      obtain ⟨⟨res, s4⟩, e4, e2⟩ := Option.bind_eq_some_iff.mp e2
      refine ⟨fun σ' H' => ∃ G2 s2, Ext G G2 ∧ Rel X.K β P σ' H' G2 s2 ∧ whileX fc b m s2 = some (r, s'), fun σ' H' h => ⟨m, Nat.lt_succ_self m, h⟩, ?_⟩
      refine ⟨β, P, G3, s3, res, s4, R3, e4, ?_⟩
      cases res with
      | nx => exact fun σ5 H5 G5 x5 R5 => ⟨G5, s4, (x2.trans x3).trans x5, R5, e2⟩
      | ct => exact fun σ5 H5 G5 x5 R5 => ⟨G5, s4, (x2.trans x3).trans x5, R5, e2⟩
      | bk => cases e2; exact fun σ5 H5 G5 x5 R5 => k σ5 H5 G5 ((x2.trans x3).trans x5) R5
      | rt d => cases e2; exact fun v σ5 H5 G5 x5 R5 i5 => k v σ5 H5 G5 ((x2.trans x3).trans x5) R5 i5
      | ex nm => cases e2; exact fun C dd σ5 H5 G5 x5 R5 ec gd => k C dd σ5 H5 G5 ((x2.trans x3).trans x5) R5 ec gd
    | false =>
      rw [if_neg Bool.false_ne_true] at e2 ⊢
      cases e2
      exact k σ2 H3 G3 (x2.trans x3) R3
theorem dssx_nil : DSXs X W [] (kVal kSkip) := dssx_val dss_nil
end
end DX

namespace DX
open PySem PySem.Spec PySem.Calls PyProof.Rows PySem.W L2 LamX DL
variable [DL.Tabs] [DL.Me]
variable [DL.Tabs] [DL.Me]

/-! ### arguments of which one may raise -/
omit [DL.Me] in
abbrev DMAX := Sta → Option ((List Dt ⊕ Er) × Sta)
omit [DL.Me] in
def taX (K : Frag) (f : DMAX) (W : XK) : TA := fun σ H Q => ∃ (β : Addr) (P G : Hp) (s : Sta) (r : List Dt ⊕ Er) (s' : Sta), Rel K β P σ H G s ∧ f s = some (r, s') ∧ match r with
  | .inl ds => ∀ vs H' G', Ext G G' → Rel K β P σ H' G' s' → IsL K β G' ds vs → Q vs H'
  | .inr er => errAt K β P σ G s' W er
omit [DL.Me] in
def DAX (X : Cx) (W : XK) (es : List Expr) (f : DMAX) : Prop := PA X es (taX X.K f W)
omit [DL.Me] in
def mValA (f : DM (List Dt)) : DMAX := fun s => (f s).bind fun p => some (.inl p.1, p.2)
omit [DL.Me] in
def mConsX (f : DMX) (g : DMAX) : DMAX := fun s => (f s).bind fun p => match p.1 with
  | .inl d => (g p.2).bind fun q => match q.1 with
    | .inl ds => some (.inl (d :: ds), q.2)
    | .inr er => some (.inr er, q.2)
  | .inr er => some (.inr er, p.2)
omit [DL.Me] in
def mTupX (f : DMAX) : DMX := fun s => (f s).bind fun p => match p.1 with
  | .inl ds => if ds.length ≤ 1000 then some (.inl (.tup ds), p.2) else none
  | .inr er => some (.inr er, p.2)
theorem errAt.mono {K : Frag} {β : Addr} {P : Hp} {σ : L2.St} {G G1 : Hp} {s : Sta} {W : XK} {er : Er} (e : Ext G G1) (h : errAt K β P σ G s W er) : errAt K β P σ G1 s W er := fun C dd H' G' x R => h C dd H' G' (e.trans x) R
section
variable {X : Cx} {W : XK}
theorem dax_of {es : List Expr} {f : DM (List Dt)} (h : DA X es f) : DAX X W es (mValA f) := by
  obtain ⟨t, p, o⟩ := h
  refine ⟨fun pos pins s σ H Q I k => ?_⟩
  obtain ⟨β, P, G, a, r, a', R, e1, q⟩ := k
  unfold mValA at e1
  obtain ⟨⟨ds, s1⟩, e2, e1⟩ := Option.bind_eq_some_iff.mp e1
  cases e1
  exact p.run pos pins s σ H Q I (o β P σ H G a ds s1 R e2 Q q)
theorem dax_cons {e : Expr} {es : List Expr} {f : DMX} {g : DMAX} (h : DEX X W e f) (hr : DAX X W es g) (hs : starEach (e :: es) X.env = (false, eval e X.env) :: starEach es X.env := by rfl) : DAX X W (e :: es) (mConsX f g) := by
  have pc := pa_cons h hr hs
  refine ⟨fun pos pins s σ H Q I k => pc.run pos pins s σ H Q I ?_⟩
  obtain ⟨β, P, G, a, r, a', R, e1, q⟩ := k
  unfold mConsX at e1
  obtain ⟨⟨y, s1⟩, e2, e1⟩ := Option.bind_eq_some_iff.mp e1
  refine ⟨β, P, G, a, y, s1, R, e2, ?_⟩
  cases y with
  | inr er => cases e1; exact q
  | inl d =>
    obtain ⟨⟨z, s2⟩, e3, e1⟩ := Option.bind_eq_some_iff.mp e1
    intro v H1 G1 x1 R1 i1
    refine ⟨β, P, G1, s1, z, s2, R1, e3, ?_⟩
    cases z with
    | inl ds => cases e1; exact fun vs H2 G2 x2 R2 i2 => q _ H2 G2 (x1.trans x2) R2 (isl_cons.mpr ⟨v, vs, rfl, IsD.mono x2 _ _ i1, i2⟩)
    | inr er => cases e1; exact errAt.mono x1 q
theorem dex_tup {es : List Expr} {f : DMAX} {kk : Nat} {pos : Pos} (h : DAX X W es f) : DEX X W (.Tuple es kk pos) (mTupX f) := by
  have pt := pe_tup (x1 := kk) (pos := pos) h
  refine ⟨fun pins s σ H Q I k => pt.run pins s σ H Q I ?_⟩
  obtain ⟨β, P, G, a, r, a', R, e1, q⟩ := k
  unfold mTupX at e1
  obtain ⟨⟨y, s1⟩, e2, e1⟩ := Option.bind_eq_some_iff.mp e1
  refine ⟨β, P, G, a, y, s1, R, e2, ?_⟩
  cases y with
  | inr er => cases e1; exact q
  | inl ds =>
    dsimp only at e1
    split at e1
    · rename_i hl
      cases e1
      intro vs H1 G1 x1 R1 i1
      refine ⟨Nat.le_trans (by rw [i1.len]; exact hl) (by decide), fun p hp => ?_⟩
      have xn := Ext.new (o := HO.tup vs) (R1.free hp)
      exact q _ _ _ (x1.trans xn) (R1.new hp) (is_tup.mpr ⟨p, vs, rfl, .inl (.inl upd_same), IsL.mono xn _ _ i1⟩)
    · cases e1
end

/-! ### an own class of errors, its facts; TableError's __init__ -/
omit [DL.Me] in
/-- what the heap's fixed part says of an own class of errors -/
structure ErrB (K : Frag) (C : Addr) (x : Str) (T1 T2 T3 : Addr) : Prop where
  rd : readsIn K C (.type "type") = true
  fc : findCls K (.ref C) (.type "type") "__name__" = some (.get (.builtin "getset_descriptor.__get__") (.builtin "type.__name__") (.ref C) (.type "type"))
  nm : nameIn K C = some x
  noc : findIn K (.ref C) "code" = some none
  hg : findIn K (.ref C) "__getattribute__" = some (some (.builtin "BaseException.__getattribute__"))
  hk : findIn K (.ref C) "__getattr__" = some none
  hs : subIn K (.ref C) (.type "BaseException") = some true
  hd : hasDictIn K C = true
  ha : findIn K (.ref C) "__class__" = some (some (.builtin "object.__class__"))
  hn : specialIn K (.builtin "object.__class__") "__get__" = some (some (.builtin "getset_descriptor.__get__"))
  ht : takesIn K (.builtin "object.__class__") = some true
  hm : mroIn K C (.type "object") = some true
  sa : findIn K (.ref C) "__setattr__" = some (some (.builtin "object.__setattr__"))
  tyC : typeIn K (.ref C) = some (.type "type")
  kC : keepIn K (.ref C) = true
  am : exmAny K (.ref C) [.ref T1, .ref T2, .ref T3] = some true
  nf : (errFields.all fun f => noField K C f) = true
  ns : subIn K (.ref C) (.type "StopIteration") = some false
theorem ErrB.to {K : Frag} {C : Addr} {x : Str} {T1 T2 T3 : Addr} (B : ErrB K C x T1 T2 T3) (h1 : nsIn K mainGlobals "TableError" = some (some (.ref T1))) (h2 : nsIn K mainGlobals "Missing" = some (some (.ref T2))) (h3 : nsIn K mainGlobals "NothingLeft" = some (some (.ref T3)))
    (hc : ∃ nm q N bs bm sn sub ab col dd k0 k1 k2 k3 k5, K.lookup C = some (excClassObj nm q C N bs bm true sn sub ab col dd k0 k1 k2 k3 k5 "ValueError.__new__") ∧ PySem.HandSPX.refsVE bm = true) : ErrC K C x where
  oex := OexG.of ⟨hc, B.sa, B.hs, B.tyC, B.kC⟩
  exc := ⟨B.hg, B.hk, B.hs, B.hd, B.ha, B.hn, B.ht, B.hm⟩
  rd := B.rd
  fc := B.fc
  nm := B.nm
  noc := B.noc
  nf := B.nf
  ns := B.ns
  ca := fun S1 S2 S3 g1 g2 g3 => by
    rw [h1] at g1
    rw [h2] at g2
    rw [h3] at g3
    cases g1
    cases g2
    cases g3
    exact B.am
/-- over any built-in class -/
theorem ErrB.toG {K : Frag} {C : Addr} {x : Str} {T1 T2 T3 : Addr} (B : ErrB K C x T1 T2 T3) (h1 : nsIn K mainGlobals "TableError" = some (some (.ref T1))) (h2 : nsIn K mainGlobals "Missing" = some (some (.ref T2))) (h3 : nsIn K mainGlobals "NothingLeft" = some (some (.ref T3)))
    (hc : ∃ B newId initId bmB nm q N bs bm sn sub ab col dd k0 k1 k2 k3 k5, ExcBaseFacts B newId initId bmB ∧ StoreFacts B bmB "object.__setattr__" "object" ∧
      K.lookup C = some (excClassObj nm q C N bs bm true sn sub ab col dd k0 k1 k2 k3 k5 newId) ∧ excTail bmB bm = true) : ErrC K C x where
  oex := ⟨hc, B.sa, B.hs, B.tyC, B.kC⟩
  exc := ⟨B.hg, B.hk, B.hs, B.hd, B.ha, B.hn, B.ht, B.hm⟩
  rd := B.rd
  fc := B.fc
  nm := B.nm
  noc := B.noc
  nf := B.nf
  ns := B.ns
  ca := fun S1 S2 S3 g1 g2 g3 => by
    rw [h1] at g1
    rw [h2] at g2
    rw [h3] at g3
    cases g1
    cases g2
    cases g3
    exact B.am
omit [DL.Me] in
/-- the class x at C, its __init__ at fI -/
structure ErrK (K : Frag) (mg : Str → Option Value) (x : Str) (fI : Addr) : Prop where
  ex : ∃ C, mg x = some (.ref C) ∧ ErrC K C x ∧ findIn K (.ref C) "__init__" = some (some (.ref fI)) ∧ typeIn K (.ref fI) = some (.type "function")
section
variable {X : Cx} {W : XK}
theorem dsx_raiseK {x : Str} {fI : Addr} {k : Nat} {fd : FuncData} {p p2 pos : Pos} (T : ErrK X.K X.mg x fI) (tk : Takes X (fun cls d _ H => W cls d H)) (hr : Room (k + 1) X.A)
    (F1 : FnOk X.prog X.w X.K X.mg X.base CX0 k fI fd ["self"] (spInit X.K)) (hb : L2.Binds X.K fd ["self"] []) (hg : Gl X x) (hc : X.calm = true := by rfl) (hdb : (x == ("__debug__" : Str)) = false := by decide) : DSX X W (.Raise (some (.Call (.Name x p) [] [] p2)) none pos) (kRaise x) := by
  obtain ⟨C, m, T, i, t⟩ := T.ex
  exact dsx_raise hc tk T i t F1 hr hb (fun _ _ _ _ _ _ _ h => h.elim) hg m hdb
end

/-! ### a lambda handed to the law's try -/
section
variable {X : Cx}
theorem de_tryF {fl : List (Str × Str)} {T1 T2 T3 g c Pt : Addr} {st : Stmt} {fd : FuncData} {Ng : List Str} {x a e0 : Str} {k : Nat} {params : Arguments} {body : Expr} {scope : Scope} {f : DMX} {p lpos pos : Pos} (F : Fun X.K x x st g fd) (Sg : FnScope Ng [a] (defScope st))
    (h1 : nsIn X.K mainGlobals "TableError" = some (some (.ref T1))) (h2 : nsIn X.K mainGlobals "Missing" = some (some (.ref T2))) (h3 : nsIn X.K mainGlobals "NothingLeft" = some (some (.ref T3)))
    (hg : Gl X x) (hm : X.mg x = some (.ref g)) (hb : L2.Binds X.K fd [a] []) (hNg : Ng[0]? = some a) (hva : Vis (defScope st) a)
    (hG : ∀ cdv : Value, GivesTo X Ng x (defScope st) g cdv (defBody st) a (X.env.qual ++ "<lambda>") (TTtry X.K fl T1 T2 T3 e0)) (hmT : (Pt, X.env.qual ++ "<lambda>") ∈ Tabs.ts) (TB : TabB X.base X.mg c Pt) (hcode : X.env.code = .ref c) (hr : Room (k + 2) X.A) (L : LamS X.env.scope scope) (hdef : defaultsOf params X.env = ([], []))
    (hbind : ∀ (q : Str) (cl : List (Str × Addr)) (pm cv ctv : Value), bindArgs (kla_fn "<lambda>" q params body scope cl pm cv ctv) ⟨[], []⟩ = pure [])
    (hbody : ∀ (A : Around) (outer : List Env) (s : Shared) (H : Hp) (E : XK) (fa c' : Addr), Room k (A.deeper (lamEnv X scope s.heap.objs.size fa c')) → Takes (lamCx X A outer s H E scope fa c') (fun cls d _ H => E cls d H) → DEX (lamCx X A outer s H E scope fa c') E body f)
    (hdb : (x == ("__debug__" : Str)) = false := by decide) (hd : (a == ("__debug__" : Str)) = false := by decide) (hcd : (a == ("__classdict__" : Str)) = false := by decide) :
    DE X (.Call (.Name x p) [.Lambda params body scope lpos] [] pos) (mTry fl e0 f) := by
  obtain ⟨oc, od, kV, doc, pm, an, cdv, ct, osl, rfl, lk, hcg⟩ := F.ex
  exact de_try (fun C nm T => T.ca _ _ _ h1 h2 h3) hg hm F.kp lk hcg hb Sg hNg hva (hG cdv) hmT TB hcode hr L hdef hbind (fun A outer s H E fa c' hr' => hbody A outer s H E fa c' hr' (takes_of rfl rfl rfl rfl)) hdb hd hcd
end
end DX

namespace DX
open PySem PySem.Spec PySem.Calls PyProof.Rows PySem.W L2 LamX DL
open L2H (RoomH)
variable [DL.Tabs] [DL.Me]

omit [DL.Me] in
/-- the table of a code object -/
def tabOf (K : Frag) (c : Addr) : Option Addr := match K.lookup c with
  | some ⟨_, _, .fields vs, _⟩ => (match vs.getD 11 .none with
    | .ref P => some P
    | _ => none)
  | _ => none

/-! ### a def whose code object is known -/
omit [DL.Me] in
structure FunC (K : Frag) (x qual : Str) (st : Stmt) (f : Addr) (fd : FuncData) (c : Addr) : Prop where
  ex : ∃ (oc : Value) (od : Option Addr) (kV doc pm : Value) (an : Option Addr) (ct : Value) (osl : Array (Option Value)),
    fd = fnOf x qual (defArgs st) (defBody st) (defScope st) .none kV doc pm an (.ref c) ct ∧ K.lookup f = some ⟨oc, od, .func fd, osl⟩ ∧ codeIn K (.ref c) qual = true
section
variable {P : Program} {w : World} {K : Frag} {mg : Str → Option Value} {base : Heap}
theorem FunC.ok {x qual : Str} {st : Stmt} {f c : Addr} {fd : FuncData} {N ps : List Str} {k : Nat} {sp : Sp} (F : FunC K x qual st f fd c) (S : FnScope N ps (defScope st)) (len : ∀ vs H Q E, sp vs H Q E → vs.length = ps.length)
    (hbody : ∀ (A : Around) (outer : List Env) (s : Shared) (H : Hp) (vs : List V) (Q : VK) (E : XK), Room k (A.deeper (envOfC qual (defScope st) s.heap.objs.size f (.ref c))) → sp vs H Q E →
      ∃ t, PSs (cxOf L2.CX0 P w K mg base N qual (defScope st) f (.ref c) A outer s H E).nox (defBody st) t ∧ t { nx := fun _ H' => Q .non H', rt := Q } (L2.start N vs) H) : FnOk P w K mg base L2.CX0 (k + 1) f fd ps sp := by
  obtain ⟨oc, od, kV, doc, pm, an, ct, osl, rfl, lk, hcd⟩ := F.ex
  refine fn_of lk hcd S len fun A outer s H vs Q E hr hsp => ?_
  obtain ⟨t, h, q⟩ := hbody A outer s H vs Q E hr hsp
  exact ⟨t, h.nox, q⟩
theorem fn_okC {x qual : Str} {st : Stmt} {f c : Addr} {fd : FuncData} {N ps : List Str} {k n : Nat} {g : DMs} (F : FunC K x qual st f fd c) (S : FnScope N ps (defScope st)) (hn : ps.length = n := by rfl)
    (hb : ∀ (A : Around) (outer : List Env) (s : Shared) (H : Hp) (E : XK), Room k (A.deeper (envOfC qual (defScope st) s.heap.objs.size f (.ref c))) →
      DSs (cxOf L2.CX0 P w K mg base N qual (defScope st) f (.ref c) A outer s H E).nox (defBody st) g) : FnOk P w K mg base L2.CX0 (k + 1) f fd ps (spD K n (fnD N.length g)) := by
  refine F.ok S (fun vs H Q E h => ?_) (fun A outer s H vs Q E hr h => ?_)
  · obtain ⟨β, P, G, ds, bg, r, bg', h, _⟩ := h
    rw [hn]; exact h
  · obtain ⟨β, PP, G, ds, bg, r, bg', hl, i, R, e, q⟩ := h
    obtain ⟨t, p, o⟩ := hb A outer s H E hr
    refine ⟨t, p, ?_⟩
    unfold fnD at e
    obtain ⟨⟨res, s'⟩, e1, e⟩ := Option.bind_eq_some_iff.mp e
    refine o β PP (L2.start N vs) H G _ res s' (rel_start i R) e1 _ ?_
    cases res with
    | nx =>
      cases e
      exact fun σ' H' G' x R' => q .non H' G' x R'.leave (is_non.mpr rfl)
    | rt d =>
      cases e
      exact fun v σ' H' G' x R' iv => q v H' G' x R'.leave iv
    | bk => cases e
    | ct => cases e
/-- _law_field -/
theorem fs_field {x y : Str} {st : Stmt} {f : Addr} {fd : FuncData} {N : List Str} {k : Nat} {fl : List (Str × Str)} (F : Fun K x x st f fd) (S : FnScope N [y] (defScope st)) (B : FieldB y (defBody st) fl) (hN : N[0]? = some y := by rfl) (h0 : ∀ v : V, (L2.start N [v])[0]? = some (some v) := by exact fun _ => rfl)
    (dy : (y == ("__debug__" : Str)) = false := by decide) (cy : (y == ("__classdict__" : Str)) = false := by decide) : FnS P w K mg base (k + 1) f fd [y] (spField K fl) := by
  obtain ⟨oc, od, kV, doc, pm, an, cdv, ct, osl, rfl, lk, hcd⟩ := F.ex
  exact fn_field lk hcd S B hN h0 dy cy
/-- TableError's __init__ -/
theorem ok_init {qual : Str} {st : Stmt} {f : Addr} {fd : FuncData} {N : List Str} {k : Nat} {CX : CXT} {p1 p2 p3 p4 p5 p6 : Pos} (F : Fun K "__init__" qual st f fd) (S : FnScope N ["self"] (defScope st)) (hN : N[0]? = some ("self" : Str)) (hv : Vis (defScope st) "self") (h0 : ∀ v : V, (L2.start N [v])[0]? = some (some v))
    (hb : defBody st = [.Assign [.Attribute (.Name "self" p1) "code" p2] (.Attribute (.Attribute (.Name "self" p3) "__class__" p4) "__name__" p5) p6] := by rfl) : FnOk P w K mg base CX (k + 1) f fd ["self"] (spInit K) := by
  obtain ⟨oc, od, kV, doc, pm, an, cdv, ct, osl, rfl, lk, hcd⟩ := F.ex
  rw [hb] at lk ⊢
  exact fn_init0 lk hcd S hN hv h0
end
theorem room_mark {A : Around} {k : Nat} {env : Env} {b : Option Value} (hr : Room (k + 1) A) : RoomH k ((A.deeper env).mark b) := ⟨(hr.deeper env).dp, (hr.deeper env).un⟩

/-! ### in a def that may raise, where a token is out -/
section
variable {X : Cx} {W : XK}
omit [DL.Me] in
def DSXsT (X : Cx) (W : XK) (st : List Stmt) (f : DMsX) : Prop := PSsT X st (tsX X.K f W)
theorem dssxT_of {st : List Stmt} {f : DMsX} (h : DSXs X W st f) : DSXsT X W st f := PSsT.of h
theorem tsX_seq {f g : DMsX} {D : Ends} {σ : L2.St} {H : Hp} (k : tsX X.K (kSeqX f g) W D σ H) : tSeq (tsX X.K f W) (tsX X.K g W) D σ H := by
  obtain ⟨β, P, G, a, r, a', R, e1, q⟩ := k
  unfold kSeqX at e1
  obtain ⟨⟨y, s1⟩, e2, e1⟩ := Option.bind_eq_some_iff.mp e1
  refine ⟨β, P, G, a, y, s1, R, e2, ?_⟩
  cases y with
  | nx => exact fun σ1 H1 G1 x1 R1 => ⟨β, P, G1, s1, r, a', R1, e1, q.mono x1⟩
  | bk => cases e1; exact q
  | ct => cases e1; exact q
  | rt d => cases e1; exact q
  | ex nm => cases e1; exact q
theorem dssxT_cons {st : Stmt} {rest : List Stmt} {f g : DMsX} (h1 : DSX X W st f) (h2 : DSXsT X W rest g) : DSXsT X W (st :: rest) (kSeqX f g) := by
  intro pins s σ H D h0 I k
  exact psst_cons (PST.of h1) h2 pins s σ H D h0 I (tsX_seq k)
theorem dssxT_set {i : Nat} {x : Str} {e : Expr} {f : DM Dt} {rest : List Stmt} {g : DMsX} {pos' pos : Pos} (hN : X.N.Nodup) (hi : X.N[i]? = some x) (hx : Loc X.env.scope x) (he : DET X e f) (hr : DSXsT X W rest g) (hs : swapsWith e (some (.Name x pos')) pos.line X.env = pure false := by rfl)
    (hf : X.fn x = true ∨ X.env.scope.names.lookup x = some .local := by first | exact .inl rfl | exact .inr rfl | assumption) : DSXsT X W (.Assign [.Name x pos'] e pos :: rest) (kSeqX (kVal (kAsg f (hName i))) g) := by
  obtain ⟨t, p, o⟩ := he
  intro pins s σ H D h0 I k
  refine psst_cons (pst_set (pos' := pos') (pos := pos) hN hi hx p hs hf) hr pins s σ H D h0 I ?_
  obtain ⟨β, P, G, a, y, s1, R, e2, q⟩ := tsX_seq k
  unfold kVal kAsg at e2
  obtain ⟨⟨r0, s0⟩, e3, e2⟩ := Option.bind_eq_some_iff.mp e2
  obtain ⟨⟨d, s2⟩, e4, e3⟩ := Option.bind_eq_some_iff.mp e3
  obtain ⟨s3, e5, e3⟩ := Option.bind_eq_some_iff.mp e3
  cases e5
  cases e3
  cases e2
  exact o β P σ H G a d s2 R e4 _ fun v H1 G1 x1 R1 i1 => q _ H1 G1 x1 (R1.set i1)
end
section
variable {P : Program} {w : World} {K : Frag} {mg : Str → Option Value} {base : Heap}
theorem fnx_okT {x qual : Str} {st : Stmt} {f : Addr} {fd : FuncData} {N ps : List Str} {k n : Nat} {g : DMsX} (F : Fun K x qual st f fd) (S : FnScope N ps (defScope st)) (hnc : ∀ y ∈ (defScope st).names, y.2 ≠ .cell) (hps : 1 ≤ ps.length) (hn : ps.length = n := by rfl)
    (hb : ∀ (cdv : Value) (A : Around) (outer : List Env) (s : Shared) (H : Hp) (E : XK), Room k (A.deeper (envOfC qual (defScope st) s.heap.objs.size f cdv)) → Takes (cxOf (L2.CX P w) P w K mg base N qual (defScope st) f cdv A outer s H E) (fun cls d _ H => E cls d H) →
      DSXsT (cxOf (L2.CX P w) P w K mg base N qual (defScope st) f cdv A outer s H E) E (defBody st) g) : FnOk P w K mg base (L2.CX P w) (k + 1) f fd ps (spX K n (fnDX N.length g)) := by
  obtain ⟨oc, od, kV, doc, pm, an, cdv, ct, osl, rfl, lk, hcd⟩ := F.ex
  refine fn_ofT lk hcd S hnc hps (fun vs H Q E h => ?_) fun A outer s H vs Q E hr h => ?_
  · obtain ⟨β, P, G, ds, bg, r, bg', h, _⟩ := h
    rw [hn]
    exact h
  · obtain ⟨β, PP, G, ds, bg, r, bg', hl, i, R, e, q⟩ := h
    refine ⟨_, hb cdv A outer s H E hr (takes_of rfl rfl rfl rfl), ?_⟩
    unfold fnDX at e
    obtain ⟨⟨res, s'⟩, e1, e⟩ := Option.bind_eq_some_iff.mp e
    refine ⟨β, PP, G, _, res, s', rel_start i R, e1, ?_⟩
    cases res with
    | nx =>
      cases e
      exact fun σ' H' G' x R' => q .non H' G' x R'.leave (is_non.mpr rfl)
    | rt d =>
      cases e
      exact fun v σ' H' G' x R' iv => q v H' G' x R'.leave iv
    | ex nm =>
      cases e
      exact fun C dd σ' H' G' x R' ec gd => q C dd H' G' x R'.leave ec gd
    | bk => cases e
    | ct => cases e
end
theorem fnx_none {P : Program} {w : World} {K : Frag} {mg : Str → Option Value} {base : Heap} {f : Addr} {fd : FuncData} {ps : List Str} {k n : Nat} (hn : ps.length = n := by rfl) : FnOk P w K mg base (L2.CX P w) k f fd ps (spX K n fun _ _ => none) :=
  ⟨fun vs H Q E h => by obtain ⟨β, P, G, ds, bg, r, bg', h, _⟩ := h; rw [hn]; exact h, fun A outer s H args us vs Q E _ _ _ _ h => by
    obtain ⟨β, P, G, ds, bg, r, bg', _, _, _, e, _⟩ := h
    cases e⟩
end DX

set_option maxHeartbeats 4000000
/-! a list of lambdas, handed on through a def of the law -/
namespace DX
open PySem PySem.Spec PySem.Calls PyProof.Rows PySem.W L2 LamX DL
open L2H (RoomH)
variable [DL.Tabs] [DL.Me]

/-! ### the ground: what stands at a state, without the tracked objects and the frames -/
omit [DL.Me] in
def grd (h : Heap) (H : Hp) (l : List Env) : Heap := hideAll h (trk h H ++ frs l)
section
variable {h : Heap} {H : Hp} {l : List Env} {b : Addr} {o : Obj}
theorem grd_of (e : (grd h H l).get? b = some o) : h.get? b = some o ∧ H b = none ∧ b ∉ frs l := by
  have e1 := of_hideAll _ e
  have nin : b ∉ trk h H ++ frs l := fun z => by
    have q := hideAll_none (h := h) _ z
    unfold grd at e
    rw [q] at e
    cases e
  refine ⟨e1, ?_, fun z => nin (List.mem_append_right _ z)⟩
  cases q : H b with
  | none => rfl
  | some x => exact absurd (List.mem_append_left _ (List.mem_filter.mpr ⟨List.mem_range.mpr (Heap.lt_size e1), by simp [q]⟩)) nin
theorem grd_in (e : h.get? b = some o) (n : H b = none) (f : b ∉ frs l) : (grd h H l).get? b = some o := hideAll_get _ e fun z => by
  rcases List.mem_append.mp z with z | z
  · have q := (List.mem_filter.mp z).2
    rw [n] at q
    cases q
  · exact f z
end
section
variable {X : Cx} {pins : List (Addr × Obj)} {σ : L2.St} {H : Hp} {s : Shared}
theorem grd_base (I : Inv X pins σ H s) : ∀ b o, X.base.get? b = some o → (grd s.heap H X.stack).get? b = some o := fun b o e => by
  obtain ⟨h1, h2⟩ := I.bs b o e
  refine grd_in h1 h2 fun z => ?_
  rcases List.mem_cons.mp (I.stkSub b z) with q | q
  · have k : X.base.objs.size ≤ X.env.locals := Nat.le_trans I.ok.bsz I.ok.above
    rw [← q] at k
    exact Nat.lt_irrefl _ (Nat.lt_of_lt_of_le (Heap.lt_size e) k)
  · exact I.ok.nofr e q
theorem frs_in : ∀ {l : List Env} {e : Env} {a : Addr}, e ∈ l → e.frame = some a → a ∈ frs l := fun {l e a} h k => List.mem_filterMap.mpr ⟨e, h, k⟩
theorem grd_env0 (I : Inv X pins σ H s) : Env0 X.prog X.w X.K X.mg (grd s.heap H X.stack) X.A X.stack s H := by
  have k := grd_base I
  have M := I.ok.mod
  exact {
    frames := I.ok.frames
    mod := { kin := M.kin.keeps k, glob := M.glob.keeps k, blt := (let ⟨mb, n1, n2⟩ := M.blt; ⟨mb, n1.keeps k, n2⟩), nolimit := M.nolimit.keeps k }
    bs := fun b o e => ⟨(grd_of e).1, (grd_of e).2.1⟩
    bsz := Nat.le_of_eq (hideAll_size _ _)
    funs := funFrames_hide I.stack fun env he a ha => List.mem_append_right _ (frs_in he ha)
    frf := I.stkFree
    hok := I.hok
    bare := I.bare }
end

/-! ### a lambda made -/
omit [DL.Me] in
abbrev lamFn (X : Cx) (params : Arguments) (body : Expr) (scope : Scope) (dV doc pm : Value) (c' : Addr) (ctv : Value) : FuncData :=
  kdv_fn "<lambda>" (X.env.qual ++ "<lambda>") params (.expr body) scope (cloFrom X.env.cells scope.names []) dV doc pm (.ref c') ctv
omit [DL.Me] in
abbrev lamOb (X : Cx) (params : Arguments) (body : Expr) (scope : Scope) (dV doc pm : Value) (c' : Addr) (ctv : Value) : Obj :=
  { cls := .type "function", data := .func (lamFn X params body scope dV doc pm c' ctv) }
omit [DL.Me] in
def Sub (g g' : Heap) : Prop := ∀ b o, g.get? b = some o → g'.get? b = some o
theorem Sub.refl (g : Heap) : Sub g g := fun _ _ e => e
theorem Sub.trans {a b c : Heap} (x : Sub a b) (y : Sub b c) : Sub a c := fun p o e => y p o (x p o e)
omit [DL.Me] in
/-- it lives in the ground g; called without arguments it binds names of its own alone -/
def Lv (X : Cx) (g : Heap) (params : Arguments) (body : Expr) (scope : Scope) (f c' : Addr) : Prop :=
  ∃ dV doc pm ctv bs, ∃ l : List (Addr × Obj), g.get? f = some (lamOb X params body scope dV doc pm c' ctv) ∧ (∀ y ∈ bs, scope.names.lookup y.1 = some .local) ∧ (∀ p ∈ l, g.get? p.1 = some p.2 ∧ ∀ v, p.2.data ≠ .cell v) ∧
    ∀ s : Shared, (∀ p ∈ l, s.heap.get? p.1 = some p.2) → BindsTo s (lamFn X params body scope dV doc pm c' ctv) ⟨[], []⟩ bs
theorem Lv.mono {X : Cx} {g g' : Heap} {params : Arguments} {body : Expr} {scope : Scope} {f c' : Addr} (h : Lv X g params body scope f c') (e : Sub g g') : Lv X g' params body scope f c' := by
  obtain ⟨dV, doc, pm, ctv, bs, l, h1, h2, h4, h3⟩ := h
  exact ⟨dV, doc, pm, ctv, bs, l, e _ _ h1, h2, fun p hp => ⟨e _ _ (h4 p hp).1, (h4 p hp).2⟩, h3⟩
section
variable {X : Cx} {pins : List (Addr × Obj)} {σ : L2.St} {H : Hp} {s : Shared}
/-- new at the heap's end -/
theorem nof (I : Inv X pins σ H s) {f : Addr} (hf : s.heap.objs.size ≤ f) : f ∉ frs X.stack := fun z => by
  rcases List.mem_cons.mp (I.stkSub _ z) with e | e
  · have q := I.lt
    rw [← e] at q
    exact Nat.lt_irrefl _ (Nat.lt_of_lt_of_le q hf)
  · exact I.nofs hf e
theorem tail_made {T : List (Addr × Str)} {c Pt : Addr} {params : Arguments} {body : Expr} {scope : Scope} {pos : Pos} {dV : Value} {E Q : Value → Shared → Prop} (I : Inv X pins σ H s) (TB : TabB X.base X.mg c Pt) (hcode : X.env.code = .ref c)
    (hm : (Pt, X.env.qual ++ "<lambda>") ∈ T) (hu : ∀ p ∈ T, p.1 = Pt → p.2 = X.env.qual ++ "<lambda>") (hT : LamX.Tabs T H) (hfree : ∀ y ∈ scope.names, y.2 = .free → ∃ c, X.env.cells.lookup y.1 = some c)
    (h : ∀ (f c' : Addr) (doc pm ctv : Value) (H1 : Hp) (s' : Shared), Inv X pins σ H1 s' → ExtN H H1 → LamX.Tabs T H1 → Sub (grd s.heap H X.stack) (grd s'.heap H1 X.stack) →
      (grd s'.heap H1 X.stack).get? f = some (lamOb X params body scope dV doc pm c' ctv) → H1 c' = some (CodeO c' (X.env.qual ++ "<lambda>")) → Q (.ref f) s') :
    wpAny (model X.prog X.w) X.A (makeTail "<lambda>" (X.env.qual ++ "<lambda>") params (.expr body) scope X.env dV .none .none pos pos.line) Q E s := by
  obtain ⟨ps, hP, ht, ha⟩ := hT _ hm
  have bP := TB.bm.keeps I.bk
  have hP' := I.hok Pt _ hP
  have stay : ∀ {b o}, (grd s.heap H X.stack).get? b = some o → b ≠ Pt := fun {b o} e z => by
    have q := (grd_of e).2.1
    rw [z, hP] at q
    cases q
  cases hc : codeAmong pos ps.toList with
  | none =>
    refine kdv_makeTail (mg := X.mg) (closure_ok hfree) I.ok.glob (I.mod.glob.keeps I.bk) hcode (TB.code.keeps I.bk) hP' ht hc TB.gP bP fun c' ctv doc h' tk hx hge hlt hrec htb => ?_
    obtain ⟨c2, oc, vs, t, e2, hoc, hd, hv⟩ := hrec
    obtain rfl : c' = c2 := by cases e2; rfl
    have hsz : s.heap.objs.size ≤ h'.objs.size := Nat.le_of_lt (Nat.lt_of_le_of_lt hge hlt)
    have nC : H c' = none := I.hok.fresh hge
    generalize hO : lamOb X params body scope dV doc ((X.mg "__name__").getD .none) c' ctv = O
    have I1 := inv_table (t' := tk) (more := #[rawInt pos.line, rawInt pos.col, .ref c']) (h' := h'.push O) I hP (fun b o hb e => Heap.get?_push_of_some _ (hx b o hb e)) (Heap.get?_push_of_some _ htb) hge ⟨oc, vs, t, Heap.get?_push_of_some _ hoc, hd, hv⟩
    generalize hH1 : upd (upd H Pt (.tbl (ps ++ #[rawInt pos.line, rawInt pos.col, .ref c']))) c' (CodeO c' (X.env.qual ++ "<lambda>")) = H1 at I1
    have at1 : ∀ {b}, b ≠ Pt → b ≠ c' → H1 b = H b := fun {b} n1 n2 => by rw [← hH1, upd_ne n2, upd_ne n1]
    have atC : H1 c' = some (CodeO c' (X.env.qual ++ "<lambda>")) := by rw [← hH1, upd_same]
    have nPc : Pt ≠ c' := ne_of_none hP nC
    have atP : H1 Pt = some (.tbl (ps ++ #[rawInt pos.line, rawInt pos.col, .ref c'])) := by rw [← hH1, upd_ne nPc, upd_same]
    have eN : ExtN H H1 := fun b o e n => by
      rw [at1 (fun z => ?_) (ne_of_none e nC)]
      · exact e
      · rw [z, hP] at e
        exact n ps (Option.some.inj e).symm
    have nf : H1 h'.objs.size = none := by
      rw [at1 (fun z => ?_) (Nat.ne_of_gt hlt)]
      · exact I.hok.fresh hsz
      · have q := Heap.lt_size hP'
        rw [← z] at q
        exact Nat.lt_irrefl _ (Nat.lt_of_lt_of_le q hsz)
    have eL : (ps ++ #[rawInt pos.line, rawInt pos.col, .ref c']).toList = ps.toList ++ [rawInt pos.line, rawInt pos.col, .ref c'] := by simp
    show Q (.ref h'.objs.size) { s with heap := h'.push (lamOb X params body scope dV doc ((X.mg "__name__").getD .none) c' ctv), toks := tk }
    rw [hO]
    refine h h'.objs.size c' doc ((X.mg "__name__").getD .none) ctv H1 _ I1 eN (fun p hp => ?_) (fun b o e => ?_) ?_ atC
    · by_cases hb : p.1 = Pt
      · rw [hu p hp hb, hb]
        refine ⟨_, atP, by rw [eL]; exact PySem.TriplesOk_snoc _ _ _ _ ht, fun p' cv hcv => ?_⟩
        rw [eL] at hcv
        rcases among_app _ ht hcv with z | z
        · obtain ⟨c0, e1, e2⟩ := ha p' cv z
          exact ⟨c0, e1, eN _ _ e2 codeO_ne⟩
        · exact ⟨c', z, atC⟩
      · obtain ⟨ps', a1, a2, a3⟩ := hT p hp
        refine ⟨ps', (at1 hb (ne_of_none a1 nC)).trans a1, a2, fun p' cv hcv => ?_⟩
        obtain ⟨c0, e1, e2⟩ := a3 p' cv hcv
        exact ⟨c0, e1, eN _ _ e2 codeO_ne⟩
    · obtain ⟨g1, g2, g3⟩ := grd_of e
      have n1 := stay e
      have n2 : b ≠ c' := Nat.ne_of_lt (Nat.lt_of_lt_of_le (Heap.lt_size g1) hge)
      exact grd_in (Heap.get?_push_of_some _ (hx b o n1 g1)) ((at1 n1 n2).trans g2) g3
    · rw [← hO]
      exact grd_in (Heap.get?_push_size _ rfl) nf (nof I hsz)
  | some cv =>
    obtain ⟨c', e, hco⟩ := ha pos cv hc
    subst e
    refine kdv_makeTailHit (mg := X.mg) (closure_ok hfree) I.ok.glob (I.mod.glob.keeps I.bk) hcode (TB.code.keeps I.bk) hP' ht hc bP fun ctv doc h' tk hx hsz => ?_
    generalize hO : lamOb X params body scope dV doc ((X.mg "__name__").getD .none) c' ctv = O
    have I1 : Inv X pins σ H { s with heap := h'.push O, toks := tk } := I.kept fun b o e => Heap.get?_push_of_some _ (hx b o e)
    show Q (.ref h'.objs.size) { s with heap := h'.push (lamOb X params body scope dV doc ((X.mg "__name__").getD .none) c' ctv), toks := tk }
    rw [hO]
    refine h h'.objs.size c' doc ((X.mg "__name__").getD .none) ctv H _ I1 (ExtN.refl H) hT (fun b o e => ?_) ?_ hco
    · obtain ⟨g1, g2, g3⟩ := grd_of e
      exact grd_in (Heap.get?_push_of_some _ (hx b o g1)) g2 g3
    · rw [← hO]
      exact grd_in (Heap.get?_push_size _ rfl) (I.hok.fresh hsz) (nof I hsz)
end
omit [DL.Me] in
/-- the expression makes such a lambda -/
def Makes (X : Cx) (T : List (Addr × Str)) (e : Expr) (params : Arguments) (body : Expr) (scope : Scope) : Prop :=
  ∀ (pins : List (Addr × Obj)) (σ : L2.St) (H : Hp) (s : Shared) (Q E : Value → Shared → Prop), Inv X pins σ H s → LamX.Tabs T H →
    (∀ (f c' : Addr) (H1 : Hp) (s' : Shared), Inv X pins σ H1 s' → ExtN H H1 → LamX.Tabs T H1 → Sub (grd s.heap H X.stack) (grd s'.heap H1 X.stack) → Lv X (grd s'.heap H1 X.stack) params body scope f c' → H1 c' = some (CodeO c' (X.env.qual ++ "<lambda>")) → Q (.ref f) s') →
    wpAny (model X.prog X.w) X.A (eval e X.env) Q E s
section
variable {X : Cx} {T : List (Addr × Str)} {c Pt : Addr} {params : Arguments} {body : Expr} {scope : Scope} {pos : Pos}
theorem makes_plain (TB : TabB X.base X.mg c Pt) (hcode : X.env.code = .ref c) (hm : (Pt, X.env.qual ++ "<lambda>") ∈ T) (hu : ∀ p ∈ T, p.1 = Pt → p.2 = X.env.qual ++ "<lambda>") (hfree : X.Ok → ∀ y ∈ scope.names, y.2 = .free → ∃ c, X.env.cells.lookup y.1 = some c)
    (hdef : defaultsOf params X.env = ([], [])) (hbind : ∀ (q : Str) (cl : List (Str × Addr)) (doc pm cv ctv : Value), bindArgs (kdv_fn "<lambda>" q params (.expr body) scope cl .none doc pm cv ctv) ⟨[], []⟩ = pure []) :
    Makes X T (.Lambda params body scope pos) params body scope := by
  intro pins σ H s Q E I hT h
  refine kla_eval hdef ?_
  rw [makeFunction_eq]
  simp only [List.zip_nil_right, List.filterMap_nil, List.isEmpty_nil, if_true, pure_bind]
  exact tail_made I TB hcode hm hu hT (hfree I.ok) fun f c' doc pm ctv H1 s' I1 x1 t1 k1 g1 c1 => h f c' H1 s' I1 x1 t1 k1 ⟨.none, doc, pm, ctv, [], [], g1, (by intro y z; cases z), (by intro y z; cases z), fun _ _ => BindsTo.of_eq (hbind _ _ _ _ _ _)⟩ c1
/-- one parameter with a whole number for a default -/
theorem makes_int {y : Str} {i : Int} {j : Nat} {p : Pos} (TB : TabB X.base X.mg c Pt) (hcode : X.env.code = .ref c) (hm : (Pt, X.env.qual ++ "<lambda>") ∈ T) (hu : ∀ p ∈ T, p.1 = Pt → p.2 = X.env.qual ++ "<lambda>") (hfree : X.Ok → ∀ y ∈ scope.names, y.2 = .free → ∃ c, X.env.cells.lookup y.1 = some c)
    (hd : params.defaults = [.Constant (.int i) j p]) (hk : params.kw_defaults = []) (hy : scope.names.lookup y = some .local)
    (hbind : ∀ (t : Addr) (q : Str) (cl : List (Str × Addr)) (doc pm cv ctv : Value), ∃ k : Option (Array Value) → Sem (List (Str × Value)), bindArgs (kdv_fn "<lambda>" q params (.expr body) scope cl (.ref t) doc pm cv ctv) ⟨[], []⟩ = seqItems? (.ref t) >>= k ∧ ∀ u, k (some #[u]) = pure [(y, u)]) :
    Makes X T (.Lambda params body scope pos) params body scope := by
  intro pins σ H s Q E I hT h
  refine kdv_lam (by rw [hd]; rfl) hk ?_
  rw [hd]
  refine kdv_all1 (wpAny_Constant_int (kdv_all0 ?_))
  rw [makeFunction_eq]
  simp only [List.zip_nil_right, List.filterMap_nil, List.isEmpty_nil, List.isEmpty_cons, Bool.false_eq_true, if_false, if_true, pure_bind]
  refine wpAny_bind (wpAny_newTextTuple ?_)
  have kp : ∀ b o, s.heap.get? b = some o → (s.heap.push (kdv_tup [.int i s.toks])).get? b = some o := fun b o e => Heap.get?_push_of_some _ e
  have I2 : Inv X pins σ H { s with heap := s.heap.push (kdv_tup [.int i s.toks]), toks := s.toks + 1 } := (I.tok (s.toks + 1)).kept kp
  refine tail_made I2 TB hcode hm hu hT (hfree I.ok) fun f c' doc pm ctv H1 s' I3 x1 t1 k1 g1 c1 => ?_
  have here : (grd s'.heap H1 X.stack).get? s.heap.objs.size = some (kdv_tup [.int i s.toks]) := k1 _ _ (grd_in (Heap.get?_push_size _ rfl) (I.hok.fresh (Nat.le_refl _)) (nof I (Nat.le_refl _)))
  refine h f c' H1 s' I3 x1 t1 (Sub.trans (fun b o e => ?_) k1) ⟨.ref s.heap.objs.size, doc, pm, ctv, [(y, .int i s.toks)], [(s.heap.objs.size, kdv_tup [.int i s.toks])], g1, ?_, (fun p hp => by rw [List.mem_singleton.mp hp]; exact ⟨here, fun v z => by cases z⟩), fun s0 k0 => ?_⟩ c1
  · obtain ⟨e1, e2, e3⟩ := grd_of e
    exact grd_in (kp _ _ e1) e2 e3
  · intro z hz
    rw [List.mem_singleton.mp hz]
    exact hy
  · obtain ⟨k, b1, b2⟩ := hbind s.heap.objs.size (X.env.qual ++ "<lambda>") (cloFrom X.env.cells scope.names []) doc pm (.ref c') ctv
    exact BindsTo.of_defaults (T := s.heap.objs.size) rfl (k0 _ List.mem_cons_self) rfl b1 (b2 _)
end

/-! ### the lambda entered from deeper down -/
omit [DL.Me] in
/-- names of its own stand in no slot of the maker -/
structure LamS2 (N : List Str) (sc scope : Scope) : Prop where
  kind : scope.kind = .function
  co : scope.isCoroutine = false
  gen : scope.isGenerator = false
  cell : ∀ y ∈ scope.names, y.2 ≠ .cell
  own : ∀ y ∈ scope.names, y.2 = .local → y.1 ∉ N
  free : ∀ y ∈ scope.names, y.2 = .free → sc.names.lookup y.1 = some .cell ∨ sc.names.lookup y.1 = some .free
omit [DL.Me] in
def lamSB2 (N : List Str) (sc scope : Scope) : Bool :=
  decide (scope.kind = .function) && !scope.isCoroutine && !scope.isGenerator && scope.names.all fun y => !decide (y.2 = .cell) && (!decide (y.2 = .local) || !N.contains y.1) && (!decide (y.2 = .free) || decide (sc.names.lookup y.1 = some .cell) || decide (sc.names.lookup y.1 = some .free))
theorem lamS2_by {N : List Str} {sc scope : Scope} (h : lamSB2 N sc scope = true) : LamS2 N sc scope := by
  unfold lamSB2 at h
  simp only [Bool.and_eq_true, Bool.or_eq_true, Bool.not_eq_true', decide_eq_true_eq, decide_eq_false_iff_not, List.all_eq_true] at h
  obtain ⟨⟨⟨h1, h2⟩, h3⟩, h4⟩ := h
  refine ⟨h1, h2, h3, fun y hy => (h4 y hy).1.1, fun y hy e m => ?_, fun y hy e => ?_⟩
  · rcases (h4 y hy).1.2 with q | q
    · exact q e
    · rw [List.contains_iff_mem.mpr m] at q
      cases q
  · rcases (h4 y hy).2 with (q | q) | q
    · exact absurd e q
    · exact .inl q
    · exact .inr q
omit [DL.Me] in
/-- what the lambda's body sees of its maker, in the ground -/
structure Snap (X : Cx) (g : Heap) (σ : L2.St) (scope : Scope) : Prop where
  len : σ.length = X.N.length
  cells : ∀ y c, X.env.cells.lookup y = some c → ∃ v, g.IsCell c v
  vals : ∀ (i : Nat) (y : Str) (v : V), X.N[i]? = some y → σ[i]? = some (some v) → scope.names.lookup y = some .free → ∃ u c, RelV v u ∧ X.env.cells.lookup y = some c ∧ g.IsCell c (some u)
theorem LamS2.has {X : Cx} {scope : Scope} (L : LamS2 X.N X.env.scope scope) (ok : X.Ok) : ∀ y ∈ scope.names, y.2 = .free → ∃ c, X.env.cells.lookup y.1 = some c := fun y hy e => ok.has _ (L.free y hy e)
section
variable {X : Cx} {pins : List (Addr × Obj)} {σ : L2.St} {H : Hp} {s : Shared} {scope : Scope}
theorem snap_of (I : Inv X pins σ H s) (L : LamS2 X.N X.env.scope scope) (hfn : ∀ y, X.fn y = true) : Snap X (grd s.heap H X.stack) σ scope := by
  have inG : ∀ {y c v}, X.env.cells.lookup y = some c → s.heap.IsCell c v → (grd s.heap H X.stack).IsCell c v := fun {y c v} e ⟨o, h1, h2⟩ => by
    refine ⟨o, grd_in h1 (I.freeC y c e) fun z => ?_, h2⟩
    rcases List.mem_cons.mp (I.stkSub _ z) with q | q
    · exact I.cne y c e q
    · obtain ⟨_, o', h3, _⟩ := I.ok.funs.mem q
      exact Nat.lt_irrefl _ (Nat.lt_of_lt_of_le (Heap.lt_size h3) (I.ok.cab y c (hfn y) e))
  refine ⟨I.len, fun y c e => ?_, fun i y v e1 e2 e3 => ?_⟩
  · obtain ⟨v, z⟩ := I.cell y c e
    exact ⟨v, inG e z⟩
  · obtain ⟨m, _, hl⟩ := I.loc
    have hy := L.free _ (PySem.mem_of_lookup e3) rfl
    obtain ⟨u, r, q⟩ := hl i y v e1 e2 (.inr hy)
    rcases q with ⟨k, _⟩ | ⟨_, c, e, z⟩
    · have k' : X.env.scope.names.lookup y = some .local := k
      rcases hy with q | q <;> rw [show X.env.scope.names.lookup y = _ from q] at k' <;> cases k'
    · exact ⟨u, c, r, e, inG e z⟩
theorem Snap.mono {g g' : Heap} (S : Snap X g σ scope) (e : Sub g g') : Snap X g' σ scope where
  len := S.len
  cells := fun y c h => let ⟨v, o, h1, h2⟩ := S.cells y c h; ⟨v, o, e _ _ h1, h2⟩
  vals := fun i y v h1 h2 h3 => let ⟨u, c, r, k, o, h4, h5⟩ := S.vals i y v h1 h2 h3; ⟨u, c, r, k, o, e _ _ h4, h5⟩
theorem lam_enter {A : Around} {outer : List Env} {E : XK} {f c' : Addr} {g h₁ : Heap} {tk : Nat} {s1 : Shared} {HZ : Hp} {m : Str → Option Value} (ok : X.Ok) (S : Snap X g σ scope) (L : LamS2 X.N X.env.scope scope)
    (e0 : Env0 X.prog X.w X.K X.mg X.base A outer s1 HZ) (hd : A.handled = none) (gk : ∀ b o, g.get? b = some o → s1.heap.get? b = some o ∧ HZ b = none) (hns : h₁.Ns s1.heap.objs.size m) (kp : Sub s1.heap h₁) :
    Inv (lamCx X A outer s1 HZ E scope f c') [] σ HZ { s1 with heap := h₁, toks := tk } := by
  have hfree := L.has ok
  have cm : ∀ {y c}, (cloFrom X.env.cells scope.names []).lookup y = some c → X.env.cells.lookup y = some c := fun {y c} e => by
    rcases cloFrom_mem (PySem.mem_of_lookup e) with q | ⟨q, q2⟩
    · exact nomatch q
    · obtain ⟨c1, e1⟩ := hfree _ q rfl
      rw [show X.env.cells.lookup y = some c1 from e1] at q2 ⊢
      exact congrArg some q2.symm
  have look : ∀ {y}, scope.names.lookup y = some .free → ∃ c, (cloFrom X.env.cells scope.names []).lookup y = some c := fun {y} hl => mem_lookup (cloFrom_has (cells := X.env.cells) (acc := []) (PySem.mem_of_lookup hl))
  have cellK : ∀ {c : Addr} {v : Option Value}, g.IsCell c v → h₁.IsCell c v := fun {c v} ⟨o, h1, h2⟩ => ⟨o, kp _ _ (gk _ _ h1).1, h2⟩
  have noB : ∀ b : Addr, b ∉ (lamCx X A outer s1 HZ E scope f c').ex := fun b z => nomatch (show b ∈ ([] : List Addr) from z)
  have okL : (lamCx X A outer s1 HZ E scope f c').Ok := {
    mod := e0.mod
    kind := L.kind
    glob := rfl
    blt := rfl
    above := Nat.le_refl _
    inj := fun y z c e1 e2 => ok.inj y z c (cm e1) (cm e2)
    has := fun y hy => by
      have hy' : scope.names.lookup y = some .cell ∨ scope.names.lookup y = some .free := hy
      rcases hy' with q | q
      · exact absurd rfl (L.cell _ (PySem.mem_of_lookup q))
      · exact look q
    cab := fun y c z _ => nomatch (show false = true from z)
    hd := fun _ => hd
    frames := Around.frames_deeper e0.frames
    stk := .inr ⟨rfl, rfl⟩
    exf := fun b z => absurd z (noB b)
    bs := e0.bs
    bsz := e0.bsz
    noex := fun b _ _ => noB b
    exfs := fun b z => absurd z (noB b)
    funs := e0.funs
    frf := e0.frf }
  exact {
    ok := okL
    os := rfl
    bare := e0.bare
    base := Un.kept kp
    loc := ⟨m, hns, fun i y v e1 e2 e3 => by
      have e3' : scope.names.lookup y = some .local ∨ scope.names.lookup y = some .cell ∨ scope.names.lookup y = some .free := e3
      rcases e3' with q | q | q
      · exact absurd (List.mem_of_getElem? e1) (L.own _ (PySem.mem_of_lookup q) rfl)
      · exact absurd rfl (L.cell _ (PySem.mem_of_lookup q))
      · obtain ⟨u, c, r, h1, h2⟩ := S.vals i y v e1 e2 q
        obtain ⟨c2, h3⟩ := look q
        have h4 := cm h3
        rw [h1] at h4
        cases h4
        exact ⟨u, r, .inr ⟨.inr q, c, h3, cellK h2⟩⟩⟩
    cell := fun y c e => let ⟨v, z⟩ := S.cells y c (cm e); ⟨v, cellK z⟩
    free := e0.hok.fresh (Nat.le_refl _)
    freeC := fun y c e => by
      obtain ⟨v, o, h1, h2⟩ := S.cells y c (cm e)
      exact (gk c o h1).2
    pin := fun q hq => nomatch (show q ∈ ([] : List (Addr × Obj)) ++ [] from hq)
    hok := e0.hok.kept kp
    len := S.len }
end

theorem env0_base {P : Program} {w : World} {K : Frag} {mg : Str → Option Value} {g b0 : Heap} {A : Around} {outer : List Env} {s : Shared} {H : Hp} (e0 : Env0 P w K mg g A outer s H) (M : Mod K mg b0) (k : Sub b0 g) (sz : b0.objs.size ≤ g.objs.size) : Env0 P w K mg b0 A outer s H where
  frames := e0.frames
  mod := M
  bs := fun b o e => e0.bs b o (k b o e)
  bsz := Nat.le_trans sz e0.bsz
  funs := by
    have low : ∀ {l : List Env}, s.heap.FunFrames g l → s.heap.FunFrames b0 l := by
      intro l
      induction l with
      | nil => exact fun _ => trivial
      | cons env r ih =>
        rintro ⟨hk, ⟨L, o, hf, hn, ho, hd⟩, hr⟩
        refine ⟨hk, ⟨L, o, hf, ?_, ho, hd⟩, ih hr⟩
        cases q : b0.get? L with
        | none => rfl
        | some u =>
          have := k _ _ q
          rw [hn] at this
          cases this
    exact low e0.funs
  frf := e0.frf
  hok := e0.hok
  bare := e0.bare
section
variable {X : Cx} {σ : L2.St} {scope : Scope}
/-- x(), in a def that got the lambda, however deep it runs: its context stands over the ground g -/
theorem pe_ask {CXg : CXT} {Eg : XK} {Ng stk : List _} {qg : Str} {sg : Scope} {gf f c' : Addr} {g : Heap} {A : Around} {sb : Shared} {Hb : Hp} {cdg : Value} {params : Arguments} {body : Expr} {k i : Nat} {a : Str} {pn : List (Addr × Obj)} {xe : Value → Shared → Prop} {W : WX} {E : XK} {tb : TE} {p1 p2 : Pos}
    (ok : X.Ok) (kb : Sub X.base g) (kz : X.base.objs.size ≤ g.objs.size) (S : Snap X g σ scope) (L : LamS2 X.N X.env.scope scope) (V : Lv X g params body scope f c')
    (tk : Takes ((cxOf CXg X.prog X.w X.K X.mg g Ng qg sg gf cdg A stk sb Hb Eg).tr pn xe) W) (hW : ∀ cls d σ' H', E cls d H' → W cls d σ' H') (hr : Room (k + 1) (A.deeper (envOfC qg sg sb.heap.objs.size gf cdg)))
    (hbody : ∀ (A : Around) (outer : List Env) (s : Shared) (H : Hp), Room k (A.deeper (lamEnv X scope s.heap.objs.size f c')) → PE (lamCx X A outer s H E scope f c') body tb)
    (hN : Ng[i]? = some a) (hv : Vis sg a) (hd : (a == ("__debug__" : Str)) = false := by decide) (hcd : (a == ("__classdict__" : Str)) = false := by decide) :
    PE ((cxOf CXg X.prog X.w X.K X.mg g Ng qg sg gf cdg A stk sb Hb Eg).tr pn xe) (.Call (.Name a p1) [] [] p2)
      (fun σZ HZ Q => σZ[i]? = some (some (.ref f)) ∧ HZ c' = some (CodeO c' (X.env.qual ++ "<lambda>")) ∧ tb σ HZ Q) := by
  refine ⟨fun pinsZ sZ σZ HZ Q IZ h => ?_⟩
  obtain ⟨hs, hc, ht⟩ := h
  refine wpAny_Call_Name_kw (thn ((pe_var (pos := p1) (i := i) hN hv hd hcd).run pinsZ sZ σZ HZ (fun v H1 => v = .ref f ∧ H1 = HZ) IZ ⟨.ref f, hs, rfl, rfl⟩) fun u s1 hu => ?_)
  obtain ⟨v, H1, I1, r1, ev, eH⟩ := hu
  subst ev eH
  obtain rfl : u = Value.ref f := r1
  obtain ⟨dV, doc, pm, ctv, bs, l, v1, v2, v4, v3⟩ := V
  have gk : ∀ b o, g.get? b = some o → s1.heap.get? b = some o ∧ H1 b = none := I1.bs
  have atF := (gk _ _ v1).1
  refine PySem.W.callWith_F0 ⟨_, _, _, _, atF⟩ ?_
  obtain ⟨⟨oc, vs, t, hoc, hdc, hvc⟩, _, _⟩ := I1.hok c' _ hc
  have e1 := env0_base I1.env0 ok.mod kb kz
  have rc : codeAny (model X.prog X.w) (A.deeper (envOfC qg sg sb.heap.objs.size gf cdg)) (.call (.ref f) ⟨[], []⟩) (CR (L2.CX X.prog X.w) (envOfC qg sg sb.heap.objs.size gf cdg :: stk) X.prog X.w H1 s1 Q E) s1 := by
    refine PySem.W.kla_callFunE hr.depth atF rfl L.co L.gen rfl ⟨c', oc, vs, t, rfl, hoc, hdc, hvc⟩ (v3 s1 (fun p hp => (gk _ _ (v4 p hp).1).1) _ _ _ _ ?_)
    refine wpAny_newFunctionEnv L.cell v2 (fun h₁ hns hsb => ⟨I1.nolimit.fresh _ hsb, ?_⟩) L.kind
    show codeAny _ _ (.expr body (lamEnv X scope s1.heap.objs.size f c')) _ _
    have kp : Sub s1.heap h₁ := fun b o e => hsb.extBut b o (Nat.ne_of_lt (Heap.lt_size e)) (Heap.get?_push_of_some _ e)
    have J : Inv (lamCx X (A.deeper (envOfC qg sg sb.heap.objs.size gf cdg)) (envOfC qg sg sb.heap.objs.size gf cdg :: stk) s1 H1 E scope f c') [] σ H1 { s1 with heap := h₁, toks := s1.toks + bs.length } :=
      lam_enter ok S L e1 hr.hd gk hns kp
    refine PySem.W.kla_codeExpr (wpAny_mono ((hbody _ _ s1 H1 (hr.deeper _)).run [] _ _ H1 Q J ht) (fun u s' hq => ?_) fun e s' hq => hq)
    obtain ⟨w', H', J', rv, q⟩ := hq
    exact ⟨w', H', J'.os, J'.bare, J'.base, J'.hok, rv, q⟩
  have hx : Passes (L2.CX X.prog X.w) ((cxOf CXg X.prog X.w X.K X.mg g Ng qg sg gf cdg A stk sb Hb Eg).tr pn xe) E := passes_call tk hW
  refine wpAny_call (codeAny_mono rc fun r s' hq => ?_)
  cases r with
  | error e => exact hx pinsZ σZ H1 s1 e s' I1 hq
  | ok fl =>
    cases fl with
    | ret u => exact I1.after hq
    | next => exact hq.elim
    | brk => exact hq.elim
    | cont => exact hq.elim
end
end DX

set_option maxHeartbeats 4000000
namespace DX
open PySem PySem.Spec PySem.Calls PyProof.Rows PySem.W L2 LamX DL
open L2H (RoomH)
variable [DL.Tabs] [DL.Me]

/-! ### a list display of lambdas -/
omit [DL.Me] in
structure LamR where
  params : Arguments
  body : Expr
  scope : Scope
omit [DL.Me] in
def MakesL (X : Cx) (T : List (Addr × Str)) : List Expr → List LamR → Prop
  | [], [] => True
  | e :: es, r :: rs => Makes X T e r.params r.body r.scope ∧ starEach (e :: es) X.env = (false, eval e X.env) :: starEach es X.env ∧ MakesL X T es rs
  | _, _ => False
omit [DL.Me] in
def LvL (X : Cx) (g : Heap) (H : Hp) : List LamR → List (Addr × Addr) → Prop
  | [], [] => True
  | r :: rs, p :: ps => (Lv X g r.params r.body r.scope p.1 p.2 ∧ H p.2 = some (CodeO p.2 (X.env.qual ++ "<lambda>"))) ∧ LvL X g H rs ps
  | _, _ => False
theorem codeO_tbl {c : Addr} {q : Str} (ps : Array Value) : CodeO c q ≠ .tbl ps := codeO_ne ps
theorem LvL.mono {X : Cx} {g g' : Heap} {H H' : Hp} (e : Sub g g') (n : ExtN H H') : ∀ {rs : List LamR} {ps : List (Addr × Addr)}, LvL X g H rs ps → LvL X g' H' rs ps
  | [], [], _ => trivial
  | r :: rs, p :: ps, h => ⟨⟨h.1.1.mono e, n _ _ h.1.2 codeO_tbl⟩, LvL.mono e n h.2⟩
  | [], _ :: _, h => h.elim
  | _ :: _, [], h => h.elim
theorem LvL.len {X : Cx} {g : Heap} {H : Hp} : ∀ {rs : List LamR} {ps : List (Addr × Addr)}, LvL X g H rs ps → ps.length = rs.length
  | [], [], _ => rfl
  | r :: rs, p :: ps, h => congrArg Nat.succ (LvL.len h.2)
  | [], _ :: _, h => h.elim
  | _ :: _, [], h => h.elim
theorem LvL.get {X : Cx} {g : Heap} {H : Hp} : ∀ {rs : List LamR} {ps : List (Addr × Addr)} {i : Nat} {p : Addr × Addr}, LvL X g H rs ps → ps[i]? = some p → ∃ r, rs[i]? = some r ∧ Lv X g r.params r.body r.scope p.1 p.2
  | r :: rs, p :: ps, 0, p', h, e => by
    simp at e
    subst e
    exact ⟨r, rfl, h.1.1⟩
  | r :: rs, p :: ps, i + 1, p', h, e => by
    obtain ⟨r', e1, e2⟩ := LvL.get (i := i) h.2 (by simpa using e)
    exact ⟨r', by simpa using e1, e2⟩
  | [], [], _, _, _, e => by simp at e
  | [], _ :: _, _, _, h, _ => h.elim
  | _ :: _, [], _, _, h, _ => h.elim
theorem LvL.code {X : Cx} {g : Heap} {H : Hp} : ∀ {rs : List LamR} {ps : List (Addr × Addr)}, LvL X g H rs ps → ∀ p ∈ ps, H p.2 = some (CodeO p.2 (X.env.qual ++ "<lambda>"))
  | [], [], _, p, hp => nomatch hp
  | r :: rs, p :: ps, h, p', hp => by
    rcases List.mem_cons.mp hp with e | e
    · rw [e]; exact h.1.2
    · exact LvL.code h.2 p' e
  | [], _ :: _, h, _, _ => h.elim
  | _ :: _, [], h, _, _ => h.elim
section
variable {X : Cx} {pins : List (Addr × Obj)} {σ : L2.St} {T : List (Addr × Str)} {pos : Pos}
theorem makes_list {E : Value → Shared → Prop} : ∀ {es : List Expr} {rs : List LamR} {H : Hp} {s : Shared} {Q : List Value → Shared → Prop}, MakesL X T es rs → Inv X pins σ H s → LamX.Tabs T H →
    (∀ (ps : List (Addr × Addr)) (H1 : Hp) (s' : Shared), Inv X pins σ H1 s' → ExtN H H1 → LamX.Tabs T H1 → Sub (grd s.heap H X.stack) (grd s'.heap H1 X.stack) → LvL X (grd s'.heap H1 X.stack) H1 rs ps → Q (ps.map fun p => .ref p.1) s') →
    wpAny (model X.prog X.w) X.A (spliced (backTo pos (starEach es X.env))) Q E s
  | [], [], H, s, Q, _, I, hT, h => Calls.spliced_nil (h [] H s I (ExtN.refl H) hT (Sub.refl _) trivial)
  | e :: es, r :: rs, H, s, Q, M, I, hT, h => by
    obtain ⟨m1, m2, m3⟩ := M
    rw [m2]
    show wpAny _ _ (spliced ((false, eval e X.env) :: backTo pos (starEach es X.env))) _ _ s
    refine Calls.spliced_cons (m1 pins σ H s _ _ I hT fun f c' H1 s1 I1 x1 t1 k1 v1 o1 => ?_)
    refine makes_list m3 I1 t1 fun ps H2 s2 I2 x2 t2 k2 v2 => ?_
    exact h ((f, c') :: ps) H2 s2 I2 (x1.trans x2) t2 (k1.trans k2) ⟨⟨v1.mono k2, x2 _ _ o1 codeO_tbl⟩, v2⟩
  | [], _ :: _, _, _, _, M, _, _, _ => M.elim
  | _ :: _, [], _, _, _, M, _, _, _ => M.elim
end

/-! ### x1([lambda: .., ..]), where x1 walks the list and hands each lambda to x2, that calls it -/
omit [DL.Me] in
def teEl (q : Str) (TT : (XK → Hp → VK → Prop) → Hp → VK → Prop) (ts : List (XK → TE)) (ps : List (Addr × Addr)) (σ : L2.St) : TE := fun σY HY Q =>
  ∃ (i : Nat) (p : Addr × Addr) (t : XK → TE), ps[i]? = some p ∧ ts[i]? = some t ∧ σY[1]? = some (some (.ref p.1)) ∧ HY p.2 = some (CodeO p.2 q) ∧ TT (fun E H' Q' => t E σ H' Q') HY Q
omit [DL.Me] in
def tTries (K : Frag) (T : List (Addr × Str)) (q : Str) (n : Nat) (N1 : List Str) (TT : (XK → Hp → VK → Prop) → Hp → VK → Prop) (ts : List (XK → TE)) : TE := fun σ H Q =>
  LamX.Tabs T H ∧ n ≤ sizeLine ∧ ∀ H1, ExtN H H1 → LamX.Tabs T H1 → ∀ ps : List (Addr × Addr), ps.length = n → (∀ p ∈ ps, H1 p.2 = some (CodeO p.2 q)) → ∀ L, H1 L = none →
    tLc (iList K (tVar 0)) (gName 1) tYes (teEl q TT ts ps σ) [1] (L2.start N1 [.ref L]) (upd H1 L (.lst (ps.map fun p => V.ref p.1))) Q
section
variable {X : Cx} {σ : L2.St}
theorem pe_askB {B : Cx} {CXg : CXT} {Eg : XK} {Ng : List Str} {qg : Str} {sg : Scope} {gf f c' : Addr} {sb : Shared} {Hb : Hp} {scope : Scope} {cdg : Value} {params : Arguments} {body : Expr} {k i : Nat} {a : Str} {pn : List (Addr × Obj)} {xe : Value → Shared → Prop} {W : WX} {E : XK} {tb : TE} {p1 p2 : Pos}
    (hp : B.prog = X.prog) (hw : B.w = X.w) (hK : B.K = X.K) (hm : B.mg = X.mg) (ok : X.Ok) (kb : Sub X.base B.base) (kz : X.base.objs.size ≤ B.base.objs.size) (S : Snap X B.base σ scope) (L : LamS2 X.N X.env.scope scope) (V : Lv X B.base params body scope f c')
    (tk : Takes ((cxOf CXg B.prog B.w B.K B.mg B.base Ng qg sg gf cdg B.A B.stack sb Hb Eg).tr pn xe) W) (hW : ∀ cls d σ' H', E cls d H' → W cls d σ' H') (hr : Room (k + 1) (B.A.deeper (envOfC qg sg sb.heap.objs.size gf cdg)))
    (hbody : ∀ (A : Around) (outer : List Env) (s : Shared) (H : Hp), Room k (A.deeper (lamEnv X scope s.heap.objs.size f c')) → PE (lamCx X A outer s H E scope f c') body tb)
    (hN : Ng[i]? = some a) (hv : Vis sg a) (hd : (a == ("__debug__" : Str)) = false) (hcd : (a == ("__classdict__" : Str)) = false) :
    PE ((cxOf CXg B.prog B.w B.K B.mg B.base Ng qg sg gf cdg B.A B.stack sb Hb Eg).tr pn xe) (.Call (.Name a p1) [] [] p2)
      (fun σZ HZ Q => σZ[i]? = some (some (.ref f)) ∧ HZ c' = some (CodeO c' (X.env.qual ++ "<lambda>")) ∧ tb σ HZ Q) := by
  rw [hp, hw, hK, hm] at tk ⊢
  exact pe_ask ok kb kz S L V tk hW hr hbody hN hv hd hcd
theorem pe_elem {B : Cx} {x2 ask a : Str} {g2 : Addr} {st2 : Stmt} {fd2 : FuncData} {Ng : List Str} {rs : List LamR} {ps : List (Addr × Addr)} {k : Nat} {ts : List (XK → TE)} {TT : (XK → Hp → VK → Prop) → Hp → VK → Prop} {p1 p2 p3 : Pos}
    (hp : B.prog = X.prog) (hw : B.w = X.w) (hK : B.K = X.K) (hm : B.mg = X.mg) (ok : X.Ok) (kb : Sub X.base B.base) (kz : X.base.objs.size ≤ B.base.objs.size) {HL : Hp} (V : LvL X B.base HL rs ps) (S : ∀ r ∈ rs, Snap X B.base σ r.scope) (L : ∀ r ∈ rs, LamS2 X.N X.env.scope r.scope)
    (F2 : Fun B.K x2 x2 st2 g2 fd2) (Sc2 : FnScope Ng [a] (defScope st2)) (B2 : L2.Binds B.K fd2 [a] []) (hm2 : B.mg x2 = some (.ref g2)) (hg2 : Gl B x2) (hNg : Ng[0]? = some a) (hva : Vis (defScope st2) a) (hr : Room (k + 2) B.A) (hN1 : B.N[1]? = some ask) (hvk : Vis B.env.scope ask)
    (hG : ∀ cdv, GivesTo B Ng x2 (defScope st2) g2 cdv (defBody st2) a (X.env.qual ++ "<lambda>") TT)
    (hbody : ∀ (i : Nat) (r : LamR) (t : XK → TE), rs[i]? = some r → ts[i]? = some t → ∀ (A : Around) (outer : List Env) (s : Shared) (H : Hp) (E : XK) (f c' : Addr), Room k (A.deeper (lamEnv X r.scope s.heap.objs.size f c')) → PE (lamCx X A outer s H E r.scope f c') r.body (t E))
    (hd2 : (x2 == ("__debug__" : Str)) = false) (hda : (a == ("__debug__" : Str)) = false) (hca : (a == ("__classdict__" : Str)) = false) (hdk : (ask == ("__debug__" : Str)) = false) (hck : (ask == ("__classdict__" : Str)) = false) :
    PE B (.Call (.Name x2 p1) [.Name ask p2] [] p3) (teEl (X.env.qual ++ "<lambda>") TT ts ps σ) := by
  refine ⟨fun pinsB sB σB HB QB IB hB => ?_⟩
  obtain ⟨i, pa, tt, a1, a2, a3, a4, a5⟩ := hB
  obtain ⟨r, b1, b2⟩ := V.get a1
  have rin : r ∈ rs := List.mem_of_getElem? b1
  refine wpAny_Call_Name_kw (ld_glob IB hg2 hm2 ?_ hd2)
  refine PySem.W.callWith_K (h₀ := B.base) IB.ok.mod.kin F2.kp ?_ (by rfl) (by rfl)
  show wpAny _ _ (spliced ((false, eval (.Name ask p2) B.env) :: backTo p3 (starEach [] B.env))) _ _ sB
  refine Calls.spliced_cons (thn ((pe_var (pos := p2) (i := 1) hN1 hvk hdk hck).run pinsB sB σB HB (fun v H1 => v = .ref pa.1 ∧ H1 = HB) IB ⟨.ref pa.1, a3, rfl, rfl⟩) fun u s4 hu => ?_)
  obtain ⟨v, H4, I4, r4, ev, eH⟩ := hu
  subst ev eH
  obtain rfl : u = Value.ref pa.1 := r4
  refine Calls.spliced_nil ⟨I4.kIn, ?_⟩
  have rc : codeAny (model B.prog B.w) B.A (.call (.ref g2) ⟨[.ref pa.1], []⟩) (CR C8.CX0 B.stack B.prog B.w H4 s4 QB C8.E0) s4 := by
    obtain ⟨oc2, od2, kV2, doc2, pm2, an2, cdv2, ct2, osl2, rfl, lk2, hcg2⟩ := F2.ex
    refine run_ofS (N := Ng) (ps := [a]) (us := [.ref pa.1]) (vs := [.ref pa.1]) lk2 hcg2 Sc2 hr I4.env0 (B2 s4 [.ref pa.1] I4.kIn rfl) (.cons rfl .nil) rfl fun hr2 => ?_
    obtain ⟨t', ht', hq'⟩ := hG cdv2 pa.1 pa.2 s4 H4 QB (fun E H' Q' => tt E σ H' Q')
      (fun W pn xe E q1 q2 tk hW => pe_askB (i := 0) hp hw hK hm ok kb kz (S r rin) (L r rin) b2 tk hW hr2 (fun A outer s H hr3 => hbody i r tt b1 a2 A outer s H E pa.1 pa.2 hr3) hNg hva hda hca) a4 a5
    exact ⟨t', ht'.nox, hq'⟩
  refine wpAny_call (codeAny_mono rc fun r3 s5 hq3 => ?_)
  cases r3 with
  | error e => exact (show False from hq3).elim
  | ok fl =>
    cases fl with
    | ret u => exact I4.after hq3
    | next => exact hq3.elim
    | brk => exact hq3.elim
    | cont => exact hq3.elim
end
section
variable {X : Cx}
theorem pe_tries {T : List (Addr × Str)} {x1 x2 asks ask a : Str} {g1 g2 : Addr} {st1 st2 : Stmt} {fd1 fd2 : FuncData} {N1 Ng : List Str} {es : List Expr} {rs : List LamR} {k : Nat} {ts : List (XK → TE)} {TT : (XK → Hp → VK → Prop) → Hp → VK → Prop} {scope1 : Scope} {own1 : List (Str × Nat)} {p p0 p1 p2 p3 p4 p5 p6 p7 pos : Pos}
    (F1 : Fun X.K x1 x1 st1 g1 fd1) (Sc1 : FnScope N1 [asks] (defScope st1)) (hb1 : defBody st1 = [.Return (some (.ListComp (.Call (.Name x2 p1) [.Name ask p2] [] p3) [⟨.Name ask p4, .Name asks p5, [], 0⟩] scope1 p6)) p7]) (B1 : L2.Binds X.K fd1 [asks] []) (hg1 : Gl X x1) (hm1 : X.mg x1 = some (.ref g1))
    (ok1 : BlkOk N1 (defScope st1) scope1 own1) (ho : own1.map (·.2) = [1]) (hN0 : N1[0]? = some asks) (hN1 : N1[1]? = some ask) (hv0 : Vis (defScope st1) asks) (hl1 : (relS scope1 (defScope st1)).names.lookup ask = some .local) (h0 : ∀ v : V, (L2.start N1 [v])[0]? = some (some v))
    (F2 : Fun X.K x2 x2 st2 g2 fd2) (Sc2 : FnScope Ng [a] (defScope st2)) (B2 : L2.Binds X.K fd2 [a] []) (hm2 : X.mg x2 = some (.ref g2)) (hg2 : (relS scope1 (defScope st1)).names.lookup x2 = some .globalImplicit) (hNg : Ng[0]? = some a) (hva : Vis (defScope st2) a)
    (hG : ∀ B : Cx, B.prog = X.prog → B.w = X.w → B.K = X.K → B.mg = X.mg → Room (k + 2) B.A → ∀ cdv, GivesTo B Ng x2 (defScope st2) g2 cdv (defBody st2) a (X.env.qual ++ "<lambda>") TT)
    (M : MakesL X T es rs) (hfn : ∀ y, X.fn y = true) (hr : Room (k + 3) X.A) (L : ∀ r ∈ rs, LamS2 X.N X.env.scope r.scope)
    (hbody : ∀ (i : Nat) (r : LamR) (t : XK → TE), rs[i]? = some r → ts[i]? = some t → ∀ (A : Around) (outer : List Env) (s : Shared) (H : Hp) (E : XK) (f c' : Addr), Room k (A.deeper (lamEnv X r.scope s.heap.objs.size f c')) → PE (lamCx X A outer s H E r.scope f c') r.body (t E))
    (hd1 : (x1 == ("__debug__" : Str)) = false := by decide) (hd2 : (x2 == ("__debug__" : Str)) = false := by decide) (hda : (a == ("__debug__" : Str)) = false := by decide) (hca : (a == ("__classdict__" : Str)) = false := by decide)
    (hdk : (ask == ("__debug__" : Str)) = false := by decide) (hck : (ask == ("__classdict__" : Str)) = false := by decide) (hds : (asks == ("__debug__" : Str)) = false := by decide) (hcs : (asks == ("__classdict__" : Str)) = false := by decide) :
    PE X (.Call (.Name x1 p) [.List es p0] [] pos) (tTries X.K T (X.env.qual ++ "<lambda>") rs.length N1 TT ts) := by
  refine ⟨fun pins s σ H Q I h => ?_⟩
  obtain ⟨hT, hz, h⟩ := h
  refine wpAny_Call_Name_kw (ld_glob I hg1 hm1 ?_ hd1)
  refine PySem.W.callWith_K (h₀ := X.base) I.ok.mod.kin F1.kp ?_ (by rfl) (by rfl)
  show wpAny _ _ (spliced ((false, eval (.List es p0) X.env) :: backTo pos (starEach [] X.env))) _ _ s
  refine Calls.spliced_cons (wpAny_List_spliced (makes_list M I hT fun ps H1 s1 I1 eN T1 k1 v1 => ⟨by rw [List.length_map, v1.len]; exact hz, ?_⟩))
  have hf : H1 s1.heap.objs.size = none := I1.hok.fresh (Nat.le_refl _)
  have hps := v1.len
  generalize hLs : s1.heap.objs.size = La at hf ⊢
  generalize hs2 : ({ s1 with heap := s1.heap.push { cls := .type "list", data := .seq (ps.map fun p => Value.ref p.1).toArray } } : Shared) = s2
  have vals : ∀ l : List (Addr × Addr), Vals (l.map fun p => V.ref p.1) (l.map fun p => Value.ref p.1) := fun l => by
    induction l with
    | nil => exact .nil
    | cons b r ih => exact .cons rfl ih
  have I2 : Inv X pins σ (upd H1 La (.lst (ps.map fun p => V.ref p.1))) s2 := by
    rw [← hs2]
    refine I1.laid (t' := s1.toks) (fun b u e => Heap.get?_push_of_some _ e) (Nat.le_of_eq hLs) ⟨?_, _, 0, vals ps, ?_⟩
    · rw [List.length_map, hps]; exact hz
    · rw [← hLs]; exact Heap.get?_push_size _ rfl
  have k2 : Sub (grd s1.heap H1 X.stack) (grd s2.heap (upd H1 La (.lst (ps.map fun p => V.ref p.1))) X.stack) := fun b o e => by
    obtain ⟨e1, e2, e3⟩ := grd_of e
    refine grd_in (by rw [← hs2]; exact Heap.get?_push_of_some _ e1) ?_ e3
    rw [upd_ne (fun z => by rw [z, ← hLs] at e1; exact Nat.lt_irrefl _ (Heap.lt_size e1))]
    exact e2
  have v2 : LvL X (grd s2.heap (upd H1 La (.lst (ps.map fun p => V.ref p.1))) X.stack) (upd H1 La (.lst (ps.map fun p => V.ref p.1))) rs ps := v1.mono k2 fun b o e n => by
    rw [upd_ne (ne_of_none e hf)]; exact e
  have hq := h H1 eN T1 ps hps v1.code La hf
  generalize upd H1 La (.lst (ps.map fun p => V.ref p.1)) = H2 at I2 k2 v2 hq
  refine Calls.spliced_nil ⟨I2.kIn, ?_⟩
  have e0 := grd_env0 I2
  have kb := grd_base I2
  have kz : X.base.objs.size ≤ (grd s2.heap H2 X.stack).objs.size := by
    unfold grd
    rw [hideAll_size]
    exact Nat.le_trans I2.ok.bsz I2.sz
  generalize hgr : grd s2.heap H2 X.stack = g at e0 kb kz v2
  have snap : ∀ r ∈ rs, Snap X g σ r.scope := fun r hr' => by rw [← hgr]; exact snap_of I2 (L r hr') hfn
  have okX := I2.ok
  have rc : codeAny (model X.prog X.w) X.A (.call (.ref g1) ⟨[.ref La], []⟩) (CR C8.CX0 X.stack X.prog X.w H2 s2 Q C8.E0) s2 := by
    obtain ⟨oc, od, kV, doc, pm, an, cdv, ct, osl, rfl, lk, hcg⟩ := F1.ex
    refine run_ofS (base := g) (N := N1) (ps := [asks]) (us := [.ref La]) (vs := [.ref La]) lk hcg Sc1 hr e0 (B1 s2 [.ref La] I2.kIn rfl) (.cons rfl .nil) rfl fun hr1 => ?_
    generalize hY : cxOf C8.CX0 X.prog X.w X.K X.mg g N1 x1 (defScope st1) g1 cdv X.A X.stack s2 H2 C8.E0 = Y
    refine ⟨tRet (tLc (iList X.K (tVar 0)) (gName 1) tYes (teEl (X.env.qual ++ "<lambda>") TT ts ps σ) [1]), ?_, hq⟩
    rw [hb1]
    refine PSs.nox (pss_one (ps_ret ?_))
    rw [← ho]
    refine pe_lc (X := Y.nox) (own := own1) ?_ ?_ ?_ ?_ (fun s3 H3 C cl fp => ?_) (fun s3 H3 C cl fp => pts_nil) (fun s3 H3 C cl fp => ?_)
    · rw [← hY]; rfl
    · rw [← hY]; exact Sc1.nd
    · have e : X.K = Y.nox.K := by rw [← hY]; rfl
      rw [e]
      exact pi_list (pe_var (i := 0) (by rw [← hY]; exact hN0) (by rw [← hY]; exact hv0) hds hcs)
    · rw [← hY]; exact ok1
    · refine pg_name (i := 1) ?_ ?_ (.inl ?_) (.inr ?_)
      · rw [← hY]; exact Sc1.nd
      · rw [← hY]; exact hN1
      · rw [← hY]; exact hl1
      · rw [← hY]; exact hl1
    · have bK : (Y.nox.blk s3 H3 scope1 (compEnvC scope1 cl C Y.nox.env) fp).K = X.K := by rw [← hY]; rfl
      have bM : (Y.nox.blk s3 H3 scope1 (compEnvC scope1 cl C Y.nox.env) fp).mg = X.mg := by rw [← hY]; rfl
      have bB : (Y.nox.blk s3 H3 scope1 (compEnvC scope1 cl C Y.nox.env) fp).base = g := by rw [← hY]; rfl
      have bA : Room (k + 2) (Y.nox.blk s3 H3 scope1 (compEnvC scope1 cl C Y.nox.env) fp).A := by rw [← hY]; exact hr1
      have bP : (Y.nox.blk s3 H3 scope1 (compEnvC scope1 cl C Y.nox.env) fp).prog = X.prog := by rw [← hY]; rfl
      have bW : (Y.nox.blk s3 H3 scope1 (compEnvC scope1 cl C Y.nox.env) fp).w = X.w := by rw [← hY]; rfl
      have bN : (Y.nox.blk s3 H3 scope1 (compEnvC scope1 cl C Y.nox.env) fp).N = N1 := by rw [← hY]; rfl
      have bS : (Y.nox.blk s3 H3 scope1 (compEnvC scope1 cl C Y.nox.env) fp).env.scope = relS scope1 (defScope st1) := by rw [← hY]; rfl
      generalize Y.nox.blk s3 H3 scope1 (compEnvC scope1 cl C Y.nox.env) fp = B at bK bM bB bA bP bW bN bS ⊢
      refine pe_elem (HL := H2) bP bW bK bM okX (by rw [bB]; exact kb) (by rw [bB]; exact kz) (by rw [bB]; exact v2) (fun r hr' => by rw [bB]; exact snap r hr') L (by rw [bK]; exact F2) Sc2 (by rw [bK]; exact B2) (by rw [bM]; exact hm2) ?_ hNg hva bA (by rw [bN]; exact hN1) ?_ (hG B bP bW bK bM bA) hbody hd2 hda hca hdk hck
      · show B.env.scope.names.lookup x2 = _
        rw [bS]; exact hg2
      · rw [bS]; exact .inl hl1
  refine wpAny_call (codeAny_mono rc fun r s3 hq => ?_)
  cases r with
  | error e => exact (show False from hq).elim
  | ok fl =>
    cases fl with
    | ret u => exact I2.after hq
    | next => exact hq.elim
    | brk => exact hq.elim
    | cont => exact hq.elim
end
end DX

set_option maxHeartbeats 4000000
namespace DX
open PySem PySem.Spec PySem.Calls PyProof.Rows PySem.W L2 LamX DL
open L2H (RoomH)
variable [DL.Tabs] [DL.Me]

/-! ### tries([lambda: .., ..]) as data -/
omit [DL.Me] in
def triesD (fl : List (Str × Str)) (e0 : Str) (sl : List (Option Slo)) : List DMX → List Dt → Option (List Dt × List Dt)
  | [], bg => some ([], bg)
  | f :: fs, bg => (mTry fl e0 f ⟨sl, bg⟩).bind fun p => (triesD fl e0 sl fs p.2.bag).bind fun q => some (p.1 :: q.1, q.2)
omit [DL.Me] in
def mTries (fl : List (Str × Str)) (e0 : Str) (fs : List DMX) : DM Dt := fun s => (triesD fl e0 (s.sl.map datOnly) fs s.bag).bind fun p => some (.lst p.1, { s with bag := p.2 })
theorem tt_try {fl : List (Str × Str)} {K : Frag} {T1 T2 T3 : Addr} {e0 : Str} {f : DMX} (hT : ∀ C nm, ErrC K C nm → exmAny K (.ref C) [.ref T1, .ref T2, .ref T3] = some true) {β : Addr} {P H G : Hp} {σ : L2.St} {s s' : Sta} {d : Dt} {Q : VK}
    (R : Rel K β P σ H G s) (e : mTry fl e0 f s = some (d, s')) (k : ∀ v H' G', Ext G G' → Rel K β P σ H' G' s' → IsD K β G' d v → Q v H') : TTtry K fl T1 T2 T3 e0 (fun E H' Q' => tOfX K f E σ H' Q') H Q := by
  unfold mTry at e
  obtain ⟨⟨r, s1⟩, e1, e⟩ := Option.bind_eq_some_iff.mp e
  refine ⟨β, P, G, s, r, s1, R, e1, ?_⟩
  cases r with
  | inl d0 =>
    cases e
    intro v H2 G2 x2 R2 i2
    refine ⟨by rw [sizeLine_eq]; omega, fun p hp => ?_⟩
    have xn := Ext.new (o := HO.tup [.str e0, v]) (R2.free hp)
    exact k _ _ _ (x2.trans xn) (R2.new hp) (is_tup.mpr ⟨p, _, rfl, .inl (.inl upd_same), isl_cons.mpr ⟨_, _, rfl, is_str.mpr rfl, isl_cons.mpr ⟨v, _, rfl, IsD.mono xn _ _ i2, isl_nil.mpr rfl⟩⟩⟩)
  | inr er =>
    obtain ⟨ds, e2, e⟩ := Option.bind_eq_some_iff.mp e
    cases e
    intro C dd H2 G2 x2 R2 ec g2
    obtain ⟨xs, g3, g4, g5⟩ := g2
    obtain ⟨ws, w1, w2⟩ := fld_is e2 g5
    refine ⟨hT C er.nm ec, C, er.nm, dd, xs, ws, rfl, rfl, ec, R2.gh dd _ g3, g4, w1, fun p r hp hr => ?_⟩
    have R3 := R2.new (o := .tup ws) hp
    have x3 := Ext.new (o := HO.tup ws) (R2.free hp)
    have x4 := Ext.new (o := HO.tup [.str er.nm, .ref p]) (R3.free hr)
    have R4 := R3.new (o := .tup [.str er.nm, .ref p]) hr
    exact k _ _ _ ((x2.trans x3).trans x4) R4 (is_tup.mpr ⟨r, _, rfl, .inl (.inl upd_same), isl_cons.mpr ⟨_, _, rfl, is_str.mpr rfl, isl_cons.mpr ⟨.ref p, _, rfl, IsD.mono x4 _ _ (is_tup.mpr ⟨p, ws, rfl, .inl (.inl upd_same), IsL.mono x3 _ _ w2⟩), isl_nil.mpr rfl⟩⟩⟩)
theorem te_tries {fl : List (Str × Str)} {K : Frag} {T1 T2 T3 : Addr} {e0 q : Str} {fs : List DMX} {N1 : List Str} (hT : ∀ C nm, ErrC K C nm → exmAny K (.ref C) [.ref T1, .ref T2, .ref T3] = some true) (hl : fs.length ≤ 1000) (h0 : ∀ v : V, (L2.start N1 [v])[0]? = some (some v)) (h1 : ∀ v : V, 1 < (L2.start N1 [v]).length) :
    TEok K (tTries K Tabs.ts q fs.length N1 (TTtry K fl T1 T2 T3 e0) (fs.map fun f E => tOfX K f E)) (mTries fl e0 fs) := by
  intro β P σ H G s d s' R e Q k
  unfold mTries at e
  obtain ⟨⟨ys, bgF⟩, e1, e⟩ := Option.bind_eq_some_iff.mp e
  cases e
  have sz : 100000 ≤ sizeLine := by rw [sizeLine_eq]; omega
  refine ⟨fun y hy => ?_, Nat.le_trans hl (Nat.le_trans (by decide) sz), fun H1 eN tS ps hps hco L hL => ?_⟩
  · obtain ⟨⟨qs, t1, t2, t3⟩, ga, np⟩ := R.tabs y hy
    refine ⟨qs, t1, t2, fun pos cv hc => ?_⟩
    obtain ⟨c, c1, c2⟩ := t3 pos cv hc
    exact ⟨c, c1, R.gh c _ c2⟩
  · obtain ⟨G1, x1, R1, allC⟩ := rel_lam2 R eN fun y hy => tS y hy
    have R2 := R1.new (o := .lst (ps.map fun p => V.ref p.1)) hL
    have x2 := Ext.new (o := HO.lst (ps.map fun p => V.ref p.1)) (R1.free hL)
    have gL : upd G1 L (.lst (ps.map fun p => V.ref p.1)) L = some (.lst (ps.map fun p => V.ref p.1)) := upd_same
    have gC : ∀ p ∈ ps, upd G1 L (.lst (ps.map fun p => V.ref p.1)) p.2 = some (CodeO p.2 q) := fun p hp => x2 _ _ (allC _ _ (hco p hp))
    have xx := x1.trans x2
    generalize upd G1 L (.lst (ps.map fun p => V.ref p.1)) = G2 at R2 gL gC xx
    generalize upd H1 L (.lst (ps.map fun p => V.ref p.1)) = H2 at R2
    refine ⟨.ref L, h0 _, L, rfl, ⟨_, .inl (.inl (R2.gh _ _ gL))⟩, fun D hD => ?_⟩
    have R3 := rel_hide R2 hD []
    have hn : ∀ (i : Nat) (x : Slo), (s.sl.map datOnly)[i]? = some (some x) → ∃ d, x = .dat d := fun i x z => by
      obtain ⟨_, d', e3, _⟩ := hid_get (vs := []) z
      exact ⟨d', e3⟩
    refine lc_list (K := K) (xs := ps.map fun p => V.ref p.1) (fun i HY => ∃ G3 bg acc ds rs, Ext G2 G3 ∧ Rel K β (upd (shut β H2 G2) D (.lst acc)) σ HY G3 ⟨s.sl.map datOnly, bg⟩ ∧ IsL K β G3 ds acc ∧ acc.length = i ∧
      triesD fl e0 (s.sl.map datOnly) (fs.drop i) bg = some (rs, bgF) ∧ ds ++ rs = ys) ⟨G2, s.bag, [], [], ys, Ext.refl _, R3, isl_nil.mpr rfl, rfl, e1, rfl⟩ ?_ ?_ ?_
    · rintro i HY hi ⟨G3, bg, acc, ds, rs, x3, R4, _⟩
      exact .inl (.inl (R4.gh _ _ (x3 _ _ gL)))
    · rintro i x HY hx ⟨G3, bg, acc, ds, rs, x3, R4, ia, la, e3, e4⟩
      rw [List.getElem?_map] at hx
      cases hp : ps[i]? with
      | none => rw [hp] at hx; cases hx
      | some p =>
        rw [hp] at hx
        cases hx
        have hi : i < fs.length := by rw [← hps]; exact (List.getElem?_eq_some_iff.mp hp).1
        have hf : fs[i]? = some fs[i] := List.getElem?_eq_getElem hi
        rw [List.drop_eq_getElem_cons hi] at e3
        unfold triesD at e3
        obtain ⟨⟨dy, s5⟩, e7, e3⟩ := Option.bind_eq_some_iff.mp e3
        obtain ⟨⟨zs, bz⟩, e8, e3⟩ := Option.bind_eq_some_iff.mp e3
        cases e3
        have at1 : ((wipe (L2.start N1 [V.ref L]) [1]).set 1 (some (V.ref p.1)))[1]? = some (some (V.ref p.1)) := List.getElem?_set_self (by rw [wipe_length]; exact h1 _)
        refine ⟨?_, ?_⟩
        · show ((wipe (L2.start N1 [V.ref L]) [1]).set 1 (some (V.ref p.1))).set 1 none = ((L2.start N1 [V.ref L]).set 1 none)
          show ((((L2.start N1 [V.ref L]).set 1 none)).set 1 (some (V.ref p.1))).set 1 none = ((L2.start N1 [V.ref L]).set 1 none)
          rw [List.set_set, List.set_set]
        · unfold tYes
          dsimp only
          rw [if_pos rfl]
          refine ⟨i, p, fun E => tOfX K fs[i] E, hp, by rw [List.getElem?_map, hf]; rfl, at1, R4.gh _ _ (x3 _ _ (gC p (List.mem_of_getElem? hp))), ?_⟩
          refine tt_try hT R4 e7 fun v H6 G6 x6 R6 i6 => ?_
          refine ⟨acc, (R6.pr D (.lst acc) upd_same).1, by rw [la]; exact Nat.lt_of_lt_of_le hi (Nat.le_trans hl (Nat.le_trans (by decide) sz)), G6, s5.bag, acc ++ [v], ds ++ [dy], zs, x3.trans x6, rel_acc R6 R4 x6 hn nx_lst, (IsL.mono x6 _ _ ia).snoc i6, by simp [la], e8, ?_⟩
          rw [← e4]
          simp
    · rintro HY ⟨G3, bg, acc, ds, rs, x3, R4, ia, la, e3, e4⟩
      rw [List.length_map, hps, List.drop_length] at e3
      cases e3
      rw [List.append_nil] at e4
      subst e4
      have qd := R4.pr D _ upd_same
      have xd : Ext G3 (upd G3 D (.lst acc)) := Ext.new qd.2
      exact k (.ref D) HY _ ((xx.trans x3).trans xd) (rel_done R2 hD R4 x3) (is_lst.mpr ⟨D, acc, rfl, upd_same, IsL.mono xd _ _ ia⟩)

/-! ### the rule for the generator -/
omit [DL.Me] in
structure LamOne (X : Cx) (k : Nat) (e : Expr) (es : List Expr) (f : DMX) (r : LamR) : Prop where
  makes : Makes X Tabs.ts e r.params r.body r.scope
  star : starEach (e :: es) X.env = (false, eval e X.env) :: starEach es X.env
  own : LamS2 X.N X.env.scope r.scope
  body : ∀ (A : Around) (outer : List Env) (s : Shared) (H : Hp) (E : XK) (fa c' : Addr), Room k (A.deeper (lamEnv X r.scope s.heap.objs.size fa c')) → Takes (lamCx X A outer s H E r.scope fa c') (fun cls d _ H => E cls d H) → DEX (lamCx X A outer s H E r.scope fa c') E r.body f
omit [DL.Me] in
inductive Lams (X : Cx) (k : Nat) : List Expr → List DMX → List LamR → Prop where
  | nil : Lams X k [] [] []
  | cons {e : Expr} {es : List Expr} {f : DMX} {fs : List DMX} {r : LamR} {rs : List LamR} (h : LamOne X k e es f r) (t : Lams X k es fs rs) : Lams X k (e :: es) (f :: fs) (r :: rs)
section
variable {X : Cx}
theorem Lams.makes {k : Nat} {es : List Expr} {fs : List DMX} {rs : List LamR} (h : Lams X k es fs rs) : MakesL X Tabs.ts es rs := by
  induction h with
  | nil => trivial
  | cons h _ ih => exact ⟨h.makes, h.star, ih⟩
theorem Lams.own {k : Nat} {es : List Expr} {fs : List DMX} {rs : List LamR} (h : Lams X k es fs rs) : ∀ r ∈ rs, LamS2 X.N X.env.scope r.scope := by
  induction h with
  | nil => exact fun _ z => nomatch z
  | cons h _ ih => exact fun r hr => (List.mem_cons.mp hr).elim (fun e => e ▸ h.own) (ih r)
theorem Lams.len {k : Nat} {es : List Expr} {fs : List DMX} {rs : List LamR} (h : Lams X k es fs rs) : rs.length = fs.length := by
  induction h with
  | nil => rfl
  | cons h _ ih => exact congrArg Nat.succ ih
theorem Lams.body {k : Nat} {es : List Expr} {fs : List DMX} {rs : List LamR} (h : Lams X k es fs rs) : ∀ (i : Nat) (r : LamR) (t : XK → TE), rs[i]? = some r → (fs.map fun f E => tOfX X.K f E)[i]? = some t →
    ∀ (A : Around) (outer : List Env) (s : Shared) (H : Hp) (E : XK) (fa c' : Addr), Room k (A.deeper (lamEnv X r.scope s.heap.objs.size fa c')) → PE (lamCx X A outer s H E r.scope fa c') r.body (t E) := by
  induction h with
  | nil => intro i r t e; simp at e
  | cons h _ ih =>
    intro i r t e1 e2
    cases i with
    | zero =>
      simp at e1 e2
      subst e1 e2
      intro A outer s H E fa c' hr
      exact h.body A outer s H E fa c' hr (takes_of rfl rfl rfl rfl)
    | succ i => exact ih i r t (by simpa using e1) (by simpa using e2)
theorem de_tries {fl : List (Str × Str)} {e0 x1 x2 asks ask a : Str} {T1 T2 T3 g1 g2 : Addr} {st1 st2 : Stmt} {fd1 fd2 : FuncData} {N1 Ng : List Str} {es : List Expr} {rs : List LamR} {fs : List DMX} {k : Nat} {scope1 : Scope} {own1 : List (Str × Nat)} {p p0 p1 p2 p3 p4 p5 p6 p7 pos : Pos}
    (h1 : nsIn X.K mainGlobals "TableError" = some (some (.ref T1))) (h2 : nsIn X.K mainGlobals "Missing" = some (some (.ref T2))) (h3 : nsIn X.K mainGlobals "NothingLeft" = some (some (.ref T3)))
    (F1 : Fun X.K x1 x1 st1 g1 fd1) (Sc1 : FnScope N1 [asks] (defScope st1)) (hb1 : defBody st1 = [.Return (some (.ListComp (.Call (.Name x2 p1) [.Name ask p2] [] p3) [⟨.Name ask p4, .Name asks p5, [], 0⟩] scope1 p6)) p7]) (B1 : L2.Binds X.K fd1 [asks] []) (hg1 : Gl X x1) (hm1 : X.mg x1 = some (.ref g1))
    (ok1 : BlkOk N1 (defScope st1) scope1 own1) (ho : own1.map (·.2) = [1]) (hN0 : N1[0]? = some asks) (hN1 : N1[1]? = some ask) (hv0 : Vis (defScope st1) asks) (hl1 : (relS scope1 (defScope st1)).names.lookup ask = some .local) (h0 : ∀ v : V, (L2.start N1 [v])[0]? = some (some v)) (hl : ∀ v : V, 1 < (L2.start N1 [v]).length)
    (F2 : Fun X.K x2 x2 st2 g2 fd2) (Sc2 : FnScope Ng [a] (defScope st2)) (B2 : L2.Binds X.K fd2 [a] []) (hm2 : X.mg x2 = some (.ref g2)) (hg2 : (relS scope1 (defScope st1)).names.lookup x2 = some .globalImplicit) (hNg : Ng[0]? = some a) (hva : Vis (defScope st2) a)
    (hG : ∀ B : Cx, B.prog = X.prog → B.w = X.w → B.K = X.K → B.mg = X.mg → Room (k + 2) B.A → ∀ cdv, GivesTo B Ng x2 (defScope st2) g2 cdv (defBody st2) a (X.env.qual ++ "<lambda>") (TTtry X.K fl T1 T2 T3 e0))
    (M : Lams X k es fs rs) (hfn : ∀ y, X.fn y = true) (hr : Room (k + 3) X.A) (hlen : fs.length ≤ 1000)
    (hd1 : (x1 == ("__debug__" : Str)) = false := by decide) (hd2 : (x2 == ("__debug__" : Str)) = false := by decide) (hda : (a == ("__debug__" : Str)) = false := by decide) (hca : (a == ("__classdict__" : Str)) = false := by decide)
    (hdk : (ask == ("__debug__" : Str)) = false := by decide) (hck : (ask == ("__classdict__" : Str)) = false := by decide) (hds : (asks == ("__debug__" : Str)) = false := by decide) (hcs : (asks == ("__classdict__" : Str)) = false := by decide) :
    DE X (.Call (.Name x1 p) [.List es p0] [] pos) (mTries fl e0 fs) := by
  have pe := pe_tries (T := Tabs.ts) (ts := fs.map fun f E => tOfX X.K f E) (p := p) (p0 := p0) (pos := pos) F1 Sc1 hb1 B1 hg1 hm1 ok1 ho hN0 hN1 hv0 hl1 h0 F2 Sc2 B2 hm2 hg2 hNg hva hG M.makes hfn hr M.own M.body hd1 hd2 hda hca hdk hck hds hcs
  rw [M.len] at pe
  exact ⟨_, pe, te_tries (fun C nm T => T.ca _ _ _ h1 h2 h3) hlen h0 hl⟩
end
end DX

namespace DX
open PySem PySem.Spec PySem.Calls PyProof.Rows PySem.W L2 LamX DL
variable [DL.Tabs] [DL.Me]
/-! ### a list times a whole number -/
omit [DL.Me] in
def gRep : Dt → Dt → Option Dt
  | .lst a, .int k => if 0 ≤ k ∧ k < 2147483648 ∧ a.length * k.toNat ≤ 100000 then some (.lst (List.replicate k.toNat a).flatten) else none
  | _, _ => none
theorem isl_rep {K : Frag} {β : Addr} {G : Hp} {a : List Dt} {vs : List V} (h : DL.IsL K β G a vs) : ∀ n : Nat, DL.IsL K β G (List.replicate n a).flatten (List.replicate n vs).flatten
  | 0 => isl_nil.mpr rfl
  | n + 1 => by
    rw [List.replicate_succ, List.replicate_succ, List.flatten_cons, List.flatten_cons]
    exact h.append (isl_rep h n)
theorem r2_rep {K : Frag} : R2ok K rRep gRep := by
  intro β P σ H G s x y dx dy d R ix iy h Q q
  unfold gRep at h
  split at h
  · rename_i a k
    split at h
    · rename_i c
      cases h
      obtain ⟨p, vs, rfl, h1, h2⟩ := is_lst.mp ix
      have sz : 100000 ≤ sizeLine := by rw [sizeLine_eq]; omega
      refine ⟨p, k, vs, rfl, is_int.mp iy, R.gh _ _ h1, by omega, by omega, by rw [h2.len]; exact Nat.le_trans c.2.2 sz, fun l hl => ?_⟩
      exact q _ _ _ (Ext.new (R.free hl)) (R.new hl) (is_lst.mpr ⟨l, _, rfl, upd_same, IsL.mono (Ext.new (R.free hl)) _ _ (isl_rep h2 _)⟩)
    · cases h
  · cases h
theorem de_rep {X : Cx} {a b : Expr} {fa fb : DM Dt} {pos : Pos} (ha : DE X a fa) (hb : DE X b fb) : DE X (.BinOp a .Mult b pos) (m2 gRep fa fb) := de_op op_rep r2_rep ha hb

/-! ### x in (.., ..), x any data -/
omit [DL.Me] in
def rInTD (K : Frag) : R2 := fun x y H Q => ∃ d ds, Dp K H x d ∧ Dp K H y (.tuple ds) ∧ SeqAt.shaped d = true ∧ SeqAt.shaped (.tuple ds) = true ∧ Q (.bl (ds.any fun z => PyData.eqv z d)) H
theorem op_inTD {X : Cx} (hu : X.A.units + 65 < cLine) : OpR X (compareOp .In) (rInTD X.K) := by
  intro pins s σ H x y v u Q I rx ry h
  obtain ⟨d, ds, hd, he, sd, se, q⟩ := h
  obtain ⟨as, r1⟩ := Dp.reads I d x v hd rx
  obtain ⟨bs, r2⟩ := Dp.reads I (.tuple ds) y u he ry
  exact SeqAt.in_tuple_reads r2 r1 (SeqAt.canLay_of_shaped se) (SeqAt.canLay_of_shaped sd) (room_in_shaped sd hu) ⟨.bl _, H, I, rfl, q⟩
omit [DL.Me] in
def gInT : Dt → Dt → Option Dt
  | x, .tup l => if (eqOk x && eqOk (.tup l)) = true then some (.bl ((toPys l).any fun z => PyData.eqv z (toPy x))) else none
  | _, _ => none
theorem r2_inT {K : Frag} : R2ok K (rInTD K) gInT := by
  intro β P σ H G s x y dx dy d R ix iy h Q q
  unfold gInT at h
  split at h
  · rename_i l
    split at h
    · rename_i c
      cases h
      unfold eqOk at c
      simp only [Bool.and_eq_true] at c
      exact ⟨_, _, dp_of R.gh _ _ c.1.1 ix, dp_of R.gh _ _ c.2.1 iy, c.1.2, c.2.2, q _ H G (Ext.refl G) R (is_bl.mpr rfl)⟩
    · cases h
  · cases h
omit [DL.Me] in
def gInD (x y : Dt) : Option Dt := match gIn x y with
  | some d => some d
  | none => gInT x y
theorem op_in3 {X : Cx} {r : R2} (hu : X.A.units + 65 < cLine) (h : OpR X (compareOp .In) r) : OpR X (compareOp .In) (fun x y H Q => r x y H Q ∨ rInTD X.K x y H Q) := h.or (op_inTD hu)
theorem r2_in3 {K : Frag} : R2ok K (fun x y H Q => ((∃ i j, x = .str i ∧ y = .str j ∧ Q (.bl (!(Builtin.Str.occurrences j i 0 j.length 1).isEmpty)) H) ∨ rIn K false x y H Q) ∨ rInTD K x y H Q) gInD := r2_in.or r2_inT
theorem u65 {k : Nat} {A : Around} (r : Room k A) : A.units + 65 < cLine := by
  have := r.un
  omega
end DX

set_option maxHeartbeats 4000000
/-! an own error whose __init__ says super().__init__() (the base's own) and keeps one further field -/
namespace DX
open PySem PySem.Spec PySem.Calls PyProof.Rows PySem.W L2 DL
variable [DL.Tabs] [DL.Me]

omit [DL.Me] in
/-- what the scope of such an __init__ must be -/
structure SupScope (sc : Scope) (par : Str) : Prop where
  kind : sc.kind = .function
  co : sc.isCoroutine = false
  gen : sc.isGenerator = false
  cell : ∀ y ∈ sc.names, y.2 ≠ .cell
  free : ∀ y ∈ sc.names, y.2 = .free → y.1 = "__class__"
  kc : sc.names.lookup ("__class__" : Str) = some .free
  ks : sc.names.lookup ("super" : Str) = some .globalImplicit
  ls : sc.names.lookup ("self" : Str) = some .local
  lp : sc.names.lookup par = some .local
  ne : par ≠ "self"
  nd : (par == ("__debug__" : Str)) = false
  nc : (par == ("__classdict__" : Str)) = false
omit [DL.Me] in
def cxS (CX : CXT) (P : Program) (w : World) (K : Frag) (mg : Str → Option Value) (base : Heap) (N : List Str) (qual : Str) (scope : Scope) (f : Addr) (cd : Value) (cc : Addr) (A : Around) (outer : List Env) (s : Shared) (H : Hp) (E : XK) : Cx where
  prog := P
  w := w
  K := K
  mg := mg
  base := base
  A := A.deeper (ksEnv qual scope s.heap.objs.size f cd cc)
  N := N
  s_0 := s
  H_0 := H
  env := ksEnv qual scope s.heap.objs.size f cd cc
  outer := outer
  stack := ksEnv qual scope s.heap.objs.size f cd cc :: outer
  ex := []
  calm := true
  fn := fun _ => false
  pn := []
  xe := fun e s' => wpAny (model P w) (A.deeper (ksEnv qual scope s.heap.objs.size f cd cc)) (leaving (ksEnv qual scope s.heap.objs.size f cd cc) e) (fun _ s'' => CX outer H s E e s'') (fun e' s'' => CX outer H s E e' s'') s'

section
variable {CX : CXT} {P : Program} {w : World} {K : Frag} {mg : Str → Option Value} {base : Heap}
omit [DL.Tabs] [DL.Me] in
theorem inv_startS {qual par : Str} {scope : Scope} {f cc : Addr} {cd : Value} {A : Around} {outer : List Env} {s : Shared} {H : Hp} {E : XK} {us : List Value} {x y : V} {h₁ : Heap} {tk : Nat} {cl : Value} {cld : Option Addr} {v0 : Option Value} {csl : Array (Option Value)}
    (S : SupScope scope par) (hd : A.handled = none) (e0 : Env0 P w K mg base A outer s H) (r : Vals [x, y] us) (hcell : K.lookup cc = some ⟨cl, cld, .cell v0, csl⟩)
    (hns : h₁.Ns s.heap.objs.size fun z => ((["self", par] : List Str).zip us).reverse.lookup z) (kp : Sub s.heap h₁) :
    Inv (cxS CX P w K mg base ["self", par] qual scope f cd cc A outer s H E) [] (L2.start ["self", par] [x, y]) H { s with heap := h₁, toks := tk } := by
  have noB : ∀ b : Addr, b ∉ (cxS CX P w K mg base ["self", par] qual scope f cd cc A outer s H E).ex := fun b z => nomatch (show b ∈ ([] : List Addr) from z)
  have hb : base.get? cc = some ⟨cl, cld, .cell v0, csl⟩ := e0.mod.kin _ _ hcell
  have cm : ∀ {z c}, (cxS CX P w K mg base ["self", par] qual scope f cd cc A outer s H E).env.cells.lookup z = some c → z = "__class__" ∧ c = cc := fun {z c} e => by
    have e' : ([(("__class__" : Str), cc)] : List (Str × Addr)).lookup z = some c := e
    rw [List.lookup_cons] at e'
    split at e'
    · rename_i q
      cases e'
      exact ⟨eq_of_beq q, rfl⟩
    · cases e'
  cases r with
  | @cons _ u0 _ ur r0 rr =>
    cases rr with
    | @cons _ u1 _ ur1 r1 rn =>
      cases rn with
      | nil =>
        refine {
          ok := {
            mod := e0.mod
            kind := S.kind
            glob := rfl
            blt := rfl
            above := Nat.le_refl _
            inj := fun z1 z2 c e1 e2 => (cm e1).1.trans (cm e2).1.symm
            has := fun z hz => by
              have hz' : scope.names.lookup z = some .cell ∨ scope.names.lookup z = some .free := hz
              rcases hz' with q | q
              · exact absurd rfl (S.cell _ (PySem.mem_of_lookup q))
              · have e := S.free _ (PySem.mem_of_lookup q) rfl
                have e' : z = "__class__" := e
                subst e'
                exact ⟨cc, rfl⟩
            cab := fun z c q _ => nomatch (show false = true from q)
            hd := fun _ => hd
            frames := Around.frames_deeper e0.frames
            stk := .inr ⟨rfl, rfl⟩
            exf := fun b z => absurd z (noB b)
            bs := e0.bs
            bsz := e0.bsz
            noex := fun b _ _ => noB b
            exfs := fun b z => absurd z (noB b)
            funs := e0.funs
            frf := e0.frf }
          os := rfl
          bare := e0.bare
          base := Un.kept kp
          loc := ⟨_, hns, fun i z v e1 e2 e3 => ?_⟩
          cell := fun z c e => ⟨v0, by rw [(cm e).2]; exact ⟨_, kp _ _ (e0.bs _ _ hb).1, rfl⟩⟩
          free := e0.hok.fresh (Nat.le_refl _)
          freeC := fun z c e => by rw [(cm e).2]; exact (e0.bs _ _ hb).2
          pin := fun q hq => nomatch (show q ∈ ([] : List (Addr × Obj)) ++ [] from hq)
          hok := e0.hok.kept kp
          len := rfl }
        have ne : (("self" : Str) == par) = false := by
          cases q : (("self" : Str) == par) with
          | false => rfl
          | true => exact absurd (eq_of_beq q).symm S.ne
        have lk1 : ([(par, u1), (("self" : Str), u0)] : List (Str × Value)).lookup ("self" : Str) = some u0 := by
          rw [List.lookup_cons, ne]
          rfl
        have lk2 : ([(par, u1), (("self" : Str), u0)] : List (Str × Value)).lookup par = some u1 := by
          rw [List.lookup_cons, beq_self_eq_true]
        match i, e1, e2 with
        | 0, e1, e2 =>
          cases e1
          cases e2
          exact ⟨u0, r0, .inl ⟨S.ls, lk1⟩⟩
        | 1, e1, e2 =>
          cases e1
          cases e2
          exact ⟨u1, r1, .inl ⟨S.lp, lk2⟩⟩
        | i + 2, e1, e2 => cases e1
end

omit [DL.Me] in
/-- C.__init__(self, par), C's own -/
def spInitS (K : Frag) (C : Addr) (nm fld : Str) : Sp := fun vs H Q _ => ∃ a y, vs = [.ref a, y] ∧ H a = some (exo a C none) ∧ ErrC K C nm ∧ ∀ dx, H dx = none → dx ≠ a → Q .non (upd (upd H dx (exd dx [(fld, y), ("code", .str nm)])) a (exo a C (some dx)))

section
variable {CX : CXT} {P : Program} {w : World} {K : Frag} {mg : Str → Option Value} {base : Heap}
theorem fn_initS {k : Nat} {f f0 cc cda C : Addr} {name qual fld par nm file : Str} {params : Arguments} {scope : Scope} {fd0 : FuncData} {ar : Arg} {dV kV doc pm ct oc ccl cl : Value} {an od cdd cld : Option Addr} {osl ccs csl : Array (Option Value)} {vsc : Array Value} {tf : Tok} {p0 p1 p2 p3 p4 p5 p6 p7 p8 : Pos}
    (lk : K.lookup f = some ⟨oc, od, .func (ksFn name qual params [.Expr (.Call (.Attribute (.Call (.Name "super" p0) [] [] p1) "__init__" p2) [] [] p3) p4, .Assign [.Attribute (.Name "self" p5) fld p6] (.Name par p7) p8] scope dV kV doc pm an (.ref cda) ct cc), osl⟩)
    (hcd : codeIn K (.ref cda) qual = true) (S : SupScope scope par) (har : (params.posonlyargs ++ params.args).head? = some ar) (hself : ar.arg = "self")
    (hcode : K.lookup cda = some ⟨ccl, cdd, .fields vsc, ccs⟩) (hvs : vsc[2]? = some (.str file tf)) (hfile : ((P.main.file : Str) == file) = true)
    (hcell : K.lookup cc = some ⟨cl, cld, .cell (some (.ref C)), csl⟩) (htop : (P.main.scope.names.lookup ("super" : Str)).isSome = false) (hsuper : nsIn K mainGlobals "super" = some none)
    (hboot : bootBuiltins "super" = some (.type "super")) (hany : nsIn K cStatics "thirdparty.any" = some none)
    (hsub : mroIn K C (.ref C) = some true) (hm : ks_superIn K C C "__init__" = some (some (.ref f0))) (ht : typeIn K (.ref f0) = some (.type "function")) (hfn : fnIn K f0 = true) (hfld : PySem.W.findIn K (.ref C) fld = some none)
    (F0 : FnOk P w K mg base CX k f0 fd0 ["self"] (spInit K)) (bf0 : L2.Binds K fd0 ["self"] []) (hcx : ∀ outer H s e s', ¬ CX outer H s (fun _ _ _ => False) e s')
    (hev : ∀ L : Addr, ∃ pl : Sem Bool, eval (.Call (.Attribute (.Call (.Name "super" p0) [] [] p1) "__init__" p2) [] [] p3) (ksEnv qual scope L f (.ref cda) cc) = (do
      let ov ← attributeBase (.Call (.Name "super" p0) [] [] p1) "__init__" (ksEnv qual scope L f (.ref cda) cc) (eval (.Call (.Name "super" p0) [] [] p1) (ksEnv qual scope L f (.ref cda) cc))
      standAt p2.atName
      let (g, first) ← holding [ov] (getMethod ov "__init__" pl)
      callWith p3 g first (backTo p3 (starEach [] (ksEnv qual scope L f (.ref cda) cc))) [])) :
    FnOk P w K mg base CX (k + 1) f (ksFn name qual params [.Expr (.Call (.Attribute (.Call (.Name "super" p0) [] [] p1) "__init__" p2) [] [] p3) p4, .Assign [.Attribute (.Name "self" p5) fld p6] (.Name par p7) p8] scope dV kV doc pm an (.ref cda) ct cc) ["self", par] (spInitS K C nm fld) := by
  refine ⟨fun vs H Q E z => ?_, fun A outer s H args us vs Q E hr e0 hb r hsp => ?_⟩
  · obtain ⟨a, y, e, _⟩ := z
    rw [e]
    rfl
  obtain ⟨a, y, rfl, ea, T, q⟩ := hsp
  have KX : K.In s.heap := e0.mod.kin.keeps fun b o e => (e0.bs b o e).1
  have lim : s.heap.NoLimit := e0.mod.nolimit.keeps fun b o e => (e0.bs b o e).1
  have hl : us.length = 2 := r.length.symm
  obtain ⟨u0, u1, rfl⟩ : ∃ u0 u1, us = [u0, u1] := by
    match us, hl with
    | [u0, u1], _ => exact ⟨u0, u1, rfl⟩
  have r0 := r
  obtain rfl : u0 = .ref a := by
    cases r0 with
    | cons ra _ => exact ra
  refine ks_codeAny_call_defAt (fd := ksFn name qual params _ scope dV kV doc pm an (.ref cda) ct cc) (binds := (["self", par] : List Str).zip [.ref a, u1]) hr.depth (KX _ _ lk) rfl lim (codeRec_of KX hcd) rfl hb S.cell (fun z hz => ?_) (fun h₁ hns kp => ?_) S.co S.gen S.kind
  · have hz' : z ∈ [(("self" : Str), Value.ref a), (par, u1)] := hz
    rcases List.mem_cons.mp hz' with e | hz'
    · rw [e]
      exact S.ls
    · rcases List.mem_cons.mp hz' with e | hz'
      · rw [e]
        exact S.lp
      · cases hz'
  have I : Inv (cxS CX P w K mg base ["self", par] qual scope f (.ref cda) cc A outer s H E) [] (L2.start ["self", par] [.ref a, y]) H { s with heap := h₁, toks := s.toks + ((["self", par] : List Str).zip [Value.ref a, u1]).length } :=
    inv_startS S hr.hd e0 r hcell hns kp
  revert I
  generalize hs1 : ({ s with heap := h₁, toks := s.toks + ((["self", par] : List Str).zip [Value.ref a, u1]).length } : Shared) = s1
  intro I
  have hns1 : s1.heap.Ns s.heap.objs.size fun z => ((["self", par] : List Str).zip [Value.ref a, u1]).reverse.lookup z := by
    rw [← hs1]
    exact hns
  clear hs1 hns
  obtain ⟨hh, gg, dd, tt, os⟩ := s1
  let X := cxS CX P w K mg base ["self", par] qual scope f (.ref cda) cc A outer s H E
  have K1 : K.In hh := I.kIn
  obtain ⟨cB, newId, initId, bmB, cn, cq, nsp, bs, bm, sn, sub, ab, col, ddd, l0, l1, l2, l3, l5, _, _, hC, hbm⟩ := T.oex.cls
  have hcl : PySem.W.clsIn K C = some { name := cn, bases := bs, mro := .ref C :: bm, ns := nsp, qualname := cq, hasDict := true, slotNames := sn, subclasses := sub, abstract := ab, collection := col, hasDel := false } := by unfold PySem.W.clsIn; rw [hC] <;> rfl
  obtain ⟨t1, ho⟩ := exo_at I.hok ea
  have J : InstAt hh a { cls := .ref C, dict := none, data := .fields #[.ref t1, .none, .none, .none, .bool false, .none] } C none := ⟨ho, rfl, rfl, trivial⟩
  have hself1 : ((["self", par] : List Str).zip [Value.ref a, u1]).reverse.lookup ar.arg = some (.ref a) := by
    rw [hself]
    show ([(par, u1), (("self" : Str), Value.ref a)] : List (Str × Value)).lookup ("self" : Str) = some (.ref a)
    have ne : (("self" : Str) == par) = false := by
      cases z : (("self" : Str) == par) with
      | false => rfl
      | true => exact absurd (eq_of_beq z).symm S.ne
    rw [List.lookup_cons, ne]
    rfl
  obtain ⟨mb, hb1, hb2⟩ := I.mod.blt
  obtain ⟨pl, hev⟩ := hev s.heap.objs.size
  refine ks_wpAt_execs_cons (ks_wpAt_Expr_any (ks_wpAt_MethodCall (pl := pl) ?_ hev) I.quiet)
  refine ks_wpAt_super_base (env := ksEnv qual scope s.heap.objs.size f (.ref cda) cc) S.ks S.kc rfl rfl (K1 _ _ lk) rfl har rfl (K1 _ _ hcode) rfl hvs hfile htop ?_
  refine ks_loadName_global S.kind S.ks (loadGlobal_builtin (env := ksEnv qual scope s.heap.objs.size f (.ref cda) cc) (I.mod.glob.keeps I.bk) (mg_none_of I.mod.kin I.mod.glob hsuper) (hb1.keeps I.bk) ((hb2 _ (by decide)).trans hboot) ⟨rfl, ?_⟩)
  refine wpAny_loadName_free S.kind S.kc rfl ⟨_, K1 _ _ hcell, rfl⟩ ?_
  refine wpAny_loadName_local S.kind (by rw [hself]; exact S.ls) hns1 hself1 ?_
  refine ks_wpAny_isType_cls (K1 _ _ hC) rfl ⟨rfl, ?_⟩
  refine ks_wpAny_call_super (K1 _ _ hC) rfl ho rfl (fun c e => by cases e) (looks_mroIn K1 hsub) (fun h2 e2 k2 => ?_)
  obtain ⟨of, hof, hofc⟩ : ∃ of, hh.get? f0 = some of ∧ of.cls = .type "function" := by
    have ht' : (K.lookup f0).map (·.cls) = some (.type "function") := ht
    cases z : K.lookup f0 with
    | none => rw [z] at ht'; cases ht'
    | some of => rw [z] at ht'; exact ⟨of, K1 _ _ z, Option.some.inj ht'⟩
  have K2 : K.In h2 := K1.keeps k2
  have hm' : alongIn K "__init__" (((Value.ref C :: bm).dropWhile (· != .ref C)).drop 1) = some (some (.ref f0)) := by
    unfold ks_superIn at hm
    rw [hcl] at hm
    exact hm
  refine ks_wpAny_getMethod_super e2 (looks_opaque K2 hany) (l₀ := .ref C :: bm) (fun A Q E s k q => wpAny_bind ((looks_clsIn K2 hcl) A _ E s k (wpAny_pure q))) rfl K2 hm' (k2 _ _ hof) hofc (ks_ne K1 J hcl) rfl ?_
  have k3 : ∀ b o, hh.get? b = some o → (h2.push { cls := .type "method", data := .fields #[.ref f0, .ref a] }).get? b = some o := fun b o e => Heap.get?_push_of_some _ (k2 _ _ e)
  have hq3 : (h2.push { cls := .type "method", data := .fields #[.ref f0, .ref a] }).get? h2.objs.size = some (methodObj (.ref f0) (.ref a)) := Heap.get?_push_at rfl rfl
  have I3 : Inv X [] (L2.start ["self", par] [.ref a, y]) H ⟨h2.push { cls := .type "method", data := .fields #[.ref f0, .ref a] }, gg, dd, tt + 1, os⟩ := I.kept (t' := tt + 1) k3
  refine callWith_M0 (K := K) (first := []) ⟨hq3, I3.kIn⟩ hfn ?_
  show wpAny _ _ (call (.ref h2.objs.size) []) _ _ _
  refine wpAny_call (ks_codeAny_call_bound hq3 ?_)
  let QQ : VK := fun v H2 => v = .non ∧ ∃ dx, H dx = none ∧ dx ≠ a ∧ H2 = upd (upd H dx (exd dx [("code", .str nm)])) a (exo a C (some dx))
  have hsp : spInit K [.ref a] H QQ (fun _ _ _ => False) := ⟨a, C, nm, rfl, ea, T, fun dx n ne => ⟨rfl, dx, n, ne, rfl⟩⟩
  refine codeAny_mono (F0.run (A.deeper (ksEnv qual scope s.heap.objs.size f (.ref cda) cc)) X.stack _ H ⟨[.ref a], []⟩ [.ref a] [V.ref a] QQ (fun _ _ _ => False) (hr.deeper _) I3.env0 (bf0 _ [Value.ref a] I3.kIn rfl) (.cons rfl .nil) hsp) fun r s' z => ?_
  cases r with
  | error er => exact absurd z (hcx _ _ _ _ _)
  | ok fl =>
    cases fl with
    | ret u =>
      obtain ⟨v, H2, I4, rv, ev, dx, n, ne, eH⟩ := I3.after z
      subst ev
      subst eH
      refine wpAt_of_wpAny ?_
      have at0 : (L2.start ["self", par] [V.ref a, y])[0]? = some (some (V.ref a)) := rfl
      have at1 : (L2.start ["self", par] [V.ref a, y])[1]? = some (some y) := rfl
      refine wpAny_mono ((pss_one (ps_ostG (X := X) (f := fld) (p' := p6) (pos := p8) (pe_var (X := X) (i := 0) (x := "self") (pos := p5) rfl (.inl S.ls)) (pe_var (X := X) (i := 1) (x := par) (pos := p7) rfl (.inl S.lp) S.nd S.nc))).run [] s' _ _ { nx := fun _ H' => Q .non H', rt := Q } I4 ?_) (fun fl2 s2 hs2 => ?_) fun e s2 hs2 => hs2
      · refine ⟨y, at1, .ref a, at0, a, C, rfl, T.oex, hfld, .inr ⟨dx, [("code", .str nm)], upd_same, ?_, Nat.le_of_lt_succ (Nat.succ_lt_succ (by decide : 0 < 900)), ?_⟩⟩
        · rw [upd_ne ne, upd_same]
        · have eq : upd (upd (upd H dx (exd dx [("code", .str nm)])) a (exo a C (some dx))) dx (exd dx [(fld, y), ("code", .str nm)]) = upd (upd H dx (exd dx [(fld, y), ("code", .str nm)])) a (exo a C (some dx)) := by
            funext b
            by_cases hba : b = a
            · rw [hba, upd_ne (Ne.symm ne), upd_same, upd_same]
            · rw [upd_ne hba]
              by_cases hbd : b = dx
              · rw [hbd, upd_same, upd_same]
              · rw [upd_ne hbd, upd_ne hba, upd_ne hbd, upd_ne hbd]
          show Q .non (upd (upd (upd H dx (exd dx [("code", .str nm)])) a (exo a C (some dx))) dx (exd dx [(fld, y), ("code", .str nm)]))
          rw [eq]
          exact q dx n ne
      · have fin : ∀ {σ' : L2.St} {H' : Hp} {v : V} {u : Value}, Inv X [] σ' H' s2 → RelV v u → Q v H' → CE outer P w H s Q u s2 :=
          fun {σ' H' v u} J rv q => ⟨v, H', J.os, J.bare, J.base, J.hok, rv, q⟩
        cases fl2 with
        | ret u =>
          obtain ⟨v, σ', H', J, rv, q⟩ := hs2
          exact fin J rv q
        | next =>
          obtain ⟨σ', H', J, q⟩ := hs2
          exact fin (v := V.non) (u := Value.none) J rfl q
        | brk =>
          obtain ⟨_, _, _, q⟩ := hs2
          exact False.elim q
        | cont =>
          obtain ⟨_, _, _, q⟩ := hs2
          exact False.elim q
    | next => exact False.elim z
    | brk => exact False.elim z
    | cont => exact False.elim z
end

/-! ### raise C(e) -/
omit [DL.Me] in
def kRaiseF (nm fld : Str) (f : DM Dt) : DMsX := fun s => (f s).bind fun p => some (.ex ⟨nm, [(fld, p.1)]⟩, p.2)
section
variable {X : Cx} {W : XK}
theorem dsx_raiseF {CX : CXT} {nm x par fld : Str} {C fI : Addr} {k : Nat} {fd : FuncData} {e : Expr} {f : DM Dt} {p p2 pos : Pos} (hc : X.calm = true) (tk : Takes X (fun cls d _ H => W cls d H)) (T : ErrC X.K C nm) (iC : findIn X.K (.ref C) "__init__" = some (some (.ref fI))) (tI : typeIn X.K (.ref fI) = some (.type "function"))
    (F1 : FnOk X.prog X.w X.K X.mg X.base CX k fI fd ["self", par] (spInitS X.K C nm fld)) (hr : Room (k + 1) X.A) (hb : L2.Binds X.K fd ["self", par] []) (hx : Passes CX X (fun _ _ _ => False)) (hg : Gl X x) (hm : X.mg x = some (.ref C)) (he : DE X e f) (hfc : (("code" : Str) == fld) = false)
    (hdb : (x == ("__debug__" : Str)) = false := by decide) (hst : starEach [e] X.env = (false, eval e X.env) :: starEach [] X.env := by rfl) (hpl : (backTo p2 (starEach [] X.env)).any (·.1) = false := by rfl) : DSX X W (.Raise (some (.Call (.Name x p) [e] [] p2)) none pos) (kRaiseF nm fld f) := by
  obtain ⟨t, pe, ok⟩ := he
  have pr := ps_raise (pos := pos) hc tk (pmk_errG (p := p) (pos := p2) (es := []) T.oex iC tI F1 hr hb hx hg hm (pa_cons pe pa_nil hst) hdb hst hpl)
  refine ⟨fun pins s σ H D I k => pr.run pins s σ H D I ?_⟩
  obtain ⟨β, P, G, z, r, z', R, e1, q⟩ := k
  unfold kRaiseF at e1
  obtain ⟨⟨d, s1⟩, e2, e1⟩ := Option.bind_eq_some_iff.mp e1
  cases e1
  refine ok β P σ H G z d s1 R e2 _ fun v H1 G1 x1 R1 i1 => ?_
  refine ⟨Nat.succ_le_succ (Nat.zero_le _), fun a ha => ⟨a, v, rfl, upd_same, T, fun dx n ne => ?_⟩⟩
  rw [upd_ne ne] at n
  refine ⟨rfl, dx, [(fld, v), ("code", .str nm)], upd_same, by rw [upd_ne ne, upd_same], n, ?_⟩
  have eq : upd (del (upd (upd (upd H1 a (exo a C none)) dx (exd dx [(fld, v), ("code", .str nm)])) a (exo a C (some dx))) a) dx (.xd [(fld, v), ("code", .str nm)]) = upd H1 dx (.xd [(fld, v), ("code", .str nm)]) := by
    funext b
    by_cases hbd : b = dx
    · rw [hbd, upd_same, upd_same]
    · rw [upd_ne hbd, upd_ne hbd]
      by_cases hbe : b = a
      · rw [hbe, del_same, ha]
      · rw [del_ne hbe, upd_ne hbe, upd_ne hbd, upd_ne hbe]
  rw [eq]
  have xn := Ext.new (o := HO.xd [(fld, v), ("code", .str nm)]) (R1.free n)
  refine q C dx σ _ _ (x1.trans xn) (R1.new n) T ⟨_, upd_same, by rw [List.lookup_cons, hfc]; rfl, fun y hy => ?_⟩
  rcases List.mem_cons.mp hy with e | hy
  · subst e
    exact ⟨v, by rw [List.lookup_cons, beq_self_eq_true], IsD.mono xn _ _ i1⟩
  · cases hy
end

/-! ### such a class, its facts -/
omit [DL.Me] in
/-- the class x at C keeps the field fld; its __init__ calls the base's, at f0 -/
structure ErrF (P : Program) (w : World) (K : Frag) (mg : Str → Option Value) (x fld : Str) (f0 : Addr) : Prop where
  fc : (("code" : Str) == fld) = false
  ex : ∃ (C fI : Addr) (fd : FuncData) (par : Str), mg x = some (.ref C) ∧ ErrC K C x ∧ findIn K (.ref C) "__init__" = some (some (.ref fI)) ∧ typeIn K (.ref fI) = some (.type "function") ∧ L2.Binds K fd ["self", par] [] ∧
    ∀ (base : Heap) (CX : CXT) (k : Nat) (fd0 : FuncData), FnOk P w K mg base CX k f0 fd0 ["self"] (spInit K) → L2.Binds K fd0 ["self"] [] → (∀ outer H s e s', ¬ CX outer H s (fun _ _ _ => False) e s') → FnOk P w K mg base CX (k + 1) fI fd ["self", par] (spInitS K C x fld)
section
variable {X : Cx} {W : XK}
theorem dsx_raiseFK {x fld : Str} {f0 : Addr} {k : Nat} {fd0 : FuncData} {e : Expr} {f : DM Dt} {p p2 pos : Pos} (T : ErrF X.prog X.w X.K X.mg x fld f0) (tk : Takes X (fun cls d _ H => W cls d H)) (hr : Room (k + 2) X.A)
    (F0 : FnOk X.prog X.w X.K X.mg X.base CX0 k f0 fd0 ["self"] (spInit X.K)) (hb0 : L2.Binds X.K fd0 ["self"] []) (hg : Gl X x) (he : DE X e f) (hc : X.calm = true := by rfl) (hdb : (x == ("__debug__" : Str)) = false := by decide)
    (hst : starEach [e] X.env = (false, eval e X.env) :: starEach [] X.env := by rfl) : DSX X W (.Raise (some (.Call (.Name x p) [e] [] p2)) none pos) (kRaiseF x fld f) := by
  obtain ⟨C, fI, fd, par, m, TC, i, t, hb, G⟩ := T.ex
  exact dsx_raiseF hc tk TC i t (G _ _ _ _ F0 hb0 fun _ _ _ _ _ h => h) hr hb (fun _ _ _ _ _ _ _ h => h.elim) hg m he T.fc hdb hst
end
omit [DL.Me] in
def supB (sc : Scope) (par : Str) : Bool := sc.kind == .function && !sc.isCoroutine && !sc.isGenerator && (sc.names.all fun y => y.2 != .cell) && (sc.names.all fun y => y.2 != .free || y.1 == "__class__") && (sc.names.lookup ("__class__" : Str) == some .free) && (sc.names.lookup ("super" : Str) == some .globalImplicit) &&
  (sc.names.lookup ("self" : Str) == some .local) && (sc.names.lookup par == some .local) && (par != "self") && !(par == ("__debug__" : Str)) && !(par == ("__classdict__" : Str))
theorem sup_by {sc : Scope} {par : Str} (h : supB sc par = true) : SupScope sc par := by
  unfold supB at h
  simp only [Bool.and_eq_true, List.all_eq_true, beq_iff_eq, Bool.not_eq_true', bne_iff_ne, Bool.or_eq_true] at h
  obtain ⟨⟨⟨⟨⟨⟨⟨⟨⟨⟨⟨h1, h2⟩, h3⟩, h4⟩, h5⟩, h6⟩, h7⟩, h8⟩, h9⟩, h10⟩, h11⟩, h12⟩ := h
  exact ⟨h1, h2, h3, h4, fun y hy e => (h5 y hy).resolve_left fun z => z e, h6, h7, h8, h9, h10, h11, h12⟩
theorem errF_of {P : Program} {w : World} {K : Frag} {mg : Str → Option Value} {x fld qual par file : Str} {f0 C fI cc cda : Addr} {st : Stmt} {ar : Arg} {dV kV doc pm ct oc ccl cl : Value} {an od cdd cld : Option Addr} {osl ccs csl : Array (Option Value)} {vsc : Array Value} {tf : Tok} {p0 p1 p2 p3 p4 p5 p6 p7 p8 : Pos}
    (m : mg x = some (.ref C)) (T : ErrC K C x) (iC : findIn K (.ref C) "__init__" = some (some (.ref fI))) (tI : typeIn K (.ref fI) = some (.type "function"))
    (lk : K.lookup fI = some ⟨oc, od, .func (ksFn "__init__" qual (defArgs st) (defBody st) (defScope st) dV kV doc pm an (.ref cda) ct cc), osl⟩) (hcd : codeIn K (.ref cda) qual = true)
    (hcode : K.lookup cda = some ⟨ccl, cdd, .fields vsc, ccs⟩) (hvs : vsc[2]? = some (.str file tf)) (hfile : ((P.main.file : Str) == file) = true) (hcell : K.lookup cc = some ⟨cl, cld, .cell (some (.ref C)), csl⟩)
    (htop : (P.main.scope.names.lookup ("super" : Str)).isSome = false) (hsuper : nsIn K mainGlobals "super" = some none) (hany : nsIn K cStatics "thirdparty.any" = some none)
    (hsub : mroIn K C (.ref C) = some true) (hm : ks_superIn K C C "__init__" = some (some (.ref f0))) (ht : typeIn K (.ref f0) = some (.type "function")) (hfn : fnIn K f0 = true)
    (S : SupScope (defScope st) par) (har : ((defArgs st).posonlyargs ++ (defArgs st).args).head? = some ar) (hself : ar.arg = "self") (hfl : fld ∈ errFields) (hfc : (("code" : Str) == fld) = false) (hboot : bootBuiltins "super" = some (.type "super"))
    (hb : L2.Binds K (ksFn "__init__" qual (defArgs st) (defBody st) (defScope st) dV kV doc pm an (.ref cda) ct cc) ["self", par] [])
    (hbody : defBody st = [.Expr (.Call (.Attribute (.Call (.Name "super" p0) [] [] p1) "__init__" p2) [] [] p3) p4, .Assign [.Attribute (.Name "self" p5) fld p6] (.Name par p7) p8])
    (hev : ∀ L : Addr, ∃ pl : Sem Bool, eval (.Call (.Attribute (.Call (.Name "super" p0) [] [] p1) "__init__" p2) [] [] p3) (ksEnv qual (defScope st) L fI (.ref cda) cc) = (do
      let ov ← attributeBase (.Call (.Name "super" p0) [] [] p1) "__init__" (ksEnv qual (defScope st) L fI (.ref cda) cc) (eval (.Call (.Name "super" p0) [] [] p1) (ksEnv qual (defScope st) L fI (.ref cda) cc))
      standAt p2.atName
      let (g, first) ← holding [ov] (getMethod ov "__init__" pl)
      callWith p3 g first (backTo p3 (starEach [] (ksEnv qual (defScope st) L fI (.ref cda) cc))) [])) : ErrF P w K mg x fld f0 := by
  refine ⟨hfc, C, fI, _, par, m, T, iC, tI, hb, fun base CX k fd0 F0 b0 hcx => ?_⟩
  rw [hbody] at lk ⊢
  exact fn_initS lk hcd S har hself hcode hvs hfile hcell htop hsuper hboot hany hsub hm ht hfn (T.nof hfl) F0 b0 hcx hev
end DX

set_option maxHeartbeats 4000000
/-! what is walked raises: a comprehension, a for, a generator's list; min, max of two ints -/
namespace DX
open PySem PySem.Spec PySem.Calls PyProof.Rows PySem.W L2 DL
variable [DL.Tabs] [DL.Me]

omit [DL.Me] in
/-- the reading of an expression that must raise -/
def mRaises (f : DMX) : DMX := fun s => (f s).bind fun p => match p.1 with
  | .inr er => some (.inr er, p.2)
  | .inl _ => none
omit [DL.Me] in
def kRaises (f : DMX) : DMsX := fun s => (f s).bind fun p => match p.1 with
  | .inr er => some (.ex er, p.2)
  | .inl _ => none
section
variable {X : Cx} {W : XK} {tg iter elt : Expr} {ifs : List Expr} {more : List Comprehension} {scope : Scope} {pos : Pos} {f : DMX}
theorem pe_lcX {ti : TE} (hi : PE X iter ti) : PE X (.ListComp elt (⟨tg, iter, ifs, 0⟩ :: more) scope pos) (fun σ H Q => ti σ H fun _ _ => False) := by
  refine ⟨fun pins s σ H Q I h => ?_⟩
  rw [eval_ListComp]
  unfold comprehension
  refine wpAny_bind (wpAny_mono (hi.run pins s σ H (fun _ _ => False) I h) (fun v s1 z => ?_) fun _ _ z => z)
  obtain ⟨_, _, _, _, z⟩ := z
  exact z.elim
theorem dex_compX (he : DEX X W iter f) : DEX X W (.ListComp elt (⟨tg, iter, ifs, 0⟩ :: more) scope pos) (mRaises f) := by
  refine ⟨fun pins s σ H Q I h => (pe_lcX he).run pins s σ H Q I ?_⟩
  obtain ⟨β, P, G, z, r, z', R, e1, q⟩ := h
  unfold mRaises at e1
  obtain ⟨⟨y, s1⟩, e2, e1⟩ := Option.bind_eq_some_iff.mp e1
  cases y with
  | inl d => cases e1
  | inr er =>
    cases e1
    exact ⟨β, P, G, z, _, _, R, e2, q⟩
theorem dsx_forX {body : List Stmt} (he : DEX X W iter f) (hs : ∀ x, foldedSetIterable iter X.env x = pure x := by intro _; rfl) : DSX X W (.For tg iter body [] pos) (kRaises f) := by
  refine ⟨fun pins s σ H D I h => ?_⟩
  obtain ⟨β, P, G, z, r, z', R, e1, q⟩ := h
  unfold kRaises at e1
  obtain ⟨⟨y, s1⟩, e2, e1⟩ := Option.bind_eq_some_iff.mp e1
  cases y with
  | inl d => cases e1
  | inr er =>
    cases e1
    refine wpAny_For (wpAny_mono (he.run pins s σ H (fun _ _ => False) I ⟨β, P, G, z, _, _, R, e2, ?_⟩) (fun v s1 z => ?_) fun _ _ z => z) hs
    · exact fun C dd H' G' x R' ec gd => q C dd σ H' G' x R' ec gd
    · obtain ⟨_, _, _, _, z⟩ := z
      exact z.elim
end

/-! ### a generator def whose walk raises at its start -/
omit [DL.Me] in
def spGX (K : Frag) (n : Nat) (F : FDX) : SpG := fun vs H Q E => ∃ (β : Addr) (P G : Hp) (ds bg : List Dt) (er : Er) (bg' : List Dt), vs.length = n ∧ IsL K β G ds vs ∧ Rel K β P [] H G ⟨[], bg⟩ ∧ F ds bg = some (.inr er, bg') ∧ errAt K β P [] G ⟨[], bg'⟩ E er
section
variable {P : Program} {w : World} {K : Frag} {mg : Str → Option Value} {base : Heap}
theorem gfn_raises {x qual : Str} {st : Stmt} {f : Addr} {fd : FuncData} {N ps : List Str} {k n : Nat} {g : DMsX} {sf : Stmt} (F : Fun K x qual st f fd) (S : GScope N ps (defScope st)) (hbody : defBody st = [sf]) (hn : ps.length = n := by rfl)
    (hb : ∀ (cdv : Value) (A : Around) (outer : List Env) (s : Shared) (H : Hp) (E : XK) (pn : List (Addr × Obj)), Room k (A.deeper (envOfC qual (defScope st) s.heap.objs.size f cdv)) → Takes (gcxOf P w K mg base N qual (defScope st) f cdv A outer s H E pn) (fun cls d _ H => E cls d H) →
      DSX (gcxOf P w K mg base N qual (defScope st) f cdv A outer s H E pn) E sf g) : GFn P w K mg base (k + 1) f fd ps (spGX K n (fnDX N.length g)) := by
  obtain ⟨oc, od, kV, doc, pm, an, cdv, ct, osl, rfl, lk, hcd⟩ := F.ex
  refine gfn_of lk hcd S (fun vs H Q E h => ?_) fun A outer s H vs Q E pn hr h => ?_
  · obtain ⟨_, _, _, _, _, _, _, h, _⟩ := h
    rw [hn]
    exact h
  · obtain ⟨β, PP, G, ds, bg, er, bg', hl, i, R, e, q⟩ := h
    rw [hbody]
    refine ⟨_, gss_pss (pss_one (hb cdv A outer s H E pn hr takes_gcx)), ?_⟩
    unfold fnDX at e
    obtain ⟨⟨res, s'⟩, e1, e⟩ := Option.bind_eq_some_iff.mp e
    refine ⟨β, PP, G, _, res, s', rel_start i R, e1, ?_⟩
    cases res with
    | nx => cases e
    | rt d => cases e
    | bk => cases e
    | ct => cases e
    | ex nm =>
      cases e
      exact fun C dd σ' H' G' x R' ec gd => q C dd H' G' x R'.leave ec gd
end
omit [DL.Me] in
/-- list(g(..)), g's walk raising -/
def mListGX (F : FDX) (f : DM (List Dt)) : DMX := mRaises (mAppX F f)
section
variable {X : Cx} {W : XK}
theorem dex_listG {k n : Nat} {g : Addr} {fd : FuncData} {ps : List Str} {F : FDX} {x : Str} {e : Expr} {es : List Expr} {f : DM (List Dt)} {p p1 pos pos2 : Pos} (tk : Takes X (fun cls d _ H => W cls d H)) (FF : GFn X.prog X.w X.K X.mg X.base k g fd ps (spGX X.K n F)) (hr : Room (k + 3) X.A) (hg : Gl X x) (hm : X.mg x = some (.ref g)) (hk : keepIn X.K (.ref g) = true)
    (hb : L2.Binds X.K fd ps []) (ha : DA X (e :: es) f) (hn : ∀ s ds s', f s = some (ds, s') → ds.length = n) (hgl : Gl X "list") (hml : X.mg "list" = none) (hdb : (x == ("__debug__" : Str)) = false := by decide)
    (he : starEach (e :: es) X.env = (false, eval e X.env) :: starEach es X.env := by rfl) (hpl : (backTo pos2 (starEach es X.env)).any (·.1) = false := by rfl) (he2 : starEach [.Call (.Name x p1) (e :: es) [] pos2] X.env = (false, eval (.Call (.Name x p1) (e :: es) [] pos2) X.env) :: starEach [] X.env := by rfl) :
    DEX X W (.Call (.Name "list" p) [.Call (.Name x p1) (e :: es) [] pos2] [] pos) (mListGX F f) := by
  obtain ⟨t, pa, ok⟩ := ha
  let W' : XK := fun cls d H => W cls d H ∧ subIn X.K cls (.type "StopIteration") = some false
  have pg := pgen_call (E := W') (p := p1) (pos' := pos2) FF (hr.mono (Nat.le_add_right _ _)) hg hm hk hb .nil pa hdb he hpl
  have pe := pe_listG (p := p) (pos := pos) pg (passes_call (E := W') tk fun _ _ _ _ h => h.1) (fun _ _ _ h => h.2) hr hgl hml (by decide +kernel) (he := he2)
  refine ⟨fun pins s σ H Q I h => pe.run pins s σ H Q I ?_⟩
  obtain ⟨β, P, G, z, r, z', R, e1, q⟩ := h
  unfold mListGX mRaises at e1
  obtain ⟨⟨y, s1⟩, e2, e1⟩ := Option.bind_eq_some_iff.mp e1
  cases y with
  | inl d => cases e1
  | inr er =>
    cases e1
    unfold mAppX at e2
    obtain ⟨⟨ds, s2⟩, e3, e2⟩ := Option.bind_eq_some_iff.mp e2
    obtain ⟨⟨y2, bg'⟩, e4, e2⟩ := Option.bind_eq_some_iff.mp e2
    cases e2
    refine ok β P σ H G z ds s2 R e3 _ fun vs H1 G1 x1 R1 i1 => ?_
    rw [List.append_nil]
    refine ⟨β, shut β H1 G1, G1, ds, s2.bag, er, bg', by rw [i1.len]; exact hn _ _ _ e3, i1, R1.callee, e4, ?_⟩
    exact fun C dd H' G' x2 R2 ec gd => ⟨q C dd H' G' (x1.trans x2) (R1.back x2 R2) ec gd, ec.ns⟩
end

/-! ### min, max of two ints -/
omit [DL.Me] in
def gMax2 : List Dt → Option Dt
  | [.int i, .int j] => some (.int (if j > i then j else i))
  | _ => none
omit [DL.Me] in
def gMin2 : List Dt → Option Dt
  | [.int i, .int j] => some (.int (if j < i then j else i))
  | _ => none
theorem ok_max2 {K : Frag} : Rok K (fun xs H Q => ∃ i j, xs = [.int i, .int j] ∧ Q (.int (if j > i then j else i)) H) gMax2 := by
  intro β P σ H G s vs ds d R i e Q q
  unfold gMax2 at e
  split at e
  · cases e
    obtain ⟨v, vs2, rfl, h, i2⟩ := isl_cons.mp i
    obtain ⟨u, rfl, h2⟩ := one_of i2
    exact ⟨_, _, by rw [is_int.mp h, is_int.mp h2], q _ H G (Ext.refl G) R (is_int.mpr rfl)⟩
  · cases e
theorem ok_min2 {K : Frag} : Rok K (fun xs H Q => ∃ i j, xs = [.int i, .int j] ∧ Q (.int (if j < i then j else i)) H) gMin2 := by
  intro β P σ H G s vs ds d R i e Q q
  unfold gMin2 at e
  split at e
  · cases e
    obtain ⟨v, vs2, rfl, h, i2⟩ := isl_cons.mp i
    obtain ⟨u, rfl, h2⟩ := one_of i2
    exact ⟨_, _, by rw [is_int.mp h, is_int.mp h2], q _ H G (Ext.refl G) R (is_int.mpr rfl)⟩
  · cases e
end DX

set_option maxHeartbeats 4000000
/-! errors of own classes as data: made, read, asked for their class -/
namespace DE1
open PySem PySem.Spec PySem.Calls PyProof.Rows PySem.W L2 DL DX
variable [DL.Tabs] [DL.Me]

/-! ### an attribute read -/
omit [DL.Tabs] [DL.Me] in
def tEfl (K : Frag) (f : Str) (te : TE) : TE := fun σ H Q => te σ H fun v H1 => ∃ (a C dx : Addr) (fs : List (Str × V)) (u : V), v = .ref a ∧ H1 a = some (exo a C (some dx)) ∧ H1 dx = some (exd dx fs) ∧ ExcC K C ∧ findIn K (.ref C) f = some none ∧ fs.lookup f = some u ∧ Q u H1
theorem pe_efl {X : Cx} {e : Expr} {te : TE} {f : Str} {pos : Pos} (he : PE X e te) (hb : attributeBase e f X.env (eval e X.env) = eval e X.env := by rfl) : PE X (.Attribute e f pos) (tEfl X.K f te) := by
  refine ⟨fun pins s σ H Q I h => ?_⟩
  refine attr_of hb (thn (he.run pins s σ H _ I h) fun w s1 hh => ?_)
  obtain ⟨x, H1, I1, rx, a, C, dx, fs, u, ex, ea, ed, T, hno, l, q⟩ := hh
  subst ex
  obtain rfl : w = Value.ref a := rx
  obtain ⟨t1, ho⟩ := exo_at I1.hok ea
  obtain ⟨mA, hns, rel⟩ := exd_at I1.hok ed
  obtain ⟨oD, hD, hl⟩ := lookIn_ns hns
  obtain ⟨z, hz, rz⟩ := RelO.some_of (v := u) (o := mA f) (by rw [← l]; exact rel f)
  have J : InstAt s1.heap a { cls := .ref C, dict := some dx, data := .fields #[.ref t1, .none, .none, .none, .bool false, .none] } C (some oD) := ⟨ho, rfl, rfl, hD⟩
  have own := findObj_own (K := X.K) (od := oD) (name := f) T.hd hno rfl (by rw [hl, hz])
  exact HandSPX.exc_get I1.kIn J T.hg T.hk T.hs own (handed_of rz) ⟨u, H1, I1.tok _, rz, q⟩
omit [DL.Me] in
def lookE (f : Str) : List Str → List Dt → Option Dt
  | k :: ks, d :: l => if (f == k) = true then some d else lookE f ks l
  | _, _ => none
theorem lookE_ok {K : Frag} {β : Addr} {G : Hp} {f : Str} : ∀ {ks : List Str} {l : List Dt} {vs : List V} {d : Dt}, IsL K β G l vs → lookE f ks l = some d → ∃ v, (ks.zip vs).lookup f = some v ∧ IsD K β G d v
  | [], _, _, _, _, e => by simp [lookE] at e
  | _ :: _, [], _, _, _, e => by simp [lookE] at e
  | k :: ks, d :: l, vs, d', h, e => by
    obtain ⟨v, r, rfl, h1, h2⟩ := isl_cons.mp h
    unfold lookE at e
    cases c : f == k with
    | true =>
      rw [c, if_pos rfl] at e
      cases e
      exact ⟨v, by simp only [List.zip_cons_cons, List.lookup, c], h1⟩
    | false =>
      rw [c, if_neg Bool.false_ne_true] at e
      obtain ⟨u, e1, e2⟩ := lookE_ok h2 e
      exact ⟨u, by simp only [List.zip_cons_cons, List.lookup, c]; exact e1, e2⟩
omit [DL.Me] in
def mEfl (f : Str) (fo : DM Dt) : DM Dt := fun s => (fo s).bind fun p => match p.1 with
  | .err _ ks l => (lookE f ks l).bind fun d => some (d, p.2)
  | _ => none
theorem de_efl {X : Cx} {o : Expr} {fo : DM Dt} {f : Str} {pos : Pos} (hf : f ∈ errAll) (ho : DE X o fo) (hb : attributeBase o f X.env (eval o X.env) = eval o X.env := by rfl) : DE X (.Attribute o f pos) (mEfl f fo) := by
  obtain ⟨t, p, ok⟩ := ho
  refine ⟨_, pe_efl p hb, fun β P σ H G s d s' R e Q q => ?_⟩
  unfold mEfl at e
  obtain ⟨⟨x, s1⟩, e1, e⟩ := Option.bind_eq_some_iff.mp e
  cases x with
  | err c ks l =>
    dsimp only at e
    obtain ⟨y, e2, e⟩ := Option.bind_eq_some_iff.mp e
    cases e
    refine ok β P σ H G s _ _ R e1 _ fun v H1 G1 x1 R1 i1 => ?_
    obtain ⟨a, C, dx, vs, rfl, h0, h1, h2, h3, h4⟩ := is_err.mp i1
    obtain ⟨u, e3, e4⟩ := lookE_ok h4 e2
    exact ⟨a, C, dx, _, u, rfl, R1.gh _ _ h1, R1.gh _ _ h2, h0.exc, h0.no hf, e3, q u H1 G1 x1 R1 e4⟩
  | _ => cases e

/-! ### isinstance(e, c) -/
omit [DL.Me] in
/-- by the error's class: tab tells it -/
def mIsE (tab : List (Str × Bool)) (fo : DM Dt) : DM Dt := fun s => (fo s).bind fun p => match p.1 with
  | .err c _ _ => (tab.lookup c).bind fun b => some (.bl b, p.2)
  | _ => none
omit [DL.Me] in
/-- what the written part says of the classes that the table names -/
def TabE (K : Frag) (u : Value) (tab : List (Str × Bool)) : Prop := ∀ c b, (c, b) ∈ tab → ∀ C, nsIn K mainGlobals c = some (some (.ref C)) → kitOne K (.ref C) u = some b
theorem tabE_nil {K : Frag} {u : Value} : TabE K u [] := fun _ _ h => nomatch h
theorem tabE_cons {K : Frag} {u : Value} {c : Str} {b : Bool} {C : Addr} {l : List (Str × Bool)} (h1 : nsIn K mainGlobals c = some (some (.ref C))) (h2 : kitOne K (.ref C) u = some b) (h : TabE K u l) : TabE K u ((c, b) :: l) := fun c' b' m C' e => by
  rcases List.mem_cons.mp m with m | m
  · cases m
    rw [h1] at e
    cases e
    exact h2
  · exact h c' b' m C' e
omit [DL.Tabs] [DL.Me] in
theorem mem_look {c : Str} {b : Bool} : ∀ {l : List (Str × Bool)}, l.lookup c = some b → (c, b) ∈ l
  | [], h => by cases h
  | (k, x) :: r, h => by
    simp only [List.lookup] at h
    split at h
    · rename_i q
      cases h
      rw [eq_of_beq q]
      exact List.mem_cons_self
    · exact List.mem_cons_of_mem _ (mem_look h)
section
variable {X : Cx} {p pos p2 : Pos} {e : Expr} {fo : DM Dt} {x : Str} {tab : List (Str × Bool)}
theorem de_isE {c : V} {u : Value} (hc : ClsV c u) (pc : PE X (.Name x p2) (tC c)) (ht : TabE X.K u tab) (hg : Gl X "isinstance") (hm : X.mg "isinstance" = none) (hv : bootBuiltins "isinstance" = some (.builtin "isinstance")) (he : DE X e fo)
    (hs : starEach [e, .Name x p2] X.env = (false, eval e X.env) :: starEach [.Name x p2] X.env := by rfl) (hpl : (backTo pos (starEach [.Name x p2] X.env)).any (·.1) = false := by rfl) :
    DE X (.Call (.Name "isinstance" p) [e, .Name x p2] [] pos) (mIsE tab fo) := by
  obtain ⟨t, pp, o⟩ := he
  refine ⟨_, pe_callB call_isE1 hg hm hv (pa_cons pp (pa_cons pc pa_nil) hs) (by decide) (by decide) hs hpl, fun β P σ H G s b s' R eo Q q => ?_⟩
  unfold mIsE at eo
  obtain ⟨⟨y, s1⟩, e1, eo⟩ := Option.bind_eq_some_iff.mp eo
  cases y with
  | err nm ks l =>
    dsimp only at eo
    obtain ⟨b', e2, eo⟩ := Option.bind_eq_some_iff.mp eo
    cases eo
    refine o β P σ H G s _ _ R e1 _ fun v H1 G1 x1 R1 i1 => ?_
    obtain ⟨a, C, dx, vs, rfl, h0, h1, h2, h3, h4⟩ := is_err.mp i1
    refine ⟨.ref a, c, .ref C, u, b', rfl, hc, .inr ⟨a, C, dx, _, rfl, rfl, R1.gh _ _ h1, R1.gh _ _ h2, h0.exc⟩, ht _ _ (mem_look e2) C h0.at_, q _ H1 G1 x1 R1 (is_bl.mpr rfl)⟩
  | _ => cases eo
/-- an own class -/
theorem de_isEo {C : Addr} (hg1 : Gl X x) (hm1 : X.mg x = some (.ref C)) (ht : TabE X.K (.ref C) tab) (hg : Gl X "isinstance") (hm : X.mg "isinstance" = none) (hv : bootBuiltins "isinstance" = some (.builtin "isinstance")) (he : DE X e fo) (hd : (x == ("__debug__" : Str)) = false := by decide)
    (hs : starEach [e, .Name x p2] X.env = (false, eval e X.env) :: starEach [.Name x p2] X.env := by rfl) (hpl : (backTo pos (starEach [.Name x p2] X.env)).any (·.1) = false := by rfl) :
    DE X (.Call (.Name "isinstance" p) [e, .Name x p2] [] pos) (mIsE tab fo) :=
  de_isE (.own C) (pe_glob hg1 hm1 rfl hd) ht hg hm hv he hs hpl
/-- a class of Python's own -/
theorem de_isEb {T : String} (hg1 : Gl X x) (hm1 : X.mg x = none) (hv1 : bootBuiltins x = some (.type T)) (ht : TabE X.K (.type T) tab) (hg : Gl X "isinstance") (hm : X.mg "isinstance" = none) (hv : bootBuiltins "isinstance" = some (.builtin "isinstance")) (he : DE X e fo)
    (hn : x ≠ "__name__" := by decide) (hd : (x == ("__debug__" : Str)) = false := by decide)
    (hs : starEach [e, .Name x p2] X.env = (false, eval e X.env) :: starEach [.Name x p2] X.env := by rfl) (hpl : (backTo pos (starEach [.Name x p2] X.env)).any (·.1) = false := by rfl) :
    DE X (.Call (.Name "isinstance" p) [e, .Name x p2] [] pos) (mIsE tab fo) :=
  de_isE (.ty T) (pe_bltn (v := .ty T) hg1 hm1 hv1 rfl hn hd) ht hg hm hv he hs hpl
end

/-! ### C(), C(x) -/
omit [DL.Me] in
def mErr0 (nm : Str) : DM Dt := fun s => some (.err nm ["code"] [.str nm], s)
omit [DL.Me] in
def mErr1 (nm fld : Str) (f : DM Dt) : DM Dt := fun s => (f s).bind fun p => some (.err nm [fld, "code"] [p.1, .str nm], p.2)
omit [DL.Tabs] [DL.Me] in
theorem exo_no_tbl {e C : Addr} {d : Option Addr} (ps : Array Value) : exo e C d ≠ .tbl ps := exo_tbl
omit [DL.Tabs] [DL.Me] in
theorem exd_no_tbl {e : Addr} {fs : List (Str × V)} (ps : Array Value) : exd e fs ≠ .tbl ps := fun z => by
  have z' : HO.ext _ = HO.tbl ps := z
  cases z'
/-- what the call leaves: two new objects -/
theorem made_eq {H : Hp} {a dx C : Addr} {o : HO} (ne : dx ≠ a) : upd (upd (upd H a (exo a C none)) dx o) a (exo a C (some dx)) = upd (upd H dx o) a (exo a C (some dx)) := by
  funext b
  by_cases hb : b = a
  · rw [hb, upd_same, upd_same]
  · rw [upd_ne hb, upd_ne hb]
    by_cases hd : b = dx
    · rw [hd, upd_same, upd_same]
    · rw [upd_ne hd, upd_ne hd, upd_ne hb]
theorem made_rel {K : Frag} {β : Addr} {P : Hp} {σ : L2.St} {H G : Hp} {s : Sta} {a dx C : Addr} {fs : List (Str × V)} (R : Rel K β P σ H G s) (na : H a = none) (nd : H dx = none) (ne : dx ≠ a) :
    Rel K β P σ (upd (upd H dx (exd dx fs)) a (exo a C (some dx))) (upd (upd G dx (exd dx fs)) a (exo a C (some dx))) s :=
  (R.new (o := exd dx fs) nd exd_no_tbl).new (o := exo a C (some dx)) (by rw [upd_ne ne.symm]; exact na) exo_no_tbl
theorem made_ext {H G : Hp} {K : Frag} {β : Addr} {P : Hp} {σ : L2.St} {s : Sta} {a dx : Addr} {o o2 : HO} (R : Rel K β P σ H G s) (na : H a = none) (nd : H dx = none) (ne : dx ≠ a) : Ext G (upd (upd G dx o) a o2) :=
  (Ext.new (R.free nd)).trans (Ext.new (by rw [upd_ne ne.symm]; exact R.free na))
section
variable {X : Cx}
theorem de_err0 {nm x : Str} {C fI : Addr} {k : Nat} {fd : FuncData} {p pos : Pos} (T : ErrC X.K C nm) (V : ErrV X.K nm C) (iC : findIn X.K (.ref C) "__init__" = some (some (.ref fI))) (tI : typeIn X.K (.ref fI) = some (.type "function"))
    (F1 : FnOk X.prog X.w X.K X.mg X.base CX0 k fI fd ["self"] (spInit X.K)) (hr : Room (k + 1) X.A) (hb : L2.Binds X.K fd ["self"] []) (hg : Gl X x) (hm : X.mg x = some (.ref C)) (hdb : (x == ("__debug__" : Str)) = false := by decide) :
    DE X (.Call (.Name x p) [] [] pos) (mErr0 nm) := by
  refine ⟨_, pe_errG0 T.oex iC tI F1 hr hb (fun _ _ _ _ _ _ _ h => h.elim) hg hm hdb, fun β P σ H G s d s' R e Q q => ?_⟩
  cases e
  refine ⟨Nat.zero_le _, fun a na => ⟨a, C, nm, rfl, upd_same, T, fun dx n ne => ⟨rfl, ?_⟩⟩⟩
  rw [upd_ne ne] at n
  rw [made_eq ne]
  refine q _ _ _ (made_ext R na n ne) (made_rel R na n ne) (is_err.mpr ⟨a, C, dx, [.str nm], rfl, V, upd_same, by rw [upd_ne ne, upd_same]; rfl, rfl, ?_⟩)
  exact isl_cons.mpr ⟨_, _, rfl, is_str.mpr rfl, isl_nil.mpr rfl⟩
theorem de_err1 {nm x par fld : Str} {C fI : Addr} {k : Nat} {fd : FuncData} {e : Expr} {f : DM Dt} {p pos : Pos} (T : ErrC X.K C nm) (V : ErrV X.K nm C) (iC : findIn X.K (.ref C) "__init__" = some (some (.ref fI))) (tI : typeIn X.K (.ref fI) = some (.type "function"))
    (F1 : FnOk X.prog X.w X.K X.mg X.base CX0 k fI fd ["self", par] (spInitS X.K C nm fld)) (hr : Room (k + 1) X.A) (hb : L2.Binds X.K fd ["self", par] []) (hg : Gl X x) (hm : X.mg x = some (.ref C)) (he : DE X e f) (hdb : (x == ("__debug__" : Str)) = false := by decide)
    (hst : starEach [e] X.env = (false, eval e X.env) :: starEach [] X.env := by rfl) (hpl : (backTo pos (starEach [] X.env)).any (·.1) = false := by rfl) : DE X (.Call (.Name x p) [e] [] pos) (mErr1 nm fld f) := by
  obtain ⟨t, pe, ok⟩ := he
  refine ⟨_, pe_errG (es := []) T.oex iC tI F1 hr hb (fun _ _ _ _ _ _ _ h => h.elim) hg hm (pa_cons pe pa_nil hst) hdb hst hpl, fun β P σ H G s d s' R eo Q q => ?_⟩
  unfold mErr1 at eo
  obtain ⟨⟨y, s1⟩, e1, eo⟩ := Option.bind_eq_some_iff.mp eo
  cases eo
  refine ok β P σ H G s y s1 R e1 _ fun v H1 G1 x1 R1 i1 => ?_
  refine ⟨Nat.succ_le_succ (Nat.zero_le _), fun a na => ⟨a, v, rfl, upd_same, T, fun dx n ne => ⟨rfl, ?_⟩⟩⟩
  rw [upd_ne ne] at n
  rw [made_eq ne]
  have xe := made_ext (o := exd dx [(fld, v), ("code", .str nm)]) (o2 := exo a C (some dx)) R1 na n ne
  refine q _ _ _ (x1.trans xe) (made_rel R1 na n ne) (is_err.mpr ⟨a, C, dx, [v, .str nm], rfl, V, upd_same, by rw [upd_ne ne, upd_same]; rfl, rfl, ?_⟩)
  exact isl_cons.mpr ⟨_, _, rfl, IsD.mono xe _ _ i1, isl_cons.mpr ⟨_, _, rfl, is_str.mpr rfl, isl_nil.mpr rfl⟩⟩
end
omit [DL.Me] in
/-- the class x, its __init__ at fI: a plain one -/
structure ErrM0 (K : Frag) (mg : Str → Option Value) (x : Str) (fI : Addr) : Prop where
  ex : ∃ C, mg x = some (.ref C) ∧ ErrC K C x ∧ ErrV K x C ∧ findIn K (.ref C) "__init__" = some (some (.ref fI)) ∧ typeIn K (.ref fI) = some (.type "function")
section
variable {X : Cx}
theorem de_err0K {x : Str} {fI : Addr} {k : Nat} {fd : FuncData} {p pos : Pos} (T : ErrM0 X.K X.mg x fI) (hr : Room (k + 1) X.A) (F1 : FnOk X.prog X.w X.K X.mg X.base CX0 k fI fd ["self"] (spInit X.K)) (hb : L2.Binds X.K fd ["self"] []) (hg : Gl X x) (hdb : (x == ("__debug__" : Str)) = false := by decide) :
    DE X (.Call (.Name x p) [] [] pos) (mErr0 x) := by
  obtain ⟨C, m, T, V, i, t⟩ := T.ex
  exact de_err0 T V i t F1 hr hb hg m hdb
theorem de_err1K {x fld : Str} {f0 : Addr} {k : Nat} {fd0 : FuncData} {e : Expr} {f : DM Dt} {p pos : Pos} (T : ErrF X.prog X.w X.K X.mg x fld f0) (V : ∀ C, X.mg x = some (.ref C) → ErrV X.K x C) (hr : Room (k + 2) X.A)
    (F0 : FnOk X.prog X.w X.K X.mg X.base CX0 k f0 fd0 ["self"] (spInit X.K)) (hb0 : L2.Binds X.K fd0 ["self"] []) (hg : Gl X x) (he : DE X e f) (hdb : (x == ("__debug__" : Str)) = false := by decide)
    (hst : starEach [e] X.env = (false, eval e X.env) :: starEach [] X.env := by rfl) : DE X (.Call (.Name x p) [e] [] pos) (mErr1 x fld f) := by
  obtain ⟨C, fI, fd, par, m, TC, i, t, hb, G⟩ := T.ex
  exact de_err1 TC (V C m) i t (G _ _ _ _ F0 hb0 fun _ _ _ _ _ h => h) hr hb hg m he hdb hst
end
/-! ### facts by evaluation -/
omit [DL.Me] in
def errVB (K : Frag) (C : Addr) : Bool := (errAll.all fun f => noAtt K C f) && (["int", "str", "bool", "tuple", "list", "dict"] : List String).all fun T => kitNo K C T
theorem errV_of {K : Frag} {x : Str} {C : Addr} (h : nsIn K mainGlobals x = some (some (.ref C))) (T : ErrC K C x) (b : errVB K C = true) : ErrV K x C := by
  unfold errVB at b
  rw [Bool.and_eq_true] at b
  exact ⟨h, T.exc, b.1, b.2⟩
theorem v_of {K : Frag} {mg : Str → Option Value} {x : Str} {C : Addr} (m : mg x = some (.ref C)) (v : ErrV K x C) : ∀ C', mg x = some (.ref C') → ErrV K x C' := fun C' h => by
  rw [m] at h
  cases h
  exact v
omit [DL.Me] in
def tabB (K : Frag) (u : Value) (tab : List (Str × Bool)) : Bool := tab.all fun p => match nsIn K mainGlobals p.1 with
  | some (some (.ref C)) => kitOne K (.ref C) u == some p.2
  | _ => false
theorem tabE_of {K : Frag} {u : Value} {tab : List (Str × Bool)} (h : tabB K u tab = true) : TabE K u tab := fun c b m C e => by
  have q := List.all_eq_true.mp h _ m
  rw [e] at q
  exact eq_of_beq q
end DE1

namespace DL
open PySem PySem.Spec PyProof.Rows L2
variable [Tabs] [Me]

def sLpull : FD := fnD 5 (kSeq (kAsg (m2 gAdd (mBagIx (mVar 0) (mC (.int 4))) (mC (.int 1))) (hBag (mVar 0) (mC (.int 4))))
    (kSeq (kIf (mAndB (mB (m2 gEq (mBagIx (mVar 0) (mC (.int 2))) (mC (.int 0)))) (mB (m2 oLt (mBagIx (mVar 0) (mC (.int 1))) (mCall gLen (mCons (mBagIx (mVar 0) (mC (.int 0))) mNil))))) (kSeq (kAsg (mTup (mCons (m2 gIx (mBagIx (mVar 0) (mC (.int 0))) (mBagIx (mVar 0) (mC (.int 1)))) (mCons (m2 gAdd (mBagIx (mVar 0) (mC (.int 1))) (mC (.int 1))) mNil))) (hTup 2 (hCons (hName 3) (hCons (hBag (mVar 0) (mC (.int 1))) hNil))))
    (kSeq (kIf (mB (m2 oGe (mVar 3) (m2 gPow (mC (.int 10)) (mC (.int 18))))) (kAsg (mVar 3) (hBag (mVar 0) (mC (.int 2)))) kSkip)
    (kAsg (m2 gMod (mCall gInt1 (mCons (m2 gAdd (m2 gAdd (m2 gMul (mBagIx (mVar 0) (mC (.int 3))) (mC (.int 38377))) (m2 gMul (m2 gMod (mCall gInt1 (mCons (mVar 3) mNil)) (mC (.int 2147483489))) (mC (.int 41143)))) (mC (.int 61))) mNil)) (mC (.int 2147483549))) (hBag (mVar 0) (mC (.int 3)))))) kSkip)
    (kSeq (kIf (mB (m2 oGt (mBagIx (mVar 0) (mC (.int 2))) (mC (.int 0)))) (kSeq (kAsg (mTup (mCons (m2 gMod (mCall gInt1 (mCons (mBagIx (mVar 0) (mC (.int 2))) mNil)) (mVar 1)) (mCons (m2 gDiv (mBagIx (mVar 0) (mC (.int 2))) (mVar 1)) mNil))) (hTup 2 (hCons (hName 4) (hCons (hBag (mVar 0) (mC (.int 2))) hNil))))
    (kRet (mVar 4))) kSkip)
    (kSeq (kAsg (mBagIx (mVar 0) (mC (.int 3))) (hName 2))
    (kSeq (kAsg (m2 gMod (mCall gInt1 (mCons (m2 gAdd (m2 gAdd (m2 gAdd (m2 gPow (mVar 2) (mC (.int 3))) (m2 gMul (mVar 2) (mC (.int 37813)))) (m2 gMul (mBagIx (mVar 0) (mC (.int 4))) (mC (.int 1299689)))) (mC (.int 65437))) mNil)) (mC (.int 2147483549))) (hBag (mVar 0) (mC (.int 3))))
    (kRet (m2 gMod (mCall gInt1 (mCons (m2 gAdd (m2 gDiv (mBagIx (mVar 0) (mC (.int 3))) (mC (.int 89))) (m2 gMul (m2 gMod (mCall gInt1 (mCons (mBagIx (mVar 0) (mC (.int 3))) mNil)) (mC (.int 7919))) (mC (.int 71)))) mNil)) (mVar 1))))))))
def sLany : FD := fnD 2 (kRet (m2 gIx (mVar 1) (mApp sLpull (mCons (mVar 0) (mCons (mCall gLen (mCons (mVar 1) mNil)) mNil)))))
def sLreserved : FD := fnD 0 (kRet (mLst (mCons (mC (.str "and")) (mCons (mC (.str "found")) (mCons (mC (.str "key")) (mCons (mC (.str "next")) (mCons (mC (.str "not")) (mCons (mC (.str "or")) (mCons (mC (.str "own")) (mCons (mC (.str "set")) (mCons (mC (.str "true")) (mCons (mC (.str "where")) mNil))))))))))))
def sLnew_names : FD := fnD 9 (kSeq (kAsg (mC (.str "abcdefghijklmnopqrstuvwxyz")) (hName 2))
    (kSeq (kAsg (mM1 gJoin (mC (.str "")) (mComp [7] (wRng1 (mCons (mApp sLpull (mCons (mVar 0) (mCons (mC (.int 5)) mNil))) mNil)) (hName 7) mYes (mApp sLany (mCons (mVar 0) (mCons (mVar 2) mNil))))) (hName 3))
    (kSeq (kAsg (mTup (mCons (mApp sLpull (mCons (mVar 0) (mCons (m2 gAdd (mCall gLen (mCons (mVar 3) mNil)) (mC (.int 1))) mNil))) (mCons (mApp sLpull (mCons (mVar 0) (mCons (mC (.int 26)) mNil))) mNil))) (hTup 2 (hCons (hName 5) (hCons (hName 6) hNil))))
    (kSeq (kAsg (mComp [7] (wRng1 (mCons (mVar 1) mNil)) (hName 7) mYes (m2 gAdd (m2 gAdd (mSl (mVar 3) mNoP (mPart (mVar 5))) (m2 gIx (mVar 2) (m2 gSub0 (m2 gAdd (mVar 6) (mVar 7)) (mC (.int 26))))) (mSl (mVar 3) (mPart (mVar 5)) mNoP))) (hName 4))
    (kRet (mComp [8] (wLst (mVar 4)) (hName 8) mYes (mIf (mB (m2 gIn (mVar 8) (mApp sLreserved mNil))) (m2 gAdd (mVar 8) (mC (.str "q"))) (mVar 8))))))))
def sLnear : FD := fnD 1 (kRet (mApp sLany (mCons (mVar 0) (mCons (mLst (mCons (mC (.int 0)) (mCons (mC (.int 1)) (mCons (mC (.int 1)) (mCons (mC (.int 2)) (mCons (mC (.int 3)) (mCons (m2 gSub0 (mC (.int 0)) (mC (.int 1))) (mCons (m2 gSub0 (mC (.int 0)) (mC (.int 2))) mNil)))))))) mNil))))
def sLlikeB (R : FD) : FD := fnD 5 (kSeq (kIf (mB (mIsi (fun d => isLst d || isTup d) (mVar 1))) (kSeq (kAsg (mAndV (m2 gEq (mIsi isLst (mVar 0)) (mIsi isLst (mVar 1))) (m2 gEq (mIsi isTup (mVar 0)) (mIsi isTup (mVar 1)))) (hName 2))
    (kRet (mAndV (mVar 2) (mAndV (m2 gEq (mCall gLen (mCons (mVar 0) mNil)) (mCall gLen (mCons (mVar 1) mNil))) (mCall gAll (mCons (mComp [3, 4] (wZip (mCons (mVar 0) (mCons (mVar 1) mNil))) (hTup 2 (hCons (hName 3) (hCons (hName 4) hNil))) mYes (mApp R (mCons (mVar 3) (mCons (mVar 4) mNil)))) mNil)))))) kSkip)
    (kSeq (kIf (mOrB (mB (m2 gIsN (mVar 0) (mC .non))) (mOrB (mB (m2 gIsN (mVar 1) (mC .non))) (mB (m2 gNe (mIsi isBl (mVar 0)) (mIsi isBl (mVar 1)))))) (kRet (mAndV (m2 gIsN (mVar 0) (mC .non)) (m2 gIsN (mVar 1) (mC .non)))) kSkip)
    (kRet (mAndV (m2 gEq (mIsi isInt (mVar 0)) (mIsi isInt (mVar 1))) (mAndV (m2 gEq (mIsi isStr (mVar 0)) (mIsi isStr (mVar 1))) (m2 gEq (mVar 0) (mVar 1)))))))
def sLlike : Nat → FD
  | 0 => fun _ _ => none
  | n + 1 => sLlikeB (sLlike n)
def s_BOUND : Dt := .int 1000000000000000000000000000000
def s_MOST_LETTERS : Dt := .int 6
def s_RESERVED : Dt := .tup [.str "and", .str "found", .str "key", .str "next", .str "not", .str "or", .str "own", .str "set", .str "true", .str "where"]
def sis_name : FD := fnD 2 (kSeq (kIf (mOrB (mNotB (mB (mIsi isStr (mVar 0)))) (mB (m2 gIn (mVar 0) (mC s_RESERVED)))) (kRet (mC (.bl false))) kSkip)
    (kRet (mAndV (mChain oLe oLe (mC (.int 1)) (mCall gLen (mCons (mVar 0) mNil)) (mC s_MOST_LETTERS)) (mCall gAll (mCons (mComp [1] (wStr (mVar 0)) (hName 1) mYes (mChain oLe oLe (mC (.str "a")) (mVar 1) (mC (.str "z")))) mNil)))))
def sis_column : FD := fnD 1 (kRet (mOrV (m2 gEq (mVar 0) (mC (.str "key"))) (mApp sis_name (mCons (mVar 0) mNil))))
def sis_whole : FD := fnD 1 (kRet (mAndV (mIsi isInt (mVar 0)) (mNotV (mIsi isBl (mVar 0)))))
def sis_bounded_ : FD := fnD 1 (kRet (mAndV (mApp sis_whole (mCons (mVar 0) mNil)) (mChain oLe oLe (mNeg (mC s_BOUND)) (mVar 0) (mC s_BOUND))))
def sis_single_ : FD := fnD 3 (kSeq (kIf (mNotB (mB (mIsi isTup (mVar 0)))) (kRet (mC (.bl false))) kSkip)
    (kSeq (kIf (mB (m2 gEq (mCall gLen (mCons (mVar 0) mNil)) (mC (.int 3)))) (kRet (mAndV (m2 gEq (m2 gIx (mVar 0) (mC (.int 0))) (mC (.str "field"))) (mAndV (mApp sis_name (mCons (m2 gIx (mVar 0) (mC (.int 1))) mNil)) (mApp sis_column (mCons (m2 gIx (mVar 0) (mC (.int 2))) mNil))))) kSkip)
    (kSeq (kIf (mB (m2 gNe (mCall gLen (mCons (mVar 0) mNil)) (mC (.int 2)))) (kRet (mC (.bl false))) kSkip)
    (kSeq (kAsg (mVar 0) (hTup 2 (hCons (hName 1) (hCons (hName 2) hNil))))
    (kSeq (kIf (mB (m2 gEq (mVar 1) (mC (.str "number")))) (kRet (mApp sis_bounded_ (mCons (mVar 2) mNil))) kSkip)
    (kSeq (kIf (mB (m2 gEq (mVar 1) (mC (.str "name")))) (kRet (mApp sis_name (mCons (mVar 2) mNil))) kSkip)
    (kRet (mAndV (m2 gIn (mVar 1) (mTup (mCons (mC (.str "own")) (mCons (mC (.str "next")) mNil)))) (mApp sis_column (mCons (mVar 2) mNil))))))))))
def sis_value : FD := fnD 1 (kSeq (kIf (mAndB (mB (mIsi isTup (mVar 0))) (mAndB (mB (m2 gEq (mCall gLen (mCons (mVar 0) mNil)) (mC (.int 3)))) (mB (m2 gEq (m2 gIx (mVar 0) (mC (.int 0))) (mC (.str "plus")))))) (kRet (mAndV (mApp sis_single_ (mCons (m2 gIx (mVar 0) (mC (.int 1))) mNil)) (mApp sis_bounded_ (mCons (m2 gIx (mVar 0) (mC (.int 2))) mNil)))) kSkip)
    (kRet (mApp sis_single_ (mCons (mVar 0) mNil))))
def sshifted : FD := fnD 4 (kSeq (kIf (mNotB (mB (mApp sis_value (mCons (mVar 0) mNil)))) (fun _ => none) kSkip)
    (kSeq (kPar 2 3 (mCons (mVar 0) (mCons (mVar 1) mNil)))
    (kSeq (kIf (mB (m2 gEq (m2 gIx (mVar 0) (mC (.int 0))) (mC (.str "plus")))) (kPar 2 3 (mCons (m2 gIx (mVar 0) (mC (.int 1))) (mCons (m2 gAdd (m2 gIx (mVar 0) (mC (.int 2))) (mVar 1)) mNil))) kSkip)
    (kSeq (kIf (mB (m2 gEq (m2 gIx (mVar 2) (mC (.int 0))) (mC (.str "number")))) (kRet (mTup (mCons (mC (.str "number")) (mCons (m2 gAdd (m2 gIx (mVar 2) (mC (.int 1))) (mVar 3)) mNil)))) kSkip)
    (kSeq (kIf (mB (m2 gEq (mVar 3) (mC (.int 0)))) (kRet (mVar 2)) kSkip)
    (kRet (mTup (mCons (mC (.str "plus")) (mCons (mVar 2) (mCons (mVar 3) mNil))))))))))
def BagOk (bg : List Dt) : Prop := ∃ (cells : List Int) (a b s c : Int), bg = [.lst (cells.map Dt.int), .int a, .int b, .int s, .int c] ∧ 0 ≤ a ∧ a ≤ cells.length ∧ 0 ≤ b ∧ 0 ≤ s ∧ s < 2147483549
theorem bag0_ok {ns : List Int} {seed : Int} (h0 : 0 ≤ seed) (h1 : seed < 2147483549) : BagOk (bag0 ns seed) := ⟨ns, 0, 0, seed, 0, rfl, by decide, by omega, by decide, h0, h1⟩
theorem eqII {a b : Int} : gEq (.int a) (.int b) = some (.bl (a == b)) := rfl
theorem kseq {f g : DMs} {s s1 : Sta} (h : f s = some (.nx, s1)) : kSeq f g s = g s1 := by unfold kSeq; rw [h]; rfl
theorem kif_t {c : DM Bool} {f g : DMs} {s s1 : Sta} (h : c s = some (true, s1)) : kIf c f g s = f s1 := by unfold kIf; rw [h]; rfl
theorem kif_f {c : DM Bool} {f g : DMs} {s s1 : Sta} (h : c s = some (false, s1)) : kIf c f g s = g s1 := by unfold kIf; rw [h]; rfl
theorem and_f {f g : DM Bool} {s s1 : Sta} (h : f s = some (false, s1)) : mAndB f g s = some (false, s1) := by unfold mAndB; rw [h]; rfl
theorem and_t {f g : DM Bool} {s s1 : Sta} (h : f s = some (true, s1)) : mAndB f g s = g s1 := by unfold mAndB; rw [h]; rfl
theorem or_t {f g : DM Bool} {s s1 : Sta} (h : f s = some (true, s1)) : mOrB f g s = some (true, s1) := by unfold mOrB; rw [h]; rfl
theorem or_f {f g : DM Bool} {s s1 : Sta} (h : f s = some (false, s1)) : mOrB f g s = g s1 := by unfold mOrB; rw [h]; rfl
theorem m2_eq {g : Dt → Dt → Option Dt} {f1 f2 : DM Dt} {s s1 s2 : Sta} {x y d : Dt} (h1 : f1 s = some (x, s1)) (h2 : f2 s1 = some (y, s2)) (h3 : g x y = some d) : m2 g f1 f2 s = some (d, s2) := by
  unfold m2; rw [h1, Option.bind_some, h2, Option.bind_some, h3]; rfl
theorem kasg {f : DM Dt} {h : Dt → Sta → Option Sta} {s s1 s2 : Sta} {d : Dt} (h1 : f s = some (d, s1)) (h2 : h d s1 = some s2) : kAsg f h s = some (.nx, s2) := by unfold kAsg; rw [h1, Option.bind_some, h2]; rfl
theorem mcons {f : DM Dt} {g : DM (List Dt)} {s s1 s2 : Sta} {x : Dt} {xs : List Dt} (h1 : f s = some (x, s1)) (h2 : g s1 = some (xs, s2)) : mCons f g s = some (x :: xs, s2) := by unfold mCons; rw [h1, Option.bind_some, h2]; rfl
theorem mtup {f : DM (List Dt)} {s s1 : Sta} {xs : List Dt} (h : f s = some (xs, s1)) (hl : xs.length ≤ 1000 := by simp) : mTup f s = some (.tup xs, s1) := by unfold mTup; rw [h, Option.bind_some, if_pos hl]
theorem mlst {f : DM (List Dt)} {s s1 : Sta} {xs : List Dt} (h : f s = some (xs, s1)) (hl : xs.length ≤ 1000 := by simp) : mLst f s = some (.lst xs, s1) := by unfold mLst; rw [h, Option.bind_some, if_pos hl]
theorem bMulR {i j : Int} (h : -18446744073709551616 < j) (h' : j < 18446744073709551616) : gMul (.int i) (.int j) = some (.int (i * j)) := by
  unfold gMul i2
  dsimp only
  rw [if_pos]
  unfold bMul
  rw [decide_eq_true h, decide_eq_true h']
  simp
theorem gModP {i j : Int} (h : 0 < j) : gMod (.int i) (.int j) = some (.int (i % j)) := by
  unfold gMod i2
  dsimp only
  rw [if_pos]
  unfold bMod
  simp [h]
theorem gDivP {i j : Int} (h : 0 < j) (h' : j < 1073741824) : gDiv (.int i) (.int j) = some (.int (i.fdiv j)) := by
  unfold gDiv i2
  dsimp only
  rw [if_pos]
  unfold bDiv
  simp [h, h']
theorem gPowP {i : Int} (h : i.natAbs < 2 ^ 64) : gPow (.int i) (.int 3) = some (.int (i ^ 3)) := by
  unfold gPow i2
  dsimp only
  rw [if_pos]
  · rfl
  unfold bPow
  simp [h]
/-- the number of a draw, where no digits are left -/
theorem pull_tail {cells : List Int} {a b s c n : Int} {x y : Option Slo} (hs : 0 ≤ s) (hs1 : s < 2147483549) (h0 : 0 < n) : ∃ r s' sl, (kSeq (kAsg (mBagIx (mVar 0) (mC (.int 3))) (hName 2))
    (kSeq (kAsg (m2 gMod (mCall gInt1 (mCons (m2 gAdd (m2 gAdd (m2 gAdd (m2 gPow (mVar 2) (mC (.int 3))) (m2 gMul (mVar 2) (mC (.int 37813)))) (m2 gMul (mBagIx (mVar 0) (mC (.int 4))) (mC (.int 1299689)))) (mC (.int 65437))) mNil)) (mC (.int 2147483549))) (hBag (mVar 0) (mC (.int 3))))
    (kRet (m2 gMod (mCall gInt1 (mCons (m2 gAdd (m2 gDiv (mBagIx (mVar 0) (mC (.int 3))) (mC (.int 89))) (m2 gMul (m2 gMod (mCall gInt1 (mCons (mBagIx (mVar 0) (mC (.int 3))) mNil)) (mC (.int 7919))) (mC (.int 71)))) mNil)) (mVar 1)))))
     ⟨[some (.dat .bag), some (.dat (.int n)), none, x, y], [.lst (cells.map Dt.int), .int a, .int b, .int s, .int c]⟩ = some (.rt (.int r), ⟨sl, [.lst (cells.map Dt.int), .int a, .int b, .int s', .int c]⟩) ∧ 0 ≤ r ∧ r < n ∧ 0 ≤ s' ∧ s' < 2147483549 := by
  have e1 : ∀ j : Int, 0 < j → ∀ i : Int, gMod (.int i) (.int j) = some (.int (i % j)) := fun j h i => gModP h
  refine ⟨(((s ^ 3 + s * 37813 + c * 1299689 + 65437) % 2147483549).fdiv 89 + (s ^ 3 + s * 37813 + c * 1299689 + 65437) % 2147483549 % 7919 * 71) % n, (s ^ 3 + s * 37813 + c * 1299689 + 65437) % 2147483549, [some (.dat .bag), some (.dat (.int n)), some (.dat (.int s)), x, y], ?_, Int.emod_nonneg _ (by omega), Int.emod_lt_of_pos _ h0, Int.emod_nonneg _ (by decide), Int.emod_lt_of_pos _ (by decide)⟩
  rw [kseq (s1 := ⟨[some (.dat .bag), some (.dat (.int n)), some (.dat (.int s)), x, y], [.lst (cells.map Dt.int), .int a, .int b, .int s, .int c]⟩) rfl]
  rw [kseq (s1 := ⟨[some (.dat .bag), some (.dat (.int n)), some (.dat (.int s)), x, y], [.lst (cells.map Dt.int), .int a, .int b, .int ((s ^ 3 + s * 37813 + c * 1299689 + 65437) % 2147483549), .int c]⟩) ?_]
  · generalize (s ^ 3 + s * 37813 + c * 1299689 + 65437) % 2147483549 = z
    have e2 : m2 gMod (mCall gInt1 (mCons (m2 gAdd (m2 gDiv (mBagIx (mVar 0) (mC (.int 3))) (mC (.int 89))) (m2 gMul (m2 gMod (mCall gInt1 (mCons (mBagIx (mVar 0) (mC (.int 3))) mNil)) (mC (.int 7919))) (mC (.int 71)))) mNil)) (mVar 1)
      ⟨[some (.dat .bag), some (.dat (.int n)), some (.dat (.int s)), x, y], [.lst (cells.map Dt.int), .int a, .int b, .int z, .int c]⟩ = some (.int ((z.fdiv 89 + z % 7919 * 71) % n), ⟨[some (.dat .bag), some (.dat (.int n)), some (.dat (.int s)), x, y], [.lst (cells.map Dt.int), .int a, .int b, .int z, .int c]⟩) := by
      refine m2_eq (s1 := ⟨[some (.dat .bag), some (.dat (.int n)), some (.dat (.int s)), x, y], [.lst (cells.map Dt.int), .int a, .int b, .int z, .int c]⟩) (x := .int (z.fdiv 89 + z % 7919 * 71)) (y := .int n) ?_ rfl (gModP h0)
      rfl
    unfold kRet
    rw [e2]
    rfl
  · refine kasg (s1 := ⟨[some (.dat .bag), some (.dat (.int n)), some (.dat (.int s)), x, y], [.lst (cells.map Dt.int), .int a, .int b, .int s, .int c]⟩) (d := .int ((s ^ 3 + s * 37813 + c * 1299689 + 65437) % 2147483549)) ?_ rfl
    refine m2_eq (s1 := ⟨[some (.dat .bag), some (.dat (.int n)), some (.dat (.int s)), x, y], [.lst (cells.map Dt.int), .int a, .int b, .int s, .int c]⟩) (x := .int (s ^ 3 + s * 37813 + c * 1299689 + 65437)) (y := .int 2147483549) ?_ rfl rfl
    have e3 : m2 gPow (mVar 2) (mC (.int 3)) ⟨[some (.dat .bag), some (.dat (.int n)), some (.dat (.int s)), x, y], [.lst (cells.map Dt.int), .int a, .int b, .int s, .int c]⟩ = some (.int (s ^ 3), ⟨[some (.dat .bag), some (.dat (.int n)), some (.dat (.int s)), x, y], [.lst (cells.map Dt.int), .int a, .int b, .int s, .int c]⟩) := m2_eq (s1 := ⟨[some (.dat .bag), some (.dat (.int n)), some (.dat (.int s)), x, y], [.lst (cells.map Dt.int), .int a, .int b, .int s, .int c]⟩) rfl rfl (gPowP (by omega))
    have e4 : m2 gMul (mVar 2) (mC (.int 37813)) ⟨[some (.dat .bag), some (.dat (.int n)), some (.dat (.int s)), x, y], [.lst (cells.map Dt.int), .int a, .int b, .int s, .int c]⟩ = some (.int (s * 37813), ⟨[some (.dat .bag), some (.dat (.int n)), some (.dat (.int s)), x, y], [.lst (cells.map Dt.int), .int a, .int b, .int s, .int c]⟩) := m2_eq (s1 := ⟨[some (.dat .bag), some (.dat (.int n)), some (.dat (.int s)), x, y], [.lst (cells.map Dt.int), .int a, .int b, .int s, .int c]⟩) rfl rfl (bMulR (by decide) (by decide))
    have e5 : m2 gMul (mBagIx (mVar 0) (mC (.int 4))) (mC (.int 1299689)) ⟨[some (.dat .bag), some (.dat (.int n)), some (.dat (.int s)), x, y], [.lst (cells.map Dt.int), .int a, .int b, .int s, .int c]⟩ = some (.int (c * 1299689), ⟨[some (.dat .bag), some (.dat (.int n)), some (.dat (.int s)), x, y], [.lst (cells.map Dt.int), .int a, .int b, .int s, .int c]⟩) := m2_eq (s1 := ⟨[some (.dat .bag), some (.dat (.int n)), some (.dat (.int s)), x, y], [.lst (cells.map Dt.int), .int a, .int b, .int s, .int c]⟩) (x := .int c) rfl rfl (bMulR (by decide) (by decide))
    have e6 := m2_eq (g := gAdd) (m2_eq (g := gAdd) (m2_eq (g := gAdd) e3 e4 rfl) e5 rfl) (f2 := mC (.int 65437)) rfl (d := .int (s ^ 3 + s * 37813 + c * 1299689 + 65437)) rfl
    unfold mCall mCons
    rw [e6]
    rfl

def pTail : DMs := (kSeq (kAsg (mBagIx (mVar 0) (mC (.int 3))) (hName 2))
    (kSeq (kAsg (m2 gMod (mCall gInt1 (mCons (m2 gAdd (m2 gAdd (m2 gAdd (m2 gPow (mVar 2) (mC (.int 3))) (m2 gMul (mVar 2) (mC (.int 37813)))) (m2 gMul (mBagIx (mVar 0) (mC (.int 4))) (mC (.int 1299689)))) (mC (.int 65437))) mNil)) (mC (.int 2147483549))) (hBag (mVar 0) (mC (.int 3))))
    (kRet (m2 gMod (mCall gInt1 (mCons (m2 gAdd (m2 gDiv (mBagIx (mVar 0) (mC (.int 3))) (mC (.int 89))) (m2 gMul (m2 gMod (mCall gInt1 (mCons (mBagIx (mVar 0) (mC (.int 3))) mNil)) (mC (.int 7919))) (mC (.int 71)))) mNil)) (mVar 1)))))
def pIf3 : DMs := (kIf (mB (m2 oGt (mBagIx (mVar 0) (mC (.int 2))) (mC (.int 0)))) (kSeq (kAsg (mTup (mCons (m2 gMod (mCall gInt1 (mCons (mBagIx (mVar 0) (mC (.int 2))) mNil)) (mVar 1)) (mCons (m2 gDiv (mBagIx (mVar 0) (mC (.int 2))) (mVar 1)) mNil))) (hTup 2 (hCons (hName 4) (hCons (hBag (mVar 0) (mC (.int 2))) hNil))))
    (kRet (mVar 4))) kSkip)
def pThen3 : DMs := (kSeq (kAsg (mTup (mCons (m2 gMod (mCall gInt1 (mCons (mBagIx (mVar 0) (mC (.int 2))) mNil)) (mVar 1)) (mCons (m2 gDiv (mBagIx (mVar 0) (mC (.int 2))) (mVar 1)) mNil))) (hTup 2 (hCons (hName 4) (hCons (hBag (mVar 0) (mC (.int 2))) hNil))))
    (kRet (mVar 4)))
def pC3 : DM Bool := (mB (m2 oGt (mBagIx (mVar 0) (mC (.int 2))) (mC (.int 0))))
def pIf2 : DMs := (kIf (mAndB (mB (m2 gEq (mBagIx (mVar 0) (mC (.int 2))) (mC (.int 0)))) (mB (m2 oLt (mBagIx (mVar 0) (mC (.int 1))) (mCall gLen (mCons (mBagIx (mVar 0) (mC (.int 0))) mNil))))) (kSeq (kAsg (mTup (mCons (m2 gIx (mBagIx (mVar 0) (mC (.int 0))) (mBagIx (mVar 0) (mC (.int 1)))) (mCons (m2 gAdd (mBagIx (mVar 0) (mC (.int 1))) (mC (.int 1))) mNil))) (hTup 2 (hCons (hName 3) (hCons (hBag (mVar 0) (mC (.int 1))) hNil))))
    (kSeq (kIf (mB (m2 oGe (mVar 3) (m2 gPow (mC (.int 10)) (mC (.int 18))))) (kAsg (mVar 3) (hBag (mVar 0) (mC (.int 2)))) kSkip)
    (kAsg (m2 gMod (mCall gInt1 (mCons (m2 gAdd (m2 gAdd (m2 gMul (mBagIx (mVar 0) (mC (.int 3))) (mC (.int 38377))) (m2 gMul (m2 gMod (mCall gInt1 (mCons (mVar 3) mNil)) (mC (.int 2147483489))) (mC (.int 41143)))) (mC (.int 61))) mNil)) (mC (.int 2147483549))) (hBag (mVar 0) (mC (.int 3)))))) kSkip)
def pThen2 : DMs := (kSeq (kAsg (mTup (mCons (m2 gIx (mBagIx (mVar 0) (mC (.int 0))) (mBagIx (mVar 0) (mC (.int 1)))) (mCons (m2 gAdd (mBagIx (mVar 0) (mC (.int 1))) (mC (.int 1))) mNil))) (hTup 2 (hCons (hName 3) (hCons (hBag (mVar 0) (mC (.int 1))) hNil))))
    (kSeq (kIf (mB (m2 oGe (mVar 3) (m2 gPow (mC (.int 10)) (mC (.int 18))))) (kAsg (mVar 3) (hBag (mVar 0) (mC (.int 2)))) kSkip)
    (kAsg (m2 gMod (mCall gInt1 (mCons (m2 gAdd (m2 gAdd (m2 gMul (mBagIx (mVar 0) (mC (.int 3))) (mC (.int 38377))) (m2 gMul (m2 gMod (mCall gInt1 (mCons (mVar 3) mNil)) (mC (.int 2147483489))) (mC (.int 41143)))) (mC (.int 61))) mNil)) (mC (.int 2147483549))) (hBag (mVar 0) (mC (.int 3))))))
def pC2a : DM Bool := (mB (m2 gEq (mBagIx (mVar 0) (mC (.int 2))) (mC (.int 0))))
def pC2b : DM Bool := (mB (m2 oLt (mBagIx (mVar 0) (mC (.int 1))) (mCall gLen (mCons (mBagIx (mVar 0) (mC (.int 0))) mNil))))
def pS1 : DMs := (kAsg (m2 gAdd (mBagIx (mVar 0) (mC (.int 4))) (mC (.int 1))) (hBag (mVar 0) (mC (.int 4))))
theorem pull_eq : sLpull = fnD 5 (kSeq pS1 (kSeq pIf2 (kSeq pIf3 pTail))) := rfl
abbrev pSt (n : Int) (x y : Option Slo) (cells : List Int) (a b s c : Int) : Sta := ⟨[some (.dat .bag), some (.dat (.int n)), none, x, y], [.lst (cells.map Dt.int), .int a, .int b, .int s, .int c]⟩
theorem pull_rest {cells : List Int} {a b s c n : Int} {x : Option Slo} (ha : 0 ≤ a) (hal : a ≤ cells.length) (hb : 0 ≤ b) (hs : 0 ≤ s) (hs1 : s < 2147483549) (h0 : 0 < n) (h1 : n < 1073741824) :
    ∃ r st, kSeq pIf3 pTail (pSt n x none cells a b s c) = some (.rt (.int r), st) ∧ 0 ≤ r ∧ r < n ∧ BagOk st.bag := by
  by_cases h : 0 < b
  · have e1 : pC3 (pSt n x none cells a b s c) = some (true, pSt n x none cells a b s c) := by
      show some (decide (0 < b), pSt n x none cells a b s c) = _
      rw [decide_eq_true h]
    have e2 : pThen3 (pSt n x none cells a b s c) = some (.rt (.int (b % n)), pSt n x (some (.dat (.int (b % n)))) cells a (b.fdiv n) s c) := by
      unfold pThen3
      refine (kseq (s1 := pSt n x (some (.dat (.int (b % n)))) cells a (b.fdiv n) s c) ?_).trans rfl
      refine kasg (s1 := pSt n x none cells a b s c) (d := .tup [.int (b % n), .int (b.fdiv n)]) ?_ rfl
      have e3 := gModP (i := b) h0
      have e4 := gDivP (i := b) h0 h1
      have e5 : m2 gMod (mCall gInt1 (mCons (mBagIx (mVar 0) (mC (.int 2))) mNil)) (mVar 1) (pSt n x none cells a b s c) = some (.int (b % n), pSt n x none cells a b s c) := m2_eq (s1 := pSt n x none cells a b s c) (x := .int b) (y := .int n) rfl rfl e3
      have e6 : m2 gDiv (mBagIx (mVar 0) (mC (.int 2))) (mVar 1) (pSt n x none cells a b s c) = some (.int (b.fdiv n), pSt n x none cells a b s c) := m2_eq (s1 := pSt n x none cells a b s c) (x := .int b) (y := .int n) rfl rfl e4
      exact mtup (mcons e5 (mcons e6 rfl)) (by simp)
    refine ⟨b % n, pSt n x (some (.dat (.int (b % n)))) cells a (b.fdiv n) s c, ?_, Int.emod_nonneg _ (by omega), Int.emod_lt_of_pos _ h0, ?_⟩
    · show kSeq (kIf pC3 pThen3 kSkip) pTail _ = _
      unfold kSeq
      rw [kif_t e1, e2]
      rfl
    · exact ⟨cells, a, b.fdiv n, s, c, rfl, ha, hal, Int.fdiv_nonneg hb (by omega), hs, hs1⟩
  · have e1 : pC3 (pSt n x none cells a b s c) = some (false, pSt n x none cells a b s c) := by
      show some (decide (0 < b), pSt n x none cells a b s c) = _
      rw [decide_eq_false h]
    obtain ⟨r, s', sl, e2, r0, r1, t0, t1⟩ := pull_tail (cells := cells) (a := a) (b := b) (c := c) (x := x) (y := none) hs hs1 h0
    refine ⟨r, ⟨sl, [.lst (cells.map Dt.int), .int a, .int b, .int s', .int c]⟩, ?_, r0, r1, ?_⟩
    · show kSeq (kIf pC3 pThen3 kSkip) pTail _ = _
      rw [kseq (f := kIf pC3 pThen3 kSkip) (s1 := pSt n x none cells a b s c) (by rw [kif_f e1]; rfl)]
      exact e2
    · exact ⟨cells, a, b, s', c, rfl, ha, hal, hb, t0, t1⟩
theorem ati_nat {l : List Dt} {a : Int} (h0 : 0 ≤ a) (h1 : a < l.length) : atI l a = l[a.toNat]? := by
  unfold atI ixN
  rw [if_pos h0, if_pos h1]
  rfl
theorem pull_ok {bg : List Dt} (h : BagOk bg) {n : Int} (h0 : 0 < n) (h1 : n < 1073741824) : ∃ r bg', sLpull [.bag, .int n] bg = some (.int r, bg') ∧ 0 ≤ r ∧ r < n ∧ BagOk bg' := by
  obtain ⟨cells, a, b, s, c, rfl, ha, hal, hb, hs, hs1⟩ := h
  have key : ∃ x a' b' s', pIf2 (pSt n none none cells a b s (c + 1)) = some (.nx, pSt n x none cells a' b' s' (c + 1)) ∧ 0 ≤ a' ∧ a' ≤ cells.length ∧ 0 ≤ b' ∧ 0 ≤ s' ∧ s' < 2147483549 := by
    have c1 : pC2a (pSt n none none cells a b s (c + 1)) = some (b == 0, pSt n none none cells a b s (c + 1)) := rfl
    have c2 : pC2b (pSt n none none cells a b s (c + 1)) = some (decide (a < (cells.map Dt.int).length), pSt n none none cells a b s (c + 1)) := rfl
    by_cases hz : b = 0
    · subst hz
      have c1' : pC2a (pSt n none none cells a 0 s (c + 1)) = some (true, pSt n none none cells a 0 s (c + 1)) := rfl
      by_cases hl : a < cells.length
      · have c3 : mAndB pC2a pC2b (pSt n none none cells a 0 s (c + 1)) = some (true, pSt n none none cells a 0 s (c + 1)) := by
          rw [and_t c1', c2, decide_eq_true (by simpa using hl)]
        have hj : a.toNat < cells.length := by omega
        have e4 : gIx (.lst (cells.map Dt.int)) (.int a) = some (.int cells[a.toNat]) := by
          show atI (cells.map Dt.int) a = _
          rw [ati_nat ha (by simpa using hl)]
          simp [hj]
        generalize cells[a.toNat] = z at e4
        have e5 : (kAsg (mTup (mCons (m2 gIx (mBagIx (mVar 0) (mC (.int 0))) (mBagIx (mVar 0) (mC (.int 1)))) (mCons (m2 gAdd (mBagIx (mVar 0) (mC (.int 1))) (mC (.int 1))) mNil))) (hTup 2 (hCons (hName 3) (hCons (hBag (mVar 0) (mC (.int 1))) hNil)))) (pSt n none none cells a 0 s (c + 1)) = some (.nx, pSt n (some (.dat (.int z))) none cells (a + 1) 0 s (c + 1)) := by
          refine kasg (s1 := pSt n none none cells a 0 s (c + 1)) (d := .tup [.int z, .int (a + 1)]) ?_ rfl
          exact mtup (mcons (m2_eq (s1 := pSt n none none cells a 0 s (c + 1)) (s2 := pSt n none none cells a 0 s (c + 1)) (x := .lst (cells.map Dt.int)) (y := .int a) rfl rfl e4) rfl) (by simp)
        have key2 : ∃ b', (kIf (mB (m2 oGe (mVar 3) (m2 gPow (mC (.int 10)) (mC (.int 18))))) (kAsg (mVar 3) (hBag (mVar 0) (mC (.int 2)))) kSkip) (pSt n (some (.dat (.int z))) none cells (a + 1) 0 s (c + 1)) = some (.nx, pSt n (some (.dat (.int z))) none cells (a + 1) b' s (c + 1)) ∧ 0 ≤ b' := by
          by_cases hg : (1000000000000000000 : Int) ≤ z
          · refine ⟨z, ?_, by omega⟩
            rw [kif_t (s1 := pSt n (some (.dat (.int z))) none cells (a + 1) 0 s (c + 1))]
            · rfl
            · show some (decide ((1000000000000000000 : Int) ≤ z), _) = _
              rw [decide_eq_true hg]
          · refine ⟨0, ?_, by omega⟩
            rw [kif_f (s1 := pSt n (some (.dat (.int z))) none cells (a + 1) 0 s (c + 1))]
            · rfl
            · show some (decide ((1000000000000000000 : Int) ≤ z), _) = _
              rw [decide_eq_false hg]
        obtain ⟨b', e6, hb'⟩ := key2
        refine ⟨some (.dat (.int z)), a + 1, b', (s * 38377 + z % 2147483489 * 41143 + 61) % 2147483549, ?_, by omega, by omega, hb', Int.emod_nonneg _ (by decide), Int.emod_lt_of_pos _ (by decide)⟩
        show kIf (mAndB pC2a pC2b) pThen2 kSkip _ = _
        rw [kif_t c3]
        show kSeq _ (kSeq _ _) _ = _
        rw [kseq e5, kseq e6]
        rfl
      · refine ⟨none, a, 0, s, ?_, ha, hal, by decide, hs, hs1⟩
        have c3 : mAndB pC2a pC2b (pSt n none none cells a 0 s (c + 1)) = some (false, pSt n none none cells a 0 s (c + 1)) := by
          rw [and_t c1', c2, decide_eq_false (by simpa using hl)]
        show kIf (mAndB pC2a pC2b) pThen2 kSkip _ = _
        rw [kif_f c3]
        rfl
    · refine ⟨none, a, b, s, ?_, ha, hal, hb, hs, hs1⟩
      show kIf (mAndB pC2a pC2b) pThen2 kSkip _ = _
      rw [kif_f (and_f (by rw [c1, beq_eq_false_iff_ne.mpr hz]))]
      rfl
  obtain ⟨x, a', b', s', e1, k1, k2, k3, k4, k5⟩ := key
  obtain ⟨r, st, e2, r0, r1, hB⟩ := pull_rest (x := x) (c := c + 1) k1 k2 k3 k4 k5 h0 h1
  refine ⟨r, st.bag, ?_, r0, r1, hB⟩
  rw [pull_eq]
  have e0 : pS1 (pSt n none none cells a b s c) = some (.nx, pSt n none none cells a b s (c + 1)) := rfl
  show (kSeq pS1 (kSeq pIf2 (kSeq pIf3 pTail)) (pSt n none none cells a b s c)).bind _ = _
  rw [kseq e0, kseq e1, e2]
  rfl

theorem mapp {F : FD} {f : DM (List Dt)} {s s1 : Sta} {ds : List Dt} {d : Dt} {bg : List Dt} (h : f s = some (ds, s1)) (hF : F ds s1.bag = some (d, bg)) : mApp F f s = some (d, { s1 with bag := bg }) := by unfold mApp; rw [h, Option.bind_some, hF]; rfl
theorem kret {f : DM Dt} {s s1 : Sta} {d : Dt} (h : f s = some (d, s1)) : kRet f s = some (.rt d, s1) := by unfold kRet; rw [h]; rfl
theorem fnd {n : Nat} {f : DMs} {ds bg : List Dt} {d : Dt} {s1 : Sta} (h : f ⟨ds.map (fun d => some (.dat d)) ++ List.replicate (n - ds.length) none, bg⟩ = some (.rt d, s1)) : fnD n f ds bg = some (d, s1.bag) := by unfold fnD; rw [h]; rfl
theorem any_ok {bg : List Dt} (h : BagOk bg) {rows : List Dt} (h0 : 0 < rows.length) (h1 : rows.length < 1000000) : ∃ d bg', sLany [.bag, .lst rows] bg = some (d, bg') ∧ d ∈ rows ∧ BagOk bg' := by
  obtain ⟨r, bg', e, r0, r1, hb⟩ := pull_ok h (n := (rows.length : Nat)) (by omega) (by omega)
  have hj : r.toNat < rows.length := by omega
  refine ⟨rows[r.toNat], bg', ?_, List.getElem_mem hj, hb⟩
  refine fnd (s1 := ⟨[some (.dat .bag), some (.dat (.lst rows))], bg'⟩) (kret ?_)
  refine m2_eq (s1 := ⟨[some (.dat .bag), some (.dat (.lst rows))], bg⟩) (x := .lst rows) (y := .int r) rfl ?_ ?_
  · exact mapp (s1 := ⟨[some (.dat .bag), some (.dat (.lst rows))], bg⟩) (ds := [.bag, .int (rows.length : Nat)]) rfl e
  · show atI rows r = _
    rw [ati_nat r0 (by omega)]
    simp [hj]
theorem glen_str {z : Str} (h : z.length ≤ sizeLine) : gLen [.str z] = some (.int (z.length : Nat)) := by
  show (if z.length ≤ sizeLine then some (Dt.int (z.length : Nat)) else none) = _
  rw [if_pos h]
theorem gix_str {z : Str} {i : Int} {c : Nat} (h : z.length ≤ sizeLine) (e : atI z.cps.toList i = some c) : gIx (.str z) (.int i) = some (.str ⟨#[c]⟩) := by
  show (if z.length ≤ sizeLine then (atI z.cps.toList i).bind fun c => some (Dt.str ⟨#[c]⟩) else none) = _
  rw [if_pos h, e]
  rfl
theorem any_str {bg : List Dt} (h : BagOk bg) {z : Str} (h0 : 0 < z.length) (h1 : z.length < 1000000) : ∃ c bg', sLany [.bag, .str z] bg = some (.str ⟨#[c]⟩, bg') ∧ c ∈ z.cps.toList ∧ BagOk bg' := by
  obtain ⟨r, bg', e, r0, r1, hb⟩ := pull_ok h (n := (z.length : Nat)) (by omega) (by omega)
  have hl : z.cps.toList.length = z.length := by simp [Str.length]
  have hj : r.toNat < z.cps.toList.length := by omega
  refine ⟨z.cps.toList[r.toNat], bg', ?_, List.getElem_mem hj, hb⟩
  have hz : z.length ≤ sizeLine := Nat.le_trans (Nat.le_of_lt h1) (by decide)
  refine fnd (s1 := ⟨[some (.dat .bag), some (.dat (.str z))], bg'⟩) (kret ?_)
  refine m2_eq (s1 := ⟨[some (.dat .bag), some (.dat (.str z))], bg⟩) (x := .str z) (y := .int r) rfl ?_ ?_
  · refine mapp (s1 := ⟨[some (.dat .bag), some (.dat (.str z))], bg⟩) (ds := [.bag, .int (z.length : Nat)]) ?_ e
    refine mcons (s1 := ⟨[some (.dat .bag), some (.dat (.str z))], bg⟩) rfl (mcons (s1 := ⟨[some (.dat .bag), some (.dat (.str z))], bg⟩) ?_ rfl)
    unfold mCall
    show (gLen [.str z]).bind _ = _
    rw [glen_str hz]
    rfl
  · have : atI z.cps.toList r = some z.cps.toList[r.toNat] := by
      unfold atI ixN
      rw [if_pos r0, if_pos (by omega)]
      show z.cps.toList[r.toNat]? = _
      simp [hj]
    exact gix_str hz this
theorem near_ok {bg : List Dt} (h : BagOk bg) : ∃ i bg', sLnear [.bag] bg = some (.int i, bg') ∧ -2 ≤ i ∧ i ≤ 3 ∧ BagOk bg' := by
  obtain ⟨d, bg', e, hd, hb⟩ := any_ok h (rows := [.int 0, .int 1, .int 1, .int 2, .int 3, .int (0 - 1), .int (0 - 2)]) (by simp) (by simp)
  have hi : ∃ i, d = .int i ∧ -2 ≤ i ∧ i ≤ 3 := by
    simp only [List.mem_cons, List.not_mem_nil, or_false] at hd
    rcases hd with rfl | rfl | rfl | rfl | rfl | rfl | rfl <;> exact ⟨_, rfl, by decide, by decide⟩
  obtain ⟨i, rfl, i0, i1⟩ := hi
  refine ⟨i, bg', ?_, i0, i1, hb⟩
  refine fnd (s1 := ⟨[some (.dat .bag)], bg'⟩) (kret ?_)
  exact mapp (s1 := ⟨[some (.dat .bag)], bg⟩) (ds := [.bag, .lst [.int 0, .int 1, .int 1, .int 2, .int 3, .int (0 - 1), .int (0 - 2)]]) rfl e
/-! ### comprehensions -/
theorem comp_all {sl0 : List (Option Slo)} {h : Dt → Sta → Option Sta} {t : DM Bool} {e : DM Dt} (Pd Pr : Dt → Prop)
    (hstep : ∀ d bg, Pd d → BagOk bg → ∃ s1 s2 r s3, h d ⟨sl0, bg⟩ = some s1 ∧ t s1 = some (true, s2) ∧ e s2 = some (r, s3) ∧ Pr r ∧ BagOk s3.bag) :
    ∀ (l : List Dt) (bg : List Dt), (∀ d ∈ l, Pd d) → BagOk bg → ∃ rs bg', compD sl0 h t e l bg = some (rs, bg') ∧ rs.length = l.length ∧ (∀ r ∈ rs, Pr r) ∧ BagOk bg'
  | [], bg, _, hb => ⟨[], bg, rfl, rfl, by simp, hb⟩
  | d :: l, bg, hp, hb => by
    obtain ⟨s1, s2, r, s3, e1, e2, e3, hr, hb3⟩ := hstep d bg (hp d (List.mem_cons_self ..)) hb
    obtain ⟨rs, bg', e4, hl, hrs, hb'⟩ := comp_all Pd Pr hstep l s3.bag (fun z hz => hp z (List.mem_cons_of_mem _ hz)) hb3
    refine ⟨r :: rs, bg', ?_, by simp [hl], ?_, hb'⟩
    · unfold compD
      rw [e1, Option.bind_some, e2, Option.bind_some]
      dsimp only
      rw [if_pos rfl, e3, Option.bind_some, e4]
      rfl
    · intro z hz
      rcases List.mem_cons.mp hz with rfl | hz
      · exact hr
      · exact hrs z hz
theorem comp_map {sl0 : List (Option Slo)} {h : Dt → Sta → Option Sta} {t : DM Bool} {e : DM Dt} (g : Dt → Dt) {bg : List Dt} :
    ∀ (l : List Dt), (∀ d ∈ l, ∃ s1 s2 s3, h d ⟨sl0, bg⟩ = some s1 ∧ t s1 = some (true, s2) ∧ e s2 = some (g d, s3) ∧ s3.bag = bg) → compD sl0 h t e l bg = some (l.map g, bg)
  | [], _ => rfl
  | d :: l, hs => by
    obtain ⟨s1, s2, s3, e1, e2, e3, e4⟩ := hs d (List.mem_cons_self ..)
    unfold compD
    rw [e1, Option.bind_some, e2, Option.bind_some]
    dsimp only
    rw [if_pos rfl, e3, Option.bind_some]
    dsimp only
    rw [e4, comp_map g l fun z hz => hs z (List.mem_cons_of_mem _ hz)]
    rfl
theorem mcomp {is : List Nat} {f : DM (List Dt)} {h : Dt → Sta → Option Sta} {t : DM Bool} {e : DM Dt} {s s1 : Sta} {l rs bg' : List Dt} (h1 : f s = some (l, s1)) (hl : l.length ≤ 100000) (h2 : compD (wipeS (s1.sl.map datOnly) is) h t e l s1.bag = some (rs, bg')) :
    mComp is f h t e s = some (.lst rs, { s1 with bag := bg' }) := by
  unfold mComp
  rw [h1, Option.bind_some]
  dsimp only
  rw [if_pos hl, h2]
  rfl
/-! ### names -/
def letter (c : Nat) : Prop := 97 ≤ c ∧ c ≤ 122
def resv : List Str := ["and", "found", "key", "next", "not", "or", "own", "set", "true", "where"]
def Low (z : Str) : Prop := ∀ c ∈ z.cps.toList, letter c
structure NameOk (z : Str) : Prop where
  low : Low z
  pos : 1 ≤ z.length
  few : z.length ≤ 6
  free : z ∉ resv
theorem low_app {a b : Str} (ha : Low a) (hb : Low b) : Low (a ++ b) := by
  intro c hc
  have : (a ++ b).cps.toList = a.cps.toList ++ b.cps.toList := by show (a.cps ++ b.cps).toList = _; simp
  rw [this, List.mem_append] at hc
  exact hc.elim (ha c) (hb c)
theorem len_app {a b : Str} : (a ++ b).length = a.length + b.length := by show (a.cps ++ b.cps).size = _; simp [Str.length]
theorem low_nil : Low "" := fun c hc => by
  have e : ("" : Str).cps.toList = [] := rfl
  rw [e] at hc
  cases hc
theorem low_join {l : List Str} (h : ∀ z ∈ l, Low z) : Low (Str.join "" l) ∧ (Str.join "" l).length = (l.map (·.length)).sum := by
  induction l with
  | nil => exact ⟨low_nil, rfl⟩
  | cons a l ih =>
    obtain ⟨h1, h2⟩ := ih fun z hz => h z (List.mem_cons_of_mem _ hz)
    cases l with
    | nil =>
      exact ⟨h a (List.mem_cons_self ..), by show a.length = _; simp⟩
    | cons b l =>
      have e : Str.join "" (a :: b :: l) = a ++ "" ++ Str.join "" (b :: l) := rfl
      rw [e]
      refine ⟨low_app (low_app (h a (List.mem_cons_self ..)) low_nil) h1, ?_⟩
      have e2 : ((a :: b :: l).map (·.length)).sum = a.length + ((b :: l).map (·.length)).sum := by simp
      rw [len_app, len_app, h2, e2]
      show a.length + 0 + _ = _
      omega
theorem low_cut {z : Str} (h : Low z) (lo hi : Option Int) : Low (cutS z lo hi) := by
  intro c hc
  apply h c
  have hc' : c ∈ ((z.cps.toList.drop (HT.sIx z.length 0 lo)).take (HT.sIx z.length z.length hi - HT.sIx z.length 0 lo)) := by
    unfold cutS at hc; simpa using hc
  exact List.mem_of_mem_drop (List.mem_of_mem_take hc')
theorem len_cut {z : Str} {i : Nat} (h : i ≤ z.length) : (cutS z none (some (i : Nat))).length + (cutS z (some (i : Nat)) none).length = z.length := by
  have hz : z.cps.toList.length = z.length := by simp [Str.length]
  unfold cutS Str.length at *
  rw [HT.sIx_nat, HT.sIx_nat, HT.sIx_none, HT.sIx_none]
  simp
  omega

def lowB (z : Str) : Bool := z.cps.toList.all fun c => decide (97 ≤ c) && decide (c ≤ 122)
def nameB (z : Str) : Bool := lowB z && decide (1 ≤ z.length) && decide (z.length ≤ 6) && !resv.contains z
theorem lowB_iff {z : Str} : lowB z = true ↔ Low z := by
  unfold lowB Low letter
  rw [List.all_eq_true]
  constructor
  · intro h c hc
    have := h c hc
    rw [Bool.and_eq_true] at this
    exact ⟨of_decide_eq_true this.1, of_decide_eq_true this.2⟩
  · intro h c hc
    rw [Bool.and_eq_true]
    exact ⟨decide_eq_true (h c hc).1, decide_eq_true (h c hc).2⟩
theorem nameB_iff {z : Str} : nameB z = true ↔ NameOk z := by
  unfold nameB
  simp only [Bool.and_eq_true, lowB_iff, decide_eq_true_eq, Bool.not_eq_true', List.contains_eq_mem, decide_eq_false_iff_not]
  exact ⟨fun h => ⟨h.1.1.1, h.1.1.2, h.1.2, h.2⟩, fun h => ⟨⟨⟨h.low, h.pos⟩, h.few⟩, h.free⟩⟩
theorem resv_q : ∀ r ∈ resv, nameB (r ++ "q") = true := by decide +kernel
def abc : Str := "abcdefghijklmnopqrstuvwxyz"
theorem low_abc : Low abc := lowB_iff.mp (by decide +kernel)
theorem len_abc : abc.length = 26 := by decide +kernel
theorem txts_map : ∀ (ss : List Str), gJoin.txts (ss.map Dt.str) = some ss
  | [] => rfl
  | s :: r => by
    show (gJoin.txts (r.map Dt.str)).bind _ = _
    rw [txts_map r]
    rfl
theorem strs_of {Pz : Str → Prop} : ∀ {rs : List Dt}, (∀ r ∈ rs, ∃ z, r = .str z ∧ Pz z) → ∃ ss : List Str, rs = ss.map Dt.str ∧ ∀ z ∈ ss, Pz z
  | [], _ => ⟨[], rfl, by simp⟩
  | r :: rs, h => by
    obtain ⟨z, rfl, hz⟩ := h r (List.mem_cons_self ..)
    obtain ⟨ss, rfl, hs⟩ := strs_of (rs := rs) fun x hx => h x (List.mem_cons_of_mem _ hx)
    exact ⟨z :: ss, rfl, fun y hy => by rcases List.mem_cons.mp hy with rfl | hy; exact hz; exact hs y hy⟩
theorem in_resv (z : Str) : gIn (.str z) (.lst (resv.map Dt.str)) = some (.bl (resv.any fun r => r == z)) := by
  show (if (flatD (.str z) && (resv.map Dt.str).all flatD) = true then some (Dt.bl ((resv.map Dt.str).any fun d => sameD d (.str z))) else none) = _
  rw [if_pos (show (flatD (.str z) && (resv.map Dt.str).all flatD) = true from rfl), List.any_map]
  rfl
theorem rng_mem {lo : Int} {n : Nat} {d : Dt} (h : d ∈ rngD lo n) : ∃ i : Nat, i < n ∧ d = .int (lo + (i : Nat)) := by
  unfold rngD at h
  obtain ⟨i, hi, rfl⟩ := List.mem_map.mp h
  exact ⟨i, List.mem_range.mp hi, rfl⟩
theorem gadd_str {a b : Str} (h : a.length + b.length ≤ 1000) : gAdd (.str a) (.str b) = some (.str (a ++ b)) := by
  show (if a.length + b.length ≤ sizeLine then some (Dt.str (a ++ b)) else none) = _
  rw [if_pos (Nat.le_trans h (by decide))]
theorem gsl_str {z : Str} {lo hi : Option Int} (h : z.length ≤ 1000) : gSl (.str z) lo hi = some (.str (cutS z lo hi)) := by
  show (if z.length ≤ sizeLine then some (Dt.str (cutS z lo hi)) else none) = _
  rw [if_pos (Nat.le_trans h (by decide))]
theorem msl {f : DM Dt} {g h : DM (Option Int)} {s s1 s2 s3 : Sta} {x d : Dt} {lo hi : Option Int} (h1 : f s = some (x, s1)) (h2 : g s1 = some (lo, s2)) (h3 : h s2 = some (hi, s3)) (h4 : gSl x lo hi = some d) : mSl f g h s = some (d, s3) := by
  unfold mSl
  rw [h1, Option.bind_some, h2, Option.bind_some, h3, Option.bind_some]
  dsimp only
  rw [h4]
  rfl
theorem mrng1 {f : DM (List Dt)} {s s1 : Sta} {j : Int} (h : f s = some ([.int j], s1)) (h0 : 0 ≤ j) (h1 : j < 1000000) : wRng1 f s = some (rngD 0 j.toNat, s1) := by
  unfold wRng1
  rw [h, Option.bind_some]
  dsimp only
  rw [if_pos]
  unfold bRng
  rw [decide_eq_true (by omega), decide_eq_true (by omega)]
  rfl
theorem rng_len {lo : Int} {n : Nat} : (rngD lo n).length = n := by simp [rngD]
theorem mm1 {g : Str → Dt → Option Dt} {f1 f2 : DM Dt} {s s1 s2 : Sta} {a : Str} {y d : Dt} (h1 : f1 s = some (.str a, s1)) (h2 : f2 s1 = some (y, s2)) (h3 : g a y = some d) : mM1 g f1 f2 s = some (d, s2) := by
  unfold mM1
  rw [h1, Option.bind_some]
  dsimp only
  rw [h2, Option.bind_some, h3]
  rfl
theorem gjoin_ok {ss : List Str} (h : (ss.map (·.length)).sum ≤ 1000) : gJoin "" (.lst (ss.map Dt.str)) = some (.str (Str.join "" ss)) := by
  show (gJoin.txts (ss.map Dt.str)).bind _ = _
  rw [txts_map, Option.bind_some, if_pos]
  · rw [TL.join_eq]
  · have e : ("" : Str).length = 0 := rfl
    rw [e]
    omega
theorem sum_ones : ∀ {ss : List Str}, (∀ z ∈ ss, z.length = 1) → (ss.map (·.length)).sum = ss.length
  | [], _ => rfl
  | s :: r, h => by
    rw [List.map_cons, List.sum_cons, h s (List.mem_cons_self ..), sum_ones fun z hz => h z (List.mem_cons_of_mem _ hz), List.length_cons]
    omega
theorem new_names {bg : List Dt} (h : BagOk bg) {m : Nat} (h0 : m ≤ 26) : ∃ (ns : List Str) (bg' : List Dt), sLnew_names [.bag, .int m] bg = some (.lst (ns.map Dt.str), bg') ∧ ns.length = m ∧ (∀ z ∈ ns, NameOk z) ∧ BagOk bg' := by
  obtain ⟨r, bg1, e1, r0, r1, hb1⟩ := pull_ok h (n := 5) (by decide) (by decide)
  -- the stem
  obtain ⟨rs, bg2, e2, l2, p2, hb2⟩ := comp_all (sl0 := [some (.dat .bag), some (.dat (.int m)), some (.dat (.str abc)), none, none, none, none, none, none]) (h := hName 7) (t := mYes) (e := mApp sLany (mCons (mVar 0) (mCons (mVar 2) mNil))) (fun _ => True) (fun d => ∃ z, d = .str z ∧ (Low z ∧ z.length = 1)) (fun d bg _ hb => by
    obtain ⟨c, bg', e, hc, hb'⟩ := any_str hb (z := abc) (by rw [len_abc]; decide) (by rw [len_abc]; decide)
    refine ⟨_, _, .str ⟨#[c]⟩, ⟨[some (.dat .bag), some (.dat (.int m)), some (.dat (.str abc)), none, none, none, none, some (.dat d), none], bg'⟩, rfl, rfl, ?_, ⟨_, rfl, fun k hk => ?_, rfl⟩, hb'⟩
    · exact mapp (s1 := ⟨[some (.dat .bag), some (.dat (.int m)), some (.dat (.str abc)), none, none, none, none, some (.dat d), none], bg⟩) rfl e
    · have : k = c := by simpa using hk
      rw [this]
      exact low_abc c hc) (rngD 0 r.toNat) bg1 (fun _ _ => trivial) hb1
  rw [rng_len] at l2
  obtain ⟨ss, rfl, hss⟩ := strs_of p2
  rw [List.length_map] at l2
  have hj := low_join (l := ss) fun z hz => (hss z hz).1
  rw [sum_ones fun z hz => (hss z hz).2, l2] at hj
  have hjn := gjoin_ok (ss := ss) (by rw [sum_ones fun z hz => (hss z hz).2, l2]; omega)
  generalize Str.join "" ss = stem at hj hjn
  obtain ⟨hlow, hlen⟩ := hj
  have hlen4 : stem.length ≤ 4 := by omega
  obtain ⟨at_, bg3, e3, a0, a1, hb3⟩ := pull_ok hb2 (n := (stem.length : Nat) + 1) (by omega) (by omega)
  obtain ⟨fi, bg4, e4, f0, f1, hb4⟩ := pull_ok hb3 (n := 26) (by decide) (by decide)
  obtain ⟨i, rfl⟩ : ∃ i : Nat, at_ = (i : Int) := ⟨at_.toNat, by omega⟩
  have hi : i ≤ stem.length := by omega
  -- the rows
  obtain ⟨rs4, bg5, e5, l5, p5, hb5⟩ := comp_all (sl0 := [some (.dat .bag), some (.dat (.int m)), some (.dat (.str abc)), some (.dat (.str stem)), none, some (.dat (.int (i : Nat))), some (.dat (.int fi)), none, none]) (h := hName 7) (t := mYes)
    (e := m2 gAdd (m2 gAdd (mSl (mVar 3) mNoP (mPart (mVar 5))) (m2 gIx (mVar 2) (m2 gSub0 (m2 gAdd (mVar 6) (mVar 7)) (mC (.int 26))))) (mSl (mVar 3) (mPart (mVar 5)) mNoP))
    (fun d => ∃ k : Nat, k < m ∧ d = .int (0 + (k : Nat))) (fun d => ∃ z, d = .str z ∧ (Low z ∧ 1 ≤ z.length ∧ z.length ≤ 5)) (fun d bg hd hb => by
    obtain ⟨k, hk, rfl⟩ := hd
    have hc : ∃ c, atI abc.cps.toList (fi + (0 + (k : Nat)) - 26) = some c ∧ c ∈ abc.cps.toList := by
      have hl : abc.cps.toList.length = 26 := by rw [← len_abc]; simp [Str.length]
      have hx : ∃ j, ixN abc.cps.toList.length (fi + (0 + (k : Nat)) - 26) = some j ∧ j < 26 := by
        rw [hl]
        unfold ixN
        by_cases c0 : 0 ≤ fi + (0 + (k : Nat)) - 26
        · rw [if_pos c0, if_pos (by omega)]
          exact ⟨_, rfl, by omega⟩
        · rw [if_neg c0, if_pos (by omega)]
          exact ⟨_, rfl, by omega⟩
      obtain ⟨j, ej, hj⟩ := hx
      refine ⟨abc.cps.toList[j]'(by omega), ?_, List.getElem_mem _⟩
      unfold atI
      rw [ej]
      show abc.cps.toList[j]? = _
      simp [hl, hj]
    obtain ⟨c, ec, hc⟩ := hc
    have hcut := len_cut (z := stem) hi
    have lc : (⟨#[c]⟩ : Str).length = 1 := rfl
    let s7 : Sta := ⟨[some (.dat .bag), some (.dat (.int m)), some (.dat (.str abc)), some (.dat (.str stem)), none, some (.dat (.int (i : Nat))), some (.dat (.int fi)), some (.dat (.int (0 + (k : Nat)))), none], bg⟩
    refine ⟨s7, s7, .str (cutS stem none (some (i : Nat)) ++ ⟨#[c]⟩ ++ cutS stem (some (i : Nat)) none), s7, rfl, rfl, ?_, ⟨_, rfl, ?_, ?_, ?_⟩, hb⟩
    · refine m2_eq (s1 := s7) (x := .str (cutS stem none (some (i : Nat)) ++ ⟨#[c]⟩)) (y := .str (cutS stem (some (i : Nat)) none)) ?_ ?_ ?_
      · refine m2_eq (s1 := s7) (x := .str (cutS stem none (some (i : Nat)))) (y := .str ⟨#[c]⟩) ?_ ?_ ?_
        · exact msl (s1 := s7) (s2 := s7) (x := .str stem) rfl rfl rfl (gsl_str (by omega))
        · exact m2_eq (s1 := s7) (x := .str abc) (y := .int (fi + (0 + (k : Nat)) - 26)) rfl rfl (gix_str (by rw [len_abc]; decide) ec)
        · exact gadd_str (by rw [lc]; omega)
      · exact msl (s1 := s7) (s2 := s7) (x := .str stem) rfl rfl rfl (gsl_str (by omega))
      · exact gadd_str (by rw [len_app, lc]; omega)
    · refine low_app (low_app (low_cut hlow _ _) fun y hy => ?_) (low_cut hlow _ _)
      have : y = c := by simpa using hy
      rw [this]
      exact low_abc c hc
    · rw [len_app, len_app, lc]; omega
    · rw [len_app, len_app, lc]; omega) (rngD 0 m) bg4 (fun d hd => rng_mem hd) hb4
  rw [rng_len] at l5
  obtain ⟨rows, rfl, hrows⟩ := strs_of p5
  rw [List.length_map] at l5
  -- no reserved ones
  obtain ⟨rs6, bg6, e6, l6, p6, hb6⟩ := comp_all (sl0 := [some (.dat .bag), some (.dat (.int m)), some (.dat (.str abc)), some (.dat (.str stem)), some (.dat (.lst (rows.map Dt.str))), some (.dat (.int (i : Nat))), some (.dat (.int fi)), none, none]) (h := hName 8) (t := mYes)
    (e := mIf (mB (m2 gIn (mVar 8) (mApp sLreserved mNil))) (m2 gAdd (mVar 8) (mC (.str "q"))) (mVar 8))
    (fun d => ∃ z, d = .str z ∧ (Low z ∧ 1 ≤ z.length ∧ z.length ≤ 5)) (fun d => ∃ z, d = .str z ∧ NameOk z) (fun d bg hd hb => by
    obtain ⟨z, rfl, hz, z1, z5⟩ := hd
    let s8 : Sta := ⟨[some (.dat .bag), some (.dat (.int m)), some (.dat (.str abc)), some (.dat (.str stem)), some (.dat (.lst (rows.map Dt.str))), some (.dat (.int (i : Nat))), some (.dat (.int fi)), none, some (.dat (.str z))], bg⟩
    have hin : mB (m2 gIn (mVar 8) (mApp sLreserved mNil)) s8 = some (resv.any (fun r => r == z), s8) := by
      unfold mB
      rw [m2_eq (s1 := s8) (s2 := s8) (x := .str z) (y := .lst (resv.map Dt.str)) rfl rfl (in_resv z)]
      rfl
    by_cases hr : z ∈ resv
    · have hx : resv.any (fun r => r == z) = true := List.any_eq_true.mpr ⟨z, hr, by simp⟩
      refine ⟨s8, s8, .str (z ++ "q"), s8, rfl, rfl, ?_, ⟨_, rfl, nameB_iff.mp (resv_q z hr)⟩, hb⟩
      unfold mIf
      rw [hin, hx]
      show m2 gAdd (mVar 8) (mC (.str "q")) s8 = _
      exact m2_eq (s1 := s8) (s2 := s8) (x := .str z) (y := .str "q") rfl rfl (gadd_str (by show z.length + 1 ≤ 1000; omega))
    · have hx : resv.any (fun r => r == z) = false := by
        rw [List.any_eq_false]
        intro r hr' e
        rw [beq_iff_eq] at e
        subst e
        exact hr hr'
      refine ⟨s8, s8, .str z, s8, rfl, rfl, ?_, ⟨_, rfl, ⟨hz, z1, by omega, hr⟩⟩, hb⟩
      unfold mIf
      rw [hin, hx]
      rfl) (rows.map Dt.str) bg5 (fun d hd => by
        obtain ⟨z, hz, rfl⟩ := List.mem_map.mp hd
        exact ⟨z, rfl, hrows z hz⟩) hb5
  rw [List.length_map, l5] at l6
  obtain ⟨ns, rfl, hns⟩ := strs_of p6
  rw [List.length_map] at l6
  refine ⟨ns, bg6, ?_, l6, hns, hb6⟩
  unfold sLnew_names
  let t1 : Sta := ⟨[some (.dat .bag), some (.dat (.int m)), some (.dat (.str abc)), none, none, none, none, none, none], bg⟩
  let t2 : Sta := ⟨[some (.dat .bag), some (.dat (.int m)), some (.dat (.str abc)), some (.dat (.str stem)), none, none, none, none, none], bg2⟩
  let t3 : Sta := ⟨[some (.dat .bag), some (.dat (.int m)), some (.dat (.str abc)), some (.dat (.str stem)), none, some (.dat (.int (i : Nat))), some (.dat (.int fi)), none, none], bg4⟩
  let t4 : Sta := ⟨[some (.dat .bag), some (.dat (.int m)), some (.dat (.str abc)), some (.dat (.str stem)), some (.dat (.lst (rows.map Dt.str))), some (.dat (.int (i : Nat))), some (.dat (.int fi)), none, none], bg5⟩
  refine fnd (s1 := { t4 with bag := bg6 }) ?_
  show kSeq _ _ ⟨[some (.dat .bag), some (.dat (.int m)), none, none, none, none, none, none, none], bg⟩ = _
  rw [kseq (s1 := t1) rfl]
  rw [kseq (s1 := t2)]
  · rw [kseq (s1 := t3)]
    · rw [kseq (s1 := t4)]
      · exact kret (mcomp (s1 := t4) rfl (by rw [List.length_map, l5]; omega) e6)
      · refine kasg (s1 := { t3 with bag := bg5 }) (d := .lst (rows.map Dt.str)) ?_ rfl
        refine mcomp (s1 := t3) (l := rngD 0 m) ?_ (by rw [rng_len]; omega) e5
        exact mrng1 (j := (m : Nat)) rfl (by omega) (by omega)
    · refine kasg (s1 := { t2 with bag := bg4 }) (d := .tup [.int (i : Nat), .int fi]) ?_ rfl
      refine mtup (mcons (s1 := { t2 with bag := bg3 }) ?_ (mcons (s1 := { t2 with bag := bg4 }) ?_ rfl))
      · refine mapp (s1 := t2) (ds := [.bag, .int ((stem.length : Nat) + 1)]) ?_ e3
        refine mcons (s1 := t2) rfl (mcons (s1 := t2) ?_ rfl)
        refine m2_eq (s1 := t2) (x := .int (stem.length : Nat)) (y := .int 1) ?_ rfl rfl
        unfold mCall
        show (gLen [.str stem]).bind _ = _
        rw [glen_str (Nat.le_trans hlen4 (by decide))]
        rfl
      · exact mapp (s1 := { t2 with bag := bg3 }) (ds := [.bag, .int 26]) rfl e4
  · refine kasg (s1 := { t1 with bag := bg2 }) (d := .str stem) ?_ rfl
    refine mm1 (s1 := t1) (y := .lst (ss.map Dt.str)) rfl ?_ hjn
    refine mcomp (s1 := { t1 with bag := bg1 }) (l := rngD 0 r.toNat) ?_ (by rw [rng_len]; omega) e2
    refine mrng1 ?_ r0 (by omega)
    exact mcons (s1 := { t1 with bag := bg1 }) (mapp (s1 := t1) (ds := [.bag, .int 5]) rfl e1) rfl

/-! ### like: the same thing is like itself -/
def okD : Nat → Dt → Bool
  | 0, _ => false
  | _, .bag => false
  | _, .dic _ _ => false
  | _, .ins _ _ _ => false
  | _, .err _ _ _ => false
  | n + 1, .tup l => decide (l.length ≤ 1000) && l.all (okD n)
  | n + 1, .lst l => decide (l.length ≤ 1000) && l.all (okD n)
  | _ + 1, .str z => z.cps.all (· < 0x110000)
  | _ + 1, _ => true
theorem zip_self {l : List Dt} {d : Dt} (h : d ∈ zipD l l) : ∃ x, x ∈ l ∧ d = .tup [x, x] := by
  obtain ⟨i, hi, e⟩ := List.getElem_of_mem h
  have e' : (zipD l l)[i]? = some d := by rw [← e]; exact List.getElem?_eq_getElem hi
  obtain ⟨x, y, h1, h2, rfl⟩ := zip_get l l i d e'
  rw [h1] at h2
  cases h2
  exact ⟨x, List.mem_of_getElem? h1, rfl⟩
theorem bools_true : ∀ (l : List Dt), bools (l.map fun _ => .bl true) = some (l.map fun _ => true)
  | [] => rfl
  | d :: l => by
    show (bools (l.map fun _ => .bl true)).bind _ = _
    rw [bools_true l]
    rfl
theorem all_true : ∀ (l : List Dt), ((l.map fun _ => true).all id) = true
  | [] => rfl
  | d :: l => by
    show (id true && (l.map fun _ => true).all id) = true
    rw [all_true l]
    rfl
theorem gall_true (l : List Dt) : gAll [.lst (l.map fun _ => .bl true)] = some (.bl true) := by
  show (bools (l.map fun _ => .bl true)).bind _ = _
  rw [bools_true, Option.bind_some, all_true]
theorem like_seq {R : FD} {l : List Dt} {d : Dt} {bg : List Dt} (hd : d = .lst l ∨ d = .tup l) (hl : l.length ≤ 1000) (hR : ∀ x ∈ l, R [x, x] bg = some (.bl true, bg)) : sLlikeB R [d, d] bg = some (.bl true, bg) := by
  let s2 : Sta := ⟨[some (.dat d), some (.dat d), some (.dat (.bl true)), none, none], bg⟩
  have hlen : gLen [d] = some (.int (l.length : Nat)) := by rcases hd with rfl | rfl <;> rfl
  have e1 : m2 gEq (mCall gLen (mCons (mVar 0) mNil)) (mCall gLen (mCons (mVar 1) mNil)) s2 = some (.bl true, s2) := by
    refine m2_eq (s1 := s2) (x := .int (l.length : Nat)) (y := .int (l.length : Nat)) ?_ ?_ ?_
    · unfold mCall; show (gLen [d]).bind _ = _; rw [hlen]; rfl
    · unfold mCall; show (gLen [d]).bind _ = _; rw [hlen]; rfl
    · rw [eqII, beq_self_eq_true]
  have e2 : mComp [3, 4] (wZip (mCons (mVar 0) (mCons (mVar 1) mNil))) (hTup 2 (hCons (hName 3) (hCons (hName 4) hNil))) mYes (mApp R (mCons (mVar 3) (mCons (mVar 4) mNil))) s2 = some (.lst ((zipD l l).map fun _ => .bl true), s2) := by
    refine mcomp (s1 := s2) (l := zipD l l) ?_ (by rw [zip_len]; omega) (comp_map (fun _ => .bl true) _ fun z hz => ?_)
    · unfold wZip
      rcases hd with rfl | rfl <;> rfl
    · obtain ⟨x, hx, rfl⟩ := zip_self hz
      let s3 : Sta := ⟨[some (.dat d), some (.dat d), some (.dat (.bl true)), some (.dat x), some (.dat x)], bg⟩
      exact ⟨s3, s3, s3, rfl, rfl, mapp (s1 := s3) (ds := [x, x]) rfl (hR x hx), rfl⟩
  have e3 : mAndV (mVar 2) (mAndV (m2 gEq (mCall gLen (mCons (mVar 0) mNil)) (mCall gLen (mCons (mVar 1) mNil))) (mCall gAll (mCons (mComp [3, 4] (wZip (mCons (mVar 0) (mCons (mVar 1) mNil))) (hTup 2 (hCons (hName 3) (hCons (hName 4) hNil))) mYes (mApp R (mCons (mVar 3) (mCons (mVar 4) mNil)))) mNil))) s2 = some (.bl true, s2) := by
    show mAndV (m2 gEq (mCall gLen (mCons (mVar 0) mNil)) (mCall gLen (mCons (mVar 1) mNil))) _ s2 = _
    unfold mAndV
    rw [e1, Option.bind_some]
    show mCall gAll _ s2 = _
    unfold mCall
    rw [mcons (s1 := s2) (s2 := s2) e2 rfl, Option.bind_some]
    show (gAll [.lst ((zipD l l).map fun _ => .bl true)]).bind _ = _
    rw [gall_true]
    rfl
  unfold sLlikeB
  refine fnd (s1 := s2) ?_
  have e4 := kret e3
  rcases hd with rfl | rfl
  · unfold kSeq
    rw [kif_t (s1 := ⟨[some (.dat (.lst l)), some (.dat (.lst l)), none, none, none], bg⟩) rfl]
    show (kSeq _ _ _).bind _ = _
    rw [kseq (s1 := s2) rfl, e4]
    rfl
  · unfold kSeq
    rw [kif_t (s1 := ⟨[some (.dat (.tup l)), some (.dat (.tup l)), none, none, none], bg⟩) rfl]
    show (kSeq _ _ _).bind _ = _
    rw [kseq (s1 := s2) rfl, e4]
    rfl
abbrev cpOk (z : Str) : Bool := z.cps.all (· < 0x110000)
theorem cp_low {z : Str} (h : Low z) : cpOk z = true := by
  unfold cpOk
  rw [← Array.all_toList, List.all_eq_true]
  intro c hc
  have := h c hc
  unfold letter at this
  exact decide_eq_true (by omega)
theorem eqOk_str {a : Str} (h : cpOk a = true) : eqOk (.str a) = true := by
  show (true && (PyData.canLay0 (.str a) && decide (PyData.depth (.str a) ≤ 64))) = true
  have e : PyData.canLay0 (.str a) = true := h
  rw [e]
  rfl
theorem eqSS {a b : Str} (ha : cpOk a = true) (hb : cpOk b = true) : gEq (.str a) (.str b) = some (.bl (a == b)) := by
  unfold gEq
  rw [eqOk_str ha, eqOk_str hb]
  rfl
theorem like_non {R : FD} (bg : List Dt) : sLlikeB R [.non, .non] bg = some (.bl true, bg) := by
  let s : Sta := ⟨[some (.dat .non), some (.dat .non), none, none, none], bg⟩
  unfold sLlikeB
  refine fnd (s1 := s) ?_
  show kSeq _ _ s = _
  rw [kseq (s1 := s) (by rw [kif_f (s1 := s) rfl]; rfl)]
  unfold kSeq
  rw [kif_t (s1 := s) (or_t rfl)]
  rfl
theorem like_scal {R : FD} (d : Dt) (bg : List Dt) (h1 : isLst d = false) (h2 : isTup d = false) (h3 : isNon d = false) (h4 : gEq (.bl (isInt d)) (.bl (isInt d)) = some (.bl true)) (h5 : gEq (.bl (isStr d)) (.bl (isStr d)) = some (.bl true)) (h6 : gEq d d = some (.bl true)) :
    sLlikeB R [d, d] bg = some (.bl true, bg) := by
  let s : Sta := ⟨[some (.dat d), some (.dat d), none, none, none], bg⟩
  have e1 : mB (mIsi (fun d => isLst d || isTup d) (mVar 1)) s = some (false, s) := by
    show some (isLst d || isTup d, s) = _
    rw [h1, h2]; rfl
  have e2 : mOrB (mB (m2 gIsN (mVar 0) (mC .non))) (mOrB (mB (m2 gIsN (mVar 1) (mC .non))) (mB (m2 gNe (mIsi isBl (mVar 0)) (mIsi isBl (mVar 1))))) s = some (false, s) := by
    rw [or_f (s1 := s), or_f (s1 := s)]
    · show mB (m2 gNe (mIsi isBl (mVar 0)) (mIsi isBl (mVar 1))) s = _
      unfold mB
      rw [m2_eq (s1 := s) (s2 := s) (x := .bl (isBl d)) (y := .bl (isBl d)) (d := .bl false) rfl rfl (by cases isBl d <;> rfl)]
      rfl
    · show some (isNon d, s) = _
      rw [h3]
    · show some (isNon d, s) = _
      rw [h3]
  unfold sLlikeB
  refine fnd (s1 := s) ?_
  show kSeq _ _ s = _
  rw [kseq (s1 := s) (by rw [kif_f e1]; rfl), kseq (s1 := s) (by rw [kif_f e2]; rfl)]
  refine kret ?_
  unfold mAndV
  rw [m2_eq (s1 := s) (s2 := s) (x := .bl (isInt d)) (y := .bl (isInt d)) rfl rfl h4, Option.bind_some]
  dsimp only
  rw [m2_eq (s1 := s) (s2 := s) (x := .bl (isStr d)) (y := .bl (isStr d)) rfl rfl h5, Option.bind_some]
  dsimp only
  exact m2_eq (s1 := s) (s2 := s) (x := d) (y := d) rfl rfl h6
theorem like_refl : ∀ (n : Nat) (d : Dt) (bg : List Dt), okD n d = true → sLlike n [d, d] bg = some (.bl true, bg)
  | 0, _, _, h => by cases h
  | n + 1, d, bg, h => by
    cases d with
    | bag => cases h
    | dic ks l => cases h
    | ins c ks l => cases h
    | err c ks l => cases h
    | tup l =>
      unfold okD at h
      rw [Bool.and_eq_true] at h
      exact like_seq (.inr rfl) (of_decide_eq_true h.1) fun x hx => like_refl n x bg (List.all_eq_true.mp h.2 x hx)
    | lst l =>
      unfold okD at h
      rw [Bool.and_eq_true] at h
      exact like_seq (.inl rfl) (of_decide_eq_true h.1) fun x hx => like_refl n x bg (List.all_eq_true.mp h.2 x hx)
    | non => exact like_non bg
    | bl b => exact like_scal (.bl b) bg rfl rfl rfl rfl rfl (by cases b <;> rfl)
    | int i => exact like_scal (.int i) bg rfl rfl rfl rfl rfl (by rw [eqII, beq_self_eq_true])
    | str z =>
      have hz : cpOk z = true := by unfold okD at h; exact h
      exact like_scal (.str z) bg rfl rfl rfl rfl rfl (by rw [eqSS hz hz, beq_self_eq_true])

/-! ### is_name, is_column, is_value, shifted -/
theorem tag {a b : Str} (ha : cpOk a = true) (hb : cpOk b = true) {r : Bool} (e : (a == b) = r) : gEq (.str a) (.str b) = some (.bl r) := by rw [eqSS ha hb, e]
theorem tagN {a b : Str} (ha : cpOk a = true) (hb : cpOk b = true) {r : Bool} (e : (a == b) = r) : gNe (.str a) (.str b) = some (.bl !r) := by
  unfold gNe
  rw [eqOk_str ha, eqOk_str hb]
  show some (Dt.bl !(a == b)) = _
  rw [e]
theorem mBt {f : DM Dt} {s s1 : Sta} {b : Bool} (h : f s = some (.bl b, s1)) : mB f s = some (b, s1) := by unfold mB; rw [h]; rfl
theorem andV_t {f g : DM Dt} {s s1 : Sta} (h : f s = some (.bl true, s1)) : mAndV f g s = g s1 := by unfold mAndV; rw [h]; rfl
theorem andV_f {f g : DM Dt} {s s1 : Sta} (h : f s = some (.bl false, s1)) : mAndV f g s = some (.bl false, s1) := by unfold mAndV; rw [h]; rfl
theorem orV_t {f g : DM Dt} {s s1 : Sta} (h : f s = some (.bl true, s1)) : mOrV f g s = some (.bl true, s1) := by unfold mOrV; rw [h]; rfl
theorem orV_f {f g : DM Dt} {s s1 : Sta} (h : f s = some (.bl false, s1)) : mOrV f g s = g s1 := by unfold mOrV; rw [h]; rfl
theorem mcall {g : List Dt → Option Dt} {f : DM (List Dt)} {s s1 : Sta} {l : List Dt} {d : Dt} (h : f s = some (l, s1)) (e : g l = some d) : mCall g f s = some (d, s1) := by unfold mCall; rw [h, Option.bind_some, e]; rfl
theorem mchain_t {g g' : Dt → Dt → Option Dt} {f1 f2 f3 : DM Dt} {s s1 s2 s3 : Sta} {x y z d : Dt} (h1 : f1 s = some (x, s1)) (h2 : f2 s1 = some (y, s2)) (h3 : g x y = some (.bl true)) (h4 : f3 s2 = some (z, s3)) (h5 : g' y z = some d) : mChain g g' f1 f2 f3 s = some (d, s3) := by
  unfold mChain; rw [h1, Option.bind_some, h2, Option.bind_some]; dsimp only; rw [h3, Option.bind_some]; dsimp only; rw [h4, Option.bind_some]; dsimp only; rw [h5]; rfl
theorem mchain_f {g g' : Dt → Dt → Option Dt} {f1 f2 f3 : DM Dt} {s s1 s2 : Sta} {x y : Dt} (h1 : f1 s = some (x, s1)) (h2 : f2 s1 = some (y, s2)) (h3 : g x y = some (.bl false)) : mChain g g' f1 f2 f3 s = some (.bl false, s2) := by
  unfold mChain; rw [h1, Option.bind_some, h2, Option.bind_some]; dsimp only; rw [h3]; rfl
theorem bools_map (f : Dt → Bool) : ∀ (l : List Dt), bools (l.map fun d => .bl (f d)) = some (l.map f)
  | [] => rfl
  | d :: l => by
    show (bools (l.map fun d => .bl (f d))).bind _ = _
    rw [bools_map f l]
    rfl
theorem gall_map (f : Dt → Bool) (l : List Dt) : gAll [.lst (l.map fun d => .bl (f d))] = some (.bl (l.all f)) := by
  show (bools (l.map fun d => .bl (f d))).bind _ = _
  rw [bools_map, Option.bind_some, List.all_map]
  rfl
def letB : Dt → Bool
  | .str z => !(strLt z "a") && !(strLt "z" z)
  | _ => false
theorem lt1 (a b : Nat) : ([a] < [b]) ↔ a < b := by
  constructor
  · intro h
    cases h with
    | rel h => exact h
    | cons h => cases h
  · intro h
    exact List.Lex.rel h
theorem letB_c (c : Nat) : letB (.str ⟨#[c]⟩) = (decide (97 ≤ c) && decide (c ≤ 122)) := by
  have ea : ("a" : Str).cps.toList = [97] := by decide +kernel
  have ez : ("z" : Str).cps.toList = [122] := by decide +kernel
  show (!(decide ((⟨#[c]⟩ : Str).cps.toList < ("a" : Str).cps.toList)) && !(decide (("z" : Str).cps.toList < (⟨#[c]⟩ : Str).cps.toList))) = _
  rw [ea, ez]
  show (!(decide ([c] < [97])) && !(decide ([122] < [c]))) = _
  have h1 : decide ([c] < [97]) = decide (c < 97) := decide_eq_decide.mpr (lt1 c 97)
  have h2 : decide ([122] < [c]) = decide (122 < c) := decide_eq_decide.mpr (lt1 122 c)
  rw [h1, h2]
  by_cases a : c < 97
  · have : ¬ 97 ≤ c := by omega
    simp [a, this]
  · by_cases b : 122 < c
    · have : ¬ c ≤ 122 := by omega
      simp [b, this]
    · have h3 : 97 ≤ c := by omega
      have h4 : c ≤ 122 := by omega
      simp [a, b, h3, h4]
theorem resv_tup (z : Str) : gIn (.str z) s_RESERVED = some (.bl (resv.contains z)) := by
  show (if (flatD (.str z) && (resv.map Dt.str).all flatD) = true then some (Dt.bl ((resv.map Dt.str).any fun d => sameD d (.str z))) else none) = _
  rw [if_pos (show (flatD (.str z) && (resv.map Dt.str).all flatD) = true from rfl), List.any_map]
  show some (Dt.bl (resv.any fun r => r == z)) = _
  congr 2
  rw [List.contains_eq_any_beq]
  congr 1
  funext r
  exact Bool.beq_comm
theorem is_name_str (z : Str) (bg : List Dt) (hz : z.length ≤ 100000) : sis_name [.str z] bg = some (.bl (nameB z), bg) := by
  let s : Sta := ⟨[some (.dat (.str z)), none], bg⟩
  have hl : gLen [.str z] = some (.int (z.length : Nat)) := glen_str (Nat.le_trans hz (by decide))
  have ein : mOrB (mNotB (mB (mIsi isStr (mVar 0)))) (mB (m2 gIn (mVar 0) (mC s_RESERVED))) s = some (resv.contains z, s) := by
    rw [or_f (s1 := s) rfl]
    exact mBt (m2_eq (s1 := s) (s2 := s) (x := .str z) (y := s_RESERVED) rfl rfl (resv_tup z))
  have elen : mCall gLen (mCons (mVar 0) mNil) s = some (.int (z.length : Nat), s) := mcall (s1 := s) (l := [.str z]) rfl hl
  have ecomp : mCall gAll (mCons (mComp [1] (wStr (mVar 0)) (hName 1) mYes (mChain oLe oLe (mC (.str "a")) (mVar 1) (mC (.str "z")))) mNil) s = some (.bl (lowB z), s) := by
    have e : mComp [1] (wStr (mVar 0)) (hName 1) mYes (mChain oLe oLe (mC (.str "a")) (mVar 1) (mC (.str "z"))) s = some (.lst ((z.cps.toList.map fun c => Dt.str ⟨#[c]⟩).map fun d => .bl (letB d)), s) := by
      refine mcomp (s1 := s) (l := z.cps.toList.map fun c => Dt.str ⟨#[c]⟩) rfl (by rw [List.length_map]; simpa [Str.length] using hz) (comp_map (fun d => .bl (letB d)) _ fun d hd => ?_)
      obtain ⟨c, hc, rfl⟩ := List.mem_map.mp hd
      let s' : Sta := ⟨[some (.dat (.str z)), some (.dat (.str ⟨#[c]⟩))], bg⟩
      refine ⟨s', s', s', rfl, rfl, ?_, rfl⟩
      by_cases h : strLt ⟨#[c]⟩ "a" = true
      · have e1 : letB (.str ⟨#[c]⟩) = false := by show (!strLt ⟨#[c]⟩ "a" && !strLt "z" ⟨#[c]⟩) = _; rw [h]; rfl
        rw [e1]
        exact mchain_f (s1 := s') (s2 := s') (x := .str "a") (y := .str ⟨#[c]⟩) rfl rfl (by show some (Dt.bl !(strLt ⟨#[c]⟩ "a")) = _; rw [h]; rfl)
      · rw [Bool.not_eq_true] at h
        have e1 : letB (.str ⟨#[c]⟩) = !(strLt "z" ⟨#[c]⟩) := by show (!strLt ⟨#[c]⟩ "a" && !strLt "z" ⟨#[c]⟩) = _; rw [h]; rfl
        rw [e1]
        exact mchain_t (s1 := s') (s2 := s') (s3 := s') (x := .str "a") (y := .str ⟨#[c]⟩) (z := .str "z") rfl rfl (by show some (Dt.bl !(strLt ⟨#[c]⟩ "a")) = _; rw [h]; rfl) rfl rfl
    refine mcall (mcons e rfl) ?_
    rw [gall_map, List.all_map]
    congr 2
    unfold lowB
    congr 1
    funext c
    exact letB_c c
  unfold sis_name
  refine fnd (s1 := s) ?_
  show kSeq _ _ s = _
  by_cases hr : resv.contains z = true
  · have en : nameB z = false := by unfold nameB; rw [hr]; simp
    rw [hr] at ein
    unfold kSeq
    rw [kif_t ein, en]
    rfl
  · rw [Bool.not_eq_true] at hr
    rw [hr] at ein
    rw [kseq (s1 := s) (by rw [kif_f ein]; rfl)]
    refine kret ?_
    by_cases h1 : 1 ≤ z.length
    · by_cases h6 : z.length ≤ 6
      · have en : nameB z = lowB z := by unfold nameB; rw [hr]; simp [h1, h6]
        rw [en, andV_t (s1 := s)]
        · exact ecomp
        · exact mchain_t (s1 := s) (s2 := s) (s3 := s) (x := .int 1) (y := .int (z.length : Nat)) (z := .int 6) rfl elen (by show some (Dt.bl (decide ((1 : Int) ≤ (z.length : Nat)))) = _; rw [decide_eq_true (by omega)]) rfl (by show some (Dt.bl (decide (((z.length : Nat) : Int) ≤ 6))) = _; rw [decide_eq_true (by omega)])
      · have en : nameB z = false := by unfold nameB; simp [h6]
        rw [en]
        refine andV_f ?_
        exact mchain_t (s1 := s) (s2 := s) (s3 := s) (x := .int 1) (y := .int (z.length : Nat)) (z := .int 6) rfl elen (by show some (Dt.bl (decide ((1 : Int) ≤ (z.length : Nat)))) = _; rw [decide_eq_true (by omega)]) rfl (by show some (Dt.bl (decide (((z.length : Nat) : Int) ≤ 6))) = _; rw [decide_eq_false (by omega)])
    · have en : nameB z = false := by unfold nameB; simp [h1]
      rw [en]
      refine andV_f ?_
      exact mchain_f (s1 := s) (s2 := s) (x := .int 1) (y := .int (z.length : Nat)) rfl elen (by show some (Dt.bl (decide ((1 : Int) ≤ (z.length : Nat)))) = _; rw [decide_eq_false (by omega)])

def ColOk (c : Str) : Prop := c = "key" ∨ NameOk c
theorem name_len {z : Str} (h : NameOk z) : z.length ≤ 100000 := Nat.le_trans h.few (by decide)
theorem is_name_ok {z : Str} (h : NameOk z) (bg : List Dt) : sis_name [.str z] bg = some (.bl true, bg) := by
  rw [is_name_str z bg (name_len h), nameB_iff.mpr h]
theorem is_column_ok {z : Str} (h : ColOk z) (bg : List Dt) : sis_column [.str z] bg = some (.bl true, bg) := by
  let s : Sta := ⟨[some (.dat (.str z))], bg⟩
  unfold sis_column
  refine fnd (s1 := s) (kret ?_)
  rcases h with rfl | h
  · exact orV_t (m2_eq (s1 := s) (s2 := s) (x := .str "key") (y := .str "key") rfl rfl (tag (by decide +kernel) (by decide +kernel) (by decide +kernel)))
  · by_cases e : (z == "key") = true
    · exact orV_t (m2_eq (s1 := s) (s2 := s) (x := .str z) (y := .str "key") rfl rfl (tag (cp_low h.low) (by decide +kernel) e))
    · rw [Bool.not_eq_true] at e
      rw [orV_f (m2_eq (s1 := s) (s2 := s) (x := .str z) (y := .str "key") rfl rfl (tag (cp_low h.low) (by decide +kernel) e))]
      exact mapp (s1 := s) (ds := [.str z]) rfl (is_name_ok h bg)
def big : Int := 1000000000000000000000000000000
def Bnd (i : Int) : Prop := -big ≤ i ∧ i ≤ big
theorem is_bounded_ok {i : Int} (h : Bnd i) (bg : List Dt) : sis_bounded_ [.int i] bg = some (.bl true, bg) := by
  let s : Sta := ⟨[some (.dat (.int i))], bg⟩
  unfold sis_bounded_
  refine fnd (s1 := s) (kret ?_)
  rw [andV_t (s1 := s) (mapp (s1 := s) (ds := [.int i]) rfl (bg := bg) (d := .bl true) rfl)]
  refine mchain_t (s1 := s) (s2 := s) (s3 := s) (x := .int (-big)) (y := .int i) (z := .int big) rfl rfl ?_ rfl ?_
  · show some (Dt.bl (decide (-big ≤ i))) = _; rw [decide_eq_true h.1]
  · show some (Dt.bl (decide (i ≤ big))) = _; rw [decide_eq_true h.2]
inductive Sg where
  | number (i : Int) | name (n : Str) | field (n c : Str) | own (c : Str) | next (c : Str)
def Sg.d : Sg → Dt
  | .number i => .tup [.str "number", .int i]
  | .name n => .tup [.str "name", .str n]
  | .field n c => .tup [.str "field", .str n, .str c]
  | .own c => .tup [.str "own", .str c]
  | .next c => .tup [.str "next", .str c]
def Sg.Ok : Sg → Prop
  | .number i => Bnd i
  | .name n => NameOk n
  | .field n c => NameOk n ∧ ColOk c
  | .own c => ColOk c
  | .next c => ColOk c
theorem single2 {a : Str} {b : Dt} {bg : List Dt} (ha : cpOk a = true) {k : Nat} (hk : k = 0 ∧ (a == "number") = true ∧ sis_bounded_ [b] bg = some (.bl true, bg) ∨ k = 1 ∧ (a == "number") = false ∧ (a == "name") = true ∧ sis_name [b] bg = some (.bl true, bg) ∨
    k = 2 ∧ (a == "number") = false ∧ (a == "name") = false ∧ gIn (.str a) (.tup [.str "own", .str "next"]) = some (.bl true) ∧ sis_column [b] bg = some (.bl true, bg)) : sis_single_ [.tup [.str a, b]] bg = some (.bl true, bg) := by
  let s : Sta := ⟨[some (.dat (.tup [.str a, b])), some (.dat (.str a)), some (.dat b)], bg⟩
  let s0 : Sta := ⟨[some (.dat (.tup [.str a, b])), none, none], bg⟩
  unfold sis_single_
  refine fnd (s1 := s) ?_
  show kSeq _ _ s0 = _
  rw [kseq (s1 := s0) rfl, kseq (s1 := s0) rfl, kseq (s1 := s0) rfl, kseq (s1 := s) rfl]
  have t1 : ∀ r, (a == "number") = r → mB (m2 gEq (mVar 1) (mC (.str "number"))) s = some (r, s) := fun r h => mBt (m2_eq (s1 := s) (s2 := s) (x := .str a) (y := .str "number") rfl rfl (tag ha (by decide +kernel) h))
  have t2 : ∀ r, (a == "name") = r → mB (m2 gEq (mVar 1) (mC (.str "name"))) s = some (r, s) := fun r h => mBt (m2_eq (s1 := s) (s2 := s) (x := .str a) (y := .str "name") rfl rfl (tag ha (by decide +kernel) h))
  rcases hk with ⟨_, h1, h2⟩ | ⟨_, h1, h2, h3⟩ | ⟨_, h1, h2, h3, h4⟩
  · unfold kSeq
    rw [kif_t (t1 _ h1), kret (mapp (s1 := s) (ds := [b]) rfl h2)]
    rfl
  · rw [kseq (s1 := s) (by rw [kif_f (t1 _ h1)]; rfl)]
    unfold kSeq
    rw [kif_t (t2 _ h2), kret (mapp (s1 := s) (ds := [b]) rfl h3)]
    rfl
  · rw [kseq (s1 := s) (by rw [kif_f (t1 _ h1)]; rfl), kseq (s1 := s) (by rw [kif_f (t2 _ h2)]; rfl)]
    refine kret ?_
    rw [andV_t (s1 := s) (m2_eq (s1 := s) (s2 := s) (x := .str a) (y := .tup [.str "own", .str "next"]) rfl rfl h3)]
    exact mapp (s1 := s) (ds := [b]) rfl h4
theorem single_ok {v : Sg} (h : v.Ok) (bg : List Dt) : sis_single_ [v.d] bg = some (.bl true, bg) := by
  cases v with
  | number i => exact single2 (by decide +kernel) (.inl ⟨rfl, by decide +kernel, is_bounded_ok h bg⟩)
  | name n => exact single2 (by decide +kernel) (.inr (.inl ⟨rfl, by decide +kernel, by decide +kernel, is_name_ok h bg⟩))
  | own c => exact single2 (by decide +kernel) (.inr (.inr ⟨rfl, by decide +kernel, by decide +kernel, congrArg (fun b => some (Dt.bl b)) (by decide +kernel : ([Dt.str "own", Dt.str "next"].any fun d => sameD d (.str "own")) = true), is_column_ok h bg⟩))
  | next c => exact single2 (by decide +kernel) (.inr (.inr ⟨rfl, by decide +kernel, by decide +kernel, congrArg (fun b => some (Dt.bl b)) (by decide +kernel : ([Dt.str "own", Dt.str "next"].any fun d => sameD d (.str "next")) = true), is_column_ok h bg⟩))
  | field n c =>
    let s : Sta := ⟨[some (.dat (.tup [.str "field", .str n, .str c])), none, none], bg⟩
    unfold sis_single_
    refine fnd (s1 := s) ?_
    show kSeq _ _ s = _
    rw [kseq (s1 := s) rfl]
    unfold kSeq
    rw [kif_t (s1 := s) rfl, kret (s1 := s) (d := .bl true)]
    · rfl
    · rw [andV_t (s1 := s) (m2_eq (s1 := s) (s2 := s) (x := .str "field") (y := .str "field") rfl rfl (tag (by decide +kernel) (by decide +kernel) (by decide +kernel)))]
      rw [andV_t (s1 := s) (mapp (s1 := s) (ds := [.str n]) rfl (is_name_ok h.1 bg))]
      exact mapp (s1 := s) (ds := [.str c]) rfl (is_column_ok h.2 bg)
def vald (v : Sg) : Option Int → Dt
  | none => v.d
  | some m => .tup [.str "plus", v.d, .int m]
theorem value_ok {v : Sg} (h : v.Ok) {o : Option Int} (ho : ∀ m, o = some m → Bnd m) (bg : List Dt) : sis_value [vald v o] bg = some (.bl true, bg) := by
  let s : Sta := ⟨[some (.dat (vald v o))], bg⟩
  have tg : ∀ (a : Str) (r : Bool), cpOk a = true → (a == "plus") = r → gEq (.str a) (.str "plus") = some (.bl r) := fun a r h e => tag h (by decide +kernel) e
  unfold sis_value
  refine fnd (s1 := s) ?_
  cases o with
  | some m =>
    have hm := ho m rfl
    show kSeq _ _ s = _
    unfold kSeq
    rw [kif_t (s1 := s)]
    · rw [kret (s1 := s) (d := .bl true)]
      · rfl
      · rw [andV_t (s1 := s) (mapp (s1 := s) (ds := [v.d]) rfl (single_ok h bg))]
        exact mapp (s1 := s) (ds := [.int m]) rfl (is_bounded_ok hm bg)
    · rw [and_t (s1 := s) rfl, and_t (s1 := s) rfl]
      exact mBt (m2_eq (s1 := s) (s2 := s) (x := .str "plus") (y := .str "plus") rfl rfl (tg _ _ (by decide +kernel) (by decide +kernel)))
  | none =>
    have hc : mAndB (mB (mIsi isTup (mVar 0))) (mAndB (mB (m2 gEq (mCall gLen (mCons (mVar 0) mNil)) (mC (.int 3)))) (mB (m2 gEq (m2 gIx (mVar 0) (mC (.int 0))) (mC (.str "plus"))))) s = some (false, s) := by
      cases v with
      | field n c =>
        rw [and_t (s1 := s) rfl, and_t (s1 := s) rfl]
        exact mBt (m2_eq (s1 := s) (s2 := s) (x := .str "field") (y := .str "plus") rfl rfl (tg _ _ (by decide +kernel) (by decide +kernel)))
      | number i => rw [and_t (s1 := s) rfl]; exact and_f rfl
      | name n => rw [and_t (s1 := s) rfl]; exact and_f rfl
      | own n => rw [and_t (s1 := s) rfl]; exact and_f rfl
      | next n => rw [and_t (s1 := s) rfl]; exact and_f rfl
    show kSeq _ _ s = some (Res.rt (.bl true), s)
    rw [kseq (s1 := s) (by rw [kif_f hc]; rfl)]
    exact kret (mapp (s1 := s) (ds := [v.d]) rfl (single_ok h bg))
def Sg.shift : Sg → Int → Dt
  | .number i, k => .tup [.str "number", .int (i + k)]
  | v, k => if k = 0 then v.d else .tup [.str "plus", v.d, .int k]
theorem shift_tail {v : Sg} {x y : Dt} {a : Int} {bg : List Dt} : ∃ st, (kSeq (kIf (mB (m2 gEq (m2 gIx (mVar 2) (mC (.int 0))) (mC (.str "number")))) (kRet (mTup (mCons (mC (.str "number")) (mCons (m2 gAdd (m2 gIx (mVar 2) (mC (.int 1))) (mVar 3)) mNil)))) kSkip)
    (kSeq (kIf (mB (m2 gEq (mVar 3) (mC (.int 0)))) (kRet (mVar 2)) kSkip)
    (kRet (mTup (mCons (mC (.str "plus")) (mCons (mVar 2) (mCons (mVar 3) mNil)))))))
    ⟨[some (.dat x), some (.dat y), some (.dat v.d), some (.dat (.int a))], bg⟩ = some (.rt (v.shift a), st) ∧ st.bag = bg := by
  let s : Sta := ⟨[some (.dat x), some (.dat y), some (.dat v.d), some (.dat (.int a))], bg⟩
  have tg : ∀ (t : Str) (r : Bool), gIx v.d (.int 0) = some (.str t) → cpOk t = true → (t == "number") = r → mB (m2 gEq (m2 gIx (mVar 2) (mC (.int 0))) (mC (.str "number"))) s = some (r, s) := fun t r h1 h2 h3 =>
    mBt (m2_eq (s1 := s) (s2 := s) (x := .str t) (y := .str "number") (m2_eq (s1 := s) (s2 := s) (x := v.d) (y := .int 0) rfl rfl h1) rfl (tag h2 (by decide +kernel) h3))
  have rest : (∀ k, v.shift k = if k = 0 then v.d else .tup [.str "plus", v.d, .int k]) → mB (m2 gEq (m2 gIx (mVar 2) (mC (.int 0))) (mC (.str "number"))) s = some (false, s) → ∃ st, (kSeq (kIf (mB (m2 gEq (m2 gIx (mVar 2) (mC (.int 0))) (mC (.str "number")))) (kRet (mTup (mCons (mC (.str "number")) (mCons (m2 gAdd (m2 gIx (mVar 2) (mC (.int 1))) (mVar 3)) mNil)))) kSkip)
    (kSeq (kIf (mB (m2 gEq (mVar 3) (mC (.int 0)))) (kRet (mVar 2)) kSkip)
    (kRet (mTup (mCons (mC (.str "plus")) (mCons (mVar 2) (mCons (mVar 3) mNil))))))) s = some (.rt (v.shift a), st) ∧ st.bag = bg := fun hs h => by
    refine ⟨s, ?_, rfl⟩
    rw [kseq (s1 := s) (by rw [kif_f h]; rfl), hs]
    have e0 : mB (m2 gEq (mVar 3) (mC (.int 0))) s = some (a == 0, s) := rfl
    by_cases ha : a = 0
    · rw [if_pos ha]
      unfold kSeq
      rw [kif_t (s1 := s) (by rw [e0, ha]; rfl)]
      rfl
    · rw [if_neg ha]
      rw [kseq (s1 := s) (by rw [kif_f (s1 := s) (by rw [e0, beq_eq_false_iff_ne.mpr ha])]; rfl)]
      exact kret (mtup (mcons (s1 := s) rfl (mcons (s1 := s) rfl (mcons (s1 := s) rfl rfl))))
  cases v with
  | number i =>
    refine ⟨s, ?_, rfl⟩
    show kSeq _ _ s = _
    unfold kSeq
    rw [kif_t (tg _ _ rfl (by decide +kernel) (by decide +kernel)), kret (s1 := s) (d := .tup [.str "number", .int (i + a)])]
    · rfl
    · exact mtup (mcons (s1 := s) rfl (mcons (s1 := s) rfl rfl))
  | name n => exact rest (fun _ => rfl) (tg _ _ rfl (by decide +kernel) (by decide +kernel))
  | field n c => exact rest (fun _ => rfl) (tg _ _ rfl (by decide +kernel) (by decide +kernel))
  | own c => exact rest (fun _ => rfl) (tg _ _ rfl (by decide +kernel) (by decide +kernel))
  | next c => exact rest (fun _ => rfl) (tg _ _ rfl (by decide +kernel) (by decide +kernel))
theorem shifted_ok {v : Sg} (h : v.Ok) {o : Option Int} (ho : ∀ m, o = some m → Bnd m) (k : Int) (bg : List Dt) : sshifted [vald v o, .int k] bg = some (v.shift (o.getD 0 + k), bg) := by
  let s0 : Sta := ⟨[some (.dat (vald v o)), some (.dat (.int k)), none, none], bg⟩
  let s1 : Sta := ⟨[some (.dat (vald v o)), some (.dat (.int k)), some (.dat (vald v o)), some (.dat (.int k))], bg⟩
  have tg : ∀ (t : Str) (r : Bool), gIx (vald v o) (.int 0) = some (.str t) → cpOk t = true → (t == "plus") = r → mB (m2 gEq (m2 gIx (mVar 0) (mC (.int 0))) (mC (.str "plus"))) s1 = some (r, s1) := fun t r h1 h2 h3 =>
    mBt (m2_eq (s1 := s1) (s2 := s1) (x := .str t) (y := .str "plus") (m2_eq (s1 := s1) (s2 := s1) (x := vald v o) (y := .int 0) rfl rfl h1) rfl (tag h2 (by decide +kernel) h3))
  have e1 : mNotB (mB (mApp sis_value (mCons (mVar 0) mNil))) s0 = some (false, s0) := by
    unfold mNotB
    rw [mBt (mapp (s1 := s0) (ds := [vald v o]) rfl (value_ok h ho bg))]
    rfl
  have go : ∀ st, (kSeq (kIf (mNotB (mB (mApp sis_value (mCons (mVar 0) mNil)))) (fun _ => none) kSkip)
    (kSeq (kPar 2 3 (mCons (mVar 0) (mCons (mVar 1) mNil)))
    (kSeq (kIf (mB (m2 gEq (m2 gIx (mVar 0) (mC (.int 0))) (mC (.str "plus")))) (kPar 2 3 (mCons (m2 gIx (mVar 0) (mC (.int 1))) (mCons (m2 gAdd (m2 gIx (mVar 0) (mC (.int 2))) (mVar 1)) mNil))) kSkip)
    (kSeq (kIf (mB (m2 gEq (m2 gIx (mVar 2) (mC (.int 0))) (mC (.str "number")))) (kRet (mTup (mCons (mC (.str "number")) (mCons (m2 gAdd (m2 gIx (mVar 2) (mC (.int 1))) (mVar 3)) mNil)))) kSkip)
    (kSeq (kIf (mB (m2 gEq (mVar 3) (mC (.int 0)))) (kRet (mVar 2)) kSkip)
    (kRet (mTup (mCons (mC (.str "plus")) (mCons (mVar 2) (mCons (mVar 3) mNil))))))))))  s0 = some (.rt (v.shift (o.getD 0 + k)), st) → st.bag = bg → sshifted [vald v o, .int k] bg = some (v.shift (o.getD 0 + k), bg) := fun st h1 h2 => by
    unfold sshifted
    have h3 := fnd (n := 4) (ds := [vald v o, .int k]) (bg := bg) h1
    rw [h2] at h3
    exact h3
  have e2 : kPar 2 3 (mCons (mVar 0) (mCons (mVar 1) mNil)) s0 = some (.nx, s1) := rfl
  cases o with
  | some m =>
    obtain ⟨st, e5, e6⟩ := shift_tail (v := v) (x := vald v (some m)) (y := .int k) (a := m + k) (bg := bg)
    refine go st ?_ e6
    rw [kseq (s1 := s0) (by rw [kif_f e1]; rfl), kseq e2, kseq (s1 := ⟨[some (.dat (vald v (some m))), some (.dat (.int k)), some (.dat v.d), some (.dat (.int (m + k)))], bg⟩) (by rw [kif_t (tg _ _ rfl (by decide +kernel) (by decide +kernel))]; rfl)]
    exact e5
  | none =>
    obtain ⟨st, e5, e6⟩ := shift_tail (v := v) (x := v.d) (y := .int k) (a := 0 + k) (bg := bg)
    refine go st ?_ e6
    have e7 : mB (m2 gEq (m2 gIx (mVar 0) (mC (.int 0))) (mC (.str "plus"))) s1 = some (false, s1) := by
      cases v <;> exact tg _ _ rfl (by decide +kernel) (by decide +kernel)
    rw [kseq (s1 := s0) (by rw [kif_f e1]; rfl), kseq e2, kseq (s1 := s1) (by rw [kif_f e7]; rfl)]
    have : (0 : Int) + k = k := Int.zero_add k
    rw [this] at e5
    show _ = some (Res.rt (v.shift (0 + k)), st)
    rw [this]
    exact e5

theorem loop_inv {h : Dt → Sta → Option Sta} {b : DMs} (I : Sta → Prop) (hs : ∀ d s, I s → ∃ s1 r s2, h d s = some s1 ∧ b s1 = some (r, s2) ∧ (r = .nx ∨ r = .ct) ∧ I s2) : ∀ (l : List Dt) (s : Sta), I s → ∃ s', loopD h b l s = some (.nx, s') ∧ I s'
  | [], s, hi => ⟨s, rfl, hi⟩
  | d :: l, s, hi => by
    obtain ⟨s1, r, s2, e1, e2, hr, h2⟩ := hs d s hi
    obtain ⟨s', e3, h3⟩ := loop_inv I hs l s2 h2
    refine ⟨s', ?_, h3⟩
    unfold loopD
    rw [e1, Option.bind_some, e2, Option.bind_some]
    rcases hr with rfl | rfl <;> exact e3
theorem okD_d {v : Sg} (h : v.Ok) (n : Nat) : okD (n + 2) v.d = true := by
  have hn : ∀ {z : Str}, NameOk z → okD (n + 1) (.str z) = true := fun h => cp_low h.low
  have hc : ∀ {z : Str}, ColOk z → okD (n + 1) (.str z) = true := fun h => by
    rcases h with rfl | h
    · show cpOk "key" = true; decide +kernel
    · exact hn h
  have tg : ∀ {z : Str}, cpOk z = true → okD (n + 1) (.str z) = true := fun h => h
  cases v with
  | number i => show ((decide (2 ≤ 1000)) && (okD (n + 1) (.str "number") && (true && true))) = true; rw [tg (by decide +kernel)]; rfl
  | name z => show ((decide (2 ≤ 1000)) && (okD (n + 1) (.str "name") && (okD (n + 1) (.str z) && true))) = true; rw [tg (by decide +kernel), hn h]; rfl
  | own z => show ((decide (2 ≤ 1000)) && (okD (n + 1) (.str "own") && (okD (n + 1) (.str z) && true))) = true; rw [tg (by decide +kernel), hc h]; rfl
  | next z => show ((decide (2 ≤ 1000)) && (okD (n + 1) (.str "next") && (okD (n + 1) (.str z) && true))) = true; rw [tg (by decide +kernel), hc h]; rfl
  | field z c => show ((decide (3 ≤ 1000)) && (okD (n + 1) (.str "field") && (okD (n + 1) (.str z) && (okD (n + 1) (.str c) && true)))) = true; rw [tg (by decide +kernel), hn h.1, hc h.2]; rfl
theorem okD_plus {v : Sg} (h : v.Ok) (m : Int) (n : Nat) : okD (n + 3) (.tup [.str "plus", v.d, .int m]) = true := by
  show ((decide (3 ≤ 1000)) && (okD (n + 2) (.str "plus") && (okD (n + 2) v.d && (true && true)))) = true
  rw [okD_d h, show okD (n + 2) (.str "plus") = true from (by show cpOk "plus" = true; decide +kernel)]
  rfl
theorem okD_vald {v : Sg} (h : v.Ok) (o : Option Int) (n : Nat) : okD (n + 3) (vald v o) = true := by
  cases o with
  | none => exact okD_d h (n + 1)
  | some m => exact okD_plus h m n
theorem shift_val {v : Sg} (h : v.Ok) (k : Int) (hb : ∀ i, v = .number i → Bnd (i + k)) : ∃ (w : Sg) (o : Option Int), v.shift k = vald w o ∧ w.Ok ∧ (∀ m, o = some m → m = k) ∧ ∀ j, w.shift (o.getD 0 + j) = v.shift (k + j) := by
  have go : (∀ k, v.shift k = if k = 0 then v.d else .tup [.str "plus", v.d, .int k]) → ∃ (w : Sg) (o : Option Int), v.shift k = vald w o ∧ w.Ok ∧ (∀ m, o = some m → m = k) ∧ ∀ j, w.shift (o.getD 0 + j) = v.shift (k + j) := fun hs => by
    by_cases hk : k = 0
    · subst hk
      exact ⟨v, none, by rw [hs]; rfl, h, (fun m e => by cases e), fun j => rfl⟩
    · exact ⟨v, some k, by rw [hs, if_neg hk]; rfl, h, (fun m e => by cases e; rfl), fun j => rfl⟩
  cases v with
  | number i => exact ⟨.number (i + k), none, rfl, hb i rfl, (fun m e => by cases e), fun j => by show Dt.tup [_, .int (i + k + (0 + j))] = Dt.tup [_, .int (i + (k + j))]; rw [Int.zero_add, Int.add_assoc]⟩
  | name n => exact go fun _ => rfl
  | field n c => exact go fun _ => rfl
  | own c => exact go fun _ => rfl
  | next c => exact go fun _ => rfl
theorem okD_shift {v : Sg} (h : v.Ok) (k : Int) (n : Nat) : okD (n + 3) (v.shift k) = true := by
  have go : (∀ k, v.shift k = if k = 0 then v.d else .tup [.str "plus", v.d, .int k]) → okD (n + 3) (v.shift k) = true := fun hs => by
    rw [hs]
    by_cases hk : k = 0
    · rw [if_pos hk]; exact okD_d h (n + 1)
    · rw [if_neg hk]; exact okD_plus h k n
  cases v with
  | number i => show ((decide (2 ≤ 1000)) && (okD (n + 2) (.str "number") && (true && true))) = true; rw [show okD (n + 2) (.str "number") = true from (by show cpOk "number" = true; decide +kernel)]; rfl
  | name n => exact go fun _ => rfl
  | field n c => exact go fun _ => rfl
  | own c => exact go fun _ => rfl
  | next c => exact go fun _ => rfl
theorem mlst2 {f : DM (List Dt)} {s s1 : Sta} {xs : List Dt} (h : f s = some (xs, s1)) (hl : xs.length ≤ 1000) : mLst f s = some (.lst xs, s1) := mlst h hl
theorem mappK {pm : List Nat} {F : FD} {f : DM (List Dt)} {s s1 : Sta} {ds es : List Dt} {d : Dt} {bg : List Dt} (h : f s = some (ds, s1)) (he : (pm.filterMap fun i => ds[i]?) = es) (hF : F es s1.bag = some (d, bg)) : mAppK pm F f s = some (d, { s1 with bag := bg }) := by
  unfold mAppK; rw [h, Option.bind_some]; dsimp only; rw [he, hF]; rfl
theorem kfor_rng {h : Dt → Sta → Option Sta} {b : DMs} {n : Int} {s s' : Sta} (h0 : 0 ≤ n) (h1 : n < 1000000) (e : loopD h b (rngD 0 n.toNat) s = some (.nx, s')) : kFor (wRng1 (mCons (mC (.int n)) mNil)) h b s = some (.nx, s') := by
  unfold kFor
  rw [mrng1 (s1 := s) (j := n) rfl h0 h1, Option.bind_some]
  exact e
end DL

namespace DL
open PySem PySem.Spec PyProof.Rows L2
variable [Tabs] [Me]
def s_MOST_DIGITS : Dt := .int 31
def ssingle_text_ : FD := fnD 1 (kSeq (kIf (mB (m2 gIn (m2 gIx (mVar 0) (mC (.int 0))) (mTup (mCons (mC (.str "number")) (mCons (mC (.str "name")) mNil))))) (kRet (mCall gStr (mCons (m2 gIx (mVar 0) (mC (.int 1))) mNil))) kSkip)
    (kSeq (kIf (mB (m2 gEq (m2 gIx (mVar 0) (mC (.int 0))) (mC (.str "field")))) (kRet (mJoined [(mFmt (m2 gIx (mVar 0) (mC (.int 1)))), (mC (.str ".")), (mFmt (m2 gIx (mVar 0) (mC (.int 2))))])) kSkip)
    (kRet (mJoined [(mFmt (m2 gIx (mVar 0) (mC (.int 0)))), (mC (.str ".")), (mFmt (m2 gIx (mVar 0) (mC (.int 1))))]))))
def svalue_text : FD := fnD 2 (kSeq (kIf (mNotB (mB (mApp sis_value (mCons (mVar 0) mNil)))) (fun _ => none) kSkip)
    (kSeq (kIf (mB (m2 gNe (m2 gIx (mVar 0) (mC (.int 0))) (mC (.str "plus")))) (kRet (mApp ssingle_text_ (mCons (mVar 0) mNil))) kSkip)
    (kSeq (kAsg (mIf (mB (m2 oLt (m2 gIx (mVar 0) (mC (.int 2))) (mC (.int 0)))) (mC (.str "-")) (mC (.str "+"))) (hName 1))
    (kRet (mJoined [(mFmt (mApp ssingle_text_ (mCons (m2 gIx (mVar 0) (mC (.int 1))) mNil))), (mC (.str " ")), (mFmt (mVar 1)), (mC (.str " ")), (mFmt (mCall gAbs (mCons (m2 gIx (mVar 0) (mC (.int 2))) mNil)))])))))
def sread_signed_ : FD := fnD 5 (kSeq (kIf (mOrB (mNotB (mB (mChain oLe oLe (mC (.int 1)) (mCall gLen (mCons (mVar 1) mNil)) (mVar 2)))) (mB (mCall gAny (mCons (mComp [4] (wStr (mVar 1)) (hName 4) mYes (mNotV (mChain oLe oLe (mC (.str "0")) (mVar 4) (mC (.str "9"))))) mNil)))) (kRet (mC .non)) kSkip)
    (kSeq (kAsg (mCall gIntS (mCons (mVar 1) mNil)) (hName 3))
    (kSeq (kIf (mOrB (mB (m2 gNe (mCall gStr (mCons (mVar 3) mNil)) (mVar 1))) (mOrB (mB (m2 gNin (mVar 0) (mTup (mCons (mC (.str "+")) (mCons (mC (.str "-")) mNil))))) (mAndB (mB (m2 gEq (mVar 0) (mC (.str "-")))) (mB (m2 gEq (mVar 3) (mC (.int 0))))))) (kRet (mC .non)) kSkip)
    (kRet (mIf (mB (m2 gEq (mVar 0) (mC (.str "-")))) (mNeg (mVar 3)) (mVar 3))))))
def sread_integer : FD := fnD 2 (kSeq (kIf (mB (mM1 gStarts (mVar 0) (mC (.str "-")))) (kRet (mApp sread_signed_ (mCons (mC (.str "-")) (mCons (mSl (mVar 0) (mPart (mC (.int 1))) mNoP) (mCons (mVar 1) mNil))))) kSkip)
    (kRet (mApp sread_signed_ (mCons (mC (.str "+")) (mCons (mVar 0) (mCons (mVar 1) mNil))))))
def sread_single_ : FD := fnD 4 (kSeq (kAsg (mM1 gPartition (mVar 0) (mC (.str "."))) (hTup 3 (hCons (hName 1) (hCons (hName 2) (hCons (hName 3) hNil)))))
    (kSeq (kIf (mB (m2 gIn (mVar 1) (mTup (mCons (mC (.str "own")) (mCons (mC (.str "next")) mNil))))) (kRet (mTup (mCons (mVar 1) (mCons (mVar 3) mNil)))) kSkip)
    (kSeq (kIf (mTru (mVar 2)) (kRet (mTup (mCons (mC (.str "field")) (mCons (mVar 1) (mCons (mVar 3) mNil))))) kSkip)
    (kSeq (kIf (mB (mApp sis_name (mCons (mVar 0) mNil))) (kRet (mTup (mCons (mC (.str "name")) (mCons (mVar 0) mNil)))) kSkip)
    (kRet (mTup (mCons (mC (.str "number")) (mCons (mApp sread_integer (mCons (mVar 0) (mCons (mC s_MOST_DIGITS) mNil))) mNil))))))))
def sread_value : FD := fnD 3 (kSeq (kIf (mNotB (mB (mIsi isStr (mVar 0)))) (fun _ => none) kSkip)
    (kSeq (kAsg (mM1 gSplit (mVar 0) (mC (.str " "))) (hName 1))
    (kSeq (kAsg (mApp sread_single_ (mCons (m2 gIx (mVar 1) (mC (.int 0))) mNil)) (hName 2))
    (kSeq (kIf (mB (m2 gEq (mCall gLen (mCons (mVar 1) mNil)) (mC (.int 3)))) (kAsg (mTup (mCons (mC (.str "plus")) (mCons (mVar 2) (mCons (mApp sread_signed_ (mCons (m2 gIx (mVar 1) (mC (.int 1))) (mCons (m2 gIx (mVar 1) (mC (.int 2))) (mCons (mC s_MOST_DIGITS) mNil)))) mNil)))) (hName 2)) kSkip)
    (kSeq (kIf (mOrB (mB (m2 gNin (mCall gLen (mCons (mVar 1) mNil)) (mTup (mCons (mC (.int 1)) (mCons (mC (.int 3)) mNil))))) (mNotB (mB (mApp sis_value (mCons (mVar 2) mNil))))) (fun _ => none) kSkip)
    (kRet (mVar 2)))))))
def sLis_name : FD := fnD 2 (kSeq (kIf (mOrB (mNotB (mB (mIsi isStr (mVar 0)))) (mOrB (mNotB (mB (mChain oLe oLe (mC (.int 1)) (mCall gLen (mCons (mVar 0) mNil)) (mC (.int 6))))) (mB (m2 gIn (mVar 0) (mApp sLreserved mNil))))) (kRet (mC (.bl false))) kSkip)
    (kRet (mCall gAll (mCons (mComp [1] (wStr (mVar 0)) (hName 1) mYes (m2 gIn (mVar 1) (mC (.str "abcdefghijklmnopqrstuvwxyz")))) mNil))))
def sLfar : FD := fnD 2 (kSeq (kAsg (mApp sLpull (mCons (mVar 0) (mCons (m2 gPow (mC (.int 10)) (mC (.int 9))) mNil))) (hName 1))
    (kRet (mApp sLany (mCons (mVar 0) (mCons (mLst (mCons (mC (.int 0)) (mCons (mC (.int 1)) (mCons (m2 gSub0 (mC (.int 0)) (mC (.int 1))) (mCons (mC (.int 2)) (mCons (m2 gSub0 (mC (.int 5)) (mApp sLpull (mCons (mVar 0) (mCons (mC (.int 11)) mNil)))) (mCons (m2 gSub0 (mVar 1) (m2 gPow (mC (.int 10)) (mC (.int 8)))) (mCons (m2 gSub0 (m2 gPow (mC (.int 10)) (mC (.int 30))) (mVar 1)) (mCons (m2 gSub0 (mVar 1) (m2 gPow (mC (.int 10)) (mC (.int 30)))) mNil))))))))) mNil)))))
def sLvalue_textB (R : FD) : FD := fnD 2 (kSeq (kIf (mB (m2 gEq (m2 gIx (mVar 0) (mC (.int 0))) (mC (.str "plus")))) (kSeq (kAsg (m2 gIx (mVar 0) (mC (.int 2))) (hName 1))
    (kRet (m2 gAdd (mApp R (mCons (m2 gIx (mVar 0) (mC (.int 1))) mNil)) (mIf (mB (m2 oLt (mVar 1) (mC (.int 0)))) (m2 gAdd (mC (.str " - ")) (mCall gStr (mCons (m2 gSub0 (mC (.int 0)) (mVar 1)) mNil))) (m2 gAdd (mC (.str " + ")) (mCall gStr (mCons (mVar 1) mNil))))))) kSkip)
    (kSeq (kIf (mB (m2 gEq (m2 gIx (mVar 0) (mC (.int 0))) (mC (.str "field")))) (kRet (m2 gAdd (m2 gAdd (m2 gIx (mVar 0) (mC (.int 1))) (mC (.str "."))) (m2 gIx (mVar 0) (mC (.int 2))))) kSkip)
    (kSeq (kIf (mB (m2 gIn (m2 gIx (mVar 0) (mC (.int 0))) (mTup (mCons (mC (.str "own")) (mCons (mC (.str "next")) mNil))))) (kRet (m2 gAdd (m2 gAdd (m2 gIx (mVar 0) (mC (.int 0))) (mC (.str "."))) (m2 gIx (mVar 0) (mC (.int 1))))) kSkip)
    (kRet (mCall gStr (mCons (m2 gIx (mVar 0) (mC (.int 1))) mNil))))))
def sLvalue_text : Nat → FD
  | 0 => fun _ _ => none
  | n + 1 => sLvalue_textB (sLvalue_text n)
def sLsome_string : FD := fnD 4 (kSeq (kIf (mB (m2 gEq (mApp sLpull (mCons (mVar 0) (mCons (mC (.int 4)) mNil))) (mC (.int 0)))) (kRet (m2 gAdd (mApp sLany (mCons (mVar 0) (mCons (mApp sLreserved mNil) mNil))) (mApp sLany (mCons (mVar 0) (mCons (mLst (mCons (mC (.str "")) (mCons (mC (.str "")) (mCons (mC (.str "a")) mNil)))) mNil))))) kSkip)
    (kSeq (kAsg (mM1 gJoin (mC (.str "")) (mComp [3] (wRng1 (mCons (mApp sLpull (mCons (mVar 0) (mCons (mC (.int 9)) mNil))) mNil)) (hName 3) mYes (mApp sLany (mCons (mVar 0) (mCons (mC (.str "abcdefghijklmnopqrstuvwxyz")) mNil))))) (hName 1))
    (kSeq (kAsg (mApp sLpull (mCons (mVar 0) (mCons (m2 gAdd (mCall gLen (mCons (mVar 1) mNil)) (mC (.int 1))) mNil))) (hName 2))
    (kRet (m2 gAdd (m2 gAdd (mSl (mVar 1) mNoP (mPart (mVar 2))) (mApp sLany (mCons (mVar 0) (mCons (mLst (mCons (mC (.str "")) (mCons (mC (.str "")) (mCons (mC (.str "")) (mCons (mC (.str "A")) (mCons (mC (.str "1")) (mCons (mC (.str " ")) (mCons (mC (.str ".")) (mCons (mC (.str "_")) (mCons (mC (.str "\n")) mNil)))))))))) mNil)))) (mSl (mVar 1) (mPart (mVar 2)) mNoP))))))
def sLall_values : FD := fnD 5 (kSeq (kAsg (mApp sLany (mCons (mVar 0) (mCons (mLst (mCons (m2 gIx (mVar 1) (mC (.int 0))) (mCons (mC (.str "key")) mNil))) mNil))) (hName 2))
    (kSeq (kAsg (mLst (mCons (mTup (mCons (mC (.str "number")) (mCons (mApp sLfar (mCons (mVar 0) mNil)) mNil))) (mCons (mTup (mCons (mC (.str "name")) (mCons (m2 gIx (mVar 1) (mC (.int 1))) mNil))) (mCons (mTup (mCons (mC (.str "field")) (mCons (m2 gIx (mVar 1) (mC (.int 2))) (mCons (mVar 2) mNil)))) (mCons (mTup (mCons (mC (.str "own")) (mCons (mVar 2) mNil))) (mCons (mTup (mCons (mC (.str "next")) (mCons (mVar 2) mNil))) mNil)))))) (hName 3))
    (kRet (m2 gAdd (mVar 3) (mComp [4] (wLst (mVar 3)) (hName 4) mYes (mTup (mCons (mC (.str "plus")) (mCons (mVar 4) (mCons (mApp sLfar (mCons (mVar 0) mNil)) mNil)))))))))
open TL
/-! ### whole numbers as texts -/
abbrev itxt (i : Int) : Str := Str.ofString (toString i)
theorem itxt_nat (n : Nat) : tl (itxt (n : Nat)) = numL n := tl_num n
theorem itxt_neg (m : Nat) : tl (itxt (Int.negSucc m)) = 45 :: numL (m + 1) := by
  have e : toString (Int.negSucc m) = "-" ++ toString ((m + 1 : Nat) : Int) := rfl
  show (Str.ofString (toString (Int.negSucc m))).cps.toList = _
  rw [e, PyProof.Rows.signs_ofString, String.toList_append, List.map_append, ← PyProof.Rows.signs_ofString (toString ((m + 1 : Nat) : Int))]
  rw [show (Str.ofString (toString ((m + 1 : Nat) : Int))).cps.toList = numL (m + 1) from tl_num (m + 1)]
  rfl
theorem log_ok {i : Int} (h : Bnd i) : i.natAbs.log2 < 1920 := by
  by_cases h0 : i.natAbs = 0
  · rw [h0]; decide
  · rw [Nat.log2_lt h0]
    have h1 : i.natAbs ≤ 1000000000000000000000000000000 := by unfold Bnd big at h; omega
    exact Nat.lt_of_le_of_lt h1 (by decide)
theorem num_len {n : Nat} (h : n ≤ 1000000000000000000000000000000) : (itxt (n : Nat)).length ≤ 31 := by
  rw [len_tl, itxt_nat]
  exact numL_len (by decide) (Nat.lt_of_le_of_lt h (by decide))
theorem num_pos (n : Nat) : 1 ≤ (itxt (n : Nat)).length := by
  rw [len_tl, itxt_nat]
  have := numL_ne n
  cases e : numL n with
  | nil => exact absurd e this
  | cons _ _ => simp
theorem cp_tl {z : Str} (h : ∀ c ∈ tl z, c < 1114112) : cpOk z = true := by
  unfold cpOk
  rw [← Array.all_toList, List.all_eq_true]
  intro c hc
  exact decide_eq_true (h c hc)
theorem num_cp (n : Nat) : cpOk (itxt (n : Nat)) = true := cp_tl fun c hc => by
  rw [itxt_nat] at hc
  have := numL_digits n c hc
  omega
theorem gany_map (f : Dt → Bool) (l : List Dt) : gAny [.lst (l.map fun d => .bl (f d))] = some (.bl (l.any f)) := by
  show (bools (l.map fun d => .bl (f d))).bind _ = _
  rw [bools_map, Option.bind_some, List.any_map]
  rfl
def digB : Dt → Bool
  | .str z => !(strLt z "0") && !(strLt "9" z)
  | _ => false
theorem digB_c (c : Nat) : digB (.str ⟨#[c]⟩) = (decide (48 ≤ c) && decide (c ≤ 57)) := by
  have ea : ("0" : Str).cps.toList = [48] := by decide +kernel
  have ez : ("9" : Str).cps.toList = [57] := by decide +kernel
  show (!(decide ((⟨#[c]⟩ : Str).cps.toList < ("0" : Str).cps.toList)) && !(decide (("9" : Str).cps.toList < (⟨#[c]⟩ : Str).cps.toList))) = _
  rw [ea, ez]
  show (!(decide ([c] < [48])) && !(decide ([57] < [c]))) = _
  have h1 : decide ([c] < [48]) = decide (c < 48) := decide_eq_decide.mpr (lt1 c 48)
  have h2 : decide ([57] < [c]) = decide (57 < c) := decide_eq_decide.mpr (lt1 57 c)
  rw [h1, h2]
  by_cases a : c < 48
  · have : ¬ 48 ≤ c := by omega
    simp [a, this]
  · by_cases b : 57 < c
    · have : ¬ c ≤ 57 := by omega
      simp [b, this]
    · have h3 : 48 ≤ c := by omega
      have h4 : c ≤ 57 := by omega
      simp [a, b, h3, h4]
theorem mNotB_eq {f : DM Bool} {s s1 : Sta} {b : Bool} (h : f s = some (b, s1)) : mNotB f s = some (!b, s1) := by unfold mNotB; rw [h]; rfl
theorem mNotV_eq {f : DM Dt} {s s1 : Sta} {b : Bool} (h : f s = some (.bl b, s1)) : mNotV f s = some (.bl !b, s1) := by unfold mNotV; rw [h]; rfl
theorem read_signed {sg : Str} {neg : Bool} {n : Nat} (hn : n ≤ 1000000000000000000000000000000) (hin : gNin (.str sg) (.tup [.str "+", .str "-"]) = some (.bl false)) (heq : gEq (.str sg) (.str "-") = some (.bl neg)) (h0 : neg = true → 0 < n) (bg : List Dt) :
    sread_signed_ [.str sg, .str (itxt (n : Nat)), .int 31] bg = some (.int (if neg = true then -(n : Int) else n), bg) := by
  let s0 : Sta := ⟨[some (.dat (.str sg)), some (.dat (.str (itxt (n : Nat)))), some (.dat (.int 31)), none, none], bg⟩
  let s1 : Sta := ⟨[some (.dat (.str sg)), some (.dat (.str (itxt (n : Nat)))), some (.dat (.int 31)), some (.dat (.int (n : Nat))), none], bg⟩
  have hl := num_len hn
  have hp := num_pos n
  have elen : mCall gLen (mCons (mVar 1) mNil) s0 = some (.int ((itxt (n : Nat)).length : Nat), s0) := mcall (s1 := s0) (l := [.str (itxt (n : Nat))]) rfl (glen_str (Nat.le_trans hl (by decide)))
  have ech : mChain oLe oLe (mC (.int 1)) (mCall gLen (mCons (mVar 1) mNil)) (mVar 2) s0 = some (.bl true, s0) :=
    mchain_t (s1 := s0) (s2 := s0) (s3 := s0) (x := .int 1) (y := .int ((itxt (n : Nat)).length : Nat)) (z := .int 31) rfl elen (by show some (Dt.bl (decide ((1 : Int) ≤ _))) = _; rw [decide_eq_true (by omega)]) rfl (by show some (Dt.bl (decide (_ ≤ (31 : Int)))) = _; rw [decide_eq_true (by omega)])
  have ecomp : mComp [4] (wStr (mVar 1)) (hName 4) mYes (mNotV (mChain oLe oLe (mC (.str "0")) (mVar 4) (mC (.str "9")))) s0 = some (.lst (((itxt (n : Nat)).cps.toList.map fun c => Dt.str ⟨#[c]⟩).map fun d => .bl (!(digB d))), s0) := by
    refine mcomp (s1 := s0) (l := (itxt (n : Nat)).cps.toList.map fun c => Dt.str ⟨#[c]⟩) rfl (by rw [List.length_map]; have e : (itxt (n : Nat)).cps.toList.length = (itxt (n : Nat)).length := by simp [Str.length]
                                                                                                  omega) (comp_map (fun d => .bl (!(digB d))) _ fun d hd => ?_)
    obtain ⟨c, hc, rfl⟩ := List.mem_map.mp hd
    let s' : Sta := ⟨[some (.dat (.str sg)), some (.dat (.str (itxt (n : Nat)))), some (.dat (.int 31)), none, some (.dat (.str ⟨#[c]⟩))], bg⟩
    refine ⟨s', s', s', rfl, rfl, mNotV_eq ?_, rfl⟩
    by_cases h : strLt ⟨#[c]⟩ "0" = true
    · have e1 : digB (.str ⟨#[c]⟩) = false := by show (!strLt ⟨#[c]⟩ "0" && !strLt "9" ⟨#[c]⟩) = _; rw [h]; rfl
      rw [e1]
      exact mchain_f (s1 := s') (s2 := s') (x := .str "0") (y := .str ⟨#[c]⟩) rfl rfl (by show some (Dt.bl !(strLt ⟨#[c]⟩ "0")) = _; rw [h]; rfl)
    · rw [Bool.not_eq_true] at h
      have e1 : digB (.str ⟨#[c]⟩) = !(strLt "9" ⟨#[c]⟩) := by show (!strLt ⟨#[c]⟩ "0" && !strLt "9" ⟨#[c]⟩) = _; rw [h]; rfl
      rw [e1]
      exact mchain_t (s1 := s') (s2 := s') (s3 := s') (x := .str "0") (y := .str ⟨#[c]⟩) (z := .str "9") rfl rfl (by show some (Dt.bl !(strLt ⟨#[c]⟩ "0")) = _; rw [h]; rfl) rfl rfl
  have eany : mCall gAny (mCons (mComp [4] (wStr (mVar 1)) (hName 4) mYes (mNotV (mChain oLe oLe (mC (.str "0")) (mVar 4) (mC (.str "9"))))) mNil) s0 = some (.bl false, s0) := by
    refine mcall (mcons ecomp rfl) ?_
    rw [gany_map, List.any_map]
    have : (itxt (n : Nat)).cps.toList.any ((fun d => !(digB d)) ∘ fun c => Dt.str ⟨#[c]⟩) = false := by
      rw [List.any_eq_false]
      intro c hc
      have hd := numL_digits n c (by rw [← itxt_nat]; exact hc)
      show ¬ (!(digB (.str ⟨#[c]⟩))) = true
      rw [digB_c]
      have h3 : 48 ≤ c := by omega
      have h4 : c ≤ 57 := by omega
      simp [h3, h4]
    rw [this]
  have ec1 : mOrB (mNotB (mB (mChain oLe oLe (mC (.int 1)) (mCall gLen (mCons (mVar 1) mNil)) (mVar 2)))) (mB (mCall gAny (mCons (mComp [4] (wStr (mVar 1)) (hName 4) mYes (mNotV (mChain oLe oLe (mC (.str "0")) (mVar 4) (mC (.str "9"))))) mNil))) s0 = some (false, s0) := by
    rw [or_f (mNotB_eq (mBt ech))]
    exact mBt eany
  have eint : mCall gIntS (mCons (mVar 1) mNil) s0 = some (.int (n : Nat), s0) := by
    refine mcall (s1 := s0) (l := [.str (itxt (n : Nat))]) rfl ?_
    show (if (itxt (n : Nat)).length ≤ 640 then (PySem.intText? (itxt (n : Nat))).bind fun n => some (Dt.int n) else none) = _
    rw [if_pos (by omega), int_num (by rw [← itxt_nat, ← len_tl]; omega)]
    rfl
  have estr : mCall gStr (mCons (mVar 3) mNil) s1 = some (.str (itxt (n : Nat)), s1) := by
    refine mcall (s1 := s1) (l := [.int (n : Nat)]) rfl ?_
    show (if ((n : Nat) : Int).natAbs.log2 < 1920 then some (Dt.str (toString ((n : Nat) : Int))) else none) = _
    rw [if_pos (log_ok (by unfold Bnd big; omega))]
  have ec2 : mOrB (mB (m2 gNe (mCall gStr (mCons (mVar 3) mNil)) (mVar 1))) (mOrB (mB (m2 gNin (mVar 0) (mTup (mCons (mC (.str "+")) (mCons (mC (.str "-")) mNil))))) (mAndB (mB (m2 gEq (mVar 0) (mC (.str "-")))) (mB (m2 gEq (mVar 3) (mC (.int 0)))))) s1 = some (false, s1) := by
    rw [or_f (mBt (m2_eq (s1 := s1) (s2 := s1) (x := .str (itxt (n : Nat))) (y := .str (itxt (n : Nat))) (d := .bl false) estr rfl (tagN (num_cp n) (num_cp n) (r := true) (by simp))))]
    rw [or_f (mBt (m2_eq (s1 := s1) (s2 := s1) (x := .str sg) (y := .tup [.str "+", .str "-"]) rfl rfl hin))]
    cases neg with
    | false => exact and_f (mBt (m2_eq (s1 := s1) (s2 := s1) (x := .str sg) (y := .str "-") rfl rfl heq))
    | true =>
      rw [and_t (mBt (m2_eq (s1 := s1) (s2 := s1) (x := .str sg) (y := .str "-") rfl rfl heq))]
      show some (((n : Nat) : Int) == 0, s1) = _
      have := h0 rfl
      rw [beq_eq_false_iff_ne.mpr (by omega)]
  unfold sread_signed_
  refine fnd (s1 := s1) ?_
  show kSeq _ _ s0 = _
  rw [kseq (s1 := s0) (by rw [kif_f ec1]; rfl), kseq (s1 := s1) (kasg eint rfl), kseq (s1 := s1) (by rw [kif_f ec2]; rfl)]
  refine kret ?_
  unfold mIf
  rw [mBt (m2_eq (s1 := s1) (s2 := s1) (x := .str sg) (y := .str "-") rfl rfl heq)]
  cases neg <;> rfl
theorem plus_in : gNin (.str "+") (.tup [.str "+", .str "-"]) = some (.bl false) := congrArg (fun b => some (Dt.bl b)) (by decide +kernel : (!([Dt.str "+", Dt.str "-"].any fun d => sameD d (.str "+"))) = false)
theorem minus_in : gNin (.str "-") (.tup [.str "+", .str "-"]) = some (.bl false) := congrArg (fun b => some (Dt.bl b)) (by decide +kernel : (!([Dt.str "+", Dt.str "-"].any fun d => sameD d (.str "-"))) = false)
theorem plus_eq : gEq (.str "+") (.str "-") = some (.bl false) := tag (by decide +kernel) (by decide +kernel) (by decide +kernel)
theorem minus_eq : gEq (.str "-") (.str "-") = some (.bl true) := tag (by decide +kernel) (by decide +kernel) (by decide +kernel)

/-! ### the texts of values -/
theorem tl_empty : tl Str.empty = [] := rfl
theorem empty_app (n : Str) : Str.empty ++ n = n := ext_tl (by rw [tl_append, tl_empty, List.nil_append])
theorem dash : ("-" : Str) = ⟨#[45]⟩ := by decide +kernel
theorem tl_dot : tl "." = [46] := by decide +kernel
theorem tl_sp : tl " " = [32] := by decide +kernel
theorem tl_own : tl "own" = [111, 119, 110] := by decide +kernel
theorem tl_next : tl "next" = [110, 101, 120, 116] := by decide +kernel
theorem starts_dash (w : Str) : Txt.startswith w "-" = decide ((tl w)[0]? = some 45) := by
  rw [dash, Bool.eq_iff_iff, decide_eq_true_eq]
  unfold Txt.startswith
  rw [Bool.and_eq_true, decide_eq_true_eq]
  exact PySem.StrLaws.subAt_one w 45 0
def sgText : Sg → Str
  | .number i => itxt i
  | .name n => n
  | .field n c => n ++ "." ++ c
  | .own c => "own" ++ "." ++ c
  | .next c => "next" ++ "." ++ c
def valText (v : Sg) : Option Int → Str
  | none => sgText v
  | some m => sgText v ++ (if m < 0 then " - " ++ itxt (0 - m) else " + " ++ itxt m)
theorem col_low {c : Str} (h : ColOk c) : Low c := by
  rcases h with rfl | h
  · exact lowB_iff.mp (by decide +kernel)
  · exact h.low
theorem col_len {c : Str} (h : ColOk c) : 1 ≤ c.length ∧ c.length ≤ 6 := by
  rcases h with rfl | h
  · exact ⟨by decide +kernel, by decide +kernel⟩
  · exact ⟨h.pos, h.few⟩
theorem itxt_len {i : Int} (h : Bnd i) : (itxt i).length ≤ 32 := by
  unfold Bnd big at h
  cases i with
  | ofNat n => exact Nat.le_trans (num_len (n := n) (by have e : Int.ofNat n = (n : Int) := rfl; omega)) (by decide)
  | negSucc m =>
    have h1 := num_len (n := m + 1) (by omega)
    rw [len_tl, itxt_nat] at h1
    rw [len_tl, itxt_neg, List.length_cons]
    omega
theorem itxt_mem {i : Int} {c : Nat} (h : c ∈ tl (itxt i)) : c = 45 ∨ 48 ≤ c ∧ c ≤ 57 := by
  cases i with
  | ofNat n => exact .inr (numL_digits n c (by rw [← itxt_nat]; exact h))
  | negSucc m =>
    rw [itxt_neg] at h
    rcases List.mem_cons.mp h with h | h
    · exact .inl h
    · exact .inr (numL_digits _ c h)
theorem itxt_cp (i : Int) : cpOk (itxt i) = true := cp_tl fun c hc => by
  have := itxt_mem hc
  omega
theorem app_cp {a b : Str} (ha : cpOk a = true) (hb : cpOk b = true) : cpOk (a ++ b) = true := by
  refine cp_tl fun c hc => ?_
  rw [tl_append, List.mem_append] at hc
  unfold cpOk at ha hb
  rw [← Array.all_toList, List.all_eq_true] at ha hb
  rcases hc with h | h
  · exact of_decide_eq_true (ha c h)
  · exact of_decide_eq_true (hb c h)
theorem sgText_len {v : Sg} (h : v.Ok) : 1 ≤ (sgText v).length ∧ (sgText v).length ≤ 40 := by
  have hd : ("." : Str).length = 1 := by decide +kernel
  have ho : ("own" : Str).length = 3 := by decide +kernel
  have hx : ("next" : Str).length = 4 := by decide +kernel
  cases v with
  | number i =>
    refine ⟨?_, Nat.le_trans (itxt_len h) (by decide)⟩
    cases i with
    | ofNat n => exact num_pos n
    | negSucc m => show 1 ≤ (itxt (Int.negSucc m)).length; rw [len_tl, itxt_neg]; simp
  | name n => exact ⟨h.pos, Nat.le_trans h.few (by decide)⟩
  | field n c =>
    have h1 := h.1.few
    have h2 := col_len h.2
    show 1 ≤ (n ++ "." ++ c).length ∧ (n ++ "." ++ c).length ≤ 40
    rw [len_app, len_app, hd]; omega
  | own c =>
    have h2 := col_len h
    show 1 ≤ ("own" ++ "." ++ c).length ∧ ("own" ++ "." ++ c : Str).length ≤ 40
    rw [len_app, len_app, hd, ho]; omega
  | next c =>
    have h2 := col_len h
    show 1 ≤ ("next" ++ "." ++ c).length ∧ ("next" ++ "." ++ c : Str).length ≤ 40
    rw [len_app, len_app, hd, hx]; omega
theorem sgText_cp {v : Sg} (h : v.Ok) : cpOk (sgText v) = true := by
  have hd : cpOk "." = true := by decide +kernel
  cases v with
  | number i => exact itxt_cp i
  | name n => exact cp_low h.low
  | field n c => exact app_cp (app_cp (cp_low h.1.low) hd) (cp_low (col_low h.2))
  | own c => exact app_cp (app_cp (by decide +kernel) hd) (cp_low (col_low h))
  | next c => exact app_cp (app_cp (by decide +kernel) hd) (cp_low (col_low h))
theorem line_of {n : Nat} (h : n ≤ 1000) : n ≤ sizeLine := Nat.le_trans h (by decide)
theorem mjs {f : DM Dt} {fs : List (DM Dt)} {acc y out : Str} {s s1 s' : Sta} (h : f s = some (.str y, s1)) (hl : (acc ++ y).length ≤ sizeLine) (e : mJs fs (acc ++ y) s1 = some (out, s')) : mJs (f :: fs) acc s = some (out, s') := by
  unfold mJs
  rw [h, Option.bind_some]
  dsimp only
  rw [if_pos hl]
  exact e
theorem mfmt_s {f : DM Dt} {s s1 : Sta} {y : Str} (h : f s = some (.str y, s1)) (hl : y.length ≤ sizeLine) : mFmt f s = some (.str y, s1) := by
  unfold mFmt
  rw [h, Option.bind_some]
  dsimp only
  rw [if_pos hl]
theorem mfmt_i {f : DM Dt} {s s1 : Sta} {i : Int} (h : f s = some (.int i, s1)) (hl : i.natAbs.log2 < 1920) : mFmt f s = some (.str (itxt i), s1) := by
  unfold mFmt
  rw [h, Option.bind_some]
  dsimp only
  rw [if_pos hl]
theorem mjoined {fs : List (DM Dt)} {s s' : Sta} {out : Str} (e : mJs fs Str.empty s = some (out, s')) : mJoined fs s = some (.str out, s') := by
  unfold mJoined
  rw [e]
  rfl
theorem joined3 {f1 f3 : DM Dt} {a b : Str} {s : Sta} (h1 : f1 s = some (.str a, s)) (h3 : f3 s = some (.str b, s)) (ha : a.length ≤ 40) (hb : b.length ≤ 40) : mJoined [mFmt f1, mC (.str "."), mFmt f3] s = some (.str (a ++ "." ++ b), s) := by
  have hd : ("." : Str).length = 1 := by decide +kernel
  refine mjoined ?_
  refine mjs (s1 := s) (mfmt_s h1 (line_of (by omega))) (by rw [empty_app]; exact line_of (by omega)) ?_
  rw [empty_app]
  refine mjs (s1 := s) rfl (by rw [len_app, hd]; exact line_of (by omega)) ?_
  refine mjs (s1 := s) (mfmt_s h3 (line_of (by omega))) (by rw [len_app, len_app, hd]; exact line_of (by omega)) ?_
  rfl
theorem gin2 {a x y : Str} {r : Bool} (h : (x == a || (y == a || false)) = r) : gIn (.str a) (.tup [.str x, .str y]) = some (.bl r) := congrArg (fun b => some (Dt.bl b)) h
theorem gstr_i {i : Int} (h : Bnd i) : gStr [.int i] = some (.str (itxt i)) := by
  show (if i.natAbs.log2 < 1920 then some (Dt.str (toString i)) else none) = _
  rw [if_pos (log_ok h)]
theorem single_text {v : Sg} (h : v.Ok) (bg : List Dt) : ssingle_text_ [v.d] bg = some (.str (sgText v), bg) := by
  let s : Sta := ⟨[some (.dat v.d)], bg⟩
  have tin : ∀ (t : Str) (r : Bool), gIx v.d (.int 0) = some (.str t) → (("number" : Str) == t || (("name" : Str) == t || false)) = r → mB (m2 gIn (m2 gIx (mVar 0) (mC (.int 0))) (mTup (mCons (mC (.str "number")) (mCons (mC (.str "name")) mNil)))) s = some (r, s) := fun t r h1 h2 =>
    mBt (m2_eq (s1 := s) (s2 := s) (x := .str t) (y := .tup [.str "number", .str "name"]) (m2_eq (s1 := s) (s2 := s) (x := v.d) (y := .int 0) rfl rfl h1) rfl (gin2 h2))
  have tf : ∀ (t : Str) (r : Bool), gIx v.d (.int 0) = some (.str t) → cpOk t = true → (t == "field") = r → mB (m2 gEq (m2 gIx (mVar 0) (mC (.int 0))) (mC (.str "field"))) s = some (r, s) := fun t r h1 h2 h3 =>
    mBt (m2_eq (s1 := s) (s2 := s) (x := .str t) (y := .str "field") (m2_eq (s1 := s) (s2 := s) (x := v.d) (y := .int 0) rfl rfl h1) rfl (tag h2 (by decide +kernel) h3))
  unfold ssingle_text_
  refine fnd (s1 := s) ?_
  show kSeq _ _ s = _
  cases v with
  | number i =>
    unfold kSeq
    rw [kif_t (tin _ _ rfl (by decide +kernel)), kret (mcall (s1 := s) (l := [.int i]) rfl (gstr_i h))]
    rfl
  | name n =>
    unfold kSeq
    rw [kif_t (tin _ _ rfl (by decide +kernel)), kret (mcall (s1 := s) (l := [.str n]) (d := .str n) rfl rfl)]
    rfl
  | field n c =>
    rw [kseq (s1 := s) (by rw [kif_f (tin _ _ rfl (by decide +kernel))]; rfl)]
    unfold kSeq
    rw [kif_t (tf _ _ rfl (by decide +kernel) (by decide +kernel)), kret (joined3 (s := s) (a := n) (b := c) rfl rfl (Nat.le_trans h.1.few (by decide)) (Nat.le_trans (col_len h.2).2 (by decide)))]
    rfl
  | own c =>
    rw [kseq (s1 := s) (by rw [kif_f (tin _ _ rfl (by decide +kernel))]; rfl), kseq (s1 := s) (by rw [kif_f (tf _ _ rfl (by decide +kernel) (by decide +kernel))]; rfl)]
    exact kret (joined3 (s := s) (a := "own") (b := c) rfl rfl (by decide +kernel) (Nat.le_trans (col_len h).2 (by decide)))
  | next c =>
    rw [kseq (s1 := s) (by rw [kif_f (tin _ _ rfl (by decide +kernel))]; rfl), kseq (s1 := s) (by rw [kif_f (tf _ _ rfl (by decide +kernel) (by decide +kernel))]; rfl)]
    exact kret (joined3 (s := s) (a := "next") (b := c) rfl rfl (by decide +kernel) (Nat.le_trans (col_len h).2 (by decide)))
theorem valText_plus {A : Str} {m : Int} : A ++ (if m < 0 then " - " ++ itxt (0 - m) else " + " ++ itxt m) = A ++ " " ++ (if m < 0 then ("-" : Str) else ("+" : Str)) ++ " " ++ itxt (if m < 0 then -m else m) := by
  have e1 : tl " - " = [32, 45, 32] := by decide +kernel
  have e2 : tl " + " = [32, 43, 32] := by decide +kernel
  have e3 : tl "-" = [45] := by decide +kernel
  have e4 : tl "+" = [43] := by decide +kernel
  apply ext_tl
  by_cases h : m < 0
  · rw [if_pos h, if_pos h, if_pos h, Int.zero_sub]
    simp only [tl_append, e1, e3, tl_sp, List.append_assoc]
    rfl
  · rw [if_neg h, if_neg h, if_neg h]
    simp only [tl_append, e2, e4, tl_sp, List.append_assoc]
    rfl
theorem value_text {v : Sg} (h : v.Ok) {o : Option Int} (ho : ∀ m, o = some m → Bnd m) (bg : List Dt) : svalue_text [vald v o] bg = some (.str (valText v o), bg) := by
  let s0 : Sta := ⟨[some (.dat (vald v o)), none], bg⟩
  have e1 : mNotB (mB (mApp sis_value (mCons (mVar 0) mNil))) s0 = some (false, s0) := mNotB_eq (mBt (mapp (s1 := s0) (ds := [vald v o]) rfl (value_ok h ho bg)))
  have tf : ∀ (t : Str) (r : Bool), gIx (vald v o) (.int 0) = some (.str t) → cpOk t = true → (t == "plus") = r → mB (m2 gNe (m2 gIx (mVar 0) (mC (.int 0))) (mC (.str "plus"))) s0 = some (!r, s0) := fun t r h1 h2 h3 =>
    mBt (m2_eq (s1 := s0) (s2 := s0) (x := .str t) (y := .str "plus") (m2_eq (s1 := s0) (s2 := s0) (x := vald v o) (y := .int 0) rfl rfl h1) rfl (tagN h2 (by decide +kernel) h3))
  unfold svalue_text
  cases o with
  | none =>
    refine fnd (s1 := s0) ?_
    show kSeq _ _ s0 = _
    rw [kseq (s1 := s0) (by rw [kif_f e1]; rfl)]
    have e2 : mB (m2 gNe (m2 gIx (mVar 0) (mC (.int 0))) (mC (.str "plus"))) s0 = some (true, s0) := by
      cases v <;> exact tf _ false rfl (by decide +kernel) (by decide +kernel)
    unfold kSeq
    rw [kif_t e2, kret (mapp (s1 := s0) (ds := [v.d]) rfl (single_text h bg))]
    rfl
  | some m =>
    have hm := ho m rfl
    let s1 : Sta := ⟨[some (.dat (vald v (some m))), some (.dat (.str (if m < 0 then "-" else "+")))], bg⟩
    refine fnd (s1 := s1) ?_
    show kSeq _ _ s0 = _
    rw [kseq (s1 := s0) (by rw [kif_f e1]; rfl), kseq (s1 := s0) (by rw [kif_f (tf _ true rfl (by decide +kernel) (by decide +kernel))]; rfl), kseq (s1 := s1)]
    · refine kret ?_
      have hA := sgText_len h
      have hs : (if m < 0 then "-" else "+" : Str).length = 1 := by by_cases c : m < 0 <;> simp only [c, if_true, if_false] <;> decide +kernel
      have hb : Bnd (if m < 0 then -m else m) := by unfold Bnd big at hm ⊢; split <;> omega
      have hn := itxt_len hb
      have h1 : (" " : Str).length = 1 := by decide +kernel
      show mJoined _ s1 = some (.str (sgText v ++ (if m < 0 then " - " ++ itxt (0 - m) else " + " ++ itxt m)), s1)
      rw [valText_plus]
      refine mjoined ?_
      refine mjs (s1 := s1) (mfmt_s (mapp (s1 := s1) (ds := [v.d]) rfl (single_text h bg)) (line_of (by omega))) (by rw [empty_app]; exact line_of (by omega)) ?_
      rw [empty_app]
      refine mjs (s1 := s1) rfl (by rw [len_app, h1]; exact line_of (by omega)) ?_
      refine mjs (s1 := s1) (mfmt_s (y := if m < 0 then "-" else "+") rfl (line_of (by omega))) (by rw [len_app, len_app, h1, hs]; exact line_of (by omega)) ?_
      refine mjs (s1 := s1) rfl (by rw [len_app, len_app, len_app, h1, hs]; exact line_of (by omega)) ?_
      refine mjs (s1 := s1) (mfmt_i (mcall (s1 := s1) (l := [.int m]) rfl rfl) (log_ok hb)) (by rw [len_app, len_app, len_app, len_app, h1, hs]; exact line_of (by omega)) ?_
      rfl
    · refine kasg (s1 := s0) (d := .str (if m < 0 then "-" else "+")) ?_ rfl
      unfold mIf
      have e3 : mB (m2 oLt (m2 gIx (mVar 0) (mC (.int 2))) (mC (.int 0))) s0 = some (decide (m < 0), s0) := rfl
      rw [e3]
      by_cases c : m < 0
      · rw [decide_eq_true c, if_pos c]; rfl
      · rw [decide_eq_false c, if_neg c]; rfl

theorem gadd_l {a b : Str} (h : a.length + b.length ≤ 1000) : gAdd (.str a) (.str b) = some (.str (a ++ b)) := gadd_str h
theorem law_single {v : Sg} (h : v.Ok) (R : FD) (bg : List Dt) : sLvalue_textB R [v.d] bg = some (.str (sgText v), bg) := by
  let s : Sta := ⟨[some (.dat v.d), none], bg⟩
  have hd : ("." : Str).length = 1 := by decide +kernel
  have tp : ∀ (t : Str) (r : Bool), gIx v.d (.int 0) = some (.str t) → cpOk t = true → (t == "plus") = r → mB (m2 gEq (m2 gIx (mVar 0) (mC (.int 0))) (mC (.str "plus"))) s = some (r, s) := fun t r h1 h2 h3 =>
    mBt (m2_eq (s1 := s) (s2 := s) (x := .str t) (y := .str "plus") (m2_eq (s1 := s) (s2 := s) (x := v.d) (y := .int 0) rfl rfl h1) rfl (tag h2 (by decide +kernel) h3))
  have tf : ∀ (t : Str) (r : Bool), gIx v.d (.int 0) = some (.str t) → cpOk t = true → (t == "field") = r → mB (m2 gEq (m2 gIx (mVar 0) (mC (.int 0))) (mC (.str "field"))) s = some (r, s) := fun t r h1 h2 h3 =>
    mBt (m2_eq (s1 := s) (s2 := s) (x := .str t) (y := .str "field") (m2_eq (s1 := s) (s2 := s) (x := v.d) (y := .int 0) rfl rfl h1) rfl (tag h2 (by decide +kernel) h3))
  have tin : ∀ (t : Str) (r : Bool), gIx v.d (.int 0) = some (.str t) → (("own" : Str) == t || (("next" : Str) == t || false)) = r → mB (m2 gIn (m2 gIx (mVar 0) (mC (.int 0))) (mTup (mCons (mC (.str "own")) (mCons (mC (.str "next")) mNil)))) s = some (r, s) := fun t r h1 h2 =>
    mBt (m2_eq (s1 := s) (s2 := s) (x := .str t) (y := .tup [.str "own", .str "next"]) (m2_eq (s1 := s) (s2 := s) (x := v.d) (y := .int 0) rfl rfl h1) rfl (gin2 h2))
  unfold sLvalue_textB
  refine fnd (s1 := s) ?_
  show kSeq _ _ s = _
  have e0 : mB (m2 gEq (m2 gIx (mVar 0) (mC (.int 0))) (mC (.str "plus"))) s = some (false, s) := by
    cases v <;> exact tp _ false rfl (by decide +kernel) (by decide +kernel)
  rw [kseq (s1 := s) (by rw [kif_f e0]; rfl)]
  cases v with
  | number i =>
    rw [kseq (s1 := s) (by rw [kif_f (tf _ false rfl (by decide +kernel) (by decide +kernel))]; rfl), kseq (s1 := s) (by rw [kif_f (tin _ false rfl (by decide +kernel))]; rfl)]
    exact kret (mcall (s1 := s) (l := [.int i]) rfl (gstr_i h))
  | name n =>
    rw [kseq (s1 := s) (by rw [kif_f (tf _ false rfl (by decide +kernel) (by decide +kernel))]; rfl), kseq (s1 := s) (by rw [kif_f (tin _ false rfl (by decide +kernel))]; rfl)]
    exact kret (mcall (s1 := s) (l := [.str n]) (d := .str n) rfl rfl)
  | field n c =>
    unfold kSeq
    rw [kif_t (tf _ true rfl (by decide +kernel) (by decide +kernel)), kret (d := .str (n ++ "." ++ c)) (s1 := s)]
    · rfl
    · have h1 := h.1.few
      have h2 := (col_len h.2).2
      refine m2_eq (s1 := s) (s2 := s) (x := .str (n ++ ".")) (y := .str c) (m2_eq (s1 := s) (s2 := s) (x := .str n) (y := .str ".") rfl rfl (gadd_l (by omega))) rfl (gadd_l (by rw [len_app]; omega))
  | own c =>
    rw [kseq (s1 := s) (by rw [kif_f (tf _ false rfl (by decide +kernel) (by decide +kernel))]; rfl)]
    unfold kSeq
    rw [kif_t (tin _ true rfl (by decide +kernel)), kret (d := .str ("own" ++ "." ++ c)) (s1 := s)]
    · rfl
    · have h2 := (col_len h).2
      have ho : ("own" : Str).length = 3 := by decide +kernel
      refine m2_eq (s1 := s) (s2 := s) (x := .str ("own" ++ ".")) (y := .str c) (m2_eq (s1 := s) (s2 := s) (x := .str "own") (y := .str ".") rfl rfl (gadd_l (by omega))) rfl (gadd_l (by rw [len_app]; omega))
  | next c =>
    rw [kseq (s1 := s) (by rw [kif_f (tf _ false rfl (by decide +kernel) (by decide +kernel))]; rfl)]
    unfold kSeq
    rw [kif_t (tin _ true rfl (by decide +kernel)), kret (d := .str ("next" ++ "." ++ c)) (s1 := s)]
    · rfl
    · have h2 := (col_len h).2
      have ho : ("next" : Str).length = 4 := by decide +kernel
      refine m2_eq (s1 := s) (s2 := s) (x := .str ("next" ++ ".")) (y := .str c) (m2_eq (s1 := s) (s2 := s) (x := .str "next") (y := .str ".") rfl rfl (gadd_l (by omega))) rfl (gadd_l (by rw [len_app]; omega))
theorem law_text {v : Sg} (h : v.Ok) {o : Option Int} (ho : ∀ m, o = some m → Bnd m) (bg : List Dt) : sLvalue_text 3 [vald v o] bg = some (.str (valText v o), bg) := by
  cases o with
  | none => exact law_single h _ bg
  | some m =>
    have hm := ho m rfl
    let s0 : Sta := ⟨[some (.dat (vald v (some m))), none], bg⟩
    let s1 : Sta := ⟨[some (.dat (vald v (some m))), some (.dat (.int m))], bg⟩
    show sLvalue_textB (sLvalue_text 2) _ bg = _
    unfold sLvalue_textB
    refine fnd (s1 := s1) ?_
    show kSeq _ _ s0 = _
    unfold kSeq
    rw [kif_t (s1 := s0) (mBt (m2_eq (s1 := s0) (s2 := s0) (x := .str "plus") (y := .str "plus") rfl rfl (tag (by decide +kernel) (by decide +kernel) (by decide +kernel))))]
    show (kSeq _ _ s0).bind _ = _
    rw [kseq (s1 := s1) rfl, kret (s1 := s1) (d := .str (valText v (some m)))]
    · rfl
    · have hA := sgText_len h
      have h1 : (" - " : Str).length = 3 := by decide +kernel
      have h2 : (" + " : Str).length = 3 := by decide +kernel
      have eA : mApp (sLvalue_text 2) (mCons (m2 gIx (mVar 0) (mC (.int 1))) mNil) s1 = some (.str (sgText v), s1) := mapp (s1 := s1) (ds := [v.d]) rfl (law_single h (sLvalue_text 1) bg)
      have e3 : mB (m2 oLt (mVar 1) (mC (.int 0))) s1 = some (decide (m < 0), s1) := rfl
      by_cases c : m < 0
      · have hb : Bnd (0 - m) := by unfold Bnd big at hm ⊢; omega
        have hn := itxt_len hb
        show m2 gAdd _ _ s1 = some (.str (sgText v ++ (if m < 0 then " - " ++ itxt (0 - m) else " + " ++ itxt m)), s1)
        rw [if_pos c]
        refine m2_eq (s1 := s1) (s2 := s1) (x := .str (sgText v)) (y := .str (" - " ++ itxt (0 - m))) eA ?_ (gadd_l (by rw [len_app]; omega))
        unfold mIf
        rw [e3, decide_eq_true c]
        show m2 gAdd (mC (.str " - ")) (mCall gStr (mCons (m2 gSub0 (mC (.int 0)) (mVar 1)) mNil)) s1 = _
        exact m2_eq (s1 := s1) (s2 := s1) (x := .str " - ") (y := .str (itxt (0 - m))) rfl (mcall (s1 := s1) (l := [.int (0 - m)]) rfl (gstr_i hb)) (gadd_l (by omega))
      · have hn := itxt_len hm
        show m2 gAdd _ _ s1 = some (.str (sgText v ++ (if m < 0 then " - " ++ itxt (0 - m) else " + " ++ itxt m)), s1)
        rw [if_neg c]
        refine m2_eq (s1 := s1) (s2 := s1) (x := .str (sgText v)) (y := .str (" + " ++ itxt m)) eA ?_ (gadd_l (by rw [len_app]; omega))
        unfold mIf
        rw [e3, decide_eq_false c]
        show m2 gAdd (mC (.str " + ")) (mCall gStr (mCons (mVar 1) mNil)) s1 = _
        exact m2_eq (s1 := s1) (s2 := s1) (x := .str " + ") (y := .str (itxt m)) rfl (mcall (s1 := s1) (l := [.int m]) rfl (gstr_i hm)) (gadd_l (by omega))
/-! ### reading -/
theorem low_free {z : Str} (h : Low z) {c : Nat} (hc : c < 97) : c ∉ tl z := fun hm => by
  have := h c hm
  unfold letter at this
  omega
theorem ne_own {w : Str} (h : 111 ∉ tl w) : (("own" : Str) == w) = false := by
  rw [beq_eq_false_iff_ne]
  intro e
  apply h
  rw [← e, tl_own]
  simp
theorem ne_next {w : Str} (h : 120 ∉ tl w) : (("next" : Str) == w) = false := by
  rw [beq_eq_false_iff_ne]
  intro e
  apply h
  rw [← e, tl_next]
  simp
theorem free_name {n : Str} (h : NameOk n) : (("own" : Str) == n || (("next" : Str) == n || false)) = false := by
  have e1 : (("own" : Str) == n) = false := by
    rw [beq_eq_false_iff_ne]; intro e; apply h.free; rw [← e]; simp [resv]
  have e2 : (("next" : Str) == n) = false := by
    rw [beq_eq_false_iff_ne]; intro e; apply h.free; rw [← e]; simp [resv]
  rw [e1, e2]; rfl
theorem nameB_num (i : Int) : nameB (itxt i) = false := by
  have h : lowB (itxt i) = false := by
    rw [Bool.eq_false_iff]
    intro h
    have hl := lowB_iff.mp h
    have hne : tl (itxt i) ≠ [] := by
      cases i with
      | ofNat n => rw [show tl (itxt (Int.ofNat n)) = numL n from itxt_nat n]; exact numL_ne n
      | negSucc m => rw [itxt_neg]; simp
    obtain ⟨c, hc⟩ := List.exists_mem_of_ne_nil _ hne
    have h1 := hl c hc
    have h2 := itxt_mem hc
    unfold letter at h1
    omega
  unfold nameB
  rw [h]
  rfl
theorem part_some {a b : Str} (h : 46 ∉ tl a) (hl : (a ++ "." ++ b).length ≤ 1000) : gPartition (a ++ "." ++ b) (.str ".") = some (.tup [.str a, .str ".", .str b]) := by
  show (if (("." : Str).length == 0) = false ∧ (a ++ "." ++ b).length ≤ sizeLine then some (Dt.tup [.str (Txt.partition (a ++ "." ++ b) ".").1, .str (Txt.partition (a ++ "." ++ b) ".").2.1, .str (Txt.partition (a ++ "." ++ b) ".").2.2]) else none) = _
  rw [if_pos ⟨by decide +kernel, line_of hl⟩, partition_app tl_dot h]
theorem part_none {a : Str} (h : 46 ∉ tl a) (hl : a.length ≤ 1000) : gPartition a (.str ".") = some (.tup [.str a, .str Str.empty, .str Str.empty]) := by
  show (if (("." : Str).length == 0) = false ∧ a.length ≤ sizeLine then some (Dt.tup [.str (Txt.partition a ".").1, .str (Txt.partition a ".").2.1, .str (Txt.partition a ".").2.2]) else none) = _
  rw [if_pos ⟨by decide +kernel, line_of hl⟩, partition_none tl_dot h]
theorem cut1 {m : Nat} : cutS (itxt (Int.negSucc m)) (some 1) none = itxt ((m + 1 : Nat) : Int) := by
  apply ext_tl
  have hlen : (itxt (Int.negSucc m)).cps.toList = 45 :: numL (m + 1) := itxt_neg m
  have hn : (itxt (Int.negSucc m)).length = (numL (m + 1)).length + 1 := by rw [len_tl, itxt_neg]; rfl
  show ((((itxt (Int.negSucc m)).cps.toList.drop (HT.sIx (itxt (Int.negSucc m)).length 0 (some ((1 : Nat) : Int)))).take _).toArray).toList = tl (itxt ((m + 1 : Nat) : Int))
  rw [hlen, HT.sIx_nat, HT.sIx_none, hn, itxt_nat]
  have e : min 1 ((numL (m + 1)).length + 1) = 1 := by omega
  have e3 : HT.sIx ((numL (m + 1)).length + 1) 0 (some 1) = 1 := by
    rw [show (some (1 : Int)) = some ((1 : Nat) : Int) from rfl, HT.sIx_nat]; omega
  rw [e]
  show List.take _ (numL (m + 1)) = numL (m + 1)
  exact List.take_of_length_le (by rw [e3]; omega)
theorem read_integer {i : Int} (h : Bnd i) (bg : List Dt) : sread_integer [.str (itxt i), .int 31] bg = some (.int i, bg) := by
  let s : Sta := ⟨[some (.dat (.str (itxt i))), some (.dat (.int 31))], bg⟩
  have tst : mB (mM1 gStarts (mVar 0) (mC (.str "-"))) s = some (decide ((tl (itxt i))[0]? = some 45), s) := by
    refine mBt (mm1 (s1 := s) (s2 := s) (a := itxt i) (y := .str "-") rfl rfl ?_)
    show some (Dt.bl (Txt.startswith (itxt i) "-")) = _
    rw [starts_dash]
  have hb : -big ≤ i ∧ i ≤ big := h
  unfold big at hb
  unfold sread_integer
  refine fnd (s1 := s) ?_
  show kSeq _ _ s = _
  cases i with
  | ofNat n =>
    have e0 : ¬ (tl (itxt (Int.ofNat n)))[0]? = some 45 := fun e => by
      have hm := List.mem_of_getElem? e
      have := numL_digits n 45 (by rw [← itxt_nat]; exact hm)
      omega
    rw [decide_eq_false e0] at tst
    rw [kseq (s1 := s) (by rw [kif_f tst]; rfl)]
    exact kret (mapp (s1 := s) (ds := [.str "+", .str (itxt (n : Nat)), .int 31]) rfl (read_signed (n := n) (neg := false) (by have e : Int.ofNat n = (n : Int) := rfl; omega) plus_in plus_eq (fun e => by cases e) bg))
  | negSucc m =>
    have e0 : (tl (itxt (Int.negSucc m)))[0]? = some 45 := by rw [itxt_neg]; rfl
    rw [decide_eq_true e0] at tst
    unfold kSeq
    rw [kif_t tst, kret (s1 := s) (d := .int (Int.negSucc m))]
    · rfl
    · refine mapp (s1 := s) (ds := [.str "-", .str (itxt ((m + 1 : Nat) : Int)), .int 31]) ?_ (read_signed (n := m + 1) (neg := true) (by omega) minus_in minus_eq (fun _ => by omega) bg)
      refine mcons (s1 := s) rfl (mcons (s1 := s) (msl (s1 := s) (s2 := s) (s3 := s) (x := .str (itxt (Int.negSucc m))) (lo := some 1) (hi := none) rfl rfl rfl ?_) rfl)
      rw [gsl_str (by have := itxt_len h; omega), cut1]
theorem read_single {v : Sg} (h : v.Ok) (bg : List Dt) : sread_single_ [.str (sgText v)] bg = some (v.d, bg) := by
  have hlen := sgText_len h
  let st (a b c : Str) : Sta := ⟨[some (.dat (.str (sgText v))), some (.dat (.str a)), some (.dat (.str b)), some (.dat (.str c))], bg⟩
  have start : ∀ a b c, gPartition (sgText v) (.str ".") = some (.tup [.str a, .str b, .str c]) → kAsg (mM1 gPartition (mVar 0) (mC (.str "."))) (hTup 3 (hCons (hName 1) (hCons (hName 2) (hCons (hName 3) hNil)))) ⟨[some (.dat (.str (sgText v))), none, none, none], bg⟩ = some (.nx, st a b c) := fun a b c e =>
    kasg (s1 := ⟨[some (.dat (.str (sgText v))), none, none, none], bg⟩) (mm1 (s1 := ⟨[some (.dat (.str (sgText v))), none, none, none], bg⟩) (s2 := ⟨[some (.dat (.str (sgText v))), none, none, none], bg⟩) (a := sgText v) (y := .str ".") rfl rfl e) rfl
  have tin : ∀ a b c r, (("own" : Str) == a || (("next" : Str) == a || false)) = r → mB (m2 gIn (mVar 1) (mTup (mCons (mC (.str "own")) (mCons (mC (.str "next")) mNil)))) (st a b c) = some (r, st a b c) := fun a b c r e =>
    mBt (m2_eq (s1 := st a b c) (s2 := st a b c) (x := .str a) (y := .tup [.str "own", .str "next"]) rfl rfl (gin2 e))
  have tno : ∀ a c, mTru (mVar 2) (st a Str.empty c) = some (false, st a Str.empty c) := fun a c => rfl
  have tyes : ∀ a c, mTru (mVar 2) (st a "." c) = some (true, st a "." c) := fun a c => by
    have e : mVar 2 (st a "." c) = some (.str ".", st a "." c) := rfl
    unfold mTru
    rw [e, Option.bind_some]
    have : truD (.str ".") = some true := by
      show (if ("." : Str).length ≤ sizeLine then some ((("." : Str).length : Int) != 0) else none) = _
      rw [if_pos (line_of (by decide +kernel))]
      decide +kernel
    show (truD (.str ".")).bind _ = _
    rw [this]
    rfl
  have tname : ∀ a c, mB (mApp sis_name (mCons (mVar 0) mNil)) (st a Str.empty c) = some (nameB (sgText v), st a Str.empty c) := fun a c =>
    mBt (mapp (s1 := st a Str.empty c) (ds := [.str (sgText v)]) rfl (is_name_str _ bg (by omega)))
  unfold sread_single_
  cases v with
  | number i =>
    have h46 : 46 ∉ tl (itxt i) := fun hm => by have := itxt_mem hm; omega
    have h111 : 111 ∉ tl (itxt i) := fun hm => by have := itxt_mem hm; omega
    have h120 : 120 ∉ tl (itxt i) := fun hm => by have := itxt_mem hm; omega
    have hin : (("own" : Str) == itxt i || (("next" : Str) == itxt i || false)) = false := by rw [ne_own h111, ne_next h120]; rfl
    refine fnd (s1 := st (itxt i) Str.empty Str.empty) ?_
    show kSeq _ _ ⟨[some (.dat (.str (sgText (Sg.number i)))), none, none, none], bg⟩ = _
    rw [kseq (start (itxt i) Str.empty Str.empty (part_none h46 (by have := itxt_len h; exact Nat.le_trans this (by decide)))), kseq (s1 := st (itxt i) Str.empty Str.empty) (by rw [kif_f (tin _ _ _ _ hin)]; rfl), kseq (s1 := st (itxt i) Str.empty Str.empty) (by rw [kif_f (tno _ _)]; rfl), kseq (s1 := st (itxt i) Str.empty Str.empty) (by rw [kif_f (by rw [tname]; show some (nameB (itxt i), _) = some (false, _); rw [nameB_num])]; rfl)]
    refine kret (mtup (mcons (s1 := st (itxt i) Str.empty Str.empty) rfl (mcons (s1 := st (itxt i) Str.empty Str.empty) (x := .int i) ?_ rfl)))
    exact mapp (s1 := st (itxt i) Str.empty Str.empty) (ds := [.str (itxt i), .int 31]) rfl (read_integer h bg)
  | name n =>
    refine fnd (s1 := st n Str.empty Str.empty) ?_
    show kSeq _ _ ⟨[some (.dat (.str (sgText (Sg.name n)))), none, none, none], bg⟩ = _
    rw [kseq (start n Str.empty Str.empty (part_none (low_free h.low (by decide)) (Nat.le_trans h.few (by decide)))), kseq (s1 := st n Str.empty Str.empty) (by rw [kif_f (tin _ _ _ _ (free_name h))]; rfl), kseq (s1 := st n Str.empty Str.empty) (by rw [kif_f (tno _ _)]; rfl)]
    unfold kSeq
    rw [kif_t (by rw [tname]; show some (nameB n, _) = some (true, _); rw [nameB_iff.mpr h]), kret (s1 := st n Str.empty Str.empty) (d := (Sg.name n).d)]
    · rfl
    · exact mtup (mcons (s1 := st n Str.empty Str.empty) rfl (mcons (s1 := st n Str.empty Str.empty) rfl rfl))
  | field n c =>
    refine fnd (s1 := st n "." c) ?_
    show kSeq _ _ ⟨[some (.dat (.str (sgText (Sg.field n c)))), none, none, none], bg⟩ = _
    rw [kseq (start n "." c (part_some (low_free h.1.low (by decide)) (Nat.le_trans hlen.2 (by decide)))), kseq (s1 := st n "." c) (by rw [kif_f (tin _ _ _ _ (free_name h.1))]; rfl)]
    unfold kSeq
    rw [kif_t (tyes _ _), kret (s1 := st n "." c) (d := (Sg.field n c).d)]
    · rfl
    · exact mtup (mcons (s1 := st n "." c) rfl (mcons (s1 := st n "." c) rfl (mcons (s1 := st n "." c) rfl rfl)))
  | own c =>
    refine fnd (s1 := st "own" "." c) ?_
    show kSeq _ _ ⟨[some (.dat (.str (sgText (Sg.own c)))), none, none, none], bg⟩ = _
    rw [kseq (start "own" "." c (part_some (by rw [tl_own]; decide) (Nat.le_trans hlen.2 (by decide))))]
    unfold kSeq
    rw [kif_t (tin _ _ _ true (by decide +kernel)), kret (s1 := st "own" "." c) (d := (Sg.own c).d)]
    · rfl
    · exact mtup (mcons (s1 := st "own" "." c) rfl (mcons (s1 := st "own" "." c) rfl rfl))
  | next c =>
    refine fnd (s1 := st "next" "." c) ?_
    show kSeq _ _ ⟨[some (.dat (.str (sgText (Sg.next c)))), none, none, none], bg⟩ = _
    rw [kseq (start "next" "." c (part_some (by rw [tl_next]; decide) (Nat.le_trans hlen.2 (by decide))))]
    unfold kSeq
    rw [kif_t (tin _ _ _ true (by decide +kernel)), kret (s1 := st "next" "." c) (d := (Sg.next c).d)]
    · rfl
    · exact mtup (mcons (s1 := st "next" "." c) rfl (mcons (s1 := st "next" "." c) rfl rfl))

theorem itxt_sp {i : Int} : 32 ∉ tl (itxt i) := fun h => by have := itxt_mem h; omega
theorem sg_sp {v : Sg} (h : v.Ok) : 32 ∉ tl (sgText v) := by
  have hd : 32 ∉ tl "." := by rw [tl_dot]; decide
  have app : ∀ {a b : Str}, 32 ∉ tl a → 32 ∉ tl b → 32 ∉ tl (a ++ b) := fun ha hb hm => by
    rw [tl_append, List.mem_append] at hm
    exact hm.elim ha hb
  cases v with
  | number i => exact itxt_sp
  | name n => exact low_free h.low (by decide)
  | field n c => exact app (app (low_free h.1.low (by decide)) hd) (low_free (col_low h.2) (by decide))
  | own c => exact app (app (by rw [tl_own]; decide) hd) (low_free (col_low h) (by decide))
  | next c => exact app (app (by rw [tl_next]; decide) hd) (low_free (col_low h) (by decide))
def valParts (v : Sg) : Option Int → List Str
  | none => [sgText v]
  | some m => [sgText v, if m < 0 then ("-" : Str) else ("+" : Str), itxt ((m.natAbs : Nat) : Int)]
theorem abs_eq (m : Int) : (if m < 0 then -m else m) = ((m.natAbs : Nat) : Int) := by split <;> omega
theorem val_join (v : Sg) (o : Option Int) : valText v o = Txt.join " " (valParts v o) := by
  rw [join_eq]
  cases o with
  | none => rfl
  | some m =>
    show sgText v ++ (if m < 0 then " - " ++ itxt (0 - m) else " + " ++ itxt m) = sgText v ++ " " ++ ((if m < 0 then ("-" : Str) else ("+" : Str)) ++ " " ++ itxt ((m.natAbs : Nat) : Int))
    rw [valText_plus, abs_eq]
    apply ext_tl
    simp only [tl_append, List.append_assoc]
theorem val_split {v : Sg} (h : v.Ok) (o : Option Int) : Txt.split (valText v o) " " = valParts v o := by
  rw [val_join]
  refine split_join tl_sp (by decide +kernel) ?_ fun p hp => ?_
  · cases o <;> simp [valParts]
  · cases o with
    | none => rw [show valParts v none = [sgText v] from rfl, List.mem_singleton] at hp; rw [hp]; exact sg_sp h
    | some m =>
      simp only [valParts, List.mem_cons, List.not_mem_nil, or_false] at hp
      rcases hp with rfl | rfl | rfl
      · exact sg_sp h
      · by_cases c : m < 0
        · rw [if_pos c]; decide +kernel
        · rw [if_neg c]; decide +kernel
      · exact itxt_sp
theorem valText_len {v : Sg} (h : v.Ok) {o : Option Int} (ho : ∀ m, o = some m → Bnd m) : (valText v o).length ≤ 100 := by
  have hA := (sgText_len h).2
  cases o with
  | none => exact Nat.le_trans hA (by decide)
  | some m =>
    have hm := ho m rfl
    have h1 : (" - " : Str).length = 3 := by decide +kernel
    have h2 : (" + " : Str).length = 3 := by decide +kernel
    show (sgText v ++ (if m < 0 then " - " ++ itxt (0 - m) else " + " ++ itxt m)).length ≤ 100
    by_cases c : m < 0
    · have hn := itxt_len (i := 0 - m) (by unfold Bnd big at hm ⊢; omega)
      rw [if_pos c, len_app, len_app]; omega
    · have hn := itxt_len hm
      rw [if_neg c, len_app, len_app]; omega
theorem valText_cp {v : Sg} (h : v.Ok) (o : Option Int) : cpOk (valText v o) = true := by
  cases o with
  | none => exact sgText_cp h
  | some m =>
    show cpOk (sgText v ++ (if m < 0 then " - " ++ itxt (0 - m) else " + " ++ itxt m)) = true
    by_cases c : m < 0
    · rw [if_pos c]; exact app_cp (sgText_cp h) (app_cp (by decide +kernel) (itxt_cp _))
    · rw [if_neg c]; exact app_cp (sgText_cp h) (app_cp (by decide +kernel) (itxt_cp _))
theorem read_value {v : Sg} (h : v.Ok) {o : Option Int} (ho : ∀ m, o = some m → Bnd m) (bg : List Dt) : sread_value [.str (valText v o)] bg = some (vald v o, bg) := by
  have hlen := valText_len h ho
  let ws : List Dt := (valParts v o).map Dt.str
  let s0 : Sta := ⟨[some (.dat (.str (valText v o))), none, none], bg⟩
  let s1 : Sta := ⟨[some (.dat (.str (valText v o))), some (.dat (.lst ws)), none], bg⟩
  let s2 : Sta := ⟨[some (.dat (.str (valText v o))), some (.dat (.lst ws)), some (.dat v.d)], bg⟩
  let s3 : Sta := ⟨[some (.dat (.str (valText v o))), some (.dat (.lst ws)), some (.dat (vald v o))], bg⟩
  have esp : mM1 gSplit (mVar 0) (mC (.str " ")) s0 = some (.lst ws, s0) := by
    refine mm1 (s1 := s0) (s2 := s0) (a := valText v o) (y := .str " ") rfl rfl ?_
    show (if ((" " : Str).length == 0) = false ∧ (valText v o).length + 2 ≤ sizeLine then some (Dt.lst ((Txt.split (valText v o) " ").map Dt.str)) else none) = _
    rw [if_pos ⟨by decide +kernel, line_of (by omega)⟩, val_split h o]
  have e0 : gIx (.lst ws) (.int 0) = some (.str (sgText v)) := by
    show gIx (.lst ((valParts v o).map Dt.str)) (.int 0) = _
    cases o <;> rfl
  have ers : mApp sread_single_ (mCons (m2 gIx (mVar 1) (mC (.int 0))) mNil) s1 = some (v.d, s1) :=
    mapp (s1 := s1) (ds := [.str (sgText v)]) (mcons (s1 := s1) (m2_eq (s1 := s1) (s2 := s1) (x := .lst ws) (y := .int 0) rfl rfl e0) rfl) (read_single h bg)
  have e4 : kIf (mB (m2 gEq (mCall gLen (mCons (mVar 1) mNil)) (mC (.int 3)))) (kAsg (mTup (mCons (mC (.str "plus")) (mCons (mVar 2) (mCons (mApp sread_signed_ (mCons (m2 gIx (mVar 1) (mC (.int 1))) (mCons (m2 gIx (mVar 1) (mC (.int 2))) (mCons (mC s_MOST_DIGITS) mNil)))) mNil)))) (hName 2)) kSkip s2 = some (.nx, s3) := by
    cases o with
    | none => rw [kif_f (s1 := s2) rfl]; rfl
    | some m =>
      rw [kif_t (s1 := s2) rfl]
      refine kasg (s1 := s2) (d := vald v (some m)) ?_ rfl
      have hm := ho m rfl
      have hn : m.natAbs ≤ 1000000000000000000000000000000 := by unfold Bnd big at hm; omega
      refine mtup (mcons (s1 := s2) rfl (mcons (s1 := s2) rfl (mcons (s1 := s2) (x := .int m) ?_ rfl)))
      refine mapp (s1 := s2) (ds := [.str (if m < 0 then ("-" : Str) else ("+" : Str)), .str (itxt ((m.natAbs : Nat) : Int)), .int 31]) rfl ?_
      by_cases c : m < 0
      · rw [if_pos c]
        rw [read_signed (n := m.natAbs) (neg := true) hn minus_in minus_eq (fun _ => by omega) bg]
        have : (if true = true then -((m.natAbs : Nat) : Int) else ((m.natAbs : Nat) : Int)) = m := by rw [if_pos rfl]; omega
        rw [this]
      · rw [if_neg c]
        rw [read_signed (n := m.natAbs) (neg := false) hn plus_in plus_eq (fun e => by cases e) bg]
        have : (if false = true then -((m.natAbs : Nat) : Int) else ((m.natAbs : Nat) : Int)) = m := by rw [if_neg Bool.false_ne_true]; omega
        rw [this]
  have e5 : mOrB (mB (m2 gNin (mCall gLen (mCons (mVar 1) mNil)) (mTup (mCons (mC (.int 1)) (mCons (mC (.int 3)) mNil))))) (mNotB (mB (mApp sis_value (mCons (mVar 2) mNil)))) s3 = some (false, s3) := by
    rw [or_f (s1 := s3)]
    · exact mNotB_eq (mBt (mapp (s1 := s3) (ds := [vald v o]) rfl (value_ok h ho bg)))
    · cases o <;> rfl
  unfold sread_value
  refine fnd (s1 := s3) ?_
  show kSeq _ _ s0 = _
  rw [kseq (s1 := s0) (by rw [kif_f (s1 := s0) rfl]; rfl), kseq (s1 := s1) (kasg esp rfl), kseq (s1 := s2) (kasg ers rfl), kseq e4, kseq (s1 := s3) (by rw [kif_f e5]; rfl)]
  rfl
/-! ### what the law draws -/
theorem far_ok {bg : List Dt} (h : BagOk bg) : ∃ i bg', sLfar [.bag] bg = some (.int i, bg') ∧ Bnd i ∧ BagOk bg' := by
  obtain ⟨r, bg1, e1, r0, r1, hb1⟩ := pull_ok h (n := 1000000000) (by decide) (by decide)
  obtain ⟨q, bg2, e2, q0, q1, hb2⟩ := pull_ok hb1 (n := 11) (by decide) (by decide)
  let rows : List Dt := [.int 0, .int 1, .int (0 - 1), .int 2, .int (5 - q), .int (r - 10 ^ 8), .int (10 ^ 30 - r), .int (r - 10 ^ 30)]
  obtain ⟨d, bg3, e3, hd, hb3⟩ := any_ok hb2 (rows := rows) (by simp [rows]) (by simp [rows])
  have hi : ∃ i, d = .int i ∧ Bnd i := by
    simp only [rows, List.mem_cons, List.not_mem_nil, or_false] at hd
    unfold Bnd big
    rcases hd with rfl | rfl | rfl | rfl | rfl | rfl | rfl | rfl <;> exact ⟨_, rfl, by omega, by omega⟩
  obtain ⟨i, rfl, hi⟩ := hi
  refine ⟨i, bg3, ?_, hi, hb3⟩
  let s0 : Sta := ⟨[some (.dat .bag), none], bg⟩
  let s1 : Sta := ⟨[some (.dat .bag), some (.dat (.int r))], bg1⟩
  let s2 : Sta := ⟨[some (.dat .bag), some (.dat (.int r))], bg2⟩
  unfold sLfar
  refine fnd (s1 := { s2 with bag := bg3 }) ?_
  show kSeq _ _ s0 = _
  rw [kseq (s1 := s1) (kasg (s1 := { s0 with bag := bg1 }) (mapp (s1 := s0) (ds := [.bag, .int 1000000000]) rfl e1) rfl)]
  refine kret (mapp (s1 := s2) (ds := [.bag, .lst rows]) ?_ e3)
  refine mcons (s1 := s1) rfl (mcons (s1 := s2) (mlst (mcons (s1 := s1) rfl (mcons (s1 := s1) rfl (mcons (s1 := s1) rfl (mcons (s1 := s1) rfl (mcons (s1 := s2) (x := .int (5 - q)) ?_ (mcons (s1 := s2) rfl (mcons (s1 := s2) rfl (mcons (s1 := s2) rfl rfl)))))))) (by simp [rows])) rfl)
  exact m2_eq (s1 := s1) (s2 := s2) (x := .int 5) (y := .int q) rfl (mapp (s1 := s1) (ds := [.bag, .int 11]) rfl e2) rfl

theorem in_one (c : Nat) (z : Str) : gIn (.str ⟨#[c]⟩) (.str z) = some (.bl (decide (c ∈ z.cps.toList))) := by
  show some (Dt.bl (inS ⟨#[c]⟩ z)) = _
  unfold inS
  rw [PySem.StrLaws.found_one]
theorem abc_mem (c : Nat) : decide (c ∈ abc.cps.toList) = (decide (97 ≤ c) && decide (c ≤ 122)) := by
  have e : abc.cps.toList = [97, 98, 99, 100, 101, 102, 103, 104, 105, 106, 107, 108, 109, 110, 111, 112, 113, 114, 115, 116, 117, 118, 119, 120, 121, 122] := by decide +kernel
  rw [e, Bool.eq_iff_iff, Bool.and_eq_true, decide_eq_true_eq, decide_eq_true_eq, decide_eq_true_eq]
  simp only [List.mem_cons, List.not_mem_nil, or_false]
  omega
theorem law_is_name (z : Str) (bg : List Dt) (hz : z.length ≤ 100000) : sLis_name [.str z] bg = some (.bl (nameB z), bg) := by
  let s : Sta := ⟨[some (.dat (.str z)), none], bg⟩
  have hl : gLen [.str z] = some (.int (z.length : Nat)) := glen_str (Nat.le_trans hz (by decide))
  have elen : mCall gLen (mCons (mVar 0) mNil) s = some (.int (z.length : Nat), s) := mcall (s1 := s) (l := [.str z]) rfl hl
  have ech : mChain oLe oLe (mC (.int 1)) (mCall gLen (mCons (mVar 0) mNil)) (mC (.int 6)) s = some (.bl (decide (1 ≤ z.length) && decide (z.length ≤ 6)), s) := by
    by_cases h1 : 1 ≤ z.length
    · rw [decide_eq_true h1, Bool.true_and]
      refine mchain_t (s1 := s) (s2 := s) (s3 := s) (x := .int 1) (y := .int (z.length : Nat)) (z := .int 6) rfl elen (by show some (Dt.bl (decide ((1 : Int) ≤ (z.length : Nat)))) = _; rw [decide_eq_true (by omega)]) rfl ?_
      show some (Dt.bl (decide (((z.length : Nat) : Int) ≤ 6))) = _
      congr 2
      exact decide_eq_decide.mpr (by omega)
    · rw [decide_eq_false h1, Bool.false_and]
      exact mchain_f (s1 := s) (s2 := s) (x := .int 1) (y := .int (z.length : Nat)) rfl elen (by show some (Dt.bl (decide ((1 : Int) ≤ (z.length : Nat)))) = _; rw [decide_eq_false (by omega)])
  have ein : mB (m2 gIn (mVar 0) (mApp sLreserved mNil)) s = some (resv.contains z, s) := by
    refine mBt (m2_eq (s1 := s) (s2 := s) (x := .str z) (y := .lst (resv.map Dt.str)) rfl rfl ?_)
    rw [in_resv]
    congr 2
    rw [List.contains_eq_any_beq]
    congr 1
    funext r
    exact Bool.beq_comm
  have ecomp : mCall gAll (mCons (mComp [1] (wStr (mVar 0)) (hName 1) mYes (m2 gIn (mVar 1) (mC (.str "abcdefghijklmnopqrstuvwxyz")))) mNil) s = some (.bl (lowB z), s) := by
    have e : mComp [1] (wStr (mVar 0)) (hName 1) mYes (m2 gIn (mVar 1) (mC (.str "abcdefghijklmnopqrstuvwxyz"))) s = some (.lst ((z.cps.toList.map fun c => Dt.str ⟨#[c]⟩).map fun d => .bl (letB d)), s) := by
      refine mcomp (s1 := s) (l := z.cps.toList.map fun c => Dt.str ⟨#[c]⟩) rfl (by rw [List.length_map]; simpa [Str.length] using hz) (comp_map (fun d => .bl (letB d)) _ fun d hd => ?_)
      obtain ⟨c, hc, rfl⟩ := List.mem_map.mp hd
      let s' : Sta := ⟨[some (.dat (.str z)), some (.dat (.str ⟨#[c]⟩))], bg⟩
      refine ⟨s', s', s', rfl, rfl, m2_eq (s1 := s') (s2 := s') (x := .str ⟨#[c]⟩) (y := .str abc) rfl rfl ?_, rfl⟩
      rw [in_one, abc_mem, letB_c]
    refine mcall (mcons e rfl) ?_
    rw [gall_map, List.all_map]
    congr 2
    unfold lowB
    congr 1
    funext c
    exact letB_c c
  unfold sLis_name
  refine fnd (s1 := s) ?_
  show kSeq _ _ s = _
  have ec : mOrB (mNotB (mB (mIsi isStr (mVar 0)))) (mOrB (mNotB (mB (mChain oLe oLe (mC (.int 1)) (mCall gLen (mCons (mVar 0) mNil)) (mC (.int 6))))) (mB (m2 gIn (mVar 0) (mApp sLreserved mNil)))) s = some (!(decide (1 ≤ z.length) && decide (z.length ≤ 6)) || resv.contains z, s) := by
    rw [or_f (s1 := s) rfl]
    cases hb : decide (1 ≤ z.length) && decide (z.length ≤ 6) with
    | false => rw [hb] at ech; exact or_t (mNotB_eq (mBt ech))
    | true => rw [hb] at ech; rw [or_f (mNotB_eq (mBt ech))]; exact ein
  cases hb : !(decide (1 ≤ z.length) && decide (z.length ≤ 6)) || resv.contains z with
  | true =>
    rw [hb] at ec
    have en : nameB z = false := by
      unfold nameB
      rw [Bool.or_eq_true] at hb
      rcases hb with hb | hb
      · rw [Bool.not_eq_true'] at hb; rw [Bool.and_assoc (lowB z), hb]; simp
      · rw [hb]; simp
    unfold kSeq
    rw [kif_t ec, en]
    rfl
  | false =>
    rw [hb] at ec
    have en : nameB z = lowB z := by
      rw [Bool.or_eq_false_iff] at hb
      unfold nameB
      have h1 := hb.1
      rw [Bool.not_eq_false'] at h1
      rw [Bool.and_assoc (lowB z), h1, hb.2]; simp
    rw [kseq (s1 := s) (by rw [kif_f ec]; rfl), en]
    exact kret ecomp
theorem not_name {d : Dt} (h : isStr d = false) (bg : List Dt) : sis_name [d] bg = some (.bl false, bg) := by
  let s : Sta := ⟨[some (.dat d), none], bg⟩
  unfold sis_name
  refine fnd (s1 := s) ?_
  show kSeq _ _ s = _
  unfold kSeq
  rw [kif_t (s1 := s) (or_t (mNotB_eq (b := false) (mBt (show mIsi isStr (mVar 0) s = some (.bl false, s) by show some (Dt.bl (isStr d), s) = _; rw [h]))))]
  rfl
theorem not_value {d : Dt} (h : isTup d = false) (bg : List Dt) : sis_value [d] bg = some (.bl false, bg) := by
  let s : Sta := ⟨[some (.dat d)], bg⟩
  have ht : mB (mIsi isTup (mVar 0)) s = some (false, s) := by show some (isTup d, s) = _; rw [h]
  have h2 : sis_single_ [d] bg = some (.bl false, bg) := by
    let t : Sta := ⟨[some (.dat d), none, none], bg⟩
    have ht2 : mB (mIsi isTup (mVar 0)) t = some (false, t) := by show some (isTup d, t) = _; rw [h]
    unfold sis_single_
    refine fnd (s1 := t) ?_
    show kSeq _ _ t = _
    unfold kSeq
    rw [kif_t (mNotB_eq ht2)]
    rfl
  unfold sis_value
  refine fnd (s1 := s) ?_
  show kSeq _ _ s = _
  rw [kseq (s1 := s) (by rw [kif_f (and_f ht)]; rfl)]
  exact kret (mapp (s1 := s) (ds := [d]) rfl h2)
theorem some_string {bg : List Dt} (h : BagOk bg) : ∃ z bg', sLsome_string [.bag] bg = some (.str z, bg') ∧ z.length ≤ 1000 ∧ cpOk z = true ∧ BagOk bg' := by
  obtain ⟨r, bg1, e1, r0, r1, hb1⟩ := pull_ok h (n := 4) (by decide) (by decide)
  let s0 : Sta := ⟨[some (.dat .bag), none, none, none], bg⟩
  let s1 : Sta := ⟨[some (.dat .bag), none, none, none], bg1⟩
  have ec : mB (m2 gEq (mApp sLpull (mCons (mVar 0) (mCons (mC (.int 4)) mNil))) (mC (.int 0))) s0 = some (r == 0, s1) :=
    mBt (m2_eq (s1 := s1) (s2 := s1) (x := .int r) (y := .int 0) (mapp (s1 := s0) (ds := [.bag, .int 4]) rfl e1) rfl eqII)
  have resLen : ∀ z ∈ resv, z.length ≤ 10 := by decide +kernel
  have resCp : ∀ z ∈ resv, cpOk z = true := by decide +kernel
  by_cases hz : r = 0
  · obtain ⟨d, bg2, e2, hd, hb2⟩ := any_ok hb1 (rows := resv.map Dt.str) (by decide) (by decide)
    obtain ⟨d', bg3, e3, hd', hb3⟩ := any_ok hb2 (rows := [.str "", .str "", .str "a"]) (by simp) (by simp)
    obtain ⟨z, hz1, rfl⟩ := List.mem_map.mp hd
    have hz2 : ∃ y : Str, d' = .str y ∧ y.length ≤ 10 ∧ cpOk y = true := by
      simp only [List.mem_cons, List.not_mem_nil, or_false] at hd'
      rcases hd' with rfl | rfl | rfl <;> exact ⟨_, rfl, by decide +kernel, by decide +kernel⟩
    obtain ⟨y, rfl, hy1, hy2⟩ := hz2
    have hl := resLen z hz1
    refine ⟨z ++ y, bg3, ?_, by rw [len_app]; omega, app_cp (resCp z hz1) hy2, hb3⟩
    unfold sLsome_string
    refine fnd (s1 := { s0 with bag := bg3 }) ?_
    show kSeq _ _ s0 = _
    unfold kSeq
    rw [kif_t (s1 := s1) (by rw [ec, hz]; rfl), kret (s1 := { s0 with bag := bg3 }) (d := .str (z ++ y))]
    · rfl
    · exact m2_eq (s1 := { s0 with bag := bg2 }) (s2 := { s0 with bag := bg3 }) (x := .str z) (y := .str y) (mapp (s1 := s1) (ds := [.bag, .lst (resv.map Dt.str)]) rfl e2) (mapp (s1 := { s0 with bag := bg2 }) (ds := [.bag, .lst [.str "", .str "", .str "a"]]) rfl e3) (gadd_l (by omega))
  · obtain ⟨q, bg2, e2, q0, q1, hb2⟩ := pull_ok hb1 (n := 9) (by decide) (by decide)
    obtain ⟨rs, bg3, e3, l3, p3, hb3⟩ := comp_all (sl0 := [some (.dat .bag), none, none, none]) (h := hName 3) (t := mYes) (e := mApp sLany (mCons (mVar 0) (mCons (mC (.str "abcdefghijklmnopqrstuvwxyz")) mNil))) (fun _ => True) (fun d => ∃ z, d = .str z ∧ (Low z ∧ z.length = 1)) (fun d bg _ hb => by
      obtain ⟨c, bg', e, hc, hb'⟩ := any_str hb (z := abc) (by rw [len_abc]; decide) (by rw [len_abc]; decide)
      refine ⟨_, _, .str ⟨#[c]⟩, ⟨[some (.dat .bag), none, none, some (.dat d)], bg'⟩, rfl, rfl, ?_, ⟨_, rfl, fun k hk => ?_, rfl⟩, hb'⟩
      · exact mapp (s1 := ⟨[some (.dat .bag), none, none, some (.dat d)], bg⟩) rfl e
      · have : k = c := by simpa using hk
        rw [this]
        exact low_abc c hc) (rngD 0 q.toNat) bg2 (fun _ _ => trivial) hb2
    rw [rng_len] at l3
    obtain ⟨ss, rfl, hss⟩ := strs_of p3
    rw [List.length_map] at l3
    have hj := low_join (l := ss) fun z hz => (hss z hz).1
    rw [sum_ones fun z hz => (hss z hz).2, l3] at hj
    have hjn := gjoin_ok (ss := ss) (by rw [sum_ones fun z hz => (hss z hz).2, l3]; omega)
    generalize Str.join "" ss = stem at hj hjn
    obtain ⟨hlow, hlen⟩ := hj
    obtain ⟨at_, bg4, e4, a0, a1, hb4⟩ := pull_ok hb3 (n := (stem.length : Nat) + 1) (by omega) (by omega)
    obtain ⟨i, rfl⟩ : ∃ i : Nat, at_ = (i : Int) := ⟨at_.toNat, by omega⟩
    have hi : i ≤ stem.length := by omega
    obtain ⟨d, bg5, e5, hd, hb5⟩ := any_ok hb4 (rows := [.str "", .str "", .str "", .str "A", .str "1", .str " ", .str ".", .str "_", .str "\n"]) (by simp) (by simp)
    have hz2 : ∃ y : Str, d = .str y ∧ y.length ≤ 10 ∧ cpOk y = true := by
      simp only [List.mem_cons, List.not_mem_nil, or_false] at hd
      rcases hd with rfl | rfl | rfl | rfl | rfl | rfl | rfl | rfl | rfl <;> exact ⟨_, rfl, by decide +kernel, by decide +kernel⟩
    obtain ⟨y, rfl, hy1, hy2⟩ := hz2
    have hcut := len_cut (z := stem) hi
    let t2 : Sta := ⟨[some (.dat .bag), some (.dat (.str stem)), none, none], bg3⟩
    let t3 : Sta := ⟨[some (.dat .bag), some (.dat (.str stem)), some (.dat (.int (i : Nat))), none], bg4⟩
    refine ⟨cutS stem none (some (i : Nat)) ++ y ++ cutS stem (some (i : Nat)) none, bg5, ?_, by rw [len_app, len_app]; omega, app_cp (app_cp (cp_low (low_cut hlow _ _)) hy2) (cp_low (low_cut hlow _ _)), hb5⟩
    unfold sLsome_string
    refine fnd (s1 := { t3 with bag := bg5 }) ?_
    show kSeq _ _ s0 = _
    rw [kseq (s1 := s1) (by rw [kif_f (s1 := s1) (by rw [ec, beq_eq_false_iff_ne.mpr hz])]; rfl), kseq (s1 := t2), kseq (s1 := t3)]
    · refine kret (m2_eq (s1 := { t3 with bag := bg5 }) (s2 := { t3 with bag := bg5 }) (x := .str (cutS stem none (some (i : Nat)) ++ y)) (y := .str (cutS stem (some (i : Nat)) none)) (m2_eq (s1 := t3) (s2 := { t3 with bag := bg5 }) (x := .str (cutS stem none (some (i : Nat)))) (y := .str y) ?_ ?_ (gadd_l (by omega))) ?_ (gadd_l (by rw [len_app]; omega)))
      · exact msl (s1 := t3) (s2 := t3) (s3 := t3) (x := .str stem) rfl rfl rfl (gsl_str (by omega))
      · exact mapp (s1 := t3) (ds := [.bag, .lst [.str "", .str "", .str "", .str "A", .str "1", .str " ", .str ".", .str "_", .str "\n"]]) rfl e5
      · exact msl (s1 := { t3 with bag := bg5 }) (s2 := { t3 with bag := bg5 }) (s3 := { t3 with bag := bg5 }) (x := .str stem) rfl rfl rfl (gsl_str (by omega))
    · refine kasg (s1 := { t2 with bag := bg4 }) (d := .int (i : Nat)) (mapp (s1 := t2) (ds := [.bag, .int ((stem.length : Nat) + 1)]) ?_ e4) rfl
      refine mcons (s1 := t2) rfl (mcons (s1 := t2) (m2_eq (s1 := t2) (s2 := t2) (x := .int (stem.length : Nat)) (y := .int 1) (mcall (s1 := t2) (l := [.str stem]) rfl (glen_str (line_of (by omega)))) rfl rfl) rfl)
    · refine kasg (s1 := { s1 with bag := bg3 }) (d := .str stem) ?_ rfl
      refine mm1 (s1 := s1) (s2 := { s1 with bag := bg3 }) (a := "") (y := .lst (ss.map Dt.str)) rfl ?_ hjn
      refine mcomp (s1 := { s1 with bag := bg2 }) (l := rngD 0 q.toNat) ?_ (by rw [rng_len]; omega) e3
      refine mrng1 ?_ q0 (by omega)
      exact mcons (s1 := { s1 with bag := bg2 }) (mapp (s1 := s1) (ds := [.bag, .int 9]) rfl e2) rfl

theorem vals_of {rs : List Dt} (h : ∀ r ∈ rs, ∃ (v : Sg) (m : Int), r = vald v (some m) ∧ v.Ok ∧ Bnd m) : ∃ vs : List (Sg × Option Int), rs = vs.map (fun (p : Sg × Option Int) => vald p.1 p.2) ∧ ∀ p ∈ vs, p.1.Ok ∧ ∀ m, p.2 = some m → Bnd m := by
  induction rs with
  | nil => exact ⟨[], rfl, by simp⟩
  | cons r rs ih =>
    obtain ⟨v, m, rfl, hv, hm⟩ := h r (List.mem_cons_self ..)
    obtain ⟨vs, rfl, hs⟩ := ih fun x hx => h x (List.mem_cons_of_mem _ hx)
    refine ⟨(v, some m) :: vs, rfl, fun p hp => ?_⟩
    rcases List.mem_cons.mp hp with rfl | hp
    · exact ⟨hv, fun j e => by cases e; exact hm⟩
    · exact hs p hp
theorem all_values {bg : List Dt} (h : BagOk bg) {n0 n1 n2 : Str} (h0 : NameOk n0) (h1 : NameOk n1) (h2 : NameOk n2) : ∃ (vs : List (Sg × Option Int)) (bg' : List Dt), sLall_values [.bag, .lst [.str n0, .str n1, .str n2]] bg = some (.lst (vs.map fun (p : Sg × Option Int) => vald p.1 p.2), bg') ∧
    (∀ p ∈ vs, p.1.Ok ∧ ∀ m, p.2 = some m → Bnd m) ∧ BagOk bg' := by
  obtain ⟨d, bg1, e1, hd, hb1⟩ := any_ok h (rows := [.str n0, .str "key"]) (by simp) (by simp)
  have hc : ∃ c, d = .str c ∧ ColOk c := by
    simp only [List.mem_cons, List.not_mem_nil, or_false] at hd
    rcases hd with rfl | rfl
    · exact ⟨_, rfl, .inr h0⟩
    · exact ⟨_, rfl, .inl rfl⟩
  obtain ⟨c, rfl, hc⟩ := hc
  obtain ⟨i, bg2, e2, hi, hb2⟩ := far_ok hb1
  let gs : List Sg := [.number i, .name n1, .field n2 c, .own c, .next c]
  have hgs : ∀ v ∈ gs, v.Ok := fun v hv => by
    simp only [gs, List.mem_cons, List.not_mem_nil, or_false] at hv
    rcases hv with rfl | rfl | rfl | rfl | rfl
    · exact hi
    · exact h1
    · exact ⟨h2, hc⟩
    · exact hc
    · exact hc
  let names : Dt := .lst [.str n0, .str n1, .str n2]
  let s0 : Sta := ⟨[some (.dat .bag), some (.dat names), none, none, none], bg⟩
  let s1 : Sta := ⟨[some (.dat .bag), some (.dat names), some (.dat (.str c)), none, none], bg1⟩
  let s2 : Sta := ⟨[some (.dat .bag), some (.dat names), some (.dat (.str c)), some (.dat (.lst (gs.map Sg.d))), none], bg2⟩
  obtain ⟨rs, bg3, e3, l3, p3, hb3⟩ := comp_all (sl0 := [some (.dat .bag), some (.dat names), some (.dat (.str c)), some (.dat (.lst (gs.map Sg.d))), none]) (h := hName 4) (t := mYes) (e := mTup (mCons (mC (.str "plus")) (mCons (mVar 4) (mCons (mApp sLfar (mCons (mVar 0) mNil)) mNil))))
    (fun d => ∃ v : Sg, v.Ok ∧ d = v.d) (fun r => ∃ (v : Sg) (m : Int), r = vald v (some m) ∧ v.Ok ∧ Bnd m) (fun d bg hd hb => by
      obtain ⟨v, hv, rfl⟩ := hd
      obtain ⟨m, bg', e, hm, hb'⟩ := far_ok hb
      let t : Sta := ⟨[some (.dat .bag), some (.dat names), some (.dat (.str c)), some (.dat (.lst (gs.map Sg.d))), some (.dat v.d)], bg⟩
      refine ⟨t, t, vald v (some m), { t with bag := bg' }, rfl, rfl, ?_, ⟨v, m, rfl, hv, hm⟩, hb'⟩
      exact mtup (mcons (s1 := t) rfl (mcons (s1 := t) rfl (mcons (s1 := { t with bag := bg' }) (mapp (s1 := t) (ds := [.bag]) rfl e) rfl)))) (gs.map Sg.d) bg2 (fun d hd => by
      obtain ⟨v, hv, rfl⟩ := List.mem_map.mp hd
      exact ⟨v, hgs v hv, rfl⟩) hb2
  obtain ⟨vs, rfl, hvs⟩ := vals_of p3
  have l5 : (vs.map fun (p : Sg × Option Int) => vald p.1 p.2).length = 5 := l3
  refine ⟨gs.map (fun v => (v, none)) ++ vs, bg3, ?_, fun p hp => ?_, hb3⟩
  · have em : (gs.map (fun v => ((v, none) : Sg × Option Int)) ++ vs).map (fun (p : Sg × Option Int) => vald p.1 p.2) = gs.map Sg.d ++ vs.map fun (p : Sg × Option Int) => vald p.1 p.2 := by
      rw [List.map_append, List.map_map]; rfl
    rw [em]
    unfold sLall_values
    refine fnd (s1 := { s2 with bag := bg3 }) ?_
    show kSeq _ _ s0 = _
    rw [kseq (s1 := s1), kseq (s1 := s2)]
    · refine kret (m2_eq (s1 := s2) (s2 := { s2 with bag := bg3 }) (x := .lst (gs.map Sg.d)) (y := .lst (vs.map fun (p : Sg × Option Int) => vald p.1 p.2)) rfl (mcomp (s1 := s2) (l := gs.map Sg.d) rfl (by simp [gs]) e3) ?_)
      show (if (gs.map Sg.d).length + (vs.map fun (p : Sg × Option Int) => vald p.1 p.2).length ≤ sizeLine then some (Dt.lst (gs.map Sg.d ++ vs.map fun (p : Sg × Option Int) => vald p.1 p.2)) else none) = _
      rw [if_pos (line_of (by rw [l5]; simp [gs]))]
    · refine kasg (s1 := { s1 with bag := bg2 }) (d := .lst (gs.map Sg.d)) (mlst (mcons (s1 := { s1 with bag := bg2 }) (x := (Sg.number i).d) (mtup (mcons (s1 := s1) rfl (mcons (s1 := { s1 with bag := bg2 }) (x := .int i) (mapp (s1 := s1) (ds := [.bag]) rfl e2) rfl))) rfl) (by simp [gs])) rfl
    · refine kasg (s1 := { s0 with bag := bg1 }) (d := .str c) (mapp (s1 := s0) (ds := [.bag, .lst [.str n0, .str "key"]]) rfl e1) rfl
  · rcases List.mem_append.mp hp with hp | hp
    · obtain ⟨v, hv, rfl⟩ := List.mem_map.mp hp
      exact ⟨hgs v hv, fun m e => by cases e⟩
    · exact hvs p hp
theorem loop_mem {h : Dt → Sta → Option Sta} {b : DMs} (Pd : Dt → Prop) (I : Sta → Prop) (hs : ∀ d s, Pd d → I s → ∃ s1 r s2, h d s = some s1 ∧ b s1 = some (r, s2) ∧ (r = .nx ∨ r = .ct) ∧ I s2) : ∀ (l : List Dt) (s : Sta), (∀ d ∈ l, Pd d) → I s → ∃ s', loopD h b l s = some (.nx, s') ∧ I s'
  | [], s, _, hi => ⟨s, rfl, hi⟩
  | d :: l, s, hp, hi => by
    obtain ⟨s1, r, s2, e1, e2, hr, h2⟩ := hs d s (hp d (List.mem_cons_self ..)) hi
    obtain ⟨s', e3, h3⟩ := loop_mem Pd I hs l s2 (fun z hz => hp z (List.mem_cons_of_mem _ hz)) h2
    refine ⟨s', ?_, h3⟩
    unfold loopD
    rw [e1, Option.bind_some, e2, Option.bind_some]
    rcases hr with rfl | rfl <;> exact e3
theorem kfor_lst {f : DM Dt} {h : Dt → Sta → Option Sta} {b : DMs} {s s1 s' : Sta} {l : List Dt} {r : Res} (h1 : f s = some (.lst l, s1)) (e : loopD h b l s1 = some (r, s')) : kFor (wLst f) h b s = some (r, s') := by
  unfold kFor wLst
  rw [h1]
  exact e
theorem list_of_val (v : Sg) (o : Option Int) : ∃ l, gListOf [vald v o] = some (.lst l) := by
  cases o with
  | some m => exact ⟨_, rfl⟩
  | none => cases v <;> exact ⟨_, rfl⟩
theorem val_str (v : Sg) (o : Option Int) : isStr (vald v o) = false := by
  cases o with
  | some m => rfl
  | none => cases v <;> rfl
end DL

namespace K01
open PySem PySem.Spec PyProof.Rows L2 DL
section Laws
variable [Tabs] [Me]
/-! ### the text by places -/
def top (i : Nat) : Stmt := PySem.Challenge.pw_lookedrows_k01_errors_by_themselves.main.body.getD i (.Pass ⟨0, 0, 0, 0⟩)
abbrev s_Ldraws : Stmt := top 30
abbrev s_Lpull : Stmt := top 31
abbrev s_Lany : Stmt := top 32
abbrev s_Llike : Stmt := top 33
abbrev s_Lfar : Stmt := top 34
abbrev s_Lbases : Stmt := top 35
abbrev s_Lgiven : Stmt := top 36
abbrev s_law : Stmt := top 37
abbrev N_Ldraws : List Str := ["_law_script", "_law_seed", "_law_cell"]
theorem sc_Ldraws : FnScope N_Ldraws ["_law_script"] (defScope s_Ldraws) := ⟨rfl, rfl, rfl, by decide +kernel, rfl, by decide +kernel, by decide +kernel⟩
abbrev N_Lpull : List Str := ["_law_bag", "_law_sides", "_law_seed", "_law_cell", "_law_digit"]
theorem sc_Lpull : FnScope N_Lpull ["_law_bag", "_law_sides"] (defScope s_Lpull) := ⟨rfl, rfl, rfl, by decide +kernel, rfl, by decide +kernel, by decide +kernel⟩
abbrev N_Lany : List Str := ["_law_bag", "_law_rows"]
theorem sc_Lany : FnScope N_Lany ["_law_bag", "_law_rows"] (defScope s_Lany) := ⟨rfl, rfl, rfl, by decide +kernel, rfl, by decide +kernel, by decide +kernel⟩
abbrev N_Llike : List Str := ["_law_a", "_law_b", "_law_same", "_law_c", "_law_d"]
theorem sc_Llike : FnScope N_Llike ["_law_a", "_law_b"] (defScope s_Llike) := ⟨rfl, rfl, rfl, by decide +kernel, rfl, by decide +kernel, by decide +kernel⟩
abbrev N_Lfar : List Str := ["_law_bag", "_law_near"]
theorem sc_Lfar : FnScope N_Lfar ["_law_bag"] (defScope s_Lfar) := ⟨rfl, rfl, rfl, by decide +kernel, rfl, by decide +kernel, by decide +kernel⟩
abbrev N_Lbases : List Str := ["_law_e"]
theorem sc_Lbases : FnScope N_Lbases ["_law_e"] (defScope s_Lbases) := ⟨rfl, rfl, rfl, by decide +kernel, rfl, by decide +kernel, by decide +kernel⟩
abbrev N_Lgiven : List Str := ["_law_a", "_law_named", "_law_indexed", "_law_paths"]
theorem sc_Lgiven : FnScope N_Lgiven ["_law_a"] (defScope s_Lgiven) := ⟨rfl, rfl, rfl, by decide +kernel, rfl, by decide +kernel, by decide +kernel⟩
abbrev N_law : List Str := ["_law_script", "_law_bag", "_law_found", "_law_bare", "_law_most", "_law_a", "_law_rows", "_law_named", "_law_indexed", "_law_paths", "_law_called", "_law_three", "_law_wide", "_law_full", "_law_failed", "_law_key", "_law_pair", "_law_e", "_law_code"]
theorem sc_law : FnScope N_law ["_law_script"] (defScope s_law) := ⟨rfl, rfl, rfl, by decide +kernel, rfl, by decide +kernel, by decide +kernel⟩
def s_init_Missing : Stmt := match top 25 with
  | .ClassDef (body := b) .. => b.getD 0 (.Pass ⟨0, 0, 0, 0⟩)
  | s => s
abbrev N_init_Missing : List Str := ["self"]
theorem sc_init_Missing : FnScope N_init_Missing ["self"] (defScope s_init_Missing) := ⟨rfl, rfl, rfl, by decide +kernel, rfl, by decide +kernel, by decide +kernel⟩
def s_init_NothingLeft : Stmt := match top 28 with
  | .ClassDef (body := b) .. => b.getD 0 (.Pass ⟨0, 0, 0, 0⟩)
  | s => s
abbrev N_init_NothingLeft : List Str := ["self"]
theorem sc_init_NothingLeft : FnScope N_init_NothingLeft ["self"] (defScope s_init_NothingLeft) := ⟨rfl, rfl, rfl, by decide +kernel, rfl, by decide +kernel, by decide +kernel⟩
def s_init_TableError : Stmt := match top 1 with
  | .ClassDef (body := b) .. => b.getD 0 (.Pass ⟨0, 0, 0, 0⟩)
  | s => s
abbrev N_init_TableError : List Str := ["self"]
theorem sc_init_TableError : FnScope N_init_TableError ["self"] (defScope s_init_TableError) := ⟨rfl, rfl, rfl, by decide +kernel, rfl, by decide +kernel, by decide +kernel⟩
def tab_LookupError : List (Str × Bool) := [("InvalidArguments", false), ("InvalidValue", false), ("InvalidColumns", false), ("NothingLeft", true), ("InvalidText", false), ("ColumnsDiffer", false), ("NotOpen", false), ("InvalidLimit", false), ("InvalidCount", false), ("InvalidName", false), ("InvalidRule", false), ("InvalidComparison", false), ("InvalidRow", false), ("InvalidCommand", false), ("InvalidLine", false), ("FailsLate", false), ("InvalidStatement", false), ("InvalidCondition", false), ("UnknownName", true), ("WrongKind", false), ("DuplicateName", false), ("UnknownKey", true), ("Failed", false), ("Full", false), ("TooWide", false), ("NotCarried", false)]
def tab_ValueError : List (Str × Bool) := [("InvalidArguments", true), ("InvalidValue", true), ("InvalidColumns", true), ("NothingLeft", false), ("InvalidText", true), ("ColumnsDiffer", true), ("NotOpen", true), ("InvalidLimit", true), ("InvalidCount", true), ("InvalidName", true), ("InvalidRule", true), ("InvalidComparison", true), ("InvalidRow", true), ("InvalidCommand", true), ("InvalidLine", true), ("FailsLate", true), ("InvalidStatement", true), ("InvalidCondition", true), ("UnknownName", false), ("WrongKind", true), ("DuplicateName", true), ("UnknownKey", false), ("Failed", true), ("Full", true), ("TooWide", true), ("NotCarried", true)]
def tab_NothingLeft : List (Str × Bool) := [("InvalidArguments", false), ("InvalidValue", false), ("InvalidColumns", false), ("NothingLeft", true), ("InvalidText", false), ("ColumnsDiffer", false), ("NotOpen", false), ("InvalidLimit", false), ("InvalidCount", false), ("InvalidName", false), ("InvalidRule", false), ("InvalidComparison", false), ("InvalidRow", false), ("InvalidCommand", false), ("InvalidLine", false), ("FailsLate", false), ("InvalidStatement", false), ("InvalidCondition", false), ("UnknownName", false), ("WrongKind", false), ("DuplicateName", false), ("UnknownKey", false), ("Failed", false), ("Full", false), ("TooWide", false), ("NotCarried", false)]
def tab_Missing : List (Str × Bool) := [("InvalidArguments", false), ("InvalidValue", false), ("InvalidColumns", false), ("NothingLeft", false), ("InvalidText", false), ("ColumnsDiffer", false), ("NotOpen", false), ("InvalidLimit", false), ("InvalidCount", false), ("InvalidName", false), ("InvalidRule", false), ("InvalidComparison", false), ("InvalidRow", false), ("InvalidCommand", false), ("InvalidLine", false), ("FailsLate", false), ("InvalidStatement", false), ("InvalidCondition", false), ("UnknownName", true), ("WrongKind", false), ("DuplicateName", false), ("UnknownKey", true), ("Failed", false), ("Full", false), ("TooWide", false), ("NotCarried", false)]
def tab_TableError : List (Str × Bool) := [("InvalidArguments", true), ("InvalidValue", true), ("InvalidColumns", true), ("NothingLeft", false), ("InvalidText", true), ("ColumnsDiffer", true), ("NotOpen", true), ("InvalidLimit", true), ("InvalidCount", true), ("InvalidName", true), ("InvalidRule", true), ("InvalidComparison", true), ("InvalidRow", true), ("InvalidCommand", true), ("InvalidLine", true), ("FailsLate", true), ("InvalidStatement", true), ("InvalidCondition", true), ("UnknownName", false), ("WrongKind", true), ("DuplicateName", true), ("UnknownKey", false), ("Failed", true), ("Full", true), ("TooWide", true), ("NotCarried", true)]
def tab_IndexError : List (Str × Bool) := [("InvalidArguments", false), ("InvalidValue", false), ("InvalidColumns", false), ("NothingLeft", true), ("InvalidText", false), ("ColumnsDiffer", false), ("NotOpen", false), ("InvalidLimit", false), ("InvalidCount", false), ("InvalidName", false), ("InvalidRule", false), ("InvalidComparison", false), ("InvalidRow", false), ("InvalidCommand", false), ("InvalidLine", false), ("FailsLate", false), ("InvalidStatement", false), ("InvalidCondition", false), ("UnknownName", false), ("WrongKind", false), ("DuplicateName", false), ("UnknownKey", false), ("Failed", false), ("Full", false), ("TooWide", false), ("NotCarried", false)]
def tab_InvalidCount : List (Str × Bool) := [("InvalidArguments", false), ("InvalidValue", false), ("InvalidColumns", false), ("NothingLeft", false), ("InvalidText", false), ("ColumnsDiffer", false), ("NotOpen", false), ("InvalidLimit", false), ("InvalidCount", true), ("InvalidName", false), ("InvalidRule", false), ("InvalidComparison", false), ("InvalidRow", false), ("InvalidCommand", false), ("InvalidLine", false), ("FailsLate", false), ("InvalidStatement", false), ("InvalidCondition", false), ("UnknownName", false), ("WrongKind", false), ("DuplicateName", false), ("UnknownKey", false), ("Failed", false), ("Full", false), ("TooWide", false), ("NotCarried", false)]
def tab_InvalidName : List (Str × Bool) := [("InvalidArguments", false), ("InvalidValue", false), ("InvalidColumns", false), ("NothingLeft", false), ("InvalidText", false), ("ColumnsDiffer", false), ("NotOpen", false), ("InvalidLimit", false), ("InvalidCount", false), ("InvalidName", true), ("InvalidRule", false), ("InvalidComparison", false), ("InvalidRow", false), ("InvalidCommand", false), ("InvalidLine", false), ("FailsLate", false), ("InvalidStatement", false), ("InvalidCondition", false), ("UnknownName", false), ("WrongKind", false), ("DuplicateName", false), ("UnknownKey", false), ("Failed", false), ("Full", false), ("TooWide", false), ("NotCarried", false)]
def si_InvalidLimit : Stmt := match top 22 with
  | .ClassDef (body := b) .. => b.getD 0 (.Pass ⟨0, 0, 0, 0⟩)
  | s => s
def si_InvalidCount : Stmt := match top 14 with
  | .ClassDef (body := b) .. => b.getD 0 (.Pass ⟨0, 0, 0, 0⟩)
  | s => s
def si_InvalidName : Stmt := match top 2 with
  | .ClassDef (body := b) .. => b.getD 0 (.Pass ⟨0, 0, 0, 0⟩)
  | s => s
def si_InvalidRule : Stmt := match top 11 with
  | .ClassDef (body := b) .. => b.getD 0 (.Pass ⟨0, 0, 0, 0⟩)
  | s => s
def si_InvalidComparison : Stmt := match top 9 with
  | .ClassDef (body := b) .. => b.getD 0 (.Pass ⟨0, 0, 0, 0⟩)
  | s => s
def si_InvalidRow : Stmt := match top 4 with
  | .ClassDef (body := b) .. => b.getD 0 (.Pass ⟨0, 0, 0, 0⟩)
  | s => s
def si_InvalidCommand : Stmt := match top 23 with
  | .ClassDef (body := b) .. => b.getD 0 (.Pass ⟨0, 0, 0, 0⟩)
  | s => s
def si_InvalidLine : Stmt := match top 18 with
  | .ClassDef (body := b) .. => b.getD 0 (.Pass ⟨0, 0, 0, 0⟩)
  | s => s
def si_FailsLate : Stmt := match top 15 with
  | .ClassDef (body := b) .. => b.getD 0 (.Pass ⟨0, 0, 0, 0⟩)
  | s => s
def si_InvalidStatement : Stmt := match top 8 with
  | .ClassDef (body := b) .. => b.getD 0 (.Pass ⟨0, 0, 0, 0⟩)
  | s => s
def si_InvalidCondition : Stmt := match top 6 with
  | .ClassDef (body := b) .. => b.getD 0 (.Pass ⟨0, 0, 0, 0⟩)
  | s => s
def si_UnknownName : Stmt := match top 27 with
  | .ClassDef (body := b) .. => b.getD 0 (.Pass ⟨0, 0, 0, 0⟩)
  | s => s
def si_WrongKind : Stmt := match top 20 with
  | .ClassDef (body := b) .. => b.getD 0 (.Pass ⟨0, 0, 0, 0⟩)
  | s => s
def si_DuplicateName : Stmt := match top 19 with
  | .ClassDef (body := b) .. => b.getD 0 (.Pass ⟨0, 0, 0, 0⟩)
  | s => s
def si_UnknownKey : Stmt := match top 26 with
  | .ClassDef (body := b) .. => b.getD 0 (.Pass ⟨0, 0, 0, 0⟩)
  | s => s
def si_Failed : Stmt := match top 24 with
  | .ClassDef (body := b) .. => b.getD 0 (.Pass ⟨0, 0, 0, 0⟩)
  | s => s
def si_Full : Stmt := match top 21 with
  | .ClassDef (body := b) .. => b.getD 0 (.Pass ⟨0, 0, 0, 0⟩)
  | s => s
def si_TooWide : Stmt := match top 16 with
  | .ClassDef (body := b) .. => b.getD 0 (.Pass ⟨0, 0, 0, 0⟩)
  | s => s
def si_NotCarried : Stmt := match top 12 with
  | .ClassDef (body := b) .. => b.getD 0 (.Pass ⟨0, 0, 0, 0⟩)
  | s => s
/-! ### what the top has left -/
set_option maxHeartbeats 0 in
structure Tx (P : Program) (w : World) (K : PySem.W.Frag) (mg : Str → Option Value) where
  n_IndexError : mg "IndexError" = none
  n_LookupError : mg "LookupError" = none
  n_ValueError : mg "ValueError" = none
  n_all : mg "all" = none
  n_bool : mg "bool" = none
  n_int : mg "int" = none
  n_isinstance : mg "isinstance" = none
  n_len : mg "len" = none
  n_list : mg "list" = none
  n_str : mg "str" = none
  n_tuple : mg "tuple" = none
  n_zip : mg "zip" = none
  f_init_Missing : Addr
  fd_init_Missing : FuncData
  F_init_Missing : Fun K "__init__" "Missing.__init__" s_init_Missing f_init_Missing fd_init_Missing
  b_init_Missing : Binds K fd_init_Missing ["self"] []
  f_init_NothingLeft : Addr
  fd_init_NothingLeft : FuncData
  F_init_NothingLeft : Fun K "__init__" "NothingLeft.__init__" s_init_NothingLeft f_init_NothingLeft fd_init_NothingLeft
  b_init_NothingLeft : Binds K fd_init_NothingLeft ["self"] []
  f_init_TableError : Addr
  fd_init_TableError : FuncData
  F_init_TableError : Fun K "__init__" "TableError.__init__" s_init_TableError f_init_TableError fd_init_TableError
  b_init_TableError : Binds K fd_init_TableError ["self"] []
  E_InvalidArguments : DE1.ErrM0 K mg "InvalidArguments" f_init_TableError
  E_InvalidValue : DE1.ErrM0 K mg "InvalidValue" f_init_TableError
  E_InvalidColumns : DE1.ErrM0 K mg "InvalidColumns" f_init_TableError
  E_NothingLeft : DE1.ErrM0 K mg "NothingLeft" f_init_NothingLeft
  E_InvalidText : DE1.ErrM0 K mg "InvalidText" f_init_TableError
  E_ColumnsDiffer : DE1.ErrM0 K mg "ColumnsDiffer" f_init_TableError
  E_NotOpen : DE1.ErrM0 K mg "NotOpen" f_init_TableError
  E_InvalidLimit : DX.ErrF P w K mg "InvalidLimit" "given" f_init_TableError
  V_InvalidLimit : ∀ C, mg "InvalidLimit" = some (.ref C) → ErrV K "InvalidLimit" C
  E_InvalidCount : DX.ErrF P w K mg "InvalidCount" "given" f_init_TableError
  V_InvalidCount : ∀ C, mg "InvalidCount" = some (.ref C) → ErrV K "InvalidCount" C
  E_InvalidName : DX.ErrF P w K mg "InvalidName" "given" f_init_TableError
  V_InvalidName : ∀ C, mg "InvalidName" = some (.ref C) → ErrV K "InvalidName" C
  E_InvalidRule : DX.ErrF P w K mg "InvalidRule" "index" f_init_TableError
  V_InvalidRule : ∀ C, mg "InvalidRule" = some (.ref C) → ErrV K "InvalidRule" C
  E_InvalidComparison : DX.ErrF P w K mg "InvalidComparison" "index" f_init_TableError
  V_InvalidComparison : ∀ C, mg "InvalidComparison" = some (.ref C) → ErrV K "InvalidComparison" C
  E_InvalidRow : DX.ErrF P w K mg "InvalidRow" "index" f_init_TableError
  V_InvalidRow : ∀ C, mg "InvalidRow" = some (.ref C) → ErrV K "InvalidRow" C
  E_InvalidCommand : DX.ErrF P w K mg "InvalidCommand" "index" f_init_TableError
  V_InvalidCommand : ∀ C, mg "InvalidCommand" = some (.ref C) → ErrV K "InvalidCommand" C
  E_InvalidLine : DX.ErrF P w K mg "InvalidLine" "index" f_init_TableError
  V_InvalidLine : ∀ C, mg "InvalidLine" = some (.ref C) → ErrV K "InvalidLine" C
  E_FailsLate : DX.ErrF P w K mg "FailsLate" "index" f_init_TableError
  V_FailsLate : ∀ C, mg "FailsLate" = some (.ref C) → ErrV K "FailsLate" C
  E_InvalidStatement : DX.ErrF P w K mg "InvalidStatement" "path" f_init_TableError
  V_InvalidStatement : ∀ C, mg "InvalidStatement" = some (.ref C) → ErrV K "InvalidStatement" C
  E_InvalidCondition : DX.ErrF P w K mg "InvalidCondition" "path" f_init_TableError
  V_InvalidCondition : ∀ C, mg "InvalidCondition" = some (.ref C) → ErrV K "InvalidCondition" C
  E_UnknownName : DX.ErrF P w K mg "UnknownName" "name" f_init_Missing
  V_UnknownName : ∀ C, mg "UnknownName" = some (.ref C) → ErrV K "UnknownName" C
  E_WrongKind : DX.ErrF P w K mg "WrongKind" "name" f_init_TableError
  V_WrongKind : ∀ C, mg "WrongKind" = some (.ref C) → ErrV K "WrongKind" C
  E_DuplicateName : DX.ErrF P w K mg "DuplicateName" "name" f_init_TableError
  V_DuplicateName : ∀ C, mg "DuplicateName" = some (.ref C) → ErrV K "DuplicateName" C
  E_UnknownKey : DX.ErrF P w K mg "UnknownKey" "key" f_init_Missing
  V_UnknownKey : ∀ C, mg "UnknownKey" = some (.ref C) → ErrV K "UnknownKey" C
  E_Failed : DX.ErrF P w K mg "Failed" "word" f_init_TableError
  V_Failed : ∀ C, mg "Failed" = some (.ref C) → ErrV K "Failed" C
  E_Full : DX.ErrF P w K mg "Full" "limit" f_init_TableError
  V_Full : ∀ C, mg "Full" = some (.ref C) → ErrV K "Full" C
  E_TooWide : DX.ErrF P w K mg "TooWide" "most" f_init_TableError
  V_TooWide : ∀ C, mg "TooWide" = some (.ref C) → ErrV K "TooWide" C
  E_NotCarried : DX.ErrF P w K mg "NotCarried" "witness" f_init_TableError
  V_NotCarried : ∀ C, mg "NotCarried" = some (.ref C) → ErrV K "NotCarried" C
  ik_LookupError : DE1.TabE K (.type "LookupError") tab_LookupError
  ik_ValueError : DE1.TabE K (.type "ValueError") tab_ValueError
  ic_NothingLeft : Addr
  im_NothingLeft : mg "NothingLeft" = some (.ref ic_NothingLeft)
  ik_NothingLeft : DE1.TabE K (.ref ic_NothingLeft) tab_NothingLeft
  ic_Missing : Addr
  im_Missing : mg "Missing" = some (.ref ic_Missing)
  ik_Missing : DE1.TabE K (.ref ic_Missing) tab_Missing
  ic_TableError : Addr
  im_TableError : mg "TableError" = some (.ref ic_TableError)
  ik_TableError : DE1.TabE K (.ref ic_TableError) tab_TableError
  ik_IndexError : DE1.TabE K (.type "IndexError") tab_IndexError
  ic_InvalidCount : Addr
  im_InvalidCount : mg "InvalidCount" = some (.ref ic_InvalidCount)
  ik_InvalidCount : DE1.TabE K (.ref ic_InvalidCount) tab_InvalidCount
  ic_InvalidName : Addr
  im_InvalidName : mg "InvalidName" = some (.ref ic_InvalidName)
  ik_InvalidName : DE1.TabE K (.ref ic_InvalidName) tab_InvalidName
  f_Ldraws : Addr
  fd_Ldraws : FuncData
  F_Ldraws : Fun K "_law_draws" "_law_draws" s_Ldraws f_Ldraws fd_Ldraws
  m_Ldraws : mg "_law_draws" = some (.ref f_Ldraws)
  b_Ldraws : Binds K fd_Ldraws ["_law_script"] []
  f_Lpull : Addr
  fd_Lpull : FuncData
  F_Lpull : Fun K "_law_pull" "_law_pull" s_Lpull f_Lpull fd_Lpull
  m_Lpull : mg "_law_pull" = some (.ref f_Lpull)
  b_Lpull : Binds K fd_Lpull ["_law_bag", "_law_sides"] []
  f_Lany : Addr
  fd_Lany : FuncData
  F_Lany : Fun K "_law_any" "_law_any" s_Lany f_Lany fd_Lany
  m_Lany : mg "_law_any" = some (.ref f_Lany)
  b_Lany : Binds K fd_Lany ["_law_bag", "_law_rows"] []
  f_Llike : Addr
  fd_Llike : FuncData
  F_Llike : Fun K "_law_like" "_law_like" s_Llike f_Llike fd_Llike
  m_Llike : mg "_law_like" = some (.ref f_Llike)
  b_Llike : Binds K fd_Llike ["_law_a", "_law_b"] []
  f_Lfar : Addr
  fd_Lfar : FuncData
  F_Lfar : Fun K "_law_far" "_law_far" s_Lfar f_Lfar fd_Lfar
  m_Lfar : mg "_law_far" = some (.ref f_Lfar)
  b_Lfar : Binds K fd_Lfar ["_law_bag"] []
  f_Lbases : Addr
  fd_Lbases : FuncData
  F_Lbases : Fun K "_law_bases" "_law_bases" s_Lbases f_Lbases fd_Lbases
  m_Lbases : mg "_law_bases" = some (.ref f_Lbases)
  b_Lbases : Binds K fd_Lbases ["_law_e"] []
  f_Lgiven : Addr
  fd_Lgiven : FuncData
  F_Lgiven : Fun K "_law_given" "_law_given" s_Lgiven f_Lgiven fd_Lgiven
  m_Lgiven : mg "_law_given" = some (.ref f_Lgiven)
  b_Lgiven : Binds K fd_Lgiven ["_law_a"] []
  f_law : Addr
  fd_law : FuncData
  F_law : Fun K "law" "law" s_law f_law fd_law
  m_law : mg "law" = some (.ref f_law)
  b_law : Binds K fd_law ["_law_script"] []
section
variable {P : Program} {w : World} {K : PySem.W.Frag} {mg : Str → Option Value} {base : Heap}
--@HAND _law_draws (level None)
omit [DL.Me] in
def F_Lpull : FD := fnD N_Lpull.length (kSeq (kAsg (m2 gAdd (mBagIx (mVar 0) (mC (.int 4))) (mC (.int 1))) (hBag (mVar 0) (mC (.int 4))))
    (kSeq (kIf (mAndB (mB (m2 gEq (mBagIx (mVar 0) (mC (.int 2))) (mC (.int 0)))) (mB (m2 oLt (mBagIx (mVar 0) (mC (.int 1))) (mCall gLen (mCons (mBagIx (mVar 0) (mC (.int 0))) mNil))))) (kSeq (kAsg (mTup (mCons (m2 gIx (mBagIx (mVar 0) (mC (.int 0))) (mBagIx (mVar 0) (mC (.int 1)))) (mCons (m2 gAdd (mBagIx (mVar 0) (mC (.int 1))) (mC (.int 1))) mNil))) (hTup 2 (hCons (hName 3) (hCons (hBag (mVar 0) (mC (.int 1))) hNil))))
    (kSeq (kIf (mB (m2 oGe (mVar 3) (m2 gPow (mC (.int 10)) (mC (.int 18))))) (kAsg (mVar 3) (hBag (mVar 0) (mC (.int 2)))) kSkip)
    (kAsg (m2 gMod (mCall gInt1 (mCons (m2 gAdd (m2 gAdd (m2 gMul (mBagIx (mVar 0) (mC (.int 3))) (mC (.int 38377))) (m2 gMul (m2 gMod (mCall gInt1 (mCons (mVar 3) mNil)) (mC (.int 2147483489))) (mC (.int 41143)))) (mC (.int 61))) mNil)) (mC (.int 2147483549))) (hBag (mVar 0) (mC (.int 3)))))) kSkip)
    (kSeq (kIf (mB (m2 oGt (mBagIx (mVar 0) (mC (.int 2))) (mC (.int 0)))) (kSeq (kAsg (mTup (mCons (m2 gMod (mCall gInt1 (mCons (mBagIx (mVar 0) (mC (.int 2))) mNil)) (mVar 1)) (mCons (m2 gDiv (mBagIx (mVar 0) (mC (.int 2))) (mVar 1)) mNil))) (hTup 2 (hCons (hName 4) (hCons (hBag (mVar 0) (mC (.int 2))) hNil))))
    (kRet (mVar 4))) kSkip)
    (kSeq (kAsg (mBagIx (mVar 0) (mC (.int 3))) (hName 2))
    (kSeq (kAsg (m2 gMod (mCall gInt1 (mCons (m2 gAdd (m2 gAdd (m2 gAdd (m2 gPow (mVar 2) (mC (.int 3))) (m2 gMul (mVar 2) (mC (.int 37813)))) (m2 gMul (mBagIx (mVar 0) (mC (.int 4))) (mC (.int 1299689)))) (mC (.int 65437))) mNil)) (mC (.int 2147483549))) (hBag (mVar 0) (mC (.int 3))))
    (kRet (m2 gMod (mCall gInt1 (mCons (m2 gAdd (m2 gDiv (mBagIx (mVar 0) (mC (.int 3))) (mC (.int 89))) (m2 gMul (m2 gMod (mCall gInt1 (mCons (mBagIx (mVar 0) (mC (.int 3))) mNil)) (mC (.int 7919))) (mC (.int 71)))) mNil)) (mVar 1))))))))
theorem ok_Lpull (T : Tx P w K mg) : FnOk P w K mg base CX0 1 T.f_Lpull T.fd_Lpull ["_law_bag", "_law_sides"] (spD K 2 F_Lpull) :=
  fn_ok T.F_Lpull sc_Lpull rfl fun cdv A outer s H E hr => (
    (dss_cons (ds_asg (de_add (de_bagIx (de_var 0 (pv 0)) de_int) de_int) (dg_bag (de_var 0 (pv 0)) de_int)) (dss_cons (ds_if (DW.dt (dw_and (dt_cmp (op_eqD hr.units) r2_eq (de_bagIx (de_var 0 (pv 0)) de_int) de_int (nomark _)) (dw_and1 (dt_cmp (op_lt.or op_lt_str) r2_lt (de_bagIx (de_var 0 (pv 0)) de_int) (de_callB call_len ok_len (by rfl) T.n_len (by decide +kernel) (da_cons (de_bagIx (de_var 0 (pv 0)) de_int) da_nil)) (nomark _))))) (dss_cons (ds_asg (de_tup (da_cons (de_ix (de_bagIx (de_var 0 (pv 0)) de_int) (de_bagIx (de_var 0 (pv 0)) de_int)) (da_cons (de_add (de_bagIx (de_var 0 (pv 0)) de_int) de_int) da_nil))) (dg_tup rfl (dgs_cons (dg_name (i := 3) sc_Lpull.nd rfl (by first | exact .inl rfl | exact .inr rfl)) (dgs_cons (dg_bag (de_var 0 (pv 0)) de_int) dgs_nil)))) (dss_cons (ds_if (dt_cmp (op_ge.or op_ge_str) r2_ge (de_var 3 (pv 3)) (de_pow de_int de_int) (nomark _)) (dss_one (ds_asg (de_var 3 (pv 3)) (dg_bag (de_var 0 (pv 0)) de_int))) dss_nil) (dss_one (ds_asg (de_mod (de_callT call_int1 ok_int1 (by rfl) T.n_int (by decide +kernel) (da_cons (de_add (de_add (de_mul (de_bagIx (de_var 0 (pv 0)) de_int) de_int) (de_mul (de_mod (de_callT call_int1 ok_int1 (by rfl) T.n_int (by decide +kernel) (da_cons (de_var 3 (pv 3)) da_nil)) de_int) de_int)) de_int) da_nil)) de_int) (dg_bag (de_var 0 (pv 0)) de_int))))) dss_nil) (dss_cons (ds_if (dt_cmp (op_gt.or op_gt_str) r2_gt (de_bagIx (de_var 0 (pv 0)) de_int) de_int (nomark _)) (dss_cons (ds_asg (de_tup (da_cons (de_mod (de_callT call_int1 ok_int1 (by rfl) T.n_int (by decide +kernel) (da_cons (de_bagIx (de_var 0 (pv 0)) de_int) da_nil)) (de_var 1 (pv 1))) (da_cons (de_fdiv (de_bagIx (de_var 0 (pv 0)) de_int) (de_var 1 (pv 1))) da_nil))) (dg_tup rfl (dgs_cons (dg_name (i := 4) sc_Lpull.nd rfl (by first | exact .inl rfl | exact .inr rfl)) (dgs_cons (dg_bag (de_var 0 (pv 0)) de_int) dgs_nil)))) (dss_one (ds_ret (de_var 4 (pv 4))))) dss_nil) (dss_cons (ds_set (i := 2) sc_Lpull.nd rfl (by first | exact .inl rfl | exact .inr rfl) (de_bagIx (de_var 0 (pv 0)) de_int)) (dss_cons (ds_asg (de_mod (de_callT call_int1 ok_int1 (by rfl) T.n_int (by decide +kernel) (da_cons (de_add (de_add (de_add (de_pow (de_var 2 (pv 2)) de_int) (de_mul (de_var 2 (pv 2)) de_int)) (de_mul (de_bagIx (de_var 0 (pv 0)) de_int) de_int)) de_int) da_nil)) de_int) (dg_bag (de_var 0 (pv 0)) de_int)) (dss_one (ds_ret (de_mod (de_callT call_int1 ok_int1 (by rfl) T.n_int (by decide +kernel) (da_cons (de_add (de_fdiv (de_bagIx (de_var 0 (pv 0)) de_int) de_int) (de_mul (de_mod (de_callT call_int1 ok_int1 (by rfl) T.n_int (by decide +kernel) (da_cons (de_bagIx (de_var 0 (pv 0)) de_int) da_nil)) de_int) de_int)) da_nil)) (de_var 1 (pv 1)))))))))))
omit [DL.Me] in
def F_Lany : FD := fnD N_Lany.length (kRet (m2 gIx (mVar 1) (mApp F_Lpull (mCons (mVar 0) (mCons (mCall gLen (mCons (mVar 1) mNil)) mNil)))))
theorem ok_Lany (T : Tx P w K mg) : FnOk P w K mg base CX0 2 T.f_Lany T.fd_Lany ["_law_bag", "_law_rows"] (spD K 2 F_Lany) :=
  fn_ok T.F_Lany sc_Lany rfl fun cdv A outer s H E hr => (
    (dss_one (ds_ret (de_ix (de_var 1 (pv 1)) (de_call (ok_Lpull T) (hr.mono (by first | decide | omega)) (by rfl) T.m_Lpull T.F_Lpull.kp T.b_Lpull (da_cons (de_var 0 (pv 0)) (da_cons (de_callB call_len ok_len (by rfl) T.n_len (by decide +kernel) (da_cons (de_var 1 (pv 1)) da_nil)) da_nil)) (len_cons (len_cons len_nil)))))))
omit [DL.Me] in
def B_Llike (R : FD) : FD := fnD N_Llike.length (kSeq (kIf (mB (mIsi (fun d => isLst d || isTup d) (mVar 1))) (kSeq (kAsg (mAndV (m2 gEq (mIsi isLst (mVar 0)) (mIsi isLst (mVar 1))) (m2 gEq (mIsi isTup (mVar 0)) (mIsi isTup (mVar 1)))) (hName 2))
    (kRet (mAndV (mVar 2) (mAndV (m2 gEq (mCall gLen (mCons (mVar 0) mNil)) (mCall gLen (mCons (mVar 1) mNil))) (mCall gAll (mCons (mComp [3, 4] (wZip (mCons (mVar 0) (mCons (mVar 1) mNil))) (hTup 2 (hCons (hName 3) (hCons (hName 4) hNil))) mYes (mApp R (mCons (mVar 3) (mCons (mVar 4) mNil)))) mNil)))))) kSkip)
    (kSeq (kIf (mOrB (mB (m2 gIsN (mVar 0) (mC .non))) (mOrB (mB (m2 gIsN (mVar 1) (mC .non))) (mB (m2 gNe (mIsi isBl (mVar 0)) (mIsi isBl (mVar 1)))))) (kRet (mAndV (m2 gIsN (mVar 0) (mC .non)) (m2 gIsN (mVar 1) (mC .non)))) kSkip)
    (kRet (mAndV (m2 gEq (mIsi isInt (mVar 0)) (mIsi isInt (mVar 1))) (mAndV (m2 gEq (mIsi isStr (mVar 0)) (mIsi isStr (mVar 1))) (m2 gEq (mVar 0) (mVar 1)))))))
omit [DL.Me] in
def F_Llike : Nat → FD
  | 0 => fun _ _ => none
  | n + 1 => B_Llike (F_Llike n)
theorem step_Llike (T : Tx P w K mg) {k : Nat} {R : FD} (hk : 0 ≤ k) (ih : FnOk P w K mg base CX0 k T.f_Llike T.fd_Llike ["_law_a", "_law_b"] (spD K 2 R)) : FnOk P w K mg base CX0 (k + 1) T.f_Llike T.fd_Llike ["_law_a", "_law_b"] (spD K 2 (B_Llike R)) :=
  fn_ok T.F_Llike sc_Llike rfl fun cdv A outer s H E hr => (
    (dss_cons (ds_if (dt_val (de_isi2 kit_lst kit_tup (by rfl) T.n_isinstance (by decide +kernel) (de_var 1 (pv 1)) (by rfl) T.n_list (by decide +kernel) (by rfl) T.n_tuple (by decide +kernel))) (dss_cons (ds_set (i := 2) sc_Llike.nd rfl (by first | exact .inl rfl | exact .inr rfl) (de_and (de_cmp (op_eqD hr.units) r2_eq (de_isi kit_lst (by rfl) T.n_isinstance (by decide +kernel) (de_var 0 (pv 0)) (by rfl) T.n_list (by decide +kernel)) (de_isi kit_lst (by rfl) T.n_isinstance (by decide +kernel) (de_var 1 (pv 1)) (by rfl) T.n_list (by decide +kernel)) (nomark _)) (de_one (de_cmp (op_eqD hr.units) r2_eq (de_isi kit_tup (by rfl) T.n_isinstance (by decide +kernel) (de_var 0 (pv 0)) (by rfl) T.n_tuple (by decide +kernel)) (de_isi kit_tup (by rfl) T.n_isinstance (by decide +kernel) (de_var 1 (pv 1)) (by rfl) T.n_tuple (by decide +kernel)) (nomark _))))) (dss_one (ds_ret (de_and (de_var 2 (pv 2)) (de_and (de_cmp (op_eqD hr.units) r2_eq (de_callB call_len ok_len (by rfl) T.n_len (by decide +kernel) (da_cons (de_var 0 (pv 0)) da_nil)) (de_callB call_len ok_len (by rfl) T.n_len (by decide +kernel) (da_cons (de_var 1 (pv 1)) da_nil)) (nomark _)) (de_one (de_callB (cr_all rfl) ok_all (by rfl) T.n_all (by decide +kernel) (da_cons (de_comp (own := [("_law_c", 3), ("_law_d", 4)]) rfl sc_Llike.nd (di_zip (by rfl) T.n_zip (da_cons (de_var 0 (pv 0)) (da_cons (de_var 1 (pv 1)) da_nil))) (blkOk_by (own := [("_law_c", 3), ("_law_d", 4)]) (N := N_Llike) (sc := defScope s_Llike) (by decide +kernel)) (fun _ _ _ _ _ => (dg_tup rfl (dgs_cons (dg_name (i := 3) sc_Llike.nd rfl (by first | exact .inl rfl | exact .inr rfl)) (dgs_cons (dg_name (i := 4) sc_Llike.nd rfl (by first | exact .inl rfl | exact .inr rfl)) dgs_nil)))) (fun _ _ _ _ _ => dts_nil) (fun _ _ _ _ _ => (de_call ih (hr.mono (by omega)) (by rfl) T.m_Llike T.F_Llike.kp T.b_Llike (da_cons (de_var 3 (pv 3)) (da_cons (de_var 4 (pv 4)) da_nil)) (len_cons (len_cons len_nil)))) (by decide)) da_nil)))))))) dss_nil) (dss_cons (ds_if (DW.dt (dw_or (dt_cmp op_isN r2_isN (de_var 0 (pv 0)) de_non (nomark _)) (dw_or (dt_cmp op_isN r2_isN (de_var 1 (pv 1)) de_non (nomark _)) (dw_or1 (dt_cmp (op_neD hr.units) r2_ne (de_isi kit_bl (by rfl) T.n_isinstance (by decide +kernel) (de_var 0 (pv 0)) (by rfl) T.n_bool (by decide +kernel)) (de_isi kit_bl (by rfl) T.n_isinstance (by decide +kernel) (de_var 1 (pv 1)) (by rfl) T.n_bool (by decide +kernel)) (nomark _)))))) (dss_one (ds_ret (de_and (de_cmp op_isN r2_isN (de_var 0 (pv 0)) de_non (nomark _)) (de_one (de_cmp op_isN r2_isN (de_var 1 (pv 1)) de_non (nomark _)))))) dss_nil) (dss_one (ds_ret (de_and (de_cmp (op_eqD hr.units) r2_eq (de_isi kit_int (by rfl) T.n_isinstance (by decide +kernel) (de_var 0 (pv 0)) (by rfl) T.n_int (by decide +kernel)) (de_isi kit_int (by rfl) T.n_isinstance (by decide +kernel) (de_var 1 (pv 1)) (by rfl) T.n_int (by decide +kernel)) (nomark _)) (de_and (de_cmp (op_eqD hr.units) r2_eq (de_isi kit_str (by rfl) T.n_isinstance (by decide +kernel) (de_var 0 (pv 0)) (by rfl) T.n_str (by decide +kernel)) (de_isi kit_str (by rfl) T.n_isinstance (by decide +kernel) (de_var 1 (pv 1)) (by rfl) T.n_str (by decide +kernel)) (nomark _)) (de_one (de_cmp (op_eqD hr.units) r2_eq (de_var 0 (pv 0)) (de_var 1 (pv 1)) (nomark _))))))))))
theorem ok_Llike (T : Tx P w K mg) : ∀ n : Nat, FnOk P w K mg base CX0 (0 + n) T.f_Llike T.fd_Llike ["_law_a", "_law_b"] (spD K 2 (F_Llike n))
  | 0 => fn_none
  | n + 1 => step_Llike T (Nat.le_add_right _ _) (ok_Llike T n)
omit [DL.Me] in
def F_Lfar : FD := fnD N_Lfar.length (kSeq (kAsg (mApp F_Lpull (mCons (mVar 0) (mCons (m2 gPow (mC (.int 10)) (mC (.int 9))) mNil))) (hName 1))
    (kRet (mApp F_Lany (mCons (mVar 0) (mCons (mLst (mCons (mC (.int 0)) (mCons (mC (.int 1)) (mCons (m2 gSub0 (mC (.int 0)) (mC (.int 1))) (mCons (mC (.int 2)) (mCons (m2 gSub0 (mC (.int 5)) (mApp F_Lpull (mCons (mVar 0) (mCons (mC (.int 11)) mNil)))) (mCons (m2 gSub0 (mVar 1) (m2 gPow (mC (.int 10)) (mC (.int 8)))) (mCons (m2 gSub0 (m2 gPow (mC (.int 10)) (mC (.int 30))) (mVar 1)) (mCons (m2 gSub0 (mVar 1) (m2 gPow (mC (.int 10)) (mC (.int 30)))) mNil))))))))) mNil)))))
theorem ok_Lfar (T : Tx P w K mg) : FnOk P w K mg base CX0 3 T.f_Lfar T.fd_Lfar ["_law_bag"] (spD K 1 F_Lfar) :=
  fn_ok T.F_Lfar sc_Lfar rfl fun cdv A outer s H E hr => (
    (dss_cons (ds_set (i := 1) sc_Lfar.nd rfl (by first | exact .inl rfl | exact .inr rfl) (de_call (ok_Lpull T) (hr.mono (by first | decide | omega)) (by rfl) T.m_Lpull T.F_Lpull.kp T.b_Lpull (da_cons (de_var 0 (pv 0)) (da_cons (de_pow de_int de_int) da_nil)) (len_cons (len_cons len_nil)))) (dss_one (ds_ret (de_call (ok_Lany T) (hr.mono (by first | decide | omega)) (by rfl) T.m_Lany T.F_Lany.kp T.b_Lany (da_cons (de_var 0 (pv 0)) (da_cons (de_lst (da_cons de_int (da_cons de_int (da_cons (de_sub de_int de_int) (da_cons de_int (da_cons (de_sub de_int (de_call (ok_Lpull T) (hr.mono (by first | decide | omega)) (by rfl) T.m_Lpull T.F_Lpull.kp T.b_Lpull (da_cons (de_var 0 (pv 0)) (da_cons de_int da_nil)) (len_cons (len_cons len_nil)))) (da_cons (de_sub (de_var 1 (pv 1)) (de_pow de_int de_int)) (da_cons (de_sub (de_pow de_int de_int) (de_var 1 (pv 1))) (da_cons (de_sub (de_var 1 (pv 1)) (de_pow de_int de_int)) da_nil))))))))) da_nil)) (len_cons (len_cons len_nil)))))))
omit [DL.Me] in
def F_Lbases : FD := fnD N_Lbases.length (kRet (mLst (mCons (DE1.mIsE tab_TableError (mVar 0)) (mCons (DE1.mIsE tab_Missing (mVar 0)) (mCons (DE1.mIsE tab_NothingLeft (mVar 0)) (mCons (DE1.mIsE tab_ValueError (mVar 0)) (mCons (DE1.mIsE tab_LookupError (mVar 0)) mNil)))))))
theorem ok_Lbases (T : Tx P w K mg) : FnOk P w K mg base CX0 1 T.f_Lbases T.fd_Lbases ["_law_e"] (spD K 1 F_Lbases) :=
  fn_ok T.F_Lbases sc_Lbases rfl fun cdv A outer s H E hr => (
    (dss_one (ds_ret (de_lst (da_cons (DE1.de_isEo (by rfl) T.im_TableError T.ik_TableError (by rfl) T.n_isinstance (by decide +kernel) (de_var 0 (pv 0))) (da_cons (DE1.de_isEo (by rfl) T.im_Missing T.ik_Missing (by rfl) T.n_isinstance (by decide +kernel) (de_var 0 (pv 0))) (da_cons (DE1.de_isEo (by rfl) T.im_NothingLeft T.ik_NothingLeft (by rfl) T.n_isinstance (by decide +kernel) (de_var 0 (pv 0))) (da_cons (DE1.de_isEb (by rfl) T.n_ValueError (by decide +kernel) T.ik_ValueError (by rfl) T.n_isinstance (by decide +kernel) (de_var 0 (pv 0))) (da_cons (DE1.de_isEb (by rfl) T.n_LookupError (by decide +kernel) T.ik_LookupError (by rfl) T.n_isinstance (by decide +kernel) (de_var 0 (pv 0))) da_nil)))))))))
omit [DL.Me] in
def F_Lgiven : FD := fnD N_Lgiven.length (kSeq (kAsg (mLst (mCons (mTup (mCons (DE1.mErr1 "InvalidName" "given" (mVar 0)) (mCons (mC (.str "InvalidName")) mNil))) (mCons (mTup (mCons (DE1.mErr1 "InvalidCount" "given" (mVar 0)) (mCons (mC (.str "InvalidCount")) mNil))) (mCons (mTup (mCons (DE1.mErr1 "InvalidLimit" "given" (mVar 0)) (mCons (mC (.str "InvalidLimit")) mNil))) mNil)))) (hName 1))
    (kSeq (kAsg (mLst (mCons (mTup (mCons (DE1.mErr1 "InvalidRow" "index" (mVar 0)) (mCons (mC (.str "InvalidRow")) mNil))) (mCons (mTup (mCons (DE1.mErr1 "InvalidComparison" "index" (mVar 0)) (mCons (mC (.str "InvalidComparison")) mNil))) (mCons (mTup (mCons (DE1.mErr1 "InvalidRule" "index" (mVar 0)) (mCons (mC (.str "InvalidRule")) mNil))) mNil)))) (hName 2))
    (kSeq (kAsg (m2 gAdd (mVar 2) (mLst (mCons (mTup (mCons (DE1.mErr1 "FailsLate" "index" (mVar 0)) (mCons (mC (.str "FailsLate")) mNil))) (mCons (mTup (mCons (DE1.mErr1 "InvalidLine" "index" (mVar 0)) (mCons (mC (.str "InvalidLine")) mNil))) (mCons (mTup (mCons (DE1.mErr1 "InvalidCommand" "index" (mVar 0)) (mCons (mC (.str "InvalidCommand")) mNil))) mNil))))) (hName 2))
    (kSeq (kAsg (mLst (mCons (mTup (mCons (DE1.mErr1 "InvalidCondition" "path" (mTup (mCons (mC (.int 1)) (mCons (mC (.int 2)) mNil)))) (mCons (mC (.str "InvalidCondition")) mNil))) (mCons (mTup (mCons (DE1.mErr1 "InvalidStatement" "path" (mTup (mCons (mC (.int 1)) (mCons (mC (.int 2)) mNil)))) (mCons (mC (.str "InvalidStatement")) mNil))) mNil))) (hName 3))
    (kRet (mTup (mCons (mVar 1) (mCons (mVar 2) (mCons (mVar 3) (mCons (mLst (mCons (mTup (mCons (DE1.mErr1 "DuplicateName" "name" (mVar 0)) (mCons (mC (.str "DuplicateName")) mNil))) (mCons (mTup (mCons (DE1.mErr1 "WrongKind" "name" (mVar 0)) (mCons (mC (.str "WrongKind")) mNil))) (mCons (mTup (mCons (DE1.mErr1 "UnknownName" "name" (mVar 0)) (mCons (mC (.str "UnknownName")) mNil))) mNil)))) mNil))))))))))
theorem ok_Lgiven (T : Tx P w K mg) : FnOk P w K mg base CX0 4 T.f_Lgiven T.fd_Lgiven ["_law_a"] (spD K 1 F_Lgiven) :=
  fn_ok T.F_Lgiven sc_Lgiven rfl fun cdv A outer s H E hr => (
    (dss_cons (ds_set (i := 1) sc_Lgiven.nd rfl (by first | exact .inl rfl | exact .inr rfl) (de_lst (da_cons (de_tup (da_cons (DE1.de_err1K T.E_InvalidName T.V_InvalidName (hr.mono (by first | decide | omega)) (DX.ok_init (k := 0) T.F_init_TableError sc_init_TableError rfl (Or.inl rfl) fun _ => rfl) T.b_init_TableError (by rfl) (de_var 0 (pv 0))) (da_cons de_str da_nil))) (da_cons (de_tup (da_cons (DE1.de_err1K T.E_InvalidCount T.V_InvalidCount (hr.mono (by first | decide | omega)) (DX.ok_init (k := 0) T.F_init_TableError sc_init_TableError rfl (Or.inl rfl) fun _ => rfl) T.b_init_TableError (by rfl) (de_var 0 (pv 0))) (da_cons de_str da_nil))) (da_cons (de_tup (da_cons (DE1.de_err1K T.E_InvalidLimit T.V_InvalidLimit (hr.mono (by first | decide | omega)) (DX.ok_init (k := 0) T.F_init_TableError sc_init_TableError rfl (Or.inl rfl) fun _ => rfl) T.b_init_TableError (by rfl) (de_var 0 (pv 0))) (da_cons de_str da_nil))) da_nil))))) (dss_cons (ds_set (i := 2) sc_Lgiven.nd rfl (by first | exact .inl rfl | exact .inr rfl) (de_lst (da_cons (de_tup (da_cons (DE1.de_err1K T.E_InvalidRow T.V_InvalidRow (hr.mono (by first | decide | omega)) (DX.ok_init (k := 0) T.F_init_TableError sc_init_TableError rfl (Or.inl rfl) fun _ => rfl) T.b_init_TableError (by rfl) (de_var 0 (pv 0))) (da_cons de_str da_nil))) (da_cons (de_tup (da_cons (DE1.de_err1K T.E_InvalidComparison T.V_InvalidComparison (hr.mono (by first | decide | omega)) (DX.ok_init (k := 0) T.F_init_TableError sc_init_TableError rfl (Or.inl rfl) fun _ => rfl) T.b_init_TableError (by rfl) (de_var 0 (pv 0))) (da_cons de_str da_nil))) (da_cons (de_tup (da_cons (DE1.de_err1K T.E_InvalidRule T.V_InvalidRule (hr.mono (by first | decide | omega)) (DX.ok_init (k := 0) T.F_init_TableError sc_init_TableError rfl (Or.inl rfl) fun _ => rfl) T.b_init_TableError (by rfl) (de_var 0 (pv 0))) (da_cons de_str da_nil))) da_nil))))) (dss_cons (ds_set (i := 2) sc_Lgiven.nd rfl (by first | exact .inl rfl | exact .inr rfl) (de_add (de_var 2 (pv 2)) (de_lst (da_cons (de_tup (da_cons (DE1.de_err1K T.E_FailsLate T.V_FailsLate (hr.mono (by first | decide | omega)) (DX.ok_init (k := 0) T.F_init_TableError sc_init_TableError rfl (Or.inl rfl) fun _ => rfl) T.b_init_TableError (by rfl) (de_var 0 (pv 0))) (da_cons de_str da_nil))) (da_cons (de_tup (da_cons (DE1.de_err1K T.E_InvalidLine T.V_InvalidLine (hr.mono (by first | decide | omega)) (DX.ok_init (k := 0) T.F_init_TableError sc_init_TableError rfl (Or.inl rfl) fun _ => rfl) T.b_init_TableError (by rfl) (de_var 0 (pv 0))) (da_cons de_str da_nil))) (da_cons (de_tup (da_cons (DE1.de_err1K T.E_InvalidCommand T.V_InvalidCommand (hr.mono (by first | decide | omega)) (DX.ok_init (k := 0) T.F_init_TableError sc_init_TableError rfl (Or.inl rfl) fun _ => rfl) T.b_init_TableError (by rfl) (de_var 0 (pv 0))) (da_cons de_str da_nil))) da_nil)))))) (dss_cons (ds_set (i := 3) sc_Lgiven.nd rfl (by first | exact .inl rfl | exact .inr rfl) (de_lst (da_cons (de_tup (da_cons (DE1.de_err1K T.E_InvalidCondition T.V_InvalidCondition (hr.mono (by first | decide | omega)) (DX.ok_init (k := 0) T.F_init_TableError sc_init_TableError rfl (Or.inl rfl) fun _ => rfl) T.b_init_TableError (by rfl) (de_tup (da_cons de_int (da_cons de_int da_nil)))) (da_cons de_str da_nil))) (da_cons (de_tup (da_cons (DE1.de_err1K T.E_InvalidStatement T.V_InvalidStatement (hr.mono (by first | decide | omega)) (DX.ok_init (k := 0) T.F_init_TableError sc_init_TableError rfl (Or.inl rfl) fun _ => rfl) T.b_init_TableError (by rfl) (de_tup (da_cons de_int (da_cons de_int da_nil)))) (da_cons de_str da_nil))) da_nil)))) (dss_one (ds_ret (de_tup (da_cons (de_var 1 (pv 1)) (da_cons (de_var 2 (pv 2)) (da_cons (de_var 3 (pv 3)) (da_cons (de_lst (da_cons (de_tup (da_cons (DE1.de_err1K T.E_DuplicateName T.V_DuplicateName (hr.mono (by first | decide | omega)) (DX.ok_init (k := 0) T.F_init_TableError sc_init_TableError rfl (Or.inl rfl) fun _ => rfl) T.b_init_TableError (by rfl) (de_var 0 (pv 0))) (da_cons de_str da_nil))) (da_cons (de_tup (da_cons (DE1.de_err1K T.E_WrongKind T.V_WrongKind (hr.mono (by first | decide | omega)) (DX.ok_init (k := 0) T.F_init_TableError sc_init_TableError rfl (Or.inl rfl) fun _ => rfl) T.b_init_TableError (by rfl) (de_var 0 (pv 0))) (da_cons de_str da_nil))) (da_cons (de_tup (da_cons (DE1.de_err1K T.E_UnknownName T.V_UnknownName (hr.mono (by first | decide | omega)) (DX.ok_init (k := 0) T.F_init_Missing sc_init_Missing rfl (Or.inl rfl) fun _ => rfl) T.b_init_Missing (by rfl) (de_var 0 (pv 0))) (da_cons de_str da_nil))) da_nil)))) da_nil))))))))))))
--@HAND law (level 6)
omit [DL.Me] in
def B_law : DMs := (kSeq (kAsg (mTup (mCons (mApp F_Lany (mCons (mVar 1) (mCons (mLst (mCons (mApp F_Lfar (mCons (mVar 1) mNil)) (mCons (mC (.str "late")) (mCons (mC .non) mNil)))) mNil))) (mCons (mLst (mCons (mTup (mCons (mC (.int 1)) mNil)) (mCons (mTup (mCons (mC (.int 2)) mNil)) (mCons (mTup (mCons (m2 gAdd (mC (.int 4)) (mApp F_Lpull (mCons (mVar 1) (mCons (mC (.int 9)) mNil)))) mNil)) mNil)))) mNil))) (hTup 2 (hCons (hName 5) (hCons (hName 6) hNil))))
    (kSeq (kAsg (mApp F_Lgiven (mCons (mVar 5) mNil)) (hTup 4 (hCons (hName 7) (hCons (hName 8) (hCons (hName 9) (hCons (hName 10) hNil))))))
    (kSeq (kAsg (m2 gAdd (mComp [17, 18] (wLst (mVar 7)) (hTup 2 (hCons (hName 17) (hCons (hName 18) hNil))) mYes (mApp (F_Llike 4) (mCons (mLst (mCons (DE1.mEfl "code" (mVar 17)) (mCons (DE1.mEfl "given" (mVar 17)) mNil))) (mCons (mLst (mCons (mVar 18) (mCons (mVar 5) mNil))) mNil)))) (mComp [17, 18] (wLst (mVar 8)) (hTup 2 (hCons (hName 17) (hCons (hName 18) hNil))) mYes (mApp (F_Llike 4) (mCons (mLst (mCons (DE1.mEfl "code" (mVar 17)) (mCons (DE1.mEfl "index" (mVar 17)) mNil))) (mCons (mLst (mCons (mVar 18) (mCons (mVar 5) mNil))) mNil))))) (hName 2))
    (kSeq (kAsg (m2 gAdd (m2 gAdd (mVar 2) (mComp [17, 18] (wLst (mVar 9)) (hTup 2 (hCons (hName 17) (hCons (hName 18) hNil))) mYes (mApp (F_Llike 4) (mCons (mLst (mCons (DE1.mEfl "code" (mVar 17)) (mCons (DE1.mEfl "path" (mVar 17)) mNil))) (mCons (mLst (mCons (mVar 18) (mCons (mTup (mCons (mC (.int 1)) (mCons (mC (.int 2)) mNil))) mNil))) mNil))))) (mComp [17, 18] (wLst (mVar 10)) (hTup 2 (hCons (hName 17) (hCons (hName 18) hNil))) mYes (mApp (F_Llike 4) (mCons (mLst (mCons (DE1.mEfl "code" (mVar 17)) (mCons (DE1.mEfl "name" (mVar 17)) mNil))) (mCons (mLst (mCons (mVar 18) (mCons (mVar 5) mNil))) mNil))))) (hName 2))
    (kSeq (kIf (mNotB (mB (mCall gAll (mCons (mVar 2) mNil)))) (kRet (mC (.bl false))) kSkip)
    (kSeq (kAsg (mLst (mCons (mTup (mCons (DE1.mErr0 "InvalidColumns") (mCons (mC (.str "InvalidColumns")) mNil))) (mCons (mTup (mCons (DE1.mErr0 "InvalidValue") (mCons (mC (.str "InvalidValue")) mNil))) (mCons (mTup (mCons (DE1.mErr0 "InvalidArguments") (mCons (mC (.str "InvalidArguments")) mNil))) mNil)))) (hName 3))
    (kSeq (kAsg (m2 gAdd (mVar 3) (mLst (mCons (mTup (mCons (DE1.mErr0 "NotOpen") (mCons (mC (.str "NotOpen")) mNil))) (mCons (mTup (mCons (DE1.mErr0 "ColumnsDiffer") (mCons (mC (.str "ColumnsDiffer")) mNil))) (mCons (mTup (mCons (DE1.mErr0 "InvalidText") (mCons (mC (.str "InvalidText")) mNil))) (mCons (mTup (mCons (DE1.mErr0 "NothingLeft") (mCons (mC (.str "NothingLeft")) mNil))) mNil)))))) (hName 3))
    (kSeq (kIf (mNotB (mB (mCall gAll (mCons (mComp [17, 18] (wLst (mVar 3)) (hTup 2 (hCons (hName 17) (hCons (hName 18) hNil))) mYes (mApp (F_Llike 4) (mCons (DE1.mEfl "code" (mVar 17)) (mCons (mVar 18) mNil)))) mNil)))) (kRet (mC (.bl false))) kSkip)
    (kSeq (kAsg (mTup (mCons (DE1.mErr1 "NotCarried" "witness" (mVar 6)) (mCons (DE1.mErr1 "TooWide" "most" (mVar 5)) (mCons (DE1.mErr1 "Full" "limit" (mVar 5)) (mCons (DE1.mErr1 "Failed" "word" (mVar 5)) (mCons (DE1.mErr1 "UnknownKey" "key" (mVar 5)) mNil)))))) (hTup 5 (hCons (hName 11) (hCons (hName 12) (hCons (hName 13) (hCons (hName 14) (hCons (hName 15) hNil)))))))
    (kSeq (kAsg (mLst (mCons (DE1.mEfl "code" (mVar 11)) (mCons (DE1.mEfl "witness" (mVar 11)) (mCons (DE1.mEfl "code" (mVar 12)) (mCons (DE1.mEfl "most" (mVar 12)) (mCons (DE1.mEfl "code" (mVar 13)) (mCons (DE1.mEfl "limit" (mVar 13)) (mCons (DE1.mEfl "code" (mVar 14)) (mCons (DE1.mEfl "word" (mVar 14)) (mCons (DE1.mEfl "code" (mVar 15)) (mCons (DE1.mEfl "key" (mVar 15)) mNil))))))))))) (hName 2))
    (kSeq (kIf (mNotB (mB (mApp (F_Llike 4) (mCons (mVar 2) (mCons (mLst (mCons (mC (.str "NotCarried")) (mCons (mVar 6) (mCons (mC (.str "TooWide")) (mCons (mVar 5) (mCons (mC (.str "Full")) (mCons (mVar 5) (mCons (mC (.str "Failed")) (mCons (mVar 5) (mCons (mC (.str "UnknownKey")) (mCons (mVar 5) mNil))))))))))) mNil))))) (kRet (mC (.bl false))) kSkip)
    (kSeq (kAsg (m2 gAdd (mComp [16] (wLst (m2 gAdd (m2 gAdd (m2 gAdd (m2 gAdd (mVar 7) (mVar 8)) (mVar 9)) (mSl (mVar 10) mNoP (mPart (mC (.int 2))))) (mSl (mVar 3) mNoP (mPart (mC (.int 6)))))) (hName 16) mYes (m2 gIx (mVar 16) (mC (.int 0)))) (mLst (mCons (mVar 11) (mCons (mVar 12) (mCons (mVar 13) (mCons (mVar 14) mNil)))))) (hName 4))
    (kSeq (kIf (mNotB (mB (mCall gAll (mCons (mComp [17] (wLst (mVar 4)) (hName 17) mYes (m2 gEq (mApp F_Lbases (mCons (mVar 17) mNil)) (mLst (mCons (mC (.bl true)) (mCons (mC (.bl false)) (mCons (mC (.bl false)) (mCons (mC (.bl true)) (mCons (mC (.bl false)) mNil)))))))) mNil)))) (kRet (mC (.bl false))) kSkip)
    (kSeq (kIf (mNotB (mB (mCall gAll (mCons (mComp [17] (wTup (mTup (mCons (m2 gIx (m2 gIx (mVar 10) (mC (.int 2))) (mC (.int 0))) (mCons (mVar 15) mNil)))) (hName 17) mYes (m2 gEq (mApp F_Lbases (mCons (mVar 17) mNil)) (mLst (mCons (mC (.bl false)) (mCons (mC (.bl true)) (mCons (mC (.bl false)) (mCons (mC (.bl false)) (mCons (mC (.bl true)) mNil)))))))) mNil)))) (kRet (mC (.bl false))) kSkip)
    (kSeq (kIf (mOrB (mB (m2 gNe (mApp F_Lbases (mCons (m2 gIx (m2 gIx (mVar 3) (mC (.int 6))) (mC (.int 0))) mNil)) (mLst (mCons (mC (.bl false)) (mCons (mC (.bl false)) (mCons (mC (.bl true)) (mCons (mC (.bl false)) (mCons (mC (.bl true)) mNil)))))))) (mNotB (mB (DE1.mIsE tab_IndexError (m2 gIx (m2 gIx (mVar 3) (mC (.int 6))) (mC (.int 0))))))) (kRet (mC (.bl false))) kSkip)
    (kRet (mAndV (mNotV (DE1.mIsE tab_InvalidCount (m2 gIx (m2 gIx (mVar 7) (mC (.int 0))) (mC (.int 0))))) (mAndV (mNotV (DE1.mIsE tab_InvalidName (m2 gIx (m2 gIx (mVar 10) (mC (.int 0))) (mC (.int 0))))) (mNotV (DE1.mIsE tab_InvalidName (mVar 14)))))))))))))))))))))
set_option maxHeartbeats 4000000 in
theorem dss_law (T : Tx P w K mg) {cdv : Value} {A : Around} {outer : List Env} {s : Shared} {H : Hp} {E : XK} (hr : Room 5 (A.deeper (envOfC "law" (defScope s_law) s.heap.objs.size T.f_law cdv))) :
    DSs (cxOf CX0 P w K mg base N_law "law" (defScope s_law) T.f_law cdv A outer s H E).nox (defBody s_law).tail B_law := (
    (dss_cons (ds_asg (de_tup (da_cons (de_call (ok_Lany T) (hr.mono (by first | decide | omega)) (by rfl) T.m_Lany T.F_Lany.kp T.b_Lany (da_cons (de_var 1 (pv 1)) (da_cons (de_lst (da_cons (de_call (ok_Lfar T) (hr.mono (by first | decide | omega)) (by rfl) T.m_Lfar T.F_Lfar.kp T.b_Lfar (da_cons (de_var 1 (pv 1)) da_nil) (len_cons len_nil)) (da_cons de_str (da_cons de_non da_nil)))) da_nil)) (len_cons (len_cons len_nil))) (da_cons (de_lst (da_cons (de_tup (da_cons de_int da_nil)) (da_cons (de_tup (da_cons de_int da_nil)) (da_cons (de_tup (da_cons (de_add de_int (de_call (ok_Lpull T) (hr.mono (by first | decide | omega)) (by rfl) T.m_Lpull T.F_Lpull.kp T.b_Lpull (da_cons (de_var 1 (pv 1)) (da_cons de_int da_nil)) (len_cons (len_cons len_nil)))) da_nil)) da_nil)))) da_nil))) (dg_tup rfl (dgs_cons (dg_name (i := 5) sc_law.nd rfl (by first | exact .inl rfl | exact .inr rfl)) (dgs_cons (dg_name (i := 6) sc_law.nd rfl (by first | exact .inl rfl | exact .inr rfl)) dgs_nil)))) (dss_cons (ds_asg (de_call (ok_Lgiven T) (hr.mono (by first | decide | omega)) (by rfl) T.m_Lgiven T.F_Lgiven.kp T.b_Lgiven (da_cons (de_var 5 (pv 5)) da_nil) (len_cons len_nil)) (dg_tup rfl (dgs_cons (dg_name (i := 7) sc_law.nd rfl (by first | exact .inl rfl | exact .inr rfl)) (dgs_cons (dg_name (i := 8) sc_law.nd rfl (by first | exact .inl rfl | exact .inr rfl)) (dgs_cons (dg_name (i := 9) sc_law.nd rfl (by first | exact .inl rfl | exact .inr rfl)) (dgs_cons (dg_name (i := 10) sc_law.nd rfl (by first | exact .inl rfl | exact .inr rfl)) dgs_nil)))))) (dss_cons (ds_set (i := 2) sc_law.nd rfl (by first | exact .inl rfl | exact .inr rfl) (de_add (de_comp (own := [("_law_e", 17), ("_law_code", 18)]) rfl sc_law.nd (di_list (de_var 7 (pv 7))) (blkOk_by (own := [("_law_e", 17), ("_law_code", 18)]) (N := N_law) (sc := defScope s_law) (by decide +kernel)) (fun _ _ _ _ _ => (dg_tup rfl (dgs_cons (dg_name (i := 17) sc_law.nd rfl (by first | exact .inl rfl | exact .inr rfl)) (dgs_cons (dg_name (i := 18) sc_law.nd rfl (by first | exact .inl rfl | exact .inr rfl)) dgs_nil)))) (fun _ _ _ _ _ => dts_nil) (fun _ _ _ _ _ => (de_call (ok_Llike T 4) (hr.mono (by first | decide | omega)) (by rfl) T.m_Llike T.F_Llike.kp T.b_Llike (da_cons (de_lst (da_cons (DE1.de_efl (by decide) (de_var 17 (pv 17))) (da_cons (DE1.de_efl (by decide) (de_var 17 (pv 17))) da_nil))) (da_cons (de_lst (da_cons (de_var 18 (pv 18)) (da_cons (de_var 5 (pv 5)) da_nil))) da_nil)) (len_cons (len_cons len_nil)))) (by decide)) (de_comp (own := [("_law_e", 17), ("_law_code", 18)]) rfl sc_law.nd (di_list (de_var 8 (pv 8))) (blkOk_by (own := [("_law_e", 17), ("_law_code", 18)]) (N := N_law) (sc := defScope s_law) (by decide +kernel)) (fun _ _ _ _ _ => (dg_tup rfl (dgs_cons (dg_name (i := 17) sc_law.nd rfl (by first | exact .inl rfl | exact .inr rfl)) (dgs_cons (dg_name (i := 18) sc_law.nd rfl (by first | exact .inl rfl | exact .inr rfl)) dgs_nil)))) (fun _ _ _ _ _ => dts_nil) (fun _ _ _ _ _ => (de_call (ok_Llike T 4) (hr.mono (by first | decide | omega)) (by rfl) T.m_Llike T.F_Llike.kp T.b_Llike (da_cons (de_lst (da_cons (DE1.de_efl (by decide) (de_var 17 (pv 17))) (da_cons (DE1.de_efl (by decide) (de_var 17 (pv 17))) da_nil))) (da_cons (de_lst (da_cons (de_var 18 (pv 18)) (da_cons (de_var 5 (pv 5)) da_nil))) da_nil)) (len_cons (len_cons len_nil)))) (by decide)))) (dss_cons (ds_set (i := 2) sc_law.nd rfl (by first | exact .inl rfl | exact .inr rfl) (de_add (de_add (de_var 2 (pv 2)) (de_comp (own := [("_law_e", 17), ("_law_code", 18)]) rfl sc_law.nd (di_list (de_var 9 (pv 9))) (blkOk_by (own := [("_law_e", 17), ("_law_code", 18)]) (N := N_law) (sc := defScope s_law) (by decide +kernel)) (fun _ _ _ _ _ => (dg_tup rfl (dgs_cons (dg_name (i := 17) sc_law.nd rfl (by first | exact .inl rfl | exact .inr rfl)) (dgs_cons (dg_name (i := 18) sc_law.nd rfl (by first | exact .inl rfl | exact .inr rfl)) dgs_nil)))) (fun _ _ _ _ _ => dts_nil) (fun _ _ _ _ _ => (de_call (ok_Llike T 4) (hr.mono (by first | decide | omega)) (by rfl) T.m_Llike T.F_Llike.kp T.b_Llike (da_cons (de_lst (da_cons (DE1.de_efl (by decide) (de_var 17 (pv 17))) (da_cons (DE1.de_efl (by decide) (de_var 17 (pv 17))) da_nil))) (da_cons (de_lst (da_cons (de_var 18 (pv 18)) (da_cons (de_tup (da_cons de_int (da_cons de_int da_nil))) da_nil))) da_nil)) (len_cons (len_cons len_nil)))) (by decide))) (de_comp (own := [("_law_e", 17), ("_law_code", 18)]) rfl sc_law.nd (di_list (de_var 10 (pv 10))) (blkOk_by (own := [("_law_e", 17), ("_law_code", 18)]) (N := N_law) (sc := defScope s_law) (by decide +kernel)) (fun _ _ _ _ _ => (dg_tup rfl (dgs_cons (dg_name (i := 17) sc_law.nd rfl (by first | exact .inl rfl | exact .inr rfl)) (dgs_cons (dg_name (i := 18) sc_law.nd rfl (by first | exact .inl rfl | exact .inr rfl)) dgs_nil)))) (fun _ _ _ _ _ => dts_nil) (fun _ _ _ _ _ => (de_call (ok_Llike T 4) (hr.mono (by first | decide | omega)) (by rfl) T.m_Llike T.F_Llike.kp T.b_Llike (da_cons (de_lst (da_cons (DE1.de_efl (by decide) (de_var 17 (pv 17))) (da_cons (DE1.de_efl (by decide) (de_var 17 (pv 17))) da_nil))) (da_cons (de_lst (da_cons (de_var 18 (pv 18)) (da_cons (de_var 5 (pv 5)) da_nil))) da_nil)) (len_cons (len_cons len_nil)))) (by decide)))) (dss_cons (ds_if (dt_not (dt_val (de_callB (cr_all rfl) ok_all (by rfl) T.n_all (by decide +kernel) (da_cons (de_var 2 (pv 2)) da_nil)))) (dss_one (ds_ret de_bl)) dss_nil) (dss_cons (ds_set (i := 3) sc_law.nd rfl (by first | exact .inl rfl | exact .inr rfl) (de_lst (da_cons (de_tup (da_cons (DE1.de_err0K T.E_InvalidColumns (hr.mono (by first | decide | omega)) (DX.ok_init (k := 0) T.F_init_TableError sc_init_TableError rfl (Or.inl rfl) fun _ => rfl) T.b_init_TableError (by rfl)) (da_cons de_str da_nil))) (da_cons (de_tup (da_cons (DE1.de_err0K T.E_InvalidValue (hr.mono (by first | decide | omega)) (DX.ok_init (k := 0) T.F_init_TableError sc_init_TableError rfl (Or.inl rfl) fun _ => rfl) T.b_init_TableError (by rfl)) (da_cons de_str da_nil))) (da_cons (de_tup (da_cons (DE1.de_err0K T.E_InvalidArguments (hr.mono (by first | decide | omega)) (DX.ok_init (k := 0) T.F_init_TableError sc_init_TableError rfl (Or.inl rfl) fun _ => rfl) T.b_init_TableError (by rfl)) (da_cons de_str da_nil))) da_nil))))) (dss_cons (ds_set (i := 3) sc_law.nd rfl (by first | exact .inl rfl | exact .inr rfl) (de_add (de_var 3 (pv 3)) (de_lst (da_cons (de_tup (da_cons (DE1.de_err0K T.E_NotOpen (hr.mono (by first | decide | omega)) (DX.ok_init (k := 0) T.F_init_TableError sc_init_TableError rfl (Or.inl rfl) fun _ => rfl) T.b_init_TableError (by rfl)) (da_cons de_str da_nil))) (da_cons (de_tup (da_cons (DE1.de_err0K T.E_ColumnsDiffer (hr.mono (by first | decide | omega)) (DX.ok_init (k := 0) T.F_init_TableError sc_init_TableError rfl (Or.inl rfl) fun _ => rfl) T.b_init_TableError (by rfl)) (da_cons de_str da_nil))) (da_cons (de_tup (da_cons (DE1.de_err0K T.E_InvalidText (hr.mono (by first | decide | omega)) (DX.ok_init (k := 0) T.F_init_TableError sc_init_TableError rfl (Or.inl rfl) fun _ => rfl) T.b_init_TableError (by rfl)) (da_cons de_str da_nil))) (da_cons (de_tup (da_cons (DE1.de_err0K T.E_NothingLeft (hr.mono (by first | decide | omega)) (DX.ok_init (k := 0) T.F_init_NothingLeft sc_init_NothingLeft rfl (Or.inl rfl) fun _ => rfl) T.b_init_NothingLeft (by rfl)) (da_cons de_str da_nil))) da_nil))))))) (dss_cons (ds_if (dt_not (dt_val (de_callB (cr_all rfl) ok_all (by rfl) T.n_all (by decide +kernel) (da_cons (de_comp (own := [("_law_e", 17), ("_law_code", 18)]) rfl sc_law.nd (di_list (de_var 3 (pv 3))) (blkOk_by (own := [("_law_e", 17), ("_law_code", 18)]) (N := N_law) (sc := defScope s_law) (by decide +kernel)) (fun _ _ _ _ _ => (dg_tup rfl (dgs_cons (dg_name (i := 17) sc_law.nd rfl (by first | exact .inl rfl | exact .inr rfl)) (dgs_cons (dg_name (i := 18) sc_law.nd rfl (by first | exact .inl rfl | exact .inr rfl)) dgs_nil)))) (fun _ _ _ _ _ => dts_nil) (fun _ _ _ _ _ => (de_call (ok_Llike T 4) (hr.mono (by first | decide | omega)) (by rfl) T.m_Llike T.F_Llike.kp T.b_Llike (da_cons (DE1.de_efl (by decide) (de_var 17 (pv 17))) (da_cons (de_var 18 (pv 18)) da_nil)) (len_cons (len_cons len_nil)))) (by decide)) da_nil)))) (dss_one (ds_ret de_bl)) dss_nil) (dss_cons (ds_asg (de_tup (da_cons (DE1.de_err1K T.E_NotCarried T.V_NotCarried (hr.mono (by first | decide | omega)) (DX.ok_init (k := 0) T.F_init_TableError sc_init_TableError rfl (Or.inl rfl) fun _ => rfl) T.b_init_TableError (by rfl) (de_var 6 (pv 6))) (da_cons (DE1.de_err1K T.E_TooWide T.V_TooWide (hr.mono (by first | decide | omega)) (DX.ok_init (k := 0) T.F_init_TableError sc_init_TableError rfl (Or.inl rfl) fun _ => rfl) T.b_init_TableError (by rfl) (de_var 5 (pv 5))) (da_cons (DE1.de_err1K T.E_Full T.V_Full (hr.mono (by first | decide | omega)) (DX.ok_init (k := 0) T.F_init_TableError sc_init_TableError rfl (Or.inl rfl) fun _ => rfl) T.b_init_TableError (by rfl) (de_var 5 (pv 5))) (da_cons (DE1.de_err1K T.E_Failed T.V_Failed (hr.mono (by first | decide | omega)) (DX.ok_init (k := 0) T.F_init_TableError sc_init_TableError rfl (Or.inl rfl) fun _ => rfl) T.b_init_TableError (by rfl) (de_var 5 (pv 5))) (da_cons (DE1.de_err1K T.E_UnknownKey T.V_UnknownKey (hr.mono (by first | decide | omega)) (DX.ok_init (k := 0) T.F_init_Missing sc_init_Missing rfl (Or.inl rfl) fun _ => rfl) T.b_init_Missing (by rfl) (de_var 5 (pv 5))) da_nil)))))) (dg_tup rfl (dgs_cons (dg_name (i := 11) sc_law.nd rfl (by first | exact .inl rfl | exact .inr rfl)) (dgs_cons (dg_name (i := 12) sc_law.nd rfl (by first | exact .inl rfl | exact .inr rfl)) (dgs_cons (dg_name (i := 13) sc_law.nd rfl (by first | exact .inl rfl | exact .inr rfl)) (dgs_cons (dg_name (i := 14) sc_law.nd rfl (by first | exact .inl rfl | exact .inr rfl)) (dgs_cons (dg_name (i := 15) sc_law.nd rfl (by first | exact .inl rfl | exact .inr rfl)) dgs_nil))))))) (dss_cons (ds_set (i := 2) sc_law.nd rfl (by first | exact .inl rfl | exact .inr rfl) (de_lst (da_cons (DE1.de_efl (by decide) (de_var 11 (pv 11))) (da_cons (DE1.de_efl (by decide) (de_var 11 (pv 11))) (da_cons (DE1.de_efl (by decide) (de_var 12 (pv 12))) (da_cons (DE1.de_efl (by decide) (de_var 12 (pv 12))) (da_cons (DE1.de_efl (by decide) (de_var 13 (pv 13))) (da_cons (DE1.de_efl (by decide) (de_var 13 (pv 13))) (da_cons (DE1.de_efl (by decide) (de_var 14 (pv 14))) (da_cons (DE1.de_efl (by decide) (de_var 14 (pv 14))) (da_cons (DE1.de_efl (by decide) (de_var 15 (pv 15))) (da_cons (DE1.de_efl (by decide) (de_var 15 (pv 15))) da_nil)))))))))))) (dss_cons (ds_if (dt_not (dt_val (de_call (ok_Llike T 4) (hr.mono (by first | decide | omega)) (by rfl) T.m_Llike T.F_Llike.kp T.b_Llike (da_cons (de_var 2 (pv 2)) (da_cons (de_lst (da_cons de_str (da_cons (de_var 6 (pv 6)) (da_cons de_str (da_cons (de_var 5 (pv 5)) (da_cons de_str (da_cons (de_var 5 (pv 5)) (da_cons de_str (da_cons (de_var 5 (pv 5)) (da_cons de_str (da_cons (de_var 5 (pv 5)) da_nil))))))))))) da_nil)) (len_cons (len_cons len_nil))))) (dss_one (ds_ret de_bl)) dss_nil) (dss_cons (ds_set (i := 4) sc_law.nd rfl (by first | exact .inl rfl | exact .inr rfl) (de_add (de_comp (own := [("_law_pair", 16)]) rfl sc_law.nd (di_list (de_add (de_add (de_add (de_add (de_var 7 (pv 7)) (de_var 8 (pv 8))) (de_var 9 (pv 9))) (de_sl (de_var 10 (pv 10)) do_none (do_some de_int))) (de_sl (de_var 3 (pv 3)) do_none (do_some de_int)))) (blkOk_by (own := [("_law_pair", 16)]) (N := N_law) (sc := defScope s_law) (by decide +kernel)) (fun _ _ _ _ _ => (dg_name (i := 16) sc_law.nd rfl (by first | exact .inl rfl | exact .inr rfl))) (fun _ _ _ _ _ => dts_nil) (fun _ _ _ _ _ => (de_ix (de_var 16 (pv 16)) de_int)) (by decide)) (de_lst (da_cons (de_var 11 (pv 11)) (da_cons (de_var 12 (pv 12)) (da_cons (de_var 13 (pv 13)) (da_cons (de_var 14 (pv 14)) da_nil))))))) (dss_cons (ds_if (dt_not (dt_val (de_callB (cr_all rfl) ok_all (by rfl) T.n_all (by decide +kernel) (da_cons (de_comp (own := [("_law_e", 17)]) rfl sc_law.nd (di_list (de_var 4 (pv 4))) (blkOk_by (own := [("_law_e", 17)]) (N := N_law) (sc := defScope s_law) (by decide +kernel)) (fun _ _ _ _ _ => (dg_name (i := 17) sc_law.nd rfl (by first | exact .inl rfl | exact .inr rfl))) (fun _ _ _ _ _ => dts_nil) (fun _ _ _ _ _ => (de_cmp (op_eqD hr.units) r2_eq (de_call (ok_Lbases T) (hr.mono (by first | decide | omega)) (by rfl) T.m_Lbases T.F_Lbases.kp T.b_Lbases (da_cons (de_var 17 (pv 17)) da_nil) (len_cons len_nil)) (de_lst (da_cons de_bl (da_cons de_bl (da_cons de_bl (da_cons de_bl (da_cons de_bl da_nil)))))) (nomark _))) (by decide)) da_nil)))) (dss_one (ds_ret de_bl)) dss_nil) (dss_cons (ds_if (dt_not (dt_val (de_callB (cr_all rfl) ok_all (by rfl) T.n_all (by decide +kernel) (da_cons (de_comp (own := [("_law_e", 17)]) rfl sc_law.nd (di_tup (de_tup (da_cons (de_ix (de_ix (de_var 10 (pv 10)) de_int) de_int) (da_cons (de_var 15 (pv 15)) da_nil)))) (blkOk_by (own := [("_law_e", 17)]) (N := N_law) (sc := defScope s_law) (by decide +kernel)) (fun _ _ _ _ _ => (dg_name (i := 17) sc_law.nd rfl (by first | exact .inl rfl | exact .inr rfl))) (fun _ _ _ _ _ => dts_nil) (fun _ _ _ _ _ => (de_cmp (op_eqD hr.units) r2_eq (de_call (ok_Lbases T) (hr.mono (by first | decide | omega)) (by rfl) T.m_Lbases T.F_Lbases.kp T.b_Lbases (da_cons (de_var 17 (pv 17)) da_nil) (len_cons len_nil)) (de_lst (da_cons de_bl (da_cons de_bl (da_cons de_bl (da_cons de_bl (da_cons de_bl da_nil)))))) (nomark _))) (by decide)) da_nil)))) (dss_one (ds_ret de_bl)) dss_nil) (dss_cons (ds_if (DW.dt (dw_or (dt_cmp (op_neD hr.units) r2_ne (de_call (ok_Lbases T) (hr.mono (by first | decide | omega)) (by rfl) T.m_Lbases T.F_Lbases.kp T.b_Lbases (da_cons (de_ix (de_ix (de_var 3 (pv 3)) de_int) de_int) da_nil) (len_cons len_nil)) (de_lst (da_cons de_bl (da_cons de_bl (da_cons de_bl (da_cons de_bl (da_cons de_bl da_nil)))))) (nomark _)) (dw_or1 (dt_not (dt_val (DE1.de_isEb (by rfl) T.n_IndexError (by decide +kernel) T.ik_IndexError (by rfl) T.n_isinstance (by decide +kernel) (de_ix (de_ix (de_var 3 (pv 3)) de_int) de_int))))))) (dss_one (ds_ret de_bl)) dss_nil) (dss_one (ds_ret (de_and (de_not (DE1.de_isEo (by rfl) T.im_InvalidCount T.ik_InvalidCount (by rfl) T.n_isinstance (by decide +kernel) (de_ix (de_ix (de_var 7 (pv 7)) de_int) de_int))) (de_and (de_not (DE1.de_isEo (by rfl) T.im_InvalidName T.ik_InvalidName (by rfl) T.n_isinstance (by decide +kernel) (de_ix (de_ix (de_var 10 (pv 10)) de_int) de_int))) (de_one (de_not (DE1.de_isEo (by rfl) T.im_InvalidName T.ik_InvalidName (by rfl) T.n_isinstance (by decide +kernel) (de_var 14 (pv 14)))))))))))))))))))))))))
abbrev lvLaw : Nat := 6
end
/-! ### the draws -/
def spDraws (K : PySem.W.Frag) : Sp := fun vs H Q _ => ∃ (a : Addr) (ns : List Int), vs = [.ref a] ∧ SqL K H a (ns.map V.int) ∧ ns.length ≤ 63 ∧
  ∀ (β l : Addr) (seed : Int) (H' : Hp), 0 ≤ seed → seed < 2147483549 → Same H H' → H β = none → β ≠ l → H' l = some (.lst (ns.map V.int)) → H' β = some (.lst [.ref l, .int 0, .int 0, .int seed, .int 0]) → Q (.ref β) H'
theorem cut63 {ns : List Int} (h : ns.length ≤ 63) : cutV (ns.map V.int) none (some 63) = ns.map V.int := by
  unfold cutV
  have e1 : HT.sIx (ns.map V.int).length 0 none = 0 := rfl
  have e2 : HT.sIx (ns.map V.int).length (ns.map V.int).length (some 63) = ns.length := by
    unfold HT.sIx
    simp
    omega
  rw [e1, e2]
  exact List.take_of_length_le (by simp)
section
variable {P : Program} {w : World} {K : PySem.W.Frag} {mg : Str → Option Value} {base : Heap}
theorem ok_Ldraws (T : Tx P w K mg) : FnOk P w K mg base CX0 1 T.f_Ldraws T.fd_Ldraws ["_law_script"] (spDraws K) := by
  refine T.F_Ldraws.ok sc_Ldraws (fun vs H Q E h => ?_) (fun cdv A outer s H vs Q E hr h => ?_)
  · obtain ⟨a, ns, rfl, _⟩ := h
    rfl
  · obtain ⟨a, ns, rfl, hS, hlen, k⟩ := h
    refine ⟨_, pss_cons (ps_set (i := 1) sc_Ldraws.nd rfl (.inl rfl) pe_int)
      (pss_cons (ps_for PassesOwn.never rfl (pi_list (pe_slice sl_list (pv 0) po_none (po_some pe_int))) (pg_name (i := 2) sc_Ldraws.nd rfl (.inl rfl)) (pss_one (ps_set (i := 1) sc_Ldraws.nd rfl (.inl rfl)
        (pe_op op_mod (pe_callTy call_int1 (by rfl) T.n_int (by decide +kernel) (pa_cons (pe_op op_add (pe_op op_add (pe_op op_mul (pv 1) pe_int) (pe_op op_mod (pe_callTy call_int1 (by rfl) T.n_int (by decide +kernel) (pa_cons (pv 2) pa_nil)) pe_int)) pe_int) pa_nil)) pe_int))))
      (pss_one (ps_ret (pe_lst (pa_cons (pe_callTy call_list_of (by rfl) T.n_list (by decide +kernel) (pa_cons (pe_slice sl_list (pv 0) po_none (po_some pe_int)) pa_nil)) (pa_cons pe_int (pa_cons pe_int (pa_cons (pv 1) (pa_cons pe_int pa_nil))))))))), ?_⟩
    refine ⟨_, rfl, _, rfl, a, _, rfl, hS, fun p hp => ⟨p, rfl, ⟨_, SqL.of upd_same⟩, ?_⟩⟩
    rw [cut63 hlen]
    have s1 : Same H (upd H p (.lst (ns.map V.int))) := fun b o e => by rw [upd_ne (ne_of_none e hp)]; exact e
    refine for_list (K := K) (a := p) (xs := ns.map V.int) (fun i σ H2 => ∃ (seed : Int) (v : Option V), 0 ≤ seed ∧ seed < 2147483549 ∧ σ = [some (.ref a), some (.int seed), v] ∧ H2 = upd H p (.lst (ns.map V.int)))
      ⟨5648, none, by decide, by decide, rfl, rfl⟩ (fun i σ H2 _ ⟨_, _, _, _, _, e⟩ => by rw [e]; exact SqL.of upd_same) ?_ ?_
    · rintro i y σ H2 hi ⟨seed, v, h0, h1, rfl, rfl⟩
      obtain ⟨z, rfl⟩ : ∃ z, y = V.int z := by
        rw [List.getElem?_map] at hi
        cases e : ns[i]? with
        | none => rw [e] at hi; cases hi
        | some z => rw [e] at hi; exact ⟨z, (Option.some.inj hi).symm⟩
      refine ⟨_, rfl, _, _, rfl, rfl, .inl ⟨by omega, by omega⟩, _, rfl, .inl ⟨_, rfl, _, _, rfl, rfl, (by show (0 : Int) < 2147483489; decide), _, _, rfl, rfl, _, _, rfl, rfl, .inl ⟨_, rfl, _, _, rfl, rfl, (by show (0 : Int) < 2147483549; decide), ?_⟩⟩⟩
      exact ⟨_, _, Int.emod_nonneg _ (by decide), Int.emod_lt_of_pos _ (by decide), rfl, rfl⟩
    · rintro σ H2 ⟨seed, v, h0, h1, rfl, rfl⟩
      refine ⟨_, rfl, _, rfl, a, ns.map V.int, rfl, ?_, fun q hq => ⟨q, _, rfl, .inl (SqL.of upd_same), fun l hl => ⟨_, rfl, (by show 5 ≤ sizeLine; decide), fun β hβ => ?_⟩⟩⟩
      · exact s1.seq hS
      · rw [cut63 hlen] at hl hβ ⊢
        have s2 : Same H (upd (upd (upd H p (.lst (ns.map V.int))) q (.lst (ns.map V.int))) l (.lst (ns.map V.int))) := fun b o e => by
          have e1 := s1 b o e
          rw [upd_ne (ne_of_none (show (upd (upd H p (.lst (ns.map V.int))) q (.lst (ns.map V.int))) b = some o by rw [upd_ne (ne_of_none e1 hq)]; exact e1) hl), upd_ne (ne_of_none e1 hq)]
          exact e1
        refine k β l seed _ h0 h1 (fun b o e => ?_) (s2.free hβ) ?_ ?_ upd_same
        · rw [upd_ne (ne_of_none (s2 b o e) hβ)]; exact s2 b o e
        · intro e; subst e; rw [upd_same] at hβ; cases hβ
        · have n : l ≠ β := by intro e; subst e; rw [upd_same] at hβ; cases hβ
          rw [upd_ne n, upd_same]
theorem ok_law (T : Tx P w K mg) (hB : ∀ (ns : List Int) (seed : Int), ns.length ≤ 63 → 0 ≤ seed → seed < 2147483549 → ∃ s', B_law ⟨[none, some (.dat .bag)] ++ List.replicate (N_law.length - 2) none, bag0 ns seed⟩ = some (.rt (.bl true), s')) :
    FnOk P w K mg base CX0 lvLaw T.f_law T.fd_law ["_law_script"] (spLaw K) := by
  refine T.F_law.ok sc_law (fun vs H Q E h => ?_) (fun cdv A outer s H vs Q E hr h => ?_)
  · obtain ⟨a, ns, rfl, _⟩ := h
    rfl
  · obtain ⟨a, ns, rfl, hS, hlen, ht, k⟩ := h
    obtain ⟨t, p, o⟩ := dss_law (P := P) (w := w) (base := base) T (cdv := cdv) (A := A) (outer := outer) (s := s) (H := H) (E := E) hr
    refine ⟨_, pss_cons (ps_set (i := 1) sc_law.nd rfl (.inl rfl) (pe_call (ok_Ldraws T) (hr.mono (by decide)) (by rfl) T.m_Ldraws T.F_Ldraws.kp T.b_Ldraws .nil pass0 (pa_cons (pv 0) pa_nil))) p, ?_⟩
    refine ⟨_, rfl, a, ns, rfl, hS, hlen, fun β l seed H' h0 h1 sm _ hn hl hb => ?_⟩
    obtain ⟨s', hs⟩ := hB ns seed hlen h0 h1
    refine o β _ _ H' _ _ _ s' (law_rel (n := N_law.length - 2) (a := .ref a) hn hl hb fun q hq => sm _ _ (ht q hq)) hs _ ?_
    intro v σ' H2 G2 _ _ iv
    rw [is_bl.mp iv]
    exact k H2
end
theorem q_any : F_Lany = sLany := rfl
theorem q_far : F_Lfar = sLfar := rfl
theorem q_pull : F_Lpull = sLpull := rfl
theorem q_like : ∀ n, F_Llike n = sLlike n
  | 0 => rfl
  | n + 1 => by show B_Llike (F_Llike n) = sLlikeB (sLlike n); rw [q_like n]; rfl
abbrev e1 (nm fld : Str) (a : Dt) : Dt := .err nm [fld, "code"] [a, .str nm]
abbrev e0 (nm : Str) : Dt := .err nm ["code"] [.str nm]
abbrev p1 (nm fld : Str) (a : Dt) : Dt := .tup [e1 nm fld a, .str nm]
abbrev p0 (nm : Str) : Dt := .tup [e0 nm, .str nm]
def oneTwo : Dt := .tup [.int 1, .int 2]
def named (a : Dt) : List Dt := [p1 "InvalidName" "given" a, p1 "InvalidCount" "given" a, p1 "InvalidLimit" "given" a]
def indexed (a : Dt) : List Dt := [p1 "InvalidRow" "index" a, p1 "InvalidComparison" "index" a, p1 "InvalidRule" "index" a, p1 "FailsLate" "index" a, p1 "InvalidLine" "index" a, p1 "InvalidCommand" "index" a]
def pathed : List Dt := [p1 "InvalidCondition" "path" oneTwo, p1 "InvalidStatement" "path" oneTwo]
def called (a : Dt) : List Dt := [p1 "DuplicateName" "name" a, p1 "WrongKind" "name" a, p1 "UnknownName" "name" a]
def bare3 : List Dt := [p0 "InvalidColumns", p0 "InvalidValue", p0 "InvalidArguments"]
def bare : List Dt := bare3 ++ [p0 "NotOpen", p0 "ColumnsDiffer", p0 "InvalidText", p0 "NothingLeft"]
theorem given_eq (a : Dt) (bg : List Dt) : F_Lgiven [a] bg = some (.tup [.lst (named a), .lst (indexed a), .lst pathed, .lst (called a)], bg) := by kernel_rfl
abbrev dt (d : Dt) : Option Slo := some (.dat d)
/-- the slots, from the second on -/
abbrev st (x2 x3 x4 x5 x6 x7 x8 x9 x10 x11 x12 x13 x14 x15 : Option Slo) (bg : List Dt) : Sta := ⟨[none, some (.dat .bag), x2, x3, x4, x5, x6, x7, x8, x9, x10, x11, x12, x13, x14, x15, none, none, none], bg⟩
abbrev cmpB (f : Str) (x : DM Dt) : DM Dt := mApp (F_Llike 4) (mCons (mLst (mCons (DE1.mEfl "code" (mVar 17)) (mCons (DE1.mEfl f (mVar 17)) mNil))) (mCons (mLst (mCons (mVar 18) (mCons x mNil))) mNil))
abbrev cmpC (f : Str) (x : DM Dt) (i : Nat) : DM Dt := mComp [17, 18] (wLst (mVar i)) (hTup 2 (hCons (hName 17) (hCons (hName 18) hNil))) mYes (cmpB f x)
theorem comp_like {sl : List (Option Slo)} {bg : List Dt} {b : DM Dt} {l : List Dt} (h : ∀ d ∈ l, ∃ s1, hTup 2 (hCons (hName 17) (hCons (hName 18) hNil)) d ⟨sl, bg⟩ = some s1 ∧ s1.bag = bg ∧ b s1 = some (.bl true, s1)) :
    compD sl (hTup 2 (hCons (hName 17) (hCons (hName 18) hNil))) mYes b l bg = some (l.map fun _ => .bl true, bg) :=
  comp_map (fun _ => .bl true) l fun d hd => let ⟨s1, q1, qb, q2⟩ := h d hd; ⟨s1, s1, s1, q1, rfl, q2, qb⟩
theorem body_like {nm f : Str} {a : Dt} {x : DM Dt} {s1 : Sta} (h1 : mLst (mCons (DE1.mEfl "code" (mVar 17)) (mCons (DE1.mEfl f (mVar 17)) mNil)) s1 = some (.lst [.str nm, a], s1)) (h2 : mLst (mCons (mVar 18) (mCons x mNil)) s1 = some (.lst [.str nm, a], s1)) (hn : cpOk nm = true) (ha : okD 3 a = true) :
    cmpB f x s1 = some (.bl true, s1) := by
  show mApp (F_Llike 4) _ s1 = _
  rw [q_like]
  refine mapp (s1 := s1) (ds := [.lst [.str nm, a], .lst [.str nm, a]]) (mcons h1 (mcons h2 rfl)) (like_refl 4 _ s1.bag ?_)
  show (decide (2 ≤ 1000) && (cpOk nm && (okD 3 a && true))) = true
  rw [hn, ha]; rfl
theorem found_eq {a r : Dt} (ha : okD 3 a = true) (bg : List Dt) : m2 gAdd (cmpC "given" (mVar 5) 7) (cmpC "index" (mVar 5) 8) (st none none none (dt a) (dt r) (dt (.lst (named a))) (dt (.lst (indexed a))) (dt (.lst pathed)) (dt (.lst (called a))) none none none none none bg) =
    some (.lst (List.replicate 9 (.bl true)), st none none none (dt a) (dt r) (dt (.lst (named a))) (dt (.lst (indexed a))) (dt (.lst pathed)) (dt (.lst (called a))) none none none none none bg) := by
  let s := st none none none (dt a) (dt r) (dt (.lst (named a))) (dt (.lst (indexed a))) (dt (.lst pathed)) (dt (.lst (called a))) none none none none none bg
  have c1 : cmpC "given" (mVar 5) 7 s = some (.lst ((named a).map fun _ => .bl true), s) := by
    refine mcomp (s1 := s) (l := named a) rfl (by show 3 ≤ 100000; decide) (comp_like fun d hd => ?_)
    simp only [named, List.mem_cons, List.not_mem_nil, or_false] at hd
    rcases hd with rfl | rfl | rfl <;> exact ⟨_, rfl, rfl, body_like (a := a) rfl rfl (by decide +kernel) ha⟩
  have c2 : cmpC "index" (mVar 5) 8 s = some (.lst ((indexed a).map fun _ => .bl true), s) := by
    refine mcomp (s1 := s) (l := indexed a) rfl (by show 6 ≤ 100000; decide) (comp_like fun d hd => ?_)
    simp only [indexed, List.mem_cons, List.not_mem_nil, or_false] at hd
    rcases hd with rfl | rfl | rfl | rfl | rfl | rfl <;> exact ⟨_, rfl, rfl, body_like (a := a) rfl rfl (by decide +kernel) ha⟩
  exact m2_eq c1 c2 rfl
theorem found_eq2 {a r : Dt} (ha : okD 3 a = true) (bg : List Dt) : m2 gAdd (m2 gAdd (mVar 2) (cmpC "path" (mTup (mCons (mC (.int 1)) (mCons (mC (.int 2)) mNil))) 9)) (cmpC "name" (mVar 5) 10) (st (dt (.lst (List.replicate 9 (.bl true)))) none none (dt a) (dt r) (dt (.lst (named a))) (dt (.lst (indexed a))) (dt (.lst pathed)) (dt (.lst (called a))) none none none none none bg) =
    some (.lst (List.replicate 14 (.bl true)), st (dt (.lst (List.replicate 9 (.bl true)))) none none (dt a) (dt r) (dt (.lst (named a))) (dt (.lst (indexed a))) (dt (.lst pathed)) (dt (.lst (called a))) none none none none none bg) := by
  let s := st (dt (.lst (List.replicate 9 (.bl true)))) none none (dt a) (dt r) (dt (.lst (named a))) (dt (.lst (indexed a))) (dt (.lst pathed)) (dt (.lst (called a))) none none none none none bg
  have c1 : cmpC "path" (mTup (mCons (mC (.int 1)) (mCons (mC (.int 2)) mNil))) 9 s = some (.lst (pathed.map fun _ => .bl true), s) := by
    refine mcomp (s1 := s) (l := pathed) rfl (by show 2 ≤ 100000; decide) (comp_like fun d hd => ?_)
    simp only [pathed, List.mem_cons, List.not_mem_nil, or_false] at hd
    rcases hd with rfl | rfl <;> exact ⟨_, rfl, rfl, body_like (a := oneTwo) rfl rfl (by decide +kernel) (by decide +kernel)⟩
  have c2 : cmpC "name" (mVar 5) 10 s = some (.lst ((called a).map fun _ => .bl true), s) := by
    refine mcomp (s1 := s) (l := called a) rfl (by show 3 ≤ 100000; decide) (comp_like fun d hd => ?_)
    simp only [called, List.mem_cons, List.not_mem_nil, or_false] at hd
    rcases hd with rfl | rfl | rfl <;> exact ⟨_, rfl, rfl, body_like (a := a) rfl rfl (by decide +kernel) ha⟩
  exact m2_eq (m2_eq (x := .lst (List.replicate 9 (.bl true))) rfl c1 rfl) c2 rfl
theorem hB (ns : List Int) (seed : Int) (h : ns.length ≤ 63) (h0 : 0 ≤ seed) (h1 : seed < 2147483549) : ∃ s', B_law ⟨[none, some (.dat .bag)] ++ List.replicate (N_law.length - 2) none, bag0 ns seed⟩ = some (.rt (.bl true), s') := by
  obtain ⟨i, bg1, q1, _, hb1⟩ := far_ok (bag0_ok (ns := ns) h0 h1)
  obtain ⟨a, bg2, q2, hm, hb2⟩ := any_ok hb1 (rows := [.int i, .str "late", .non]) (by simp) (by simp)
  obtain ⟨q, bg, q3, _, _, hb3⟩ := pull_ok hb2 (n := 9) (by decide) (by decide)
  have ha : okD 3 a = true := by
    simp only [List.mem_cons, List.not_mem_nil, or_false] at hm
    rcases hm with rfl | rfl | rfl
    · rfl
    · decide +kernel
    · rfl
  let r : Dt := .lst [.tup [.int 1], .tup [.int 2], .tup [.int (4 + q)]]
  let s0 : Sta := ⟨[none, some (.dat .bag)] ++ List.replicate (N_law.length - 2) none, bag0 ns seed⟩
  let s1 := st none none none (dt a) (dt r) none none none none none none none none none bg
  let s2 := st none none none (dt a) (dt r) (dt (.lst (named a))) (dt (.lst (indexed a))) (dt (.lst pathed)) (dt (.lst (called a))) none none none none none bg
  let s3 := st (dt (.lst (List.replicate 9 (.bl true)))) none none (dt a) (dt r) (dt (.lst (named a))) (dt (.lst (indexed a))) (dt (.lst pathed)) (dt (.lst (called a))) none none none none none bg
  let s4 := st (dt (.lst (List.replicate 14 (.bl true)))) none none (dt a) (dt r) (dt (.lst (named a))) (dt (.lst (indexed a))) (dt (.lst pathed)) (dt (.lst (called a))) none none none none none bg
  let s5 := st (dt (.lst (List.replicate 14 (.bl true)))) (dt (.lst bare3)) none (dt a) (dt r) (dt (.lst (named a))) (dt (.lst (indexed a))) (dt (.lst pathed)) (dt (.lst (called a))) none none none none none bg
  let s6 := st (dt (.lst (List.replicate 14 (.bl true)))) (dt (.lst bare)) none (dt a) (dt r) (dt (.lst (named a))) (dt (.lst (indexed a))) (dt (.lst pathed)) (dt (.lst (called a))) none none none none none bg
  let three := e1 "NotCarried" "witness" r
  let s7 := st (dt (.lst (List.replicate 14 (.bl true)))) (dt (.lst bare)) none (dt a) (dt r) (dt (.lst (named a))) (dt (.lst (indexed a))) (dt (.lst pathed)) (dt (.lst (called a))) (dt three) (dt (e1 "TooWide" "most" a)) (dt (e1 "Full" "limit" a)) (dt (e1 "Failed" "word" a)) (dt (e1 "UnknownKey" "key" a)) bg
  let fl : List Dt := [.str "NotCarried", r, .str "TooWide", a, .str "Full", a, .str "Failed", a, .str "UnknownKey", a]
  let s8 := st (dt (.lst fl)) (dt (.lst bare)) none (dt a) (dt r) (dt (.lst (named a))) (dt (.lst (indexed a))) (dt (.lst pathed)) (dt (.lst (called a))) (dt three) (dt (e1 "TooWide" "most" a)) (dt (e1 "Full" "limit" a)) (dt (e1 "Failed" "word" a)) (dt (e1 "UnknownKey" "key" a)) bg
  let most : List Dt := [e1 "InvalidName" "given" a, e1 "InvalidCount" "given" a, e1 "InvalidLimit" "given" a, e1 "InvalidRow" "index" a, e1 "InvalidComparison" "index" a, e1 "InvalidRule" "index" a, e1 "FailsLate" "index" a, e1 "InvalidLine" "index" a, e1 "InvalidCommand" "index" a,
    e1 "InvalidCondition" "path" oneTwo, e1 "InvalidStatement" "path" oneTwo, e1 "DuplicateName" "name" a, e1 "WrongKind" "name" a, e0 "InvalidColumns", e0 "InvalidValue", e0 "InvalidArguments", e0 "NotOpen", e0 "ColumnsDiffer", e0 "InvalidText", three, e1 "TooWide" "most" a, e1 "Full" "limit" a, e1 "Failed" "word" a]
  let s9 := st (dt (.lst fl)) (dt (.lst bare)) (dt (.lst most)) (dt a) (dt r) (dt (.lst (named a))) (dt (.lst (indexed a))) (dt (.lst pathed)) (dt (.lst (called a))) (dt three) (dt (e1 "TooWide" "most" a)) (dt (e1 "Full" "limit" a)) (dt (e1 "Failed" "word" a)) (dt (e1 "UnknownKey" "key" a)) bg
  refine ⟨s9, ?_⟩
  unfold B_law
  show kSeq _ _ s0 = _
  rw [kseq (s1 := s1) (kasg (s1 := { s0 with bag := bg }) (d := .tup [a, r]) ?_ rfl)]
  · rw [kseq (s1 := s2) (kasg (s1 := s1) (mapp (s1 := s1) (ds := [a]) rfl (given_eq a bg)) rfl)]
    rw [kseq (s1 := s3) (kasg (s1 := s2) (found_eq ha bg) rfl)]
    rw [kseq (s1 := s4) (kasg (s1 := s3) (found_eq2 ha bg) rfl)]
    rw [kseq (s1 := s4) (by kernel_rfl)]
    rw [kseq (s1 := s5) (by kernel_rfl)]
    rw [kseq (s1 := s6) (by kernel_rfl)]
    rw [kseq (s1 := s6) (by kernel_rfl)]
    rw [kseq (s1 := s7) (by kernel_rfl)]
    rw [kseq (s1 := s8) (by kernel_rfl)]
    rw [kseq (s1 := s8) ?_]
    · rw [kseq (s1 := s9) (by kernel_rfl)]
      rw [kseq (s1 := s9) (by kernel_rfl)]
      rw [kseq (s1 := s9) (by kernel_rfl)]
      rw [kseq (s1 := s9) (by kernel_rfl)]
      kernel_rfl
    · rw [kif_f (s1 := s8) (mNotB_eq (b := true) (mBt ?_))]
      · rfl
      · rw [q_like]
        refine mapp (s1 := s8) (ds := [.lst fl, .lst fl]) rfl (like_refl 4 _ bg ?_)
        have hr : okD 3 r = true := rfl
        show (decide (10 ≤ 1000) && (cpOk "NotCarried" && (okD 3 r && (cpOk "TooWide" && (okD 3 a && (cpOk "Full" && (okD 3 a && (cpOk "Failed" && (okD 3 a && (cpOk "UnknownKey" && (okD 3 a && true))))))))))) = true
        rw [hr, ha]
        kernel_rfl
  · let t1 : Sta := { s0 with bag := bg1 }
    let t2 : Sta := { s0 with bag := bg2 }
    refine mtup (mcons (s1 := t2) ?_ (mcons (s1 := { s0 with bag := bg }) ?_ rfl))
    · rw [q_any, q_far]
      exact mapp (s1 := t1) (ds := [.bag, .lst [.int i, .str "late", .non]]) (mcons (s1 := s0) rfl (mcons (s1 := t1) (mlst (mcons (s1 := t1) (mapp (s1 := s0) (ds := [.bag]) rfl q1) rfl)) rfl)) q2
    · rw [q_pull]
      refine mlst (mcons (s1 := t2) rfl (mcons (s1 := t2) rfl (mcons (s1 := { s0 with bag := bg }) (mtup (mcons (m2_eq (s1 := t2) (x := .int 4) (y := .int q) rfl (mapp (s1 := t2) (ds := [.bag, .int 9]) rfl q3) rfl) rfl)) rfl)))
end Laws
set_option maxHeartbeats 0 in
theorem all_mk {l : PySem.W.OpenLaw} {w : World} {K : PySem.W.Frag} {h : Heap} {mg : Str → Option Value} {fa f0 f1 f2 f3 f4 f5 f6 f7 : Addr} {od0 an0 od1 an1 od2 an2 od3 an3 od4 an4 od5 an5 od6 an6 od7 an7 : Option Addr} {sl0 sl1 sl2 sl3 sl4 sl5 sl6 sl7 : Array (Option Value)} {oc0 kV0 dc0 pm0 ct0 cd0 oc1 kV1 dc1 pm1 ct1 cd1 oc2 kV2 dc2 pm2 ct2 cd2 oc3 kV3 dc3 pm3 ct3 cd3 oc4 kV4 dc4 pm4 ct4 cd4 oc5 kV5 dc5 pm5 ct5 cd5 oc6 kV6 dc6 pm6 ct6 cd6 oc7 kV7 dc7 pm7 ct7 cd7 : Value} {T1 T2 T3 : Addr} {fI_Missing : Addr} {odI_Missing anI_Missing : Option Addr} {slI_Missing : Array (Option Value)} {ocI_Missing kVI_Missing dcI_Missing pmI_Missing cdI_Missing ctI_Missing : Value} {fI_NothingLeft : Addr} {odI_NothingLeft anI_NothingLeft : Option Addr} {slI_NothingLeft : Array (Option Value)} {ocI_NothingLeft kVI_NothingLeft dcI_NothingLeft pmI_NothingLeft cdI_NothingLeft ctI_NothingLeft : Value} {fI_TableError : Addr} {odI_TableError anI_TableError : Option Addr} {slI_TableError : Array (Option Value)} {ocI_TableError kVI_TableError dcI_TableError pmI_TableError cdI_TableError ctI_TableError : Value} {C_InvalidArguments N_InvalidArguments : Addr} {nm_InvalidArguments q_InvalidArguments : Str} {bs_InvalidArguments bm_InvalidArguments : List Value} {sn_InvalidArguments : List Str} {sub_InvalidArguments : List Value} {ab_InvalidArguments : Bool} {col_InvalidArguments : Option Bool} {dd_InvalidArguments : Option Addr} {k0_InvalidArguments k1_InvalidArguments k2_InvalidArguments k3_InvalidArguments k5_InvalidArguments : Option Value} {C_InvalidValue N_InvalidValue : Addr} {nm_InvalidValue q_InvalidValue : Str} {bs_InvalidValue bm_InvalidValue : List Value} {sn_InvalidValue : List Str} {sub_InvalidValue : List Value} {ab_InvalidValue : Bool} {col_InvalidValue : Option Bool} {dd_InvalidValue : Option Addr} {k0_InvalidValue k1_InvalidValue k2_InvalidValue k3_InvalidValue k5_InvalidValue : Option Value} {C_InvalidColumns N_InvalidColumns : Addr} {nm_InvalidColumns q_InvalidColumns : Str} {bs_InvalidColumns bm_InvalidColumns : List Value} {sn_InvalidColumns : List Str} {sub_InvalidColumns : List Value} {ab_InvalidColumns : Bool} {col_InvalidColumns : Option Bool} {dd_InvalidColumns : Option Addr} {k0_InvalidColumns k1_InvalidColumns k2_InvalidColumns k3_InvalidColumns k5_InvalidColumns : Option Value} {C_NothingLeft N_NothingLeft : Addr} {nm_NothingLeft q_NothingLeft : Str} {bs_NothingLeft bm_NothingLeft : List Value} {sn_NothingLeft : List Str} {sub_NothingLeft : List Value} {ab_NothingLeft : Bool} {col_NothingLeft : Option Bool} {dd_NothingLeft : Option Addr} {k0_NothingLeft k1_NothingLeft k2_NothingLeft k3_NothingLeft k5_NothingLeft : Option Value} {C_InvalidText N_InvalidText : Addr} {nm_InvalidText q_InvalidText : Str} {bs_InvalidText bm_InvalidText : List Value} {sn_InvalidText : List Str} {sub_InvalidText : List Value} {ab_InvalidText : Bool} {col_InvalidText : Option Bool} {dd_InvalidText : Option Addr} {k0_InvalidText k1_InvalidText k2_InvalidText k3_InvalidText k5_InvalidText : Option Value} {C_ColumnsDiffer N_ColumnsDiffer : Addr} {nm_ColumnsDiffer q_ColumnsDiffer : Str} {bs_ColumnsDiffer bm_ColumnsDiffer : List Value} {sn_ColumnsDiffer : List Str} {sub_ColumnsDiffer : List Value} {ab_ColumnsDiffer : Bool} {col_ColumnsDiffer : Option Bool} {dd_ColumnsDiffer : Option Addr} {k0_ColumnsDiffer k1_ColumnsDiffer k2_ColumnsDiffer k3_ColumnsDiffer k5_ColumnsDiffer : Option Value} {C_NotOpen N_NotOpen : Addr} {nm_NotOpen q_NotOpen : Str} {bs_NotOpen bm_NotOpen : List Value} {sn_NotOpen : List Str} {sub_NotOpen : List Value} {ab_NotOpen : Bool} {col_NotOpen : Option Bool} {dd_NotOpen : Option Addr} {k0_NotOpen k1_NotOpen k2_NotOpen k3_NotOpen k5_NotOpen : Option Value} {C_InvalidLimit N_InvalidLimit : Addr} {nm_InvalidLimit q_InvalidLimit : Str} {bs_InvalidLimit bm_InvalidLimit : List Value} {sn_InvalidLimit : List Str} {sub_InvalidLimit : List Value} {ab_InvalidLimit : Bool} {col_InvalidLimit : Option Bool} {dd_InvalidLimit : Option Addr} {k0_InvalidLimit k1_InvalidLimit k2_InvalidLimit k3_InvalidLimit k5_InvalidLimit : Option Value} {fI_InvalidLimit cc_InvalidLimit cda_InvalidLimit : Addr} {fi_InvalidLimit : Str} {kV_InvalidLimit dc_InvalidLimit pm_InvalidLimit ct_InvalidLimit oc_InvalidLimit cl_InvalidLimit ccl_InvalidLimit : Value} {an_InvalidLimit od_InvalidLimit cld_InvalidLimit cdd_InvalidLimit : Option Addr} {osl_InvalidLimit csl_InvalidLimit ccs_InvalidLimit : Array (Option Value)} {vs_InvalidLimit : Array Value} {tf_InvalidLimit : Tok} {C_InvalidCount N_InvalidCount : Addr} {nm_InvalidCount q_InvalidCount : Str} {bs_InvalidCount bm_InvalidCount : List Value} {sn_InvalidCount : List Str} {sub_InvalidCount : List Value} {ab_InvalidCount : Bool} {col_InvalidCount : Option Bool} {dd_InvalidCount : Option Addr} {k0_InvalidCount k1_InvalidCount k2_InvalidCount k3_InvalidCount k5_InvalidCount : Option Value} {fI_InvalidCount cc_InvalidCount cda_InvalidCount : Addr} {fi_InvalidCount : Str} {kV_InvalidCount dc_InvalidCount pm_InvalidCount ct_InvalidCount oc_InvalidCount cl_InvalidCount ccl_InvalidCount : Value} {an_InvalidCount od_InvalidCount cld_InvalidCount cdd_InvalidCount : Option Addr} {osl_InvalidCount csl_InvalidCount ccs_InvalidCount : Array (Option Value)} {vs_InvalidCount : Array Value} {tf_InvalidCount : Tok} {C_InvalidName N_InvalidName : Addr} {nm_InvalidName q_InvalidName : Str} {bs_InvalidName bm_InvalidName : List Value} {sn_InvalidName : List Str} {sub_InvalidName : List Value} {ab_InvalidName : Bool} {col_InvalidName : Option Bool} {dd_InvalidName : Option Addr} {k0_InvalidName k1_InvalidName k2_InvalidName k3_InvalidName k5_InvalidName : Option Value} {fI_InvalidName cc_InvalidName cda_InvalidName : Addr} {fi_InvalidName : Str} {kV_InvalidName dc_InvalidName pm_InvalidName ct_InvalidName oc_InvalidName cl_InvalidName ccl_InvalidName : Value} {an_InvalidName od_InvalidName cld_InvalidName cdd_InvalidName : Option Addr} {osl_InvalidName csl_InvalidName ccs_InvalidName : Array (Option Value)} {vs_InvalidName : Array Value} {tf_InvalidName : Tok} {C_InvalidRule N_InvalidRule : Addr} {nm_InvalidRule q_InvalidRule : Str} {bs_InvalidRule bm_InvalidRule : List Value} {sn_InvalidRule : List Str} {sub_InvalidRule : List Value} {ab_InvalidRule : Bool} {col_InvalidRule : Option Bool} {dd_InvalidRule : Option Addr} {k0_InvalidRule k1_InvalidRule k2_InvalidRule k3_InvalidRule k5_InvalidRule : Option Value} {fI_InvalidRule cc_InvalidRule cda_InvalidRule : Addr} {fi_InvalidRule : Str} {kV_InvalidRule dc_InvalidRule pm_InvalidRule ct_InvalidRule oc_InvalidRule cl_InvalidRule ccl_InvalidRule : Value} {an_InvalidRule od_InvalidRule cld_InvalidRule cdd_InvalidRule : Option Addr} {osl_InvalidRule csl_InvalidRule ccs_InvalidRule : Array (Option Value)} {vs_InvalidRule : Array Value} {tf_InvalidRule : Tok} {C_InvalidComparison N_InvalidComparison : Addr} {nm_InvalidComparison q_InvalidComparison : Str} {bs_InvalidComparison bm_InvalidComparison : List Value} {sn_InvalidComparison : List Str} {sub_InvalidComparison : List Value} {ab_InvalidComparison : Bool} {col_InvalidComparison : Option Bool} {dd_InvalidComparison : Option Addr} {k0_InvalidComparison k1_InvalidComparison k2_InvalidComparison k3_InvalidComparison k5_InvalidComparison : Option Value} {fI_InvalidComparison cc_InvalidComparison cda_InvalidComparison : Addr} {fi_InvalidComparison : Str} {kV_InvalidComparison dc_InvalidComparison pm_InvalidComparison ct_InvalidComparison oc_InvalidComparison cl_InvalidComparison ccl_InvalidComparison : Value} {an_InvalidComparison od_InvalidComparison cld_InvalidComparison cdd_InvalidComparison : Option Addr} {osl_InvalidComparison csl_InvalidComparison ccs_InvalidComparison : Array (Option Value)} {vs_InvalidComparison : Array Value} {tf_InvalidComparison : Tok} {C_InvalidRow N_InvalidRow : Addr} {nm_InvalidRow q_InvalidRow : Str} {bs_InvalidRow bm_InvalidRow : List Value} {sn_InvalidRow : List Str} {sub_InvalidRow : List Value} {ab_InvalidRow : Bool} {col_InvalidRow : Option Bool} {dd_InvalidRow : Option Addr} {k0_InvalidRow k1_InvalidRow k2_InvalidRow k3_InvalidRow k5_InvalidRow : Option Value} {fI_InvalidRow cc_InvalidRow cda_InvalidRow : Addr} {fi_InvalidRow : Str} {kV_InvalidRow dc_InvalidRow pm_InvalidRow ct_InvalidRow oc_InvalidRow cl_InvalidRow ccl_InvalidRow : Value} {an_InvalidRow od_InvalidRow cld_InvalidRow cdd_InvalidRow : Option Addr} {osl_InvalidRow csl_InvalidRow ccs_InvalidRow : Array (Option Value)} {vs_InvalidRow : Array Value} {tf_InvalidRow : Tok} {C_InvalidCommand N_InvalidCommand : Addr} {nm_InvalidCommand q_InvalidCommand : Str} {bs_InvalidCommand bm_InvalidCommand : List Value} {sn_InvalidCommand : List Str} {sub_InvalidCommand : List Value} {ab_InvalidCommand : Bool} {col_InvalidCommand : Option Bool} {dd_InvalidCommand : Option Addr} {k0_InvalidCommand k1_InvalidCommand k2_InvalidCommand k3_InvalidCommand k5_InvalidCommand : Option Value} {fI_InvalidCommand cc_InvalidCommand cda_InvalidCommand : Addr} {fi_InvalidCommand : Str} {kV_InvalidCommand dc_InvalidCommand pm_InvalidCommand ct_InvalidCommand oc_InvalidCommand cl_InvalidCommand ccl_InvalidCommand : Value} {an_InvalidCommand od_InvalidCommand cld_InvalidCommand cdd_InvalidCommand : Option Addr} {osl_InvalidCommand csl_InvalidCommand ccs_InvalidCommand : Array (Option Value)} {vs_InvalidCommand : Array Value} {tf_InvalidCommand : Tok} {C_InvalidLine N_InvalidLine : Addr} {nm_InvalidLine q_InvalidLine : Str} {bs_InvalidLine bm_InvalidLine : List Value} {sn_InvalidLine : List Str} {sub_InvalidLine : List Value} {ab_InvalidLine : Bool} {col_InvalidLine : Option Bool} {dd_InvalidLine : Option Addr} {k0_InvalidLine k1_InvalidLine k2_InvalidLine k3_InvalidLine k5_InvalidLine : Option Value} {fI_InvalidLine cc_InvalidLine cda_InvalidLine : Addr} {fi_InvalidLine : Str} {kV_InvalidLine dc_InvalidLine pm_InvalidLine ct_InvalidLine oc_InvalidLine cl_InvalidLine ccl_InvalidLine : Value} {an_InvalidLine od_InvalidLine cld_InvalidLine cdd_InvalidLine : Option Addr} {osl_InvalidLine csl_InvalidLine ccs_InvalidLine : Array (Option Value)} {vs_InvalidLine : Array Value} {tf_InvalidLine : Tok} {C_FailsLate N_FailsLate : Addr} {nm_FailsLate q_FailsLate : Str} {bs_FailsLate bm_FailsLate : List Value} {sn_FailsLate : List Str} {sub_FailsLate : List Value} {ab_FailsLate : Bool} {col_FailsLate : Option Bool} {dd_FailsLate : Option Addr} {k0_FailsLate k1_FailsLate k2_FailsLate k3_FailsLate k5_FailsLate : Option Value} {fI_FailsLate cc_FailsLate cda_FailsLate : Addr} {fi_FailsLate : Str} {kV_FailsLate dc_FailsLate pm_FailsLate ct_FailsLate oc_FailsLate cl_FailsLate ccl_FailsLate : Value} {an_FailsLate od_FailsLate cld_FailsLate cdd_FailsLate : Option Addr} {osl_FailsLate csl_FailsLate ccs_FailsLate : Array (Option Value)} {vs_FailsLate : Array Value} {tf_FailsLate : Tok} {C_InvalidStatement N_InvalidStatement : Addr} {nm_InvalidStatement q_InvalidStatement : Str} {bs_InvalidStatement bm_InvalidStatement : List Value} {sn_InvalidStatement : List Str} {sub_InvalidStatement : List Value} {ab_InvalidStatement : Bool} {col_InvalidStatement : Option Bool} {dd_InvalidStatement : Option Addr} {k0_InvalidStatement k1_InvalidStatement k2_InvalidStatement k3_InvalidStatement k5_InvalidStatement : Option Value} {fI_InvalidStatement cc_InvalidStatement cda_InvalidStatement : Addr} {fi_InvalidStatement : Str} {kV_InvalidStatement dc_InvalidStatement pm_InvalidStatement ct_InvalidStatement oc_InvalidStatement cl_InvalidStatement ccl_InvalidStatement : Value} {an_InvalidStatement od_InvalidStatement cld_InvalidStatement cdd_InvalidStatement : Option Addr} {osl_InvalidStatement csl_InvalidStatement ccs_InvalidStatement : Array (Option Value)} {vs_InvalidStatement : Array Value} {tf_InvalidStatement : Tok} {C_InvalidCondition N_InvalidCondition : Addr} {nm_InvalidCondition q_InvalidCondition : Str} {bs_InvalidCondition bm_InvalidCondition : List Value} {sn_InvalidCondition : List Str} {sub_InvalidCondition : List Value} {ab_InvalidCondition : Bool} {col_InvalidCondition : Option Bool} {dd_InvalidCondition : Option Addr} {k0_InvalidCondition k1_InvalidCondition k2_InvalidCondition k3_InvalidCondition k5_InvalidCondition : Option Value} {fI_InvalidCondition cc_InvalidCondition cda_InvalidCondition : Addr} {fi_InvalidCondition : Str} {kV_InvalidCondition dc_InvalidCondition pm_InvalidCondition ct_InvalidCondition oc_InvalidCondition cl_InvalidCondition ccl_InvalidCondition : Value} {an_InvalidCondition od_InvalidCondition cld_InvalidCondition cdd_InvalidCondition : Option Addr} {osl_InvalidCondition csl_InvalidCondition ccs_InvalidCondition : Array (Option Value)} {vs_InvalidCondition : Array Value} {tf_InvalidCondition : Tok} {C_UnknownName N_UnknownName : Addr} {nm_UnknownName q_UnknownName : Str} {bs_UnknownName bm_UnknownName : List Value} {sn_UnknownName : List Str} {sub_UnknownName : List Value} {ab_UnknownName : Bool} {col_UnknownName : Option Bool} {dd_UnknownName : Option Addr} {k0_UnknownName k1_UnknownName k2_UnknownName k3_UnknownName k5_UnknownName : Option Value} {fI_UnknownName cc_UnknownName cda_UnknownName : Addr} {fi_UnknownName : Str} {kV_UnknownName dc_UnknownName pm_UnknownName ct_UnknownName oc_UnknownName cl_UnknownName ccl_UnknownName : Value} {an_UnknownName od_UnknownName cld_UnknownName cdd_UnknownName : Option Addr} {osl_UnknownName csl_UnknownName ccs_UnknownName : Array (Option Value)} {vs_UnknownName : Array Value} {tf_UnknownName : Tok} {C_WrongKind N_WrongKind : Addr} {nm_WrongKind q_WrongKind : Str} {bs_WrongKind bm_WrongKind : List Value} {sn_WrongKind : List Str} {sub_WrongKind : List Value} {ab_WrongKind : Bool} {col_WrongKind : Option Bool} {dd_WrongKind : Option Addr} {k0_WrongKind k1_WrongKind k2_WrongKind k3_WrongKind k5_WrongKind : Option Value} {fI_WrongKind cc_WrongKind cda_WrongKind : Addr} {fi_WrongKind : Str} {kV_WrongKind dc_WrongKind pm_WrongKind ct_WrongKind oc_WrongKind cl_WrongKind ccl_WrongKind : Value} {an_WrongKind od_WrongKind cld_WrongKind cdd_WrongKind : Option Addr} {osl_WrongKind csl_WrongKind ccs_WrongKind : Array (Option Value)} {vs_WrongKind : Array Value} {tf_WrongKind : Tok} {C_DuplicateName N_DuplicateName : Addr} {nm_DuplicateName q_DuplicateName : Str} {bs_DuplicateName bm_DuplicateName : List Value} {sn_DuplicateName : List Str} {sub_DuplicateName : List Value} {ab_DuplicateName : Bool} {col_DuplicateName : Option Bool} {dd_DuplicateName : Option Addr} {k0_DuplicateName k1_DuplicateName k2_DuplicateName k3_DuplicateName k5_DuplicateName : Option Value} {fI_DuplicateName cc_DuplicateName cda_DuplicateName : Addr} {fi_DuplicateName : Str} {kV_DuplicateName dc_DuplicateName pm_DuplicateName ct_DuplicateName oc_DuplicateName cl_DuplicateName ccl_DuplicateName : Value} {an_DuplicateName od_DuplicateName cld_DuplicateName cdd_DuplicateName : Option Addr} {osl_DuplicateName csl_DuplicateName ccs_DuplicateName : Array (Option Value)} {vs_DuplicateName : Array Value} {tf_DuplicateName : Tok} {C_UnknownKey N_UnknownKey : Addr} {nm_UnknownKey q_UnknownKey : Str} {bs_UnknownKey bm_UnknownKey : List Value} {sn_UnknownKey : List Str} {sub_UnknownKey : List Value} {ab_UnknownKey : Bool} {col_UnknownKey : Option Bool} {dd_UnknownKey : Option Addr} {k0_UnknownKey k1_UnknownKey k2_UnknownKey k3_UnknownKey k5_UnknownKey : Option Value} {fI_UnknownKey cc_UnknownKey cda_UnknownKey : Addr} {fi_UnknownKey : Str} {kV_UnknownKey dc_UnknownKey pm_UnknownKey ct_UnknownKey oc_UnknownKey cl_UnknownKey ccl_UnknownKey : Value} {an_UnknownKey od_UnknownKey cld_UnknownKey cdd_UnknownKey : Option Addr} {osl_UnknownKey csl_UnknownKey ccs_UnknownKey : Array (Option Value)} {vs_UnknownKey : Array Value} {tf_UnknownKey : Tok} {C_Failed N_Failed : Addr} {nm_Failed q_Failed : Str} {bs_Failed bm_Failed : List Value} {sn_Failed : List Str} {sub_Failed : List Value} {ab_Failed : Bool} {col_Failed : Option Bool} {dd_Failed : Option Addr} {k0_Failed k1_Failed k2_Failed k3_Failed k5_Failed : Option Value} {fI_Failed cc_Failed cda_Failed : Addr} {fi_Failed : Str} {kV_Failed dc_Failed pm_Failed ct_Failed oc_Failed cl_Failed ccl_Failed : Value} {an_Failed od_Failed cld_Failed cdd_Failed : Option Addr} {osl_Failed csl_Failed ccs_Failed : Array (Option Value)} {vs_Failed : Array Value} {tf_Failed : Tok} {C_Full N_Full : Addr} {nm_Full q_Full : Str} {bs_Full bm_Full : List Value} {sn_Full : List Str} {sub_Full : List Value} {ab_Full : Bool} {col_Full : Option Bool} {dd_Full : Option Addr} {k0_Full k1_Full k2_Full k3_Full k5_Full : Option Value} {fI_Full cc_Full cda_Full : Addr} {fi_Full : Str} {kV_Full dc_Full pm_Full ct_Full oc_Full cl_Full ccl_Full : Value} {an_Full od_Full cld_Full cdd_Full : Option Addr} {osl_Full csl_Full ccs_Full : Array (Option Value)} {vs_Full : Array Value} {tf_Full : Tok} {C_TooWide N_TooWide : Addr} {nm_TooWide q_TooWide : Str} {bs_TooWide bm_TooWide : List Value} {sn_TooWide : List Str} {sub_TooWide : List Value} {ab_TooWide : Bool} {col_TooWide : Option Bool} {dd_TooWide : Option Addr} {k0_TooWide k1_TooWide k2_TooWide k3_TooWide k5_TooWide : Option Value} {fI_TooWide cc_TooWide cda_TooWide : Addr} {fi_TooWide : Str} {kV_TooWide dc_TooWide pm_TooWide ct_TooWide oc_TooWide cl_TooWide ccl_TooWide : Value} {an_TooWide od_TooWide cld_TooWide cdd_TooWide : Option Addr} {osl_TooWide csl_TooWide ccs_TooWide : Array (Option Value)} {vs_TooWide : Array Value} {tf_TooWide : Tok} {C_NotCarried N_NotCarried : Addr} {nm_NotCarried q_NotCarried : Str} {bs_NotCarried bm_NotCarried : List Value} {sn_NotCarried : List Str} {sub_NotCarried : List Value} {ab_NotCarried : Bool} {col_NotCarried : Option Bool} {dd_NotCarried : Option Addr} {k0_NotCarried k1_NotCarried k2_NotCarried k3_NotCarried k5_NotCarried : Option Value} {fI_NotCarried cc_NotCarried cda_NotCarried : Addr} {fi_NotCarried : Str} {kV_NotCarried dc_NotCarried pm_NotCarried ct_NotCarried oc_NotCarried cl_NotCarried ccl_NotCarried : Value} {an_NotCarried od_NotCarried cld_NotCarried cdd_NotCarried : Option Addr} {osl_NotCarried csl_NotCarried ccs_NotCarried : Array (Option Value)} {vs_NotCarried : Array Value} {tf_NotCarried : Tok} {D_NothingLeft : Addr} {D_Missing : Addr} {D_TableError : Addr} {D_InvalidCount : Addr} {D_InvalidName : Addr} (X : K.In h) (G : h.Ns mainGlobals mg) (hfa : mg "law" = some (.ref fa))
    (a0 : PySem.W.nsIn K mainGlobals "_law_draws" = some (some (.ref f0))) (l0 : K.lookup f0 = some ⟨oc0, od0, .func (PySem.W.fnOf "_law_draws" "_law_draws" (defArgs s_Ldraws) (defBody s_Ldraws) (defScope s_Ldraws) .none kV0 dc0 pm0 an0 cd0 ct0), sl0⟩) (c0 : PySem.W.codeIn K cd0 "_law_draws" = true) (k0 : PySem.W.keepIn K (.ref f0) = true)
    (a1 : PySem.W.nsIn K mainGlobals "_law_pull" = some (some (.ref f1))) (l1 : K.lookup f1 = some ⟨oc1, od1, .func (PySem.W.fnOf "_law_pull" "_law_pull" (defArgs s_Lpull) (defBody s_Lpull) (defScope s_Lpull) .none kV1 dc1 pm1 an1 cd1 ct1), sl1⟩) (c1 : PySem.W.codeIn K cd1 "_law_pull" = true) (k1 : PySem.W.keepIn K (.ref f1) = true)
    (a2 : PySem.W.nsIn K mainGlobals "_law_any" = some (some (.ref f2))) (l2 : K.lookup f2 = some ⟨oc2, od2, .func (PySem.W.fnOf "_law_any" "_law_any" (defArgs s_Lany) (defBody s_Lany) (defScope s_Lany) .none kV2 dc2 pm2 an2 cd2 ct2), sl2⟩) (c2 : PySem.W.codeIn K cd2 "_law_any" = true) (k2 : PySem.W.keepIn K (.ref f2) = true)
    (a3 : PySem.W.nsIn K mainGlobals "_law_like" = some (some (.ref f3))) (l3 : K.lookup f3 = some ⟨oc3, od3, .func (PySem.W.fnOf "_law_like" "_law_like" (defArgs s_Llike) (defBody s_Llike) (defScope s_Llike) .none kV3 dc3 pm3 an3 cd3 ct3), sl3⟩) (c3 : PySem.W.codeIn K cd3 "_law_like" = true) (k3 : PySem.W.keepIn K (.ref f3) = true)
    (a4 : PySem.W.nsIn K mainGlobals "_law_far" = some (some (.ref f4))) (l4 : K.lookup f4 = some ⟨oc4, od4, .func (PySem.W.fnOf "_law_far" "_law_far" (defArgs s_Lfar) (defBody s_Lfar) (defScope s_Lfar) .none kV4 dc4 pm4 an4 cd4 ct4), sl4⟩) (c4 : PySem.W.codeIn K cd4 "_law_far" = true) (k4 : PySem.W.keepIn K (.ref f4) = true)
    (a5 : PySem.W.nsIn K mainGlobals "_law_bases" = some (some (.ref f5))) (l5 : K.lookup f5 = some ⟨oc5, od5, .func (PySem.W.fnOf "_law_bases" "_law_bases" (defArgs s_Lbases) (defBody s_Lbases) (defScope s_Lbases) .none kV5 dc5 pm5 an5 cd5 ct5), sl5⟩) (c5 : PySem.W.codeIn K cd5 "_law_bases" = true) (k5 : PySem.W.keepIn K (.ref f5) = true)
    (a6 : PySem.W.nsIn K mainGlobals "_law_given" = some (some (.ref f6))) (l6 : K.lookup f6 = some ⟨oc6, od6, .func (PySem.W.fnOf "_law_given" "_law_given" (defArgs s_Lgiven) (defBody s_Lgiven) (defScope s_Lgiven) .none kV6 dc6 pm6 an6 cd6 ct6), sl6⟩) (c6 : PySem.W.codeIn K cd6 "_law_given" = true) (k6 : PySem.W.keepIn K (.ref f6) = true)
    (a7 : PySem.W.nsIn K mainGlobals "law" = some (some (.ref f7))) (l7 : K.lookup f7 = some ⟨oc7, od7, .func (PySem.W.fnOf "law" "law" (defArgs s_law) (defBody s_law) (defScope s_law) .none kV7 dc7 pm7 an7 cd7 ct7), sl7⟩) (c7 : PySem.W.codeIn K cd7 "law" = true) (k7 : PySem.W.keepIn K (.ref f7) = true)
    (z_IndexError : PySem.W.nsIn K mainGlobals "IndexError" = some none)
    (z_LookupError : PySem.W.nsIn K mainGlobals "LookupError" = some none)
    (z_ValueError : PySem.W.nsIn K mainGlobals "ValueError" = some none)
    (z_all : PySem.W.nsIn K mainGlobals "all" = some none)
    (z_bool : PySem.W.nsIn K mainGlobals "bool" = some none)
    (z_int : PySem.W.nsIn K mainGlobals "int" = some none)
    (z_isinstance : PySem.W.nsIn K mainGlobals "isinstance" = some none)
    (z_len : PySem.W.nsIn K mainGlobals "len" = some none)
    (z_list : PySem.W.nsIn K mainGlobals "list" = some none)
    (z_str : PySem.W.nsIn K mainGlobals "str" = some none)
    (z_tuple : PySem.W.nsIn K mainGlobals "tuple" = some none)
    (z_zip : PySem.W.nsIn K mainGlobals "zip" = some none)
    (yT1 : PySem.W.nsIn K mainGlobals "TableError" = some (some (.ref T1)))
    (yT2 : PySem.W.nsIn K mainGlobals "Missing" = some (some (.ref T2)))
    (yT3 : PySem.W.nsIn K mainGlobals "NothingLeft" = some (some (.ref T3)))
    (yI_Missing : PySem.W.findIn K (.ref T2) "__init__" = some (some (.ref fI_Missing)))
    (lI_Missing : K.lookup fI_Missing = some ⟨ocI_Missing, odI_Missing, .func (PySem.W.fnOf "__init__" "Missing.__init__" (defArgs s_init_Missing) (defBody s_init_Missing) (defScope s_init_Missing) .none kVI_Missing dcI_Missing pmI_Missing anI_Missing cdI_Missing ctI_Missing), slI_Missing⟩)
    (cI_Missing : PySem.W.codeIn K cdI_Missing "Missing.__init__" = true) (kI_Missing : PySem.W.keepIn K (.ref fI_Missing) = true) (fT_Missing : PySem.W.typeIn K (.ref fI_Missing) = some (.type "function")) (yfn_Missing : PySem.W.fnIn K fI_Missing = true)
    (yI_NothingLeft : PySem.W.findIn K (.ref T3) "__init__" = some (some (.ref fI_NothingLeft)))
    (lI_NothingLeft : K.lookup fI_NothingLeft = some ⟨ocI_NothingLeft, odI_NothingLeft, .func (PySem.W.fnOf "__init__" "NothingLeft.__init__" (defArgs s_init_NothingLeft) (defBody s_init_NothingLeft) (defScope s_init_NothingLeft) .none kVI_NothingLeft dcI_NothingLeft pmI_NothingLeft anI_NothingLeft cdI_NothingLeft ctI_NothingLeft), slI_NothingLeft⟩)
    (cI_NothingLeft : PySem.W.codeIn K cdI_NothingLeft "NothingLeft.__init__" = true) (kI_NothingLeft : PySem.W.keepIn K (.ref fI_NothingLeft) = true) (fT_NothingLeft : PySem.W.typeIn K (.ref fI_NothingLeft) = some (.type "function")) (yfn_NothingLeft : PySem.W.fnIn K fI_NothingLeft = true)
    (yI_TableError : PySem.W.findIn K (.ref T1) "__init__" = some (some (.ref fI_TableError)))
    (lI_TableError : K.lookup fI_TableError = some ⟨ocI_TableError, odI_TableError, .func (PySem.W.fnOf "__init__" "TableError.__init__" (defArgs s_init_TableError) (defBody s_init_TableError) (defScope s_init_TableError) .none kVI_TableError dcI_TableError pmI_TableError anI_TableError cdI_TableError ctI_TableError), slI_TableError⟩)
    (cI_TableError : PySem.W.codeIn K cdI_TableError "TableError.__init__" = true) (kI_TableError : PySem.W.keepIn K (.ref fI_TableError) = true) (fT_TableError : PySem.W.typeIn K (.ref fI_TableError) = some (.type "function")) (yfn_TableError : PySem.W.fnIn K fI_TableError = true)
    (ya_InvalidArguments : PySem.W.nsIn K mainGlobals "InvalidArguments" = some (some (.ref C_InvalidArguments))) (ye_InvalidArguments : PySem.W.findIn K (.ref C_InvalidArguments) "__init__" = some (some (.ref fI_TableError)))
    (ya_InvalidValue : PySem.W.nsIn K mainGlobals "InvalidValue" = some (some (.ref C_InvalidValue))) (ye_InvalidValue : PySem.W.findIn K (.ref C_InvalidValue) "__init__" = some (some (.ref fI_TableError)))
    (ya_InvalidColumns : PySem.W.nsIn K mainGlobals "InvalidColumns" = some (some (.ref C_InvalidColumns))) (ye_InvalidColumns : PySem.W.findIn K (.ref C_InvalidColumns) "__init__" = some (some (.ref fI_TableError)))
    (ya_NothingLeft : PySem.W.nsIn K mainGlobals "NothingLeft" = some (some (.ref C_NothingLeft))) (ye_NothingLeft : PySem.W.findIn K (.ref C_NothingLeft) "__init__" = some (some (.ref fI_NothingLeft)))
    (ya_InvalidText : PySem.W.nsIn K mainGlobals "InvalidText" = some (some (.ref C_InvalidText))) (ye_InvalidText : PySem.W.findIn K (.ref C_InvalidText) "__init__" = some (some (.ref fI_TableError)))
    (ya_ColumnsDiffer : PySem.W.nsIn K mainGlobals "ColumnsDiffer" = some (some (.ref C_ColumnsDiffer))) (ye_ColumnsDiffer : PySem.W.findIn K (.ref C_ColumnsDiffer) "__init__" = some (some (.ref fI_TableError)))
    (ya_NotOpen : PySem.W.nsIn K mainGlobals "NotOpen" = some (some (.ref C_NotOpen))) (ye_NotOpen : PySem.W.findIn K (.ref C_NotOpen) "__init__" = some (some (.ref fI_TableError)))
    (ya_InvalidLimit : PySem.W.nsIn K mainGlobals "InvalidLimit" = some (some (.ref C_InvalidLimit))) (ye_InvalidLimit : PySem.W.findIn K (.ref C_InvalidLimit) "__init__" = some (some (.ref fI_InvalidLimit)))
    (ya_InvalidCount : PySem.W.nsIn K mainGlobals "InvalidCount" = some (some (.ref C_InvalidCount))) (ye_InvalidCount : PySem.W.findIn K (.ref C_InvalidCount) "__init__" = some (some (.ref fI_InvalidCount)))
    (ya_InvalidName : PySem.W.nsIn K mainGlobals "InvalidName" = some (some (.ref C_InvalidName))) (ye_InvalidName : PySem.W.findIn K (.ref C_InvalidName) "__init__" = some (some (.ref fI_InvalidName)))
    (ya_InvalidRule : PySem.W.nsIn K mainGlobals "InvalidRule" = some (some (.ref C_InvalidRule))) (ye_InvalidRule : PySem.W.findIn K (.ref C_InvalidRule) "__init__" = some (some (.ref fI_InvalidRule)))
    (ya_InvalidComparison : PySem.W.nsIn K mainGlobals "InvalidComparison" = some (some (.ref C_InvalidComparison))) (ye_InvalidComparison : PySem.W.findIn K (.ref C_InvalidComparison) "__init__" = some (some (.ref fI_InvalidComparison)))
    (ya_InvalidRow : PySem.W.nsIn K mainGlobals "InvalidRow" = some (some (.ref C_InvalidRow))) (ye_InvalidRow : PySem.W.findIn K (.ref C_InvalidRow) "__init__" = some (some (.ref fI_InvalidRow)))
    (ya_InvalidCommand : PySem.W.nsIn K mainGlobals "InvalidCommand" = some (some (.ref C_InvalidCommand))) (ye_InvalidCommand : PySem.W.findIn K (.ref C_InvalidCommand) "__init__" = some (some (.ref fI_InvalidCommand)))
    (ya_InvalidLine : PySem.W.nsIn K mainGlobals "InvalidLine" = some (some (.ref C_InvalidLine))) (ye_InvalidLine : PySem.W.findIn K (.ref C_InvalidLine) "__init__" = some (some (.ref fI_InvalidLine)))
    (ya_FailsLate : PySem.W.nsIn K mainGlobals "FailsLate" = some (some (.ref C_FailsLate))) (ye_FailsLate : PySem.W.findIn K (.ref C_FailsLate) "__init__" = some (some (.ref fI_FailsLate)))
    (ya_InvalidStatement : PySem.W.nsIn K mainGlobals "InvalidStatement" = some (some (.ref C_InvalidStatement))) (ye_InvalidStatement : PySem.W.findIn K (.ref C_InvalidStatement) "__init__" = some (some (.ref fI_InvalidStatement)))
    (ya_InvalidCondition : PySem.W.nsIn K mainGlobals "InvalidCondition" = some (some (.ref C_InvalidCondition))) (ye_InvalidCondition : PySem.W.findIn K (.ref C_InvalidCondition) "__init__" = some (some (.ref fI_InvalidCondition)))
    (ya_UnknownName : PySem.W.nsIn K mainGlobals "UnknownName" = some (some (.ref C_UnknownName))) (ye_UnknownName : PySem.W.findIn K (.ref C_UnknownName) "__init__" = some (some (.ref fI_UnknownName)))
    (ya_WrongKind : PySem.W.nsIn K mainGlobals "WrongKind" = some (some (.ref C_WrongKind))) (ye_WrongKind : PySem.W.findIn K (.ref C_WrongKind) "__init__" = some (some (.ref fI_WrongKind)))
    (ya_DuplicateName : PySem.W.nsIn K mainGlobals "DuplicateName" = some (some (.ref C_DuplicateName))) (ye_DuplicateName : PySem.W.findIn K (.ref C_DuplicateName) "__init__" = some (some (.ref fI_DuplicateName)))
    (ya_UnknownKey : PySem.W.nsIn K mainGlobals "UnknownKey" = some (some (.ref C_UnknownKey))) (ye_UnknownKey : PySem.W.findIn K (.ref C_UnknownKey) "__init__" = some (some (.ref fI_UnknownKey)))
    (ya_Failed : PySem.W.nsIn K mainGlobals "Failed" = some (some (.ref C_Failed))) (ye_Failed : PySem.W.findIn K (.ref C_Failed) "__init__" = some (some (.ref fI_Failed)))
    (ya_Full : PySem.W.nsIn K mainGlobals "Full" = some (some (.ref C_Full))) (ye_Full : PySem.W.findIn K (.ref C_Full) "__init__" = some (some (.ref fI_Full)))
    (ya_TooWide : PySem.W.nsIn K mainGlobals "TooWide" = some (some (.ref C_TooWide))) (ye_TooWide : PySem.W.findIn K (.ref C_TooWide) "__init__" = some (some (.ref fI_TooWide)))
    (ya_NotCarried : PySem.W.nsIn K mainGlobals "NotCarried" = some (some (.ref C_NotCarried))) (ye_NotCarried : PySem.W.findIn K (.ref C_NotCarried) "__init__" = some (some (.ref fI_NotCarried)))
    (ysT : (l.prog.main.scope.names.lookup ("super" : Str)).isSome = false) (ysS : PySem.W.nsIn K mainGlobals "super" = some none) (ysA : PySem.W.nsIn K cStatics "thirdparty.any" = some none)
    (yb_InvalidArguments : DX.ErrB K C_InvalidArguments "InvalidArguments" T1 T2 T3) (yc_InvalidArguments : K.lookup C_InvalidArguments = some (excClassObj nm_InvalidArguments q_InvalidArguments C_InvalidArguments N_InvalidArguments bs_InvalidArguments bm_InvalidArguments true sn_InvalidArguments sub_InvalidArguments ab_InvalidArguments col_InvalidArguments dd_InvalidArguments k0_InvalidArguments k1_InvalidArguments k2_InvalidArguments k3_InvalidArguments k5_InvalidArguments "ValueError.__new__")) (yd_InvalidArguments : PySem.W.excTail [.type "ValueError", .type "Exception", .type "BaseException", .type "object"] bm_InvalidArguments = true) (yv_InvalidArguments : DE1.errVB K C_InvalidArguments = true)
    (yb_InvalidValue : DX.ErrB K C_InvalidValue "InvalidValue" T1 T2 T3) (yc_InvalidValue : K.lookup C_InvalidValue = some (excClassObj nm_InvalidValue q_InvalidValue C_InvalidValue N_InvalidValue bs_InvalidValue bm_InvalidValue true sn_InvalidValue sub_InvalidValue ab_InvalidValue col_InvalidValue dd_InvalidValue k0_InvalidValue k1_InvalidValue k2_InvalidValue k3_InvalidValue k5_InvalidValue "ValueError.__new__")) (yd_InvalidValue : PySem.W.excTail [.type "ValueError", .type "Exception", .type "BaseException", .type "object"] bm_InvalidValue = true) (yv_InvalidValue : DE1.errVB K C_InvalidValue = true)
    (yb_InvalidColumns : DX.ErrB K C_InvalidColumns "InvalidColumns" T1 T2 T3) (yc_InvalidColumns : K.lookup C_InvalidColumns = some (excClassObj nm_InvalidColumns q_InvalidColumns C_InvalidColumns N_InvalidColumns bs_InvalidColumns bm_InvalidColumns true sn_InvalidColumns sub_InvalidColumns ab_InvalidColumns col_InvalidColumns dd_InvalidColumns k0_InvalidColumns k1_InvalidColumns k2_InvalidColumns k3_InvalidColumns k5_InvalidColumns "ValueError.__new__")) (yd_InvalidColumns : PySem.W.excTail [.type "ValueError", .type "Exception", .type "BaseException", .type "object"] bm_InvalidColumns = true) (yv_InvalidColumns : DE1.errVB K C_InvalidColumns = true)
    (yb_NothingLeft : DX.ErrB K C_NothingLeft "NothingLeft" T1 T2 T3) (yc_NothingLeft : K.lookup C_NothingLeft = some (excClassObj nm_NothingLeft q_NothingLeft C_NothingLeft N_NothingLeft bs_NothingLeft bm_NothingLeft true sn_NothingLeft sub_NothingLeft ab_NothingLeft col_NothingLeft dd_NothingLeft k0_NothingLeft k1_NothingLeft k2_NothingLeft k3_NothingLeft k5_NothingLeft "IndexError.__new__")) (yd_NothingLeft : PySem.W.excTail [.type "IndexError", .type "LookupError", .type "Exception", .type "BaseException", .type "object"] bm_NothingLeft = true) (yv_NothingLeft : DE1.errVB K C_NothingLeft = true)
    (yb_InvalidText : DX.ErrB K C_InvalidText "InvalidText" T1 T2 T3) (yc_InvalidText : K.lookup C_InvalidText = some (excClassObj nm_InvalidText q_InvalidText C_InvalidText N_InvalidText bs_InvalidText bm_InvalidText true sn_InvalidText sub_InvalidText ab_InvalidText col_InvalidText dd_InvalidText k0_InvalidText k1_InvalidText k2_InvalidText k3_InvalidText k5_InvalidText "ValueError.__new__")) (yd_InvalidText : PySem.W.excTail [.type "ValueError", .type "Exception", .type "BaseException", .type "object"] bm_InvalidText = true) (yv_InvalidText : DE1.errVB K C_InvalidText = true)
    (yb_ColumnsDiffer : DX.ErrB K C_ColumnsDiffer "ColumnsDiffer" T1 T2 T3) (yc_ColumnsDiffer : K.lookup C_ColumnsDiffer = some (excClassObj nm_ColumnsDiffer q_ColumnsDiffer C_ColumnsDiffer N_ColumnsDiffer bs_ColumnsDiffer bm_ColumnsDiffer true sn_ColumnsDiffer sub_ColumnsDiffer ab_ColumnsDiffer col_ColumnsDiffer dd_ColumnsDiffer k0_ColumnsDiffer k1_ColumnsDiffer k2_ColumnsDiffer k3_ColumnsDiffer k5_ColumnsDiffer "ValueError.__new__")) (yd_ColumnsDiffer : PySem.W.excTail [.type "ValueError", .type "Exception", .type "BaseException", .type "object"] bm_ColumnsDiffer = true) (yv_ColumnsDiffer : DE1.errVB K C_ColumnsDiffer = true)
    (yb_NotOpen : DX.ErrB K C_NotOpen "NotOpen" T1 T2 T3) (yc_NotOpen : K.lookup C_NotOpen = some (excClassObj nm_NotOpen q_NotOpen C_NotOpen N_NotOpen bs_NotOpen bm_NotOpen true sn_NotOpen sub_NotOpen ab_NotOpen col_NotOpen dd_NotOpen k0_NotOpen k1_NotOpen k2_NotOpen k3_NotOpen k5_NotOpen "ValueError.__new__")) (yd_NotOpen : PySem.W.excTail [.type "ValueError", .type "Exception", .type "BaseException", .type "object"] bm_NotOpen = true) (yv_NotOpen : DE1.errVB K C_NotOpen = true)
    (yb_InvalidLimit : DX.ErrB K C_InvalidLimit "InvalidLimit" T1 T2 T3) (yc_InvalidLimit : K.lookup C_InvalidLimit = some (excClassObj nm_InvalidLimit q_InvalidLimit C_InvalidLimit N_InvalidLimit bs_InvalidLimit bm_InvalidLimit true sn_InvalidLimit sub_InvalidLimit ab_InvalidLimit col_InvalidLimit dd_InvalidLimit k0_InvalidLimit k1_InvalidLimit k2_InvalidLimit k3_InvalidLimit k5_InvalidLimit "ValueError.__new__")) (yd_InvalidLimit : PySem.W.excTail [.type "ValueError", .type "Exception", .type "BaseException", .type "object"] bm_InvalidLimit = true) (yv_InvalidLimit : DE1.errVB K C_InvalidLimit = true)
    (yf_InvalidLimit : PySem.W.typeIn K (.ref fI_InvalidLimit) = some (.type "function")) (yl_InvalidLimit : K.lookup fI_InvalidLimit = some ⟨oc_InvalidLimit, od_InvalidLimit, .func (PySem.W.ksFn "__init__" "InvalidLimit.__init__" (defArgs si_InvalidLimit) (defBody si_InvalidLimit) (defScope si_InvalidLimit) .none kV_InvalidLimit dc_InvalidLimit pm_InvalidLimit an_InvalidLimit (.ref cda_InvalidLimit) ct_InvalidLimit cc_InvalidLimit), osl_InvalidLimit⟩) (yg_InvalidLimit : PySem.W.codeIn K (.ref cda_InvalidLimit) "InvalidLimit.__init__" = true)
    (yh_InvalidLimit : K.lookup cda_InvalidLimit = some ⟨ccl_InvalidLimit, cdd_InvalidLimit, .fields vs_InvalidLimit, ccs_InvalidLimit⟩) (yi_InvalidLimit : vs_InvalidLimit[2]? = some (.str fi_InvalidLimit tf_InvalidLimit)) (yj_InvalidLimit : ((l.prog.main.file : Str) == fi_InvalidLimit) = true) (yk_InvalidLimit : K.lookup cc_InvalidLimit = some ⟨cl_InvalidLimit, cld_InvalidLimit, .cell (some (.ref C_InvalidLimit)), csl_InvalidLimit⟩) (ym_InvalidLimit : PySem.W.mroIn K C_InvalidLimit (.ref C_InvalidLimit) = some true) (yn_InvalidLimit : PySem.W.ks_superIn K C_InvalidLimit C_InvalidLimit "__init__" = some (some (.ref fI_TableError)))
    (yb_InvalidCount : DX.ErrB K C_InvalidCount "InvalidCount" T1 T2 T3) (yc_InvalidCount : K.lookup C_InvalidCount = some (excClassObj nm_InvalidCount q_InvalidCount C_InvalidCount N_InvalidCount bs_InvalidCount bm_InvalidCount true sn_InvalidCount sub_InvalidCount ab_InvalidCount col_InvalidCount dd_InvalidCount k0_InvalidCount k1_InvalidCount k2_InvalidCount k3_InvalidCount k5_InvalidCount "ValueError.__new__")) (yd_InvalidCount : PySem.W.excTail [.type "ValueError", .type "Exception", .type "BaseException", .type "object"] bm_InvalidCount = true) (yv_InvalidCount : DE1.errVB K C_InvalidCount = true)
    (yf_InvalidCount : PySem.W.typeIn K (.ref fI_InvalidCount) = some (.type "function")) (yl_InvalidCount : K.lookup fI_InvalidCount = some ⟨oc_InvalidCount, od_InvalidCount, .func (PySem.W.ksFn "__init__" "InvalidCount.__init__" (defArgs si_InvalidCount) (defBody si_InvalidCount) (defScope si_InvalidCount) .none kV_InvalidCount dc_InvalidCount pm_InvalidCount an_InvalidCount (.ref cda_InvalidCount) ct_InvalidCount cc_InvalidCount), osl_InvalidCount⟩) (yg_InvalidCount : PySem.W.codeIn K (.ref cda_InvalidCount) "InvalidCount.__init__" = true)
    (yh_InvalidCount : K.lookup cda_InvalidCount = some ⟨ccl_InvalidCount, cdd_InvalidCount, .fields vs_InvalidCount, ccs_InvalidCount⟩) (yi_InvalidCount : vs_InvalidCount[2]? = some (.str fi_InvalidCount tf_InvalidCount)) (yj_InvalidCount : ((l.prog.main.file : Str) == fi_InvalidCount) = true) (yk_InvalidCount : K.lookup cc_InvalidCount = some ⟨cl_InvalidCount, cld_InvalidCount, .cell (some (.ref C_InvalidCount)), csl_InvalidCount⟩) (ym_InvalidCount : PySem.W.mroIn K C_InvalidCount (.ref C_InvalidCount) = some true) (yn_InvalidCount : PySem.W.ks_superIn K C_InvalidCount C_InvalidCount "__init__" = some (some (.ref fI_TableError)))
    (yb_InvalidName : DX.ErrB K C_InvalidName "InvalidName" T1 T2 T3) (yc_InvalidName : K.lookup C_InvalidName = some (excClassObj nm_InvalidName q_InvalidName C_InvalidName N_InvalidName bs_InvalidName bm_InvalidName true sn_InvalidName sub_InvalidName ab_InvalidName col_InvalidName dd_InvalidName k0_InvalidName k1_InvalidName k2_InvalidName k3_InvalidName k5_InvalidName "ValueError.__new__")) (yd_InvalidName : PySem.W.excTail [.type "ValueError", .type "Exception", .type "BaseException", .type "object"] bm_InvalidName = true) (yv_InvalidName : DE1.errVB K C_InvalidName = true)
    (yf_InvalidName : PySem.W.typeIn K (.ref fI_InvalidName) = some (.type "function")) (yl_InvalidName : K.lookup fI_InvalidName = some ⟨oc_InvalidName, od_InvalidName, .func (PySem.W.ksFn "__init__" "InvalidName.__init__" (defArgs si_InvalidName) (defBody si_InvalidName) (defScope si_InvalidName) .none kV_InvalidName dc_InvalidName pm_InvalidName an_InvalidName (.ref cda_InvalidName) ct_InvalidName cc_InvalidName), osl_InvalidName⟩) (yg_InvalidName : PySem.W.codeIn K (.ref cda_InvalidName) "InvalidName.__init__" = true)
    (yh_InvalidName : K.lookup cda_InvalidName = some ⟨ccl_InvalidName, cdd_InvalidName, .fields vs_InvalidName, ccs_InvalidName⟩) (yi_InvalidName : vs_InvalidName[2]? = some (.str fi_InvalidName tf_InvalidName)) (yj_InvalidName : ((l.prog.main.file : Str) == fi_InvalidName) = true) (yk_InvalidName : K.lookup cc_InvalidName = some ⟨cl_InvalidName, cld_InvalidName, .cell (some (.ref C_InvalidName)), csl_InvalidName⟩) (ym_InvalidName : PySem.W.mroIn K C_InvalidName (.ref C_InvalidName) = some true) (yn_InvalidName : PySem.W.ks_superIn K C_InvalidName C_InvalidName "__init__" = some (some (.ref fI_TableError)))
    (yb_InvalidRule : DX.ErrB K C_InvalidRule "InvalidRule" T1 T2 T3) (yc_InvalidRule : K.lookup C_InvalidRule = some (excClassObj nm_InvalidRule q_InvalidRule C_InvalidRule N_InvalidRule bs_InvalidRule bm_InvalidRule true sn_InvalidRule sub_InvalidRule ab_InvalidRule col_InvalidRule dd_InvalidRule k0_InvalidRule k1_InvalidRule k2_InvalidRule k3_InvalidRule k5_InvalidRule "ValueError.__new__")) (yd_InvalidRule : PySem.W.excTail [.type "ValueError", .type "Exception", .type "BaseException", .type "object"] bm_InvalidRule = true) (yv_InvalidRule : DE1.errVB K C_InvalidRule = true)
    (yf_InvalidRule : PySem.W.typeIn K (.ref fI_InvalidRule) = some (.type "function")) (yl_InvalidRule : K.lookup fI_InvalidRule = some ⟨oc_InvalidRule, od_InvalidRule, .func (PySem.W.ksFn "__init__" "InvalidRule.__init__" (defArgs si_InvalidRule) (defBody si_InvalidRule) (defScope si_InvalidRule) .none kV_InvalidRule dc_InvalidRule pm_InvalidRule an_InvalidRule (.ref cda_InvalidRule) ct_InvalidRule cc_InvalidRule), osl_InvalidRule⟩) (yg_InvalidRule : PySem.W.codeIn K (.ref cda_InvalidRule) "InvalidRule.__init__" = true)
    (yh_InvalidRule : K.lookup cda_InvalidRule = some ⟨ccl_InvalidRule, cdd_InvalidRule, .fields vs_InvalidRule, ccs_InvalidRule⟩) (yi_InvalidRule : vs_InvalidRule[2]? = some (.str fi_InvalidRule tf_InvalidRule)) (yj_InvalidRule : ((l.prog.main.file : Str) == fi_InvalidRule) = true) (yk_InvalidRule : K.lookup cc_InvalidRule = some ⟨cl_InvalidRule, cld_InvalidRule, .cell (some (.ref C_InvalidRule)), csl_InvalidRule⟩) (ym_InvalidRule : PySem.W.mroIn K C_InvalidRule (.ref C_InvalidRule) = some true) (yn_InvalidRule : PySem.W.ks_superIn K C_InvalidRule C_InvalidRule "__init__" = some (some (.ref fI_TableError)))
    (yb_InvalidComparison : DX.ErrB K C_InvalidComparison "InvalidComparison" T1 T2 T3) (yc_InvalidComparison : K.lookup C_InvalidComparison = some (excClassObj nm_InvalidComparison q_InvalidComparison C_InvalidComparison N_InvalidComparison bs_InvalidComparison bm_InvalidComparison true sn_InvalidComparison sub_InvalidComparison ab_InvalidComparison col_InvalidComparison dd_InvalidComparison k0_InvalidComparison k1_InvalidComparison k2_InvalidComparison k3_InvalidComparison k5_InvalidComparison "ValueError.__new__")) (yd_InvalidComparison : PySem.W.excTail [.type "ValueError", .type "Exception", .type "BaseException", .type "object"] bm_InvalidComparison = true) (yv_InvalidComparison : DE1.errVB K C_InvalidComparison = true)
    (yf_InvalidComparison : PySem.W.typeIn K (.ref fI_InvalidComparison) = some (.type "function")) (yl_InvalidComparison : K.lookup fI_InvalidComparison = some ⟨oc_InvalidComparison, od_InvalidComparison, .func (PySem.W.ksFn "__init__" "InvalidComparison.__init__" (defArgs si_InvalidComparison) (defBody si_InvalidComparison) (defScope si_InvalidComparison) .none kV_InvalidComparison dc_InvalidComparison pm_InvalidComparison an_InvalidComparison (.ref cda_InvalidComparison) ct_InvalidComparison cc_InvalidComparison), osl_InvalidComparison⟩) (yg_InvalidComparison : PySem.W.codeIn K (.ref cda_InvalidComparison) "InvalidComparison.__init__" = true)
    (yh_InvalidComparison : K.lookup cda_InvalidComparison = some ⟨ccl_InvalidComparison, cdd_InvalidComparison, .fields vs_InvalidComparison, ccs_InvalidComparison⟩) (yi_InvalidComparison : vs_InvalidComparison[2]? = some (.str fi_InvalidComparison tf_InvalidComparison)) (yj_InvalidComparison : ((l.prog.main.file : Str) == fi_InvalidComparison) = true) (yk_InvalidComparison : K.lookup cc_InvalidComparison = some ⟨cl_InvalidComparison, cld_InvalidComparison, .cell (some (.ref C_InvalidComparison)), csl_InvalidComparison⟩) (ym_InvalidComparison : PySem.W.mroIn K C_InvalidComparison (.ref C_InvalidComparison) = some true) (yn_InvalidComparison : PySem.W.ks_superIn K C_InvalidComparison C_InvalidComparison "__init__" = some (some (.ref fI_TableError)))
    (yb_InvalidRow : DX.ErrB K C_InvalidRow "InvalidRow" T1 T2 T3) (yc_InvalidRow : K.lookup C_InvalidRow = some (excClassObj nm_InvalidRow q_InvalidRow C_InvalidRow N_InvalidRow bs_InvalidRow bm_InvalidRow true sn_InvalidRow sub_InvalidRow ab_InvalidRow col_InvalidRow dd_InvalidRow k0_InvalidRow k1_InvalidRow k2_InvalidRow k3_InvalidRow k5_InvalidRow "ValueError.__new__")) (yd_InvalidRow : PySem.W.excTail [.type "ValueError", .type "Exception", .type "BaseException", .type "object"] bm_InvalidRow = true) (yv_InvalidRow : DE1.errVB K C_InvalidRow = true)
    (yf_InvalidRow : PySem.W.typeIn K (.ref fI_InvalidRow) = some (.type "function")) (yl_InvalidRow : K.lookup fI_InvalidRow = some ⟨oc_InvalidRow, od_InvalidRow, .func (PySem.W.ksFn "__init__" "InvalidRow.__init__" (defArgs si_InvalidRow) (defBody si_InvalidRow) (defScope si_InvalidRow) .none kV_InvalidRow dc_InvalidRow pm_InvalidRow an_InvalidRow (.ref cda_InvalidRow) ct_InvalidRow cc_InvalidRow), osl_InvalidRow⟩) (yg_InvalidRow : PySem.W.codeIn K (.ref cda_InvalidRow) "InvalidRow.__init__" = true)
    (yh_InvalidRow : K.lookup cda_InvalidRow = some ⟨ccl_InvalidRow, cdd_InvalidRow, .fields vs_InvalidRow, ccs_InvalidRow⟩) (yi_InvalidRow : vs_InvalidRow[2]? = some (.str fi_InvalidRow tf_InvalidRow)) (yj_InvalidRow : ((l.prog.main.file : Str) == fi_InvalidRow) = true) (yk_InvalidRow : K.lookup cc_InvalidRow = some ⟨cl_InvalidRow, cld_InvalidRow, .cell (some (.ref C_InvalidRow)), csl_InvalidRow⟩) (ym_InvalidRow : PySem.W.mroIn K C_InvalidRow (.ref C_InvalidRow) = some true) (yn_InvalidRow : PySem.W.ks_superIn K C_InvalidRow C_InvalidRow "__init__" = some (some (.ref fI_TableError)))
    (yb_InvalidCommand : DX.ErrB K C_InvalidCommand "InvalidCommand" T1 T2 T3) (yc_InvalidCommand : K.lookup C_InvalidCommand = some (excClassObj nm_InvalidCommand q_InvalidCommand C_InvalidCommand N_InvalidCommand bs_InvalidCommand bm_InvalidCommand true sn_InvalidCommand sub_InvalidCommand ab_InvalidCommand col_InvalidCommand dd_InvalidCommand k0_InvalidCommand k1_InvalidCommand k2_InvalidCommand k3_InvalidCommand k5_InvalidCommand "ValueError.__new__")) (yd_InvalidCommand : PySem.W.excTail [.type "ValueError", .type "Exception", .type "BaseException", .type "object"] bm_InvalidCommand = true) (yv_InvalidCommand : DE1.errVB K C_InvalidCommand = true)
    (yf_InvalidCommand : PySem.W.typeIn K (.ref fI_InvalidCommand) = some (.type "function")) (yl_InvalidCommand : K.lookup fI_InvalidCommand = some ⟨oc_InvalidCommand, od_InvalidCommand, .func (PySem.W.ksFn "__init__" "InvalidCommand.__init__" (defArgs si_InvalidCommand) (defBody si_InvalidCommand) (defScope si_InvalidCommand) .none kV_InvalidCommand dc_InvalidCommand pm_InvalidCommand an_InvalidCommand (.ref cda_InvalidCommand) ct_InvalidCommand cc_InvalidCommand), osl_InvalidCommand⟩) (yg_InvalidCommand : PySem.W.codeIn K (.ref cda_InvalidCommand) "InvalidCommand.__init__" = true)
    (yh_InvalidCommand : K.lookup cda_InvalidCommand = some ⟨ccl_InvalidCommand, cdd_InvalidCommand, .fields vs_InvalidCommand, ccs_InvalidCommand⟩) (yi_InvalidCommand : vs_InvalidCommand[2]? = some (.str fi_InvalidCommand tf_InvalidCommand)) (yj_InvalidCommand : ((l.prog.main.file : Str) == fi_InvalidCommand) = true) (yk_InvalidCommand : K.lookup cc_InvalidCommand = some ⟨cl_InvalidCommand, cld_InvalidCommand, .cell (some (.ref C_InvalidCommand)), csl_InvalidCommand⟩) (ym_InvalidCommand : PySem.W.mroIn K C_InvalidCommand (.ref C_InvalidCommand) = some true) (yn_InvalidCommand : PySem.W.ks_superIn K C_InvalidCommand C_InvalidCommand "__init__" = some (some (.ref fI_TableError)))
    (yb_InvalidLine : DX.ErrB K C_InvalidLine "InvalidLine" T1 T2 T3) (yc_InvalidLine : K.lookup C_InvalidLine = some (excClassObj nm_InvalidLine q_InvalidLine C_InvalidLine N_InvalidLine bs_InvalidLine bm_InvalidLine true sn_InvalidLine sub_InvalidLine ab_InvalidLine col_InvalidLine dd_InvalidLine k0_InvalidLine k1_InvalidLine k2_InvalidLine k3_InvalidLine k5_InvalidLine "ValueError.__new__")) (yd_InvalidLine : PySem.W.excTail [.type "ValueError", .type "Exception", .type "BaseException", .type "object"] bm_InvalidLine = true) (yv_InvalidLine : DE1.errVB K C_InvalidLine = true)
    (yf_InvalidLine : PySem.W.typeIn K (.ref fI_InvalidLine) = some (.type "function")) (yl_InvalidLine : K.lookup fI_InvalidLine = some ⟨oc_InvalidLine, od_InvalidLine, .func (PySem.W.ksFn "__init__" "InvalidLine.__init__" (defArgs si_InvalidLine) (defBody si_InvalidLine) (defScope si_InvalidLine) .none kV_InvalidLine dc_InvalidLine pm_InvalidLine an_InvalidLine (.ref cda_InvalidLine) ct_InvalidLine cc_InvalidLine), osl_InvalidLine⟩) (yg_InvalidLine : PySem.W.codeIn K (.ref cda_InvalidLine) "InvalidLine.__init__" = true)
    (yh_InvalidLine : K.lookup cda_InvalidLine = some ⟨ccl_InvalidLine, cdd_InvalidLine, .fields vs_InvalidLine, ccs_InvalidLine⟩) (yi_InvalidLine : vs_InvalidLine[2]? = some (.str fi_InvalidLine tf_InvalidLine)) (yj_InvalidLine : ((l.prog.main.file : Str) == fi_InvalidLine) = true) (yk_InvalidLine : K.lookup cc_InvalidLine = some ⟨cl_InvalidLine, cld_InvalidLine, .cell (some (.ref C_InvalidLine)), csl_InvalidLine⟩) (ym_InvalidLine : PySem.W.mroIn K C_InvalidLine (.ref C_InvalidLine) = some true) (yn_InvalidLine : PySem.W.ks_superIn K C_InvalidLine C_InvalidLine "__init__" = some (some (.ref fI_TableError)))
    (yb_FailsLate : DX.ErrB K C_FailsLate "FailsLate" T1 T2 T3) (yc_FailsLate : K.lookup C_FailsLate = some (excClassObj nm_FailsLate q_FailsLate C_FailsLate N_FailsLate bs_FailsLate bm_FailsLate true sn_FailsLate sub_FailsLate ab_FailsLate col_FailsLate dd_FailsLate k0_FailsLate k1_FailsLate k2_FailsLate k3_FailsLate k5_FailsLate "ValueError.__new__")) (yd_FailsLate : PySem.W.excTail [.type "ValueError", .type "Exception", .type "BaseException", .type "object"] bm_FailsLate = true) (yv_FailsLate : DE1.errVB K C_FailsLate = true)
    (yf_FailsLate : PySem.W.typeIn K (.ref fI_FailsLate) = some (.type "function")) (yl_FailsLate : K.lookup fI_FailsLate = some ⟨oc_FailsLate, od_FailsLate, .func (PySem.W.ksFn "__init__" "FailsLate.__init__" (defArgs si_FailsLate) (defBody si_FailsLate) (defScope si_FailsLate) .none kV_FailsLate dc_FailsLate pm_FailsLate an_FailsLate (.ref cda_FailsLate) ct_FailsLate cc_FailsLate), osl_FailsLate⟩) (yg_FailsLate : PySem.W.codeIn K (.ref cda_FailsLate) "FailsLate.__init__" = true)
    (yh_FailsLate : K.lookup cda_FailsLate = some ⟨ccl_FailsLate, cdd_FailsLate, .fields vs_FailsLate, ccs_FailsLate⟩) (yi_FailsLate : vs_FailsLate[2]? = some (.str fi_FailsLate tf_FailsLate)) (yj_FailsLate : ((l.prog.main.file : Str) == fi_FailsLate) = true) (yk_FailsLate : K.lookup cc_FailsLate = some ⟨cl_FailsLate, cld_FailsLate, .cell (some (.ref C_FailsLate)), csl_FailsLate⟩) (ym_FailsLate : PySem.W.mroIn K C_FailsLate (.ref C_FailsLate) = some true) (yn_FailsLate : PySem.W.ks_superIn K C_FailsLate C_FailsLate "__init__" = some (some (.ref fI_TableError)))
    (yb_InvalidStatement : DX.ErrB K C_InvalidStatement "InvalidStatement" T1 T2 T3) (yc_InvalidStatement : K.lookup C_InvalidStatement = some (excClassObj nm_InvalidStatement q_InvalidStatement C_InvalidStatement N_InvalidStatement bs_InvalidStatement bm_InvalidStatement true sn_InvalidStatement sub_InvalidStatement ab_InvalidStatement col_InvalidStatement dd_InvalidStatement k0_InvalidStatement k1_InvalidStatement k2_InvalidStatement k3_InvalidStatement k5_InvalidStatement "ValueError.__new__")) (yd_InvalidStatement : PySem.W.excTail [.type "ValueError", .type "Exception", .type "BaseException", .type "object"] bm_InvalidStatement = true) (yv_InvalidStatement : DE1.errVB K C_InvalidStatement = true)
    (yf_InvalidStatement : PySem.W.typeIn K (.ref fI_InvalidStatement) = some (.type "function")) (yl_InvalidStatement : K.lookup fI_InvalidStatement = some ⟨oc_InvalidStatement, od_InvalidStatement, .func (PySem.W.ksFn "__init__" "InvalidStatement.__init__" (defArgs si_InvalidStatement) (defBody si_InvalidStatement) (defScope si_InvalidStatement) .none kV_InvalidStatement dc_InvalidStatement pm_InvalidStatement an_InvalidStatement (.ref cda_InvalidStatement) ct_InvalidStatement cc_InvalidStatement), osl_InvalidStatement⟩) (yg_InvalidStatement : PySem.W.codeIn K (.ref cda_InvalidStatement) "InvalidStatement.__init__" = true)
    (yh_InvalidStatement : K.lookup cda_InvalidStatement = some ⟨ccl_InvalidStatement, cdd_InvalidStatement, .fields vs_InvalidStatement, ccs_InvalidStatement⟩) (yi_InvalidStatement : vs_InvalidStatement[2]? = some (.str fi_InvalidStatement tf_InvalidStatement)) (yj_InvalidStatement : ((l.prog.main.file : Str) == fi_InvalidStatement) = true) (yk_InvalidStatement : K.lookup cc_InvalidStatement = some ⟨cl_InvalidStatement, cld_InvalidStatement, .cell (some (.ref C_InvalidStatement)), csl_InvalidStatement⟩) (ym_InvalidStatement : PySem.W.mroIn K C_InvalidStatement (.ref C_InvalidStatement) = some true) (yn_InvalidStatement : PySem.W.ks_superIn K C_InvalidStatement C_InvalidStatement "__init__" = some (some (.ref fI_TableError)))
    (yb_InvalidCondition : DX.ErrB K C_InvalidCondition "InvalidCondition" T1 T2 T3) (yc_InvalidCondition : K.lookup C_InvalidCondition = some (excClassObj nm_InvalidCondition q_InvalidCondition C_InvalidCondition N_InvalidCondition bs_InvalidCondition bm_InvalidCondition true sn_InvalidCondition sub_InvalidCondition ab_InvalidCondition col_InvalidCondition dd_InvalidCondition k0_InvalidCondition k1_InvalidCondition k2_InvalidCondition k3_InvalidCondition k5_InvalidCondition "ValueError.__new__")) (yd_InvalidCondition : PySem.W.excTail [.type "ValueError", .type "Exception", .type "BaseException", .type "object"] bm_InvalidCondition = true) (yv_InvalidCondition : DE1.errVB K C_InvalidCondition = true)
    (yf_InvalidCondition : PySem.W.typeIn K (.ref fI_InvalidCondition) = some (.type "function")) (yl_InvalidCondition : K.lookup fI_InvalidCondition = some ⟨oc_InvalidCondition, od_InvalidCondition, .func (PySem.W.ksFn "__init__" "InvalidCondition.__init__" (defArgs si_InvalidCondition) (defBody si_InvalidCondition) (defScope si_InvalidCondition) .none kV_InvalidCondition dc_InvalidCondition pm_InvalidCondition an_InvalidCondition (.ref cda_InvalidCondition) ct_InvalidCondition cc_InvalidCondition), osl_InvalidCondition⟩) (yg_InvalidCondition : PySem.W.codeIn K (.ref cda_InvalidCondition) "InvalidCondition.__init__" = true)
    (yh_InvalidCondition : K.lookup cda_InvalidCondition = some ⟨ccl_InvalidCondition, cdd_InvalidCondition, .fields vs_InvalidCondition, ccs_InvalidCondition⟩) (yi_InvalidCondition : vs_InvalidCondition[2]? = some (.str fi_InvalidCondition tf_InvalidCondition)) (yj_InvalidCondition : ((l.prog.main.file : Str) == fi_InvalidCondition) = true) (yk_InvalidCondition : K.lookup cc_InvalidCondition = some ⟨cl_InvalidCondition, cld_InvalidCondition, .cell (some (.ref C_InvalidCondition)), csl_InvalidCondition⟩) (ym_InvalidCondition : PySem.W.mroIn K C_InvalidCondition (.ref C_InvalidCondition) = some true) (yn_InvalidCondition : PySem.W.ks_superIn K C_InvalidCondition C_InvalidCondition "__init__" = some (some (.ref fI_TableError)))
    (yb_UnknownName : DX.ErrB K C_UnknownName "UnknownName" T1 T2 T3) (yc_UnknownName : K.lookup C_UnknownName = some (excClassObj nm_UnknownName q_UnknownName C_UnknownName N_UnknownName bs_UnknownName bm_UnknownName true sn_UnknownName sub_UnknownName ab_UnknownName col_UnknownName dd_UnknownName k0_UnknownName k1_UnknownName k2_UnknownName k3_UnknownName k5_UnknownName "LookupError.__new__")) (yd_UnknownName : PySem.W.excTail [.type "LookupError", .type "Exception", .type "BaseException", .type "object"] bm_UnknownName = true) (yv_UnknownName : DE1.errVB K C_UnknownName = true)
    (yf_UnknownName : PySem.W.typeIn K (.ref fI_UnknownName) = some (.type "function")) (yl_UnknownName : K.lookup fI_UnknownName = some ⟨oc_UnknownName, od_UnknownName, .func (PySem.W.ksFn "__init__" "UnknownName.__init__" (defArgs si_UnknownName) (defBody si_UnknownName) (defScope si_UnknownName) .none kV_UnknownName dc_UnknownName pm_UnknownName an_UnknownName (.ref cda_UnknownName) ct_UnknownName cc_UnknownName), osl_UnknownName⟩) (yg_UnknownName : PySem.W.codeIn K (.ref cda_UnknownName) "UnknownName.__init__" = true)
    (yh_UnknownName : K.lookup cda_UnknownName = some ⟨ccl_UnknownName, cdd_UnknownName, .fields vs_UnknownName, ccs_UnknownName⟩) (yi_UnknownName : vs_UnknownName[2]? = some (.str fi_UnknownName tf_UnknownName)) (yj_UnknownName : ((l.prog.main.file : Str) == fi_UnknownName) = true) (yk_UnknownName : K.lookup cc_UnknownName = some ⟨cl_UnknownName, cld_UnknownName, .cell (some (.ref C_UnknownName)), csl_UnknownName⟩) (ym_UnknownName : PySem.W.mroIn K C_UnknownName (.ref C_UnknownName) = some true) (yn_UnknownName : PySem.W.ks_superIn K C_UnknownName C_UnknownName "__init__" = some (some (.ref fI_Missing)))
    (yb_WrongKind : DX.ErrB K C_WrongKind "WrongKind" T1 T2 T3) (yc_WrongKind : K.lookup C_WrongKind = some (excClassObj nm_WrongKind q_WrongKind C_WrongKind N_WrongKind bs_WrongKind bm_WrongKind true sn_WrongKind sub_WrongKind ab_WrongKind col_WrongKind dd_WrongKind k0_WrongKind k1_WrongKind k2_WrongKind k3_WrongKind k5_WrongKind "ValueError.__new__")) (yd_WrongKind : PySem.W.excTail [.type "ValueError", .type "Exception", .type "BaseException", .type "object"] bm_WrongKind = true) (yv_WrongKind : DE1.errVB K C_WrongKind = true)
    (yf_WrongKind : PySem.W.typeIn K (.ref fI_WrongKind) = some (.type "function")) (yl_WrongKind : K.lookup fI_WrongKind = some ⟨oc_WrongKind, od_WrongKind, .func (PySem.W.ksFn "__init__" "WrongKind.__init__" (defArgs si_WrongKind) (defBody si_WrongKind) (defScope si_WrongKind) .none kV_WrongKind dc_WrongKind pm_WrongKind an_WrongKind (.ref cda_WrongKind) ct_WrongKind cc_WrongKind), osl_WrongKind⟩) (yg_WrongKind : PySem.W.codeIn K (.ref cda_WrongKind) "WrongKind.__init__" = true)
    (yh_WrongKind : K.lookup cda_WrongKind = some ⟨ccl_WrongKind, cdd_WrongKind, .fields vs_WrongKind, ccs_WrongKind⟩) (yi_WrongKind : vs_WrongKind[2]? = some (.str fi_WrongKind tf_WrongKind)) (yj_WrongKind : ((l.prog.main.file : Str) == fi_WrongKind) = true) (yk_WrongKind : K.lookup cc_WrongKind = some ⟨cl_WrongKind, cld_WrongKind, .cell (some (.ref C_WrongKind)), csl_WrongKind⟩) (ym_WrongKind : PySem.W.mroIn K C_WrongKind (.ref C_WrongKind) = some true) (yn_WrongKind : PySem.W.ks_superIn K C_WrongKind C_WrongKind "__init__" = some (some (.ref fI_TableError)))
    (yb_DuplicateName : DX.ErrB K C_DuplicateName "DuplicateName" T1 T2 T3) (yc_DuplicateName : K.lookup C_DuplicateName = some (excClassObj nm_DuplicateName q_DuplicateName C_DuplicateName N_DuplicateName bs_DuplicateName bm_DuplicateName true sn_DuplicateName sub_DuplicateName ab_DuplicateName col_DuplicateName dd_DuplicateName k0_DuplicateName k1_DuplicateName k2_DuplicateName k3_DuplicateName k5_DuplicateName "ValueError.__new__")) (yd_DuplicateName : PySem.W.excTail [.type "ValueError", .type "Exception", .type "BaseException", .type "object"] bm_DuplicateName = true) (yv_DuplicateName : DE1.errVB K C_DuplicateName = true)
    (yf_DuplicateName : PySem.W.typeIn K (.ref fI_DuplicateName) = some (.type "function")) (yl_DuplicateName : K.lookup fI_DuplicateName = some ⟨oc_DuplicateName, od_DuplicateName, .func (PySem.W.ksFn "__init__" "DuplicateName.__init__" (defArgs si_DuplicateName) (defBody si_DuplicateName) (defScope si_DuplicateName) .none kV_DuplicateName dc_DuplicateName pm_DuplicateName an_DuplicateName (.ref cda_DuplicateName) ct_DuplicateName cc_DuplicateName), osl_DuplicateName⟩) (yg_DuplicateName : PySem.W.codeIn K (.ref cda_DuplicateName) "DuplicateName.__init__" = true)
    (yh_DuplicateName : K.lookup cda_DuplicateName = some ⟨ccl_DuplicateName, cdd_DuplicateName, .fields vs_DuplicateName, ccs_DuplicateName⟩) (yi_DuplicateName : vs_DuplicateName[2]? = some (.str fi_DuplicateName tf_DuplicateName)) (yj_DuplicateName : ((l.prog.main.file : Str) == fi_DuplicateName) = true) (yk_DuplicateName : K.lookup cc_DuplicateName = some ⟨cl_DuplicateName, cld_DuplicateName, .cell (some (.ref C_DuplicateName)), csl_DuplicateName⟩) (ym_DuplicateName : PySem.W.mroIn K C_DuplicateName (.ref C_DuplicateName) = some true) (yn_DuplicateName : PySem.W.ks_superIn K C_DuplicateName C_DuplicateName "__init__" = some (some (.ref fI_TableError)))
    (yb_UnknownKey : DX.ErrB K C_UnknownKey "UnknownKey" T1 T2 T3) (yc_UnknownKey : K.lookup C_UnknownKey = some (excClassObj nm_UnknownKey q_UnknownKey C_UnknownKey N_UnknownKey bs_UnknownKey bm_UnknownKey true sn_UnknownKey sub_UnknownKey ab_UnknownKey col_UnknownKey dd_UnknownKey k0_UnknownKey k1_UnknownKey k2_UnknownKey k3_UnknownKey k5_UnknownKey "LookupError.__new__")) (yd_UnknownKey : PySem.W.excTail [.type "LookupError", .type "Exception", .type "BaseException", .type "object"] bm_UnknownKey = true) (yv_UnknownKey : DE1.errVB K C_UnknownKey = true)
    (yf_UnknownKey : PySem.W.typeIn K (.ref fI_UnknownKey) = some (.type "function")) (yl_UnknownKey : K.lookup fI_UnknownKey = some ⟨oc_UnknownKey, od_UnknownKey, .func (PySem.W.ksFn "__init__" "UnknownKey.__init__" (defArgs si_UnknownKey) (defBody si_UnknownKey) (defScope si_UnknownKey) .none kV_UnknownKey dc_UnknownKey pm_UnknownKey an_UnknownKey (.ref cda_UnknownKey) ct_UnknownKey cc_UnknownKey), osl_UnknownKey⟩) (yg_UnknownKey : PySem.W.codeIn K (.ref cda_UnknownKey) "UnknownKey.__init__" = true)
    (yh_UnknownKey : K.lookup cda_UnknownKey = some ⟨ccl_UnknownKey, cdd_UnknownKey, .fields vs_UnknownKey, ccs_UnknownKey⟩) (yi_UnknownKey : vs_UnknownKey[2]? = some (.str fi_UnknownKey tf_UnknownKey)) (yj_UnknownKey : ((l.prog.main.file : Str) == fi_UnknownKey) = true) (yk_UnknownKey : K.lookup cc_UnknownKey = some ⟨cl_UnknownKey, cld_UnknownKey, .cell (some (.ref C_UnknownKey)), csl_UnknownKey⟩) (ym_UnknownKey : PySem.W.mroIn K C_UnknownKey (.ref C_UnknownKey) = some true) (yn_UnknownKey : PySem.W.ks_superIn K C_UnknownKey C_UnknownKey "__init__" = some (some (.ref fI_Missing)))
    (yb_Failed : DX.ErrB K C_Failed "Failed" T1 T2 T3) (yc_Failed : K.lookup C_Failed = some (excClassObj nm_Failed q_Failed C_Failed N_Failed bs_Failed bm_Failed true sn_Failed sub_Failed ab_Failed col_Failed dd_Failed k0_Failed k1_Failed k2_Failed k3_Failed k5_Failed "ValueError.__new__")) (yd_Failed : PySem.W.excTail [.type "ValueError", .type "Exception", .type "BaseException", .type "object"] bm_Failed = true) (yv_Failed : DE1.errVB K C_Failed = true)
    (yf_Failed : PySem.W.typeIn K (.ref fI_Failed) = some (.type "function")) (yl_Failed : K.lookup fI_Failed = some ⟨oc_Failed, od_Failed, .func (PySem.W.ksFn "__init__" "Failed.__init__" (defArgs si_Failed) (defBody si_Failed) (defScope si_Failed) .none kV_Failed dc_Failed pm_Failed an_Failed (.ref cda_Failed) ct_Failed cc_Failed), osl_Failed⟩) (yg_Failed : PySem.W.codeIn K (.ref cda_Failed) "Failed.__init__" = true)
    (yh_Failed : K.lookup cda_Failed = some ⟨ccl_Failed, cdd_Failed, .fields vs_Failed, ccs_Failed⟩) (yi_Failed : vs_Failed[2]? = some (.str fi_Failed tf_Failed)) (yj_Failed : ((l.prog.main.file : Str) == fi_Failed) = true) (yk_Failed : K.lookup cc_Failed = some ⟨cl_Failed, cld_Failed, .cell (some (.ref C_Failed)), csl_Failed⟩) (ym_Failed : PySem.W.mroIn K C_Failed (.ref C_Failed) = some true) (yn_Failed : PySem.W.ks_superIn K C_Failed C_Failed "__init__" = some (some (.ref fI_TableError)))
    (yb_Full : DX.ErrB K C_Full "Full" T1 T2 T3) (yc_Full : K.lookup C_Full = some (excClassObj nm_Full q_Full C_Full N_Full bs_Full bm_Full true sn_Full sub_Full ab_Full col_Full dd_Full k0_Full k1_Full k2_Full k3_Full k5_Full "ValueError.__new__")) (yd_Full : PySem.W.excTail [.type "ValueError", .type "Exception", .type "BaseException", .type "object"] bm_Full = true) (yv_Full : DE1.errVB K C_Full = true)
    (yf_Full : PySem.W.typeIn K (.ref fI_Full) = some (.type "function")) (yl_Full : K.lookup fI_Full = some ⟨oc_Full, od_Full, .func (PySem.W.ksFn "__init__" "Full.__init__" (defArgs si_Full) (defBody si_Full) (defScope si_Full) .none kV_Full dc_Full pm_Full an_Full (.ref cda_Full) ct_Full cc_Full), osl_Full⟩) (yg_Full : PySem.W.codeIn K (.ref cda_Full) "Full.__init__" = true)
    (yh_Full : K.lookup cda_Full = some ⟨ccl_Full, cdd_Full, .fields vs_Full, ccs_Full⟩) (yi_Full : vs_Full[2]? = some (.str fi_Full tf_Full)) (yj_Full : ((l.prog.main.file : Str) == fi_Full) = true) (yk_Full : K.lookup cc_Full = some ⟨cl_Full, cld_Full, .cell (some (.ref C_Full)), csl_Full⟩) (ym_Full : PySem.W.mroIn K C_Full (.ref C_Full) = some true) (yn_Full : PySem.W.ks_superIn K C_Full C_Full "__init__" = some (some (.ref fI_TableError)))
    (yb_TooWide : DX.ErrB K C_TooWide "TooWide" T1 T2 T3) (yc_TooWide : K.lookup C_TooWide = some (excClassObj nm_TooWide q_TooWide C_TooWide N_TooWide bs_TooWide bm_TooWide true sn_TooWide sub_TooWide ab_TooWide col_TooWide dd_TooWide k0_TooWide k1_TooWide k2_TooWide k3_TooWide k5_TooWide "ValueError.__new__")) (yd_TooWide : PySem.W.excTail [.type "ValueError", .type "Exception", .type "BaseException", .type "object"] bm_TooWide = true) (yv_TooWide : DE1.errVB K C_TooWide = true)
    (yf_TooWide : PySem.W.typeIn K (.ref fI_TooWide) = some (.type "function")) (yl_TooWide : K.lookup fI_TooWide = some ⟨oc_TooWide, od_TooWide, .func (PySem.W.ksFn "__init__" "TooWide.__init__" (defArgs si_TooWide) (defBody si_TooWide) (defScope si_TooWide) .none kV_TooWide dc_TooWide pm_TooWide an_TooWide (.ref cda_TooWide) ct_TooWide cc_TooWide), osl_TooWide⟩) (yg_TooWide : PySem.W.codeIn K (.ref cda_TooWide) "TooWide.__init__" = true)
    (yh_TooWide : K.lookup cda_TooWide = some ⟨ccl_TooWide, cdd_TooWide, .fields vs_TooWide, ccs_TooWide⟩) (yi_TooWide : vs_TooWide[2]? = some (.str fi_TooWide tf_TooWide)) (yj_TooWide : ((l.prog.main.file : Str) == fi_TooWide) = true) (yk_TooWide : K.lookup cc_TooWide = some ⟨cl_TooWide, cld_TooWide, .cell (some (.ref C_TooWide)), csl_TooWide⟩) (ym_TooWide : PySem.W.mroIn K C_TooWide (.ref C_TooWide) = some true) (yn_TooWide : PySem.W.ks_superIn K C_TooWide C_TooWide "__init__" = some (some (.ref fI_TableError)))
    (yb_NotCarried : DX.ErrB K C_NotCarried "NotCarried" T1 T2 T3) (yc_NotCarried : K.lookup C_NotCarried = some (excClassObj nm_NotCarried q_NotCarried C_NotCarried N_NotCarried bs_NotCarried bm_NotCarried true sn_NotCarried sub_NotCarried ab_NotCarried col_NotCarried dd_NotCarried k0_NotCarried k1_NotCarried k2_NotCarried k3_NotCarried k5_NotCarried "ValueError.__new__")) (yd_NotCarried : PySem.W.excTail [.type "ValueError", .type "Exception", .type "BaseException", .type "object"] bm_NotCarried = true) (yv_NotCarried : DE1.errVB K C_NotCarried = true)
    (yf_NotCarried : PySem.W.typeIn K (.ref fI_NotCarried) = some (.type "function")) (yl_NotCarried : K.lookup fI_NotCarried = some ⟨oc_NotCarried, od_NotCarried, .func (PySem.W.ksFn "__init__" "NotCarried.__init__" (defArgs si_NotCarried) (defBody si_NotCarried) (defScope si_NotCarried) .none kV_NotCarried dc_NotCarried pm_NotCarried an_NotCarried (.ref cda_NotCarried) ct_NotCarried cc_NotCarried), osl_NotCarried⟩) (yg_NotCarried : PySem.W.codeIn K (.ref cda_NotCarried) "NotCarried.__init__" = true)
    (yh_NotCarried : K.lookup cda_NotCarried = some ⟨ccl_NotCarried, cdd_NotCarried, .fields vs_NotCarried, ccs_NotCarried⟩) (yi_NotCarried : vs_NotCarried[2]? = some (.str fi_NotCarried tf_NotCarried)) (yj_NotCarried : ((l.prog.main.file : Str) == fi_NotCarried) = true) (yk_NotCarried : K.lookup cc_NotCarried = some ⟨cl_NotCarried, cld_NotCarried, .cell (some (.ref C_NotCarried)), csl_NotCarried⟩) (ym_NotCarried : PySem.W.mroIn K C_NotCarried (.ref C_NotCarried) = some true) (yn_NotCarried : PySem.W.ks_superIn K C_NotCarried C_NotCarried "__init__" = some (some (.ref fI_TableError)))
    (yz_LookupError : DE1.tabB K (.type "LookupError") tab_LookupError = true)
    (yz_ValueError : DE1.tabB K (.type "ValueError") tab_ValueError = true)
    (yo_NothingLeft : PySem.W.nsIn K mainGlobals "NothingLeft" = some (some (.ref D_NothingLeft))) (yz_NothingLeft : DE1.tabB K (.ref D_NothingLeft) tab_NothingLeft = true)
    (yo_Missing : PySem.W.nsIn K mainGlobals "Missing" = some (some (.ref D_Missing))) (yz_Missing : DE1.tabB K (.ref D_Missing) tab_Missing = true)
    (yo_TableError : PySem.W.nsIn K mainGlobals "TableError" = some (some (.ref D_TableError))) (yz_TableError : DE1.tabB K (.ref D_TableError) tab_TableError = true)
    (yz_IndexError : DE1.tabB K (.type "IndexError") tab_IndexError = true)
    (yo_InvalidCount : PySem.W.nsIn K mainGlobals "InvalidCount" = some (some (.ref D_InvalidCount))) (yz_InvalidCount : DE1.tabB K (.ref D_InvalidCount) tab_InvalidCount = true)
    (yo_InvalidName : PySem.W.nsIn K mainGlobals "InvalidName" = some (some (.ref D_InvalidName))) (yz_InvalidName : DE1.tabB K (.ref D_InvalidName) tab_InvalidName = true)
    : ∃ fd : FuncData, (∀ (s : Shared) (v : Value), BindsTo s fd ⟨[v], []⟩ [("_law_script", v)]) ∧ ∀ base : Heap, K.In base → base.Ns mainGlobals mg → FnOk l.prog w K mg base CX0 lvLaw fa fd ["_law_script"] (@spLaw noTabs K) := by
  letI : Tabs := noTabs
  letI : Me := ⟨0⟩
  have e := hfa.symm.trans (PySem.W.mg_of X G a7)
  cases e
  have F0 := fun_mk (st := s_Ldraws) l0 c0 k0
  have b0 := F0.binds (ps := ["_law_script"]) fun _ _ _ _ _ _ us hl => match us, hl with | [_], _ => rfl
  have F1 := fun_mk (st := s_Lpull) l1 c1 k1
  have b1 := F1.binds (ps := ["_law_bag", "_law_sides"]) fun _ _ _ _ _ _ us hl => match us, hl with | [_, _], _ => rfl
  have F2 := fun_mk (st := s_Lany) l2 c2 k2
  have b2 := F2.binds (ps := ["_law_bag", "_law_rows"]) fun _ _ _ _ _ _ us hl => match us, hl with | [_, _], _ => rfl
  have F3 := fun_mk (st := s_Llike) l3 c3 k3
  have b3 := F3.binds (ps := ["_law_a", "_law_b"]) fun _ _ _ _ _ _ us hl => match us, hl with | [_, _], _ => rfl
  have F4 := fun_mk (st := s_Lfar) l4 c4 k4
  have b4 := F4.binds (ps := ["_law_bag"]) fun _ _ _ _ _ _ us hl => match us, hl with | [_], _ => rfl
  have F5 := fun_mk (st := s_Lbases) l5 c5 k5
  have b5 := F5.binds (ps := ["_law_e"]) fun _ _ _ _ _ _ us hl => match us, hl with | [_], _ => rfl
  have F6 := fun_mk (st := s_Lgiven) l6 c6 k6
  have b6 := F6.binds (ps := ["_law_a"]) fun _ _ _ _ _ _ us hl => match us, hl with | [_], _ => rfl
  have F7 := fun_mk (st := s_law) l7 c7 k7
  have b7 := F7.binds (ps := ["_law_script"]) fun _ _ _ _ _ _ us hl => match us, hl with | [_], _ => rfl
  have FI_Missing := fun_mk (st := s_init_Missing) lI_Missing cI_Missing kI_Missing
  have bI_Missing := FI_Missing.binds (ps := ["self"]) fun _ _ _ _ _ _ us hl => match us, hl with | [_], _ => rfl
  have FI_NothingLeft := fun_mk (st := s_init_NothingLeft) lI_NothingLeft cI_NothingLeft kI_NothingLeft
  have bI_NothingLeft := FI_NothingLeft.binds (ps := ["self"]) fun _ _ _ _ _ _ us hl => match us, hl with | [_], _ => rfl
  have FI_TableError := fun_mk (st := s_init_TableError) lI_TableError cI_TableError kI_TableError
  have bI_TableError := FI_TableError.binds (ps := ["self"]) fun _ _ _ _ _ _ us hl => match us, hl with | [_], _ => rfl
  have TC_InvalidArguments := yb_InvalidArguments.toG yT1 yT2 yT3 ⟨_, _, _, _, _, _, _, _, _, _, _, _, _, _, _, _, _, _, _, PySem.F.excBase_ValueError, PySem.F.store_ValueError, yc_InvalidArguments, yd_InvalidArguments⟩
  have TC_InvalidValue := yb_InvalidValue.toG yT1 yT2 yT3 ⟨_, _, _, _, _, _, _, _, _, _, _, _, _, _, _, _, _, _, _, PySem.F.excBase_ValueError, PySem.F.store_ValueError, yc_InvalidValue, yd_InvalidValue⟩
  have TC_InvalidColumns := yb_InvalidColumns.toG yT1 yT2 yT3 ⟨_, _, _, _, _, _, _, _, _, _, _, _, _, _, _, _, _, _, _, PySem.F.excBase_ValueError, PySem.F.store_ValueError, yc_InvalidColumns, yd_InvalidColumns⟩
  have TC_NothingLeft := yb_NothingLeft.toG yT1 yT2 yT3 ⟨_, _, _, _, _, _, _, _, _, _, _, _, _, _, _, _, _, _, _, PySem.F.excBase_IndexError, PySem.F.store_IndexError, yc_NothingLeft, yd_NothingLeft⟩
  have TC_InvalidText := yb_InvalidText.toG yT1 yT2 yT3 ⟨_, _, _, _, _, _, _, _, _, _, _, _, _, _, _, _, _, _, _, PySem.F.excBase_ValueError, PySem.F.store_ValueError, yc_InvalidText, yd_InvalidText⟩
  have TC_ColumnsDiffer := yb_ColumnsDiffer.toG yT1 yT2 yT3 ⟨_, _, _, _, _, _, _, _, _, _, _, _, _, _, _, _, _, _, _, PySem.F.excBase_ValueError, PySem.F.store_ValueError, yc_ColumnsDiffer, yd_ColumnsDiffer⟩
  have TC_NotOpen := yb_NotOpen.toG yT1 yT2 yT3 ⟨_, _, _, _, _, _, _, _, _, _, _, _, _, _, _, _, _, _, _, PySem.F.excBase_ValueError, PySem.F.store_ValueError, yc_NotOpen, yd_NotOpen⟩
  have TC_InvalidLimit := yb_InvalidLimit.toG yT1 yT2 yT3 ⟨_, _, _, _, _, _, _, _, _, _, _, _, _, _, _, _, _, _, _, PySem.F.excBase_ValueError, PySem.F.store_ValueError, yc_InvalidLimit, yd_InvalidLimit⟩
  have TC_InvalidCount := yb_InvalidCount.toG yT1 yT2 yT3 ⟨_, _, _, _, _, _, _, _, _, _, _, _, _, _, _, _, _, _, _, PySem.F.excBase_ValueError, PySem.F.store_ValueError, yc_InvalidCount, yd_InvalidCount⟩
  have TC_InvalidName := yb_InvalidName.toG yT1 yT2 yT3 ⟨_, _, _, _, _, _, _, _, _, _, _, _, _, _, _, _, _, _, _, PySem.F.excBase_ValueError, PySem.F.store_ValueError, yc_InvalidName, yd_InvalidName⟩
  have TC_InvalidRule := yb_InvalidRule.toG yT1 yT2 yT3 ⟨_, _, _, _, _, _, _, _, _, _, _, _, _, _, _, _, _, _, _, PySem.F.excBase_ValueError, PySem.F.store_ValueError, yc_InvalidRule, yd_InvalidRule⟩
  have TC_InvalidComparison := yb_InvalidComparison.toG yT1 yT2 yT3 ⟨_, _, _, _, _, _, _, _, _, _, _, _, _, _, _, _, _, _, _, PySem.F.excBase_ValueError, PySem.F.store_ValueError, yc_InvalidComparison, yd_InvalidComparison⟩
  have TC_InvalidRow := yb_InvalidRow.toG yT1 yT2 yT3 ⟨_, _, _, _, _, _, _, _, _, _, _, _, _, _, _, _, _, _, _, PySem.F.excBase_ValueError, PySem.F.store_ValueError, yc_InvalidRow, yd_InvalidRow⟩
  have TC_InvalidCommand := yb_InvalidCommand.toG yT1 yT2 yT3 ⟨_, _, _, _, _, _, _, _, _, _, _, _, _, _, _, _, _, _, _, PySem.F.excBase_ValueError, PySem.F.store_ValueError, yc_InvalidCommand, yd_InvalidCommand⟩
  have TC_InvalidLine := yb_InvalidLine.toG yT1 yT2 yT3 ⟨_, _, _, _, _, _, _, _, _, _, _, _, _, _, _, _, _, _, _, PySem.F.excBase_ValueError, PySem.F.store_ValueError, yc_InvalidLine, yd_InvalidLine⟩
  have TC_FailsLate := yb_FailsLate.toG yT1 yT2 yT3 ⟨_, _, _, _, _, _, _, _, _, _, _, _, _, _, _, _, _, _, _, PySem.F.excBase_ValueError, PySem.F.store_ValueError, yc_FailsLate, yd_FailsLate⟩
  have TC_InvalidStatement := yb_InvalidStatement.toG yT1 yT2 yT3 ⟨_, _, _, _, _, _, _, _, _, _, _, _, _, _, _, _, _, _, _, PySem.F.excBase_ValueError, PySem.F.store_ValueError, yc_InvalidStatement, yd_InvalidStatement⟩
  have TC_InvalidCondition := yb_InvalidCondition.toG yT1 yT2 yT3 ⟨_, _, _, _, _, _, _, _, _, _, _, _, _, _, _, _, _, _, _, PySem.F.excBase_ValueError, PySem.F.store_ValueError, yc_InvalidCondition, yd_InvalidCondition⟩
  have TC_UnknownName := yb_UnknownName.toG yT1 yT2 yT3 ⟨_, _, _, _, _, _, _, _, _, _, _, _, _, _, _, _, _, _, _, PySem.F.excBase_LookupError, PySem.F.store_LookupError, yc_UnknownName, yd_UnknownName⟩
  have TC_WrongKind := yb_WrongKind.toG yT1 yT2 yT3 ⟨_, _, _, _, _, _, _, _, _, _, _, _, _, _, _, _, _, _, _, PySem.F.excBase_ValueError, PySem.F.store_ValueError, yc_WrongKind, yd_WrongKind⟩
  have TC_DuplicateName := yb_DuplicateName.toG yT1 yT2 yT3 ⟨_, _, _, _, _, _, _, _, _, _, _, _, _, _, _, _, _, _, _, PySem.F.excBase_ValueError, PySem.F.store_ValueError, yc_DuplicateName, yd_DuplicateName⟩
  have TC_UnknownKey := yb_UnknownKey.toG yT1 yT2 yT3 ⟨_, _, _, _, _, _, _, _, _, _, _, _, _, _, _, _, _, _, _, PySem.F.excBase_LookupError, PySem.F.store_LookupError, yc_UnknownKey, yd_UnknownKey⟩
  have TC_Failed := yb_Failed.toG yT1 yT2 yT3 ⟨_, _, _, _, _, _, _, _, _, _, _, _, _, _, _, _, _, _, _, PySem.F.excBase_ValueError, PySem.F.store_ValueError, yc_Failed, yd_Failed⟩
  have TC_Full := yb_Full.toG yT1 yT2 yT3 ⟨_, _, _, _, _, _, _, _, _, _, _, _, _, _, _, _, _, _, _, PySem.F.excBase_ValueError, PySem.F.store_ValueError, yc_Full, yd_Full⟩
  have TC_TooWide := yb_TooWide.toG yT1 yT2 yT3 ⟨_, _, _, _, _, _, _, _, _, _, _, _, _, _, _, _, _, _, _, PySem.F.excBase_ValueError, PySem.F.store_ValueError, yc_TooWide, yd_TooWide⟩
  have TC_NotCarried := yb_NotCarried.toG yT1 yT2 yT3 ⟨_, _, _, _, _, _, _, _, _, _, _, _, _, _, _, _, _, _, _, PySem.F.excBase_ValueError, PySem.F.store_ValueError, yc_NotCarried, yd_NotCarried⟩
  let T : Tx l.prog w K mg := {
    f_Ldraws := f0
    fd_Ldraws := _
    F_Ldraws := F0
    m_Ldraws := PySem.W.mg_of X G a0
    b_Ldraws := b0
    f_Lpull := f1
    fd_Lpull := _
    F_Lpull := F1
    m_Lpull := PySem.W.mg_of X G a1
    b_Lpull := b1
    f_Lany := f2
    fd_Lany := _
    F_Lany := F2
    m_Lany := PySem.W.mg_of X G a2
    b_Lany := b2
    f_Llike := f3
    fd_Llike := _
    F_Llike := F3
    m_Llike := PySem.W.mg_of X G a3
    b_Llike := b3
    f_Lfar := f4
    fd_Lfar := _
    F_Lfar := F4
    m_Lfar := PySem.W.mg_of X G a4
    b_Lfar := b4
    f_Lbases := f5
    fd_Lbases := _
    F_Lbases := F5
    m_Lbases := PySem.W.mg_of X G a5
    b_Lbases := b5
    f_Lgiven := f6
    fd_Lgiven := _
    F_Lgiven := F6
    m_Lgiven := PySem.W.mg_of X G a6
    b_Lgiven := b6
    f_law := fa
    fd_law := _
    F_law := F7
    m_law := PySem.W.mg_of X G a7
    b_law := b7
    n_IndexError := PySem.W.mg_none_of X G z_IndexError
    n_LookupError := PySem.W.mg_none_of X G z_LookupError
    n_ValueError := PySem.W.mg_none_of X G z_ValueError
    n_all := PySem.W.mg_none_of X G z_all
    n_bool := PySem.W.mg_none_of X G z_bool
    n_int := PySem.W.mg_none_of X G z_int
    n_isinstance := PySem.W.mg_none_of X G z_isinstance
    n_len := PySem.W.mg_none_of X G z_len
    n_list := PySem.W.mg_none_of X G z_list
    n_str := PySem.W.mg_none_of X G z_str
    n_tuple := PySem.W.mg_none_of X G z_tuple
    n_zip := PySem.W.mg_none_of X G z_zip
    f_init_Missing := fI_Missing
    fd_init_Missing := _
    F_init_Missing := FI_Missing
    b_init_Missing := bI_Missing
    f_init_NothingLeft := fI_NothingLeft
    fd_init_NothingLeft := _
    F_init_NothingLeft := FI_NothingLeft
    b_init_NothingLeft := bI_NothingLeft
    f_init_TableError := fI_TableError
    fd_init_TableError := _
    F_init_TableError := FI_TableError
    b_init_TableError := bI_TableError
    E_InvalidArguments := ⟨C_InvalidArguments, PySem.W.mg_of X G ya_InvalidArguments, TC_InvalidArguments, DE1.errV_of ya_InvalidArguments TC_InvalidArguments yv_InvalidArguments, ye_InvalidArguments, fT_TableError⟩
    E_InvalidValue := ⟨C_InvalidValue, PySem.W.mg_of X G ya_InvalidValue, TC_InvalidValue, DE1.errV_of ya_InvalidValue TC_InvalidValue yv_InvalidValue, ye_InvalidValue, fT_TableError⟩
    E_InvalidColumns := ⟨C_InvalidColumns, PySem.W.mg_of X G ya_InvalidColumns, TC_InvalidColumns, DE1.errV_of ya_InvalidColumns TC_InvalidColumns yv_InvalidColumns, ye_InvalidColumns, fT_TableError⟩
    E_NothingLeft := ⟨C_NothingLeft, PySem.W.mg_of X G ya_NothingLeft, TC_NothingLeft, DE1.errV_of ya_NothingLeft TC_NothingLeft yv_NothingLeft, ye_NothingLeft, fT_NothingLeft⟩
    E_InvalidText := ⟨C_InvalidText, PySem.W.mg_of X G ya_InvalidText, TC_InvalidText, DE1.errV_of ya_InvalidText TC_InvalidText yv_InvalidText, ye_InvalidText, fT_TableError⟩
    E_ColumnsDiffer := ⟨C_ColumnsDiffer, PySem.W.mg_of X G ya_ColumnsDiffer, TC_ColumnsDiffer, DE1.errV_of ya_ColumnsDiffer TC_ColumnsDiffer yv_ColumnsDiffer, ye_ColumnsDiffer, fT_TableError⟩
    E_NotOpen := ⟨C_NotOpen, PySem.W.mg_of X G ya_NotOpen, TC_NotOpen, DE1.errV_of ya_NotOpen TC_NotOpen yv_NotOpen, ye_NotOpen, fT_TableError⟩
    E_InvalidLimit := DX.errF_of (st := si_InvalidLimit) (ar := ((defArgs si_InvalidLimit).posonlyargs ++ (defArgs si_InvalidLimit).args).headD ⟨"", none, ⟨0, 0, 0, 0⟩⟩) (par := "given") (PySem.W.mg_of X G ya_InvalidLimit) TC_InvalidLimit ye_InvalidLimit yf_InvalidLimit yl_InvalidLimit yg_InvalidLimit yh_InvalidLimit yi_InvalidLimit yj_InvalidLimit yk_InvalidLimit ysT ysS ysA ym_InvalidLimit yn_InvalidLimit fT_TableError yfn_TableError (DX.sup_by (by decide +kernel)) rfl rfl (by decide) (by decide) (by decide +kernel) (fun s us _ hl => match us, hl with | [_, _], _ => .of_eq rfl) rfl (fun _ => ⟨_, rfl⟩)
    V_InvalidLimit := DE1.v_of (PySem.W.mg_of X G ya_InvalidLimit) (DE1.errV_of ya_InvalidLimit TC_InvalidLimit yv_InvalidLimit)
    E_InvalidCount := DX.errF_of (st := si_InvalidCount) (ar := ((defArgs si_InvalidCount).posonlyargs ++ (defArgs si_InvalidCount).args).headD ⟨"", none, ⟨0, 0, 0, 0⟩⟩) (par := "given") (PySem.W.mg_of X G ya_InvalidCount) TC_InvalidCount ye_InvalidCount yf_InvalidCount yl_InvalidCount yg_InvalidCount yh_InvalidCount yi_InvalidCount yj_InvalidCount yk_InvalidCount ysT ysS ysA ym_InvalidCount yn_InvalidCount fT_TableError yfn_TableError (DX.sup_by (by decide +kernel)) rfl rfl (by decide) (by decide) (by decide +kernel) (fun s us _ hl => match us, hl with | [_, _], _ => .of_eq rfl) rfl (fun _ => ⟨_, rfl⟩)
    V_InvalidCount := DE1.v_of (PySem.W.mg_of X G ya_InvalidCount) (DE1.errV_of ya_InvalidCount TC_InvalidCount yv_InvalidCount)
    E_InvalidName := DX.errF_of (st := si_InvalidName) (ar := ((defArgs si_InvalidName).posonlyargs ++ (defArgs si_InvalidName).args).headD ⟨"", none, ⟨0, 0, 0, 0⟩⟩) (par := "given") (PySem.W.mg_of X G ya_InvalidName) TC_InvalidName ye_InvalidName yf_InvalidName yl_InvalidName yg_InvalidName yh_InvalidName yi_InvalidName yj_InvalidName yk_InvalidName ysT ysS ysA ym_InvalidName yn_InvalidName fT_TableError yfn_TableError (DX.sup_by (by decide +kernel)) rfl rfl (by decide) (by decide) (by decide +kernel) (fun s us _ hl => match us, hl with | [_, _], _ => .of_eq rfl) rfl (fun _ => ⟨_, rfl⟩)
    V_InvalidName := DE1.v_of (PySem.W.mg_of X G ya_InvalidName) (DE1.errV_of ya_InvalidName TC_InvalidName yv_InvalidName)
    E_InvalidRule := DX.errF_of (st := si_InvalidRule) (ar := ((defArgs si_InvalidRule).posonlyargs ++ (defArgs si_InvalidRule).args).headD ⟨"", none, ⟨0, 0, 0, 0⟩⟩) (par := "index") (PySem.W.mg_of X G ya_InvalidRule) TC_InvalidRule ye_InvalidRule yf_InvalidRule yl_InvalidRule yg_InvalidRule yh_InvalidRule yi_InvalidRule yj_InvalidRule yk_InvalidRule ysT ysS ysA ym_InvalidRule yn_InvalidRule fT_TableError yfn_TableError (DX.sup_by (by decide +kernel)) rfl rfl (by decide) (by decide) (by decide +kernel) (fun s us _ hl => match us, hl with | [_, _], _ => .of_eq rfl) rfl (fun _ => ⟨_, rfl⟩)
    V_InvalidRule := DE1.v_of (PySem.W.mg_of X G ya_InvalidRule) (DE1.errV_of ya_InvalidRule TC_InvalidRule yv_InvalidRule)
    E_InvalidComparison := DX.errF_of (st := si_InvalidComparison) (ar := ((defArgs si_InvalidComparison).posonlyargs ++ (defArgs si_InvalidComparison).args).headD ⟨"", none, ⟨0, 0, 0, 0⟩⟩) (par := "index") (PySem.W.mg_of X G ya_InvalidComparison) TC_InvalidComparison ye_InvalidComparison yf_InvalidComparison yl_InvalidComparison yg_InvalidComparison yh_InvalidComparison yi_InvalidComparison yj_InvalidComparison yk_InvalidComparison ysT ysS ysA ym_InvalidComparison yn_InvalidComparison fT_TableError yfn_TableError (DX.sup_by (by decide +kernel)) rfl rfl (by decide) (by decide) (by decide +kernel) (fun s us _ hl => match us, hl with | [_, _], _ => .of_eq rfl) rfl (fun _ => ⟨_, rfl⟩)
    V_InvalidComparison := DE1.v_of (PySem.W.mg_of X G ya_InvalidComparison) (DE1.errV_of ya_InvalidComparison TC_InvalidComparison yv_InvalidComparison)
    E_InvalidRow := DX.errF_of (st := si_InvalidRow) (ar := ((defArgs si_InvalidRow).posonlyargs ++ (defArgs si_InvalidRow).args).headD ⟨"", none, ⟨0, 0, 0, 0⟩⟩) (par := "index") (PySem.W.mg_of X G ya_InvalidRow) TC_InvalidRow ye_InvalidRow yf_InvalidRow yl_InvalidRow yg_InvalidRow yh_InvalidRow yi_InvalidRow yj_InvalidRow yk_InvalidRow ysT ysS ysA ym_InvalidRow yn_InvalidRow fT_TableError yfn_TableError (DX.sup_by (by decide +kernel)) rfl rfl (by decide) (by decide) (by decide +kernel) (fun s us _ hl => match us, hl with | [_, _], _ => .of_eq rfl) rfl (fun _ => ⟨_, rfl⟩)
    V_InvalidRow := DE1.v_of (PySem.W.mg_of X G ya_InvalidRow) (DE1.errV_of ya_InvalidRow TC_InvalidRow yv_InvalidRow)
    E_InvalidCommand := DX.errF_of (st := si_InvalidCommand) (ar := ((defArgs si_InvalidCommand).posonlyargs ++ (defArgs si_InvalidCommand).args).headD ⟨"", none, ⟨0, 0, 0, 0⟩⟩) (par := "index") (PySem.W.mg_of X G ya_InvalidCommand) TC_InvalidCommand ye_InvalidCommand yf_InvalidCommand yl_InvalidCommand yg_InvalidCommand yh_InvalidCommand yi_InvalidCommand yj_InvalidCommand yk_InvalidCommand ysT ysS ysA ym_InvalidCommand yn_InvalidCommand fT_TableError yfn_TableError (DX.sup_by (by decide +kernel)) rfl rfl (by decide) (by decide) (by decide +kernel) (fun s us _ hl => match us, hl with | [_, _], _ => .of_eq rfl) rfl (fun _ => ⟨_, rfl⟩)
    V_InvalidCommand := DE1.v_of (PySem.W.mg_of X G ya_InvalidCommand) (DE1.errV_of ya_InvalidCommand TC_InvalidCommand yv_InvalidCommand)
    E_InvalidLine := DX.errF_of (st := si_InvalidLine) (ar := ((defArgs si_InvalidLine).posonlyargs ++ (defArgs si_InvalidLine).args).headD ⟨"", none, ⟨0, 0, 0, 0⟩⟩) (par := "index") (PySem.W.mg_of X G ya_InvalidLine) TC_InvalidLine ye_InvalidLine yf_InvalidLine yl_InvalidLine yg_InvalidLine yh_InvalidLine yi_InvalidLine yj_InvalidLine yk_InvalidLine ysT ysS ysA ym_InvalidLine yn_InvalidLine fT_TableError yfn_TableError (DX.sup_by (by decide +kernel)) rfl rfl (by decide) (by decide) (by decide +kernel) (fun s us _ hl => match us, hl with | [_, _], _ => .of_eq rfl) rfl (fun _ => ⟨_, rfl⟩)
    V_InvalidLine := DE1.v_of (PySem.W.mg_of X G ya_InvalidLine) (DE1.errV_of ya_InvalidLine TC_InvalidLine yv_InvalidLine)
    E_FailsLate := DX.errF_of (st := si_FailsLate) (ar := ((defArgs si_FailsLate).posonlyargs ++ (defArgs si_FailsLate).args).headD ⟨"", none, ⟨0, 0, 0, 0⟩⟩) (par := "index") (PySem.W.mg_of X G ya_FailsLate) TC_FailsLate ye_FailsLate yf_FailsLate yl_FailsLate yg_FailsLate yh_FailsLate yi_FailsLate yj_FailsLate yk_FailsLate ysT ysS ysA ym_FailsLate yn_FailsLate fT_TableError yfn_TableError (DX.sup_by (by decide +kernel)) rfl rfl (by decide) (by decide) (by decide +kernel) (fun s us _ hl => match us, hl with | [_, _], _ => .of_eq rfl) rfl (fun _ => ⟨_, rfl⟩)
    V_FailsLate := DE1.v_of (PySem.W.mg_of X G ya_FailsLate) (DE1.errV_of ya_FailsLate TC_FailsLate yv_FailsLate)
    E_InvalidStatement := DX.errF_of (st := si_InvalidStatement) (ar := ((defArgs si_InvalidStatement).posonlyargs ++ (defArgs si_InvalidStatement).args).headD ⟨"", none, ⟨0, 0, 0, 0⟩⟩) (par := "path") (PySem.W.mg_of X G ya_InvalidStatement) TC_InvalidStatement ye_InvalidStatement yf_InvalidStatement yl_InvalidStatement yg_InvalidStatement yh_InvalidStatement yi_InvalidStatement yj_InvalidStatement yk_InvalidStatement ysT ysS ysA ym_InvalidStatement yn_InvalidStatement fT_TableError yfn_TableError (DX.sup_by (by decide +kernel)) rfl rfl (by decide) (by decide) (by decide +kernel) (fun s us _ hl => match us, hl with | [_, _], _ => .of_eq rfl) rfl (fun _ => ⟨_, rfl⟩)
    V_InvalidStatement := DE1.v_of (PySem.W.mg_of X G ya_InvalidStatement) (DE1.errV_of ya_InvalidStatement TC_InvalidStatement yv_InvalidStatement)
    E_InvalidCondition := DX.errF_of (st := si_InvalidCondition) (ar := ((defArgs si_InvalidCondition).posonlyargs ++ (defArgs si_InvalidCondition).args).headD ⟨"", none, ⟨0, 0, 0, 0⟩⟩) (par := "path") (PySem.W.mg_of X G ya_InvalidCondition) TC_InvalidCondition ye_InvalidCondition yf_InvalidCondition yl_InvalidCondition yg_InvalidCondition yh_InvalidCondition yi_InvalidCondition yj_InvalidCondition yk_InvalidCondition ysT ysS ysA ym_InvalidCondition yn_InvalidCondition fT_TableError yfn_TableError (DX.sup_by (by decide +kernel)) rfl rfl (by decide) (by decide) (by decide +kernel) (fun s us _ hl => match us, hl with | [_, _], _ => .of_eq rfl) rfl (fun _ => ⟨_, rfl⟩)
    V_InvalidCondition := DE1.v_of (PySem.W.mg_of X G ya_InvalidCondition) (DE1.errV_of ya_InvalidCondition TC_InvalidCondition yv_InvalidCondition)
    E_UnknownName := DX.errF_of (st := si_UnknownName) (ar := ((defArgs si_UnknownName).posonlyargs ++ (defArgs si_UnknownName).args).headD ⟨"", none, ⟨0, 0, 0, 0⟩⟩) (par := "name") (PySem.W.mg_of X G ya_UnknownName) TC_UnknownName ye_UnknownName yf_UnknownName yl_UnknownName yg_UnknownName yh_UnknownName yi_UnknownName yj_UnknownName yk_UnknownName ysT ysS ysA ym_UnknownName yn_UnknownName fT_Missing yfn_Missing (DX.sup_by (by decide +kernel)) rfl rfl (by decide) (by decide) (by decide +kernel) (fun s us _ hl => match us, hl with | [_, _], _ => .of_eq rfl) rfl (fun _ => ⟨_, rfl⟩)
    V_UnknownName := DE1.v_of (PySem.W.mg_of X G ya_UnknownName) (DE1.errV_of ya_UnknownName TC_UnknownName yv_UnknownName)
    E_WrongKind := DX.errF_of (st := si_WrongKind) (ar := ((defArgs si_WrongKind).posonlyargs ++ (defArgs si_WrongKind).args).headD ⟨"", none, ⟨0, 0, 0, 0⟩⟩) (par := "name") (PySem.W.mg_of X G ya_WrongKind) TC_WrongKind ye_WrongKind yf_WrongKind yl_WrongKind yg_WrongKind yh_WrongKind yi_WrongKind yj_WrongKind yk_WrongKind ysT ysS ysA ym_WrongKind yn_WrongKind fT_TableError yfn_TableError (DX.sup_by (by decide +kernel)) rfl rfl (by decide) (by decide) (by decide +kernel) (fun s us _ hl => match us, hl with | [_, _], _ => .of_eq rfl) rfl (fun _ => ⟨_, rfl⟩)
    V_WrongKind := DE1.v_of (PySem.W.mg_of X G ya_WrongKind) (DE1.errV_of ya_WrongKind TC_WrongKind yv_WrongKind)
    E_DuplicateName := DX.errF_of (st := si_DuplicateName) (ar := ((defArgs si_DuplicateName).posonlyargs ++ (defArgs si_DuplicateName).args).headD ⟨"", none, ⟨0, 0, 0, 0⟩⟩) (par := "name") (PySem.W.mg_of X G ya_DuplicateName) TC_DuplicateName ye_DuplicateName yf_DuplicateName yl_DuplicateName yg_DuplicateName yh_DuplicateName yi_DuplicateName yj_DuplicateName yk_DuplicateName ysT ysS ysA ym_DuplicateName yn_DuplicateName fT_TableError yfn_TableError (DX.sup_by (by decide +kernel)) rfl rfl (by decide) (by decide) (by decide +kernel) (fun s us _ hl => match us, hl with | [_, _], _ => .of_eq rfl) rfl (fun _ => ⟨_, rfl⟩)
    V_DuplicateName := DE1.v_of (PySem.W.mg_of X G ya_DuplicateName) (DE1.errV_of ya_DuplicateName TC_DuplicateName yv_DuplicateName)
    E_UnknownKey := DX.errF_of (st := si_UnknownKey) (ar := ((defArgs si_UnknownKey).posonlyargs ++ (defArgs si_UnknownKey).args).headD ⟨"", none, ⟨0, 0, 0, 0⟩⟩) (par := "key") (PySem.W.mg_of X G ya_UnknownKey) TC_UnknownKey ye_UnknownKey yf_UnknownKey yl_UnknownKey yg_UnknownKey yh_UnknownKey yi_UnknownKey yj_UnknownKey yk_UnknownKey ysT ysS ysA ym_UnknownKey yn_UnknownKey fT_Missing yfn_Missing (DX.sup_by (by decide +kernel)) rfl rfl (by decide) (by decide) (by decide +kernel) (fun s us _ hl => match us, hl with | [_, _], _ => .of_eq rfl) rfl (fun _ => ⟨_, rfl⟩)
    V_UnknownKey := DE1.v_of (PySem.W.mg_of X G ya_UnknownKey) (DE1.errV_of ya_UnknownKey TC_UnknownKey yv_UnknownKey)
    E_Failed := DX.errF_of (st := si_Failed) (ar := ((defArgs si_Failed).posonlyargs ++ (defArgs si_Failed).args).headD ⟨"", none, ⟨0, 0, 0, 0⟩⟩) (par := "word") (PySem.W.mg_of X G ya_Failed) TC_Failed ye_Failed yf_Failed yl_Failed yg_Failed yh_Failed yi_Failed yj_Failed yk_Failed ysT ysS ysA ym_Failed yn_Failed fT_TableError yfn_TableError (DX.sup_by (by decide +kernel)) rfl rfl (by decide) (by decide) (by decide +kernel) (fun s us _ hl => match us, hl with | [_, _], _ => .of_eq rfl) rfl (fun _ => ⟨_, rfl⟩)
    V_Failed := DE1.v_of (PySem.W.mg_of X G ya_Failed) (DE1.errV_of ya_Failed TC_Failed yv_Failed)
    E_Full := DX.errF_of (st := si_Full) (ar := ((defArgs si_Full).posonlyargs ++ (defArgs si_Full).args).headD ⟨"", none, ⟨0, 0, 0, 0⟩⟩) (par := "limit") (PySem.W.mg_of X G ya_Full) TC_Full ye_Full yf_Full yl_Full yg_Full yh_Full yi_Full yj_Full yk_Full ysT ysS ysA ym_Full yn_Full fT_TableError yfn_TableError (DX.sup_by (by decide +kernel)) rfl rfl (by decide) (by decide) (by decide +kernel) (fun s us _ hl => match us, hl with | [_, _], _ => .of_eq rfl) rfl (fun _ => ⟨_, rfl⟩)
    V_Full := DE1.v_of (PySem.W.mg_of X G ya_Full) (DE1.errV_of ya_Full TC_Full yv_Full)
    E_TooWide := DX.errF_of (st := si_TooWide) (ar := ((defArgs si_TooWide).posonlyargs ++ (defArgs si_TooWide).args).headD ⟨"", none, ⟨0, 0, 0, 0⟩⟩) (par := "most") (PySem.W.mg_of X G ya_TooWide) TC_TooWide ye_TooWide yf_TooWide yl_TooWide yg_TooWide yh_TooWide yi_TooWide yj_TooWide yk_TooWide ysT ysS ysA ym_TooWide yn_TooWide fT_TableError yfn_TableError (DX.sup_by (by decide +kernel)) rfl rfl (by decide) (by decide) (by decide +kernel) (fun s us _ hl => match us, hl with | [_, _], _ => .of_eq rfl) rfl (fun _ => ⟨_, rfl⟩)
    V_TooWide := DE1.v_of (PySem.W.mg_of X G ya_TooWide) (DE1.errV_of ya_TooWide TC_TooWide yv_TooWide)
    E_NotCarried := DX.errF_of (st := si_NotCarried) (ar := ((defArgs si_NotCarried).posonlyargs ++ (defArgs si_NotCarried).args).headD ⟨"", none, ⟨0, 0, 0, 0⟩⟩) (par := "witness") (PySem.W.mg_of X G ya_NotCarried) TC_NotCarried ye_NotCarried yf_NotCarried yl_NotCarried yg_NotCarried yh_NotCarried yi_NotCarried yj_NotCarried yk_NotCarried ysT ysS ysA ym_NotCarried yn_NotCarried fT_TableError yfn_TableError (DX.sup_by (by decide +kernel)) rfl rfl (by decide) (by decide) (by decide +kernel) (fun s us _ hl => match us, hl with | [_, _], _ => .of_eq rfl) rfl (fun _ => ⟨_, rfl⟩)
    V_NotCarried := DE1.v_of (PySem.W.mg_of X G ya_NotCarried) (DE1.errV_of ya_NotCarried TC_NotCarried yv_NotCarried)
    ik_LookupError := DE1.tabE_of yz_LookupError
    ik_ValueError := DE1.tabE_of yz_ValueError
    ic_NothingLeft := D_NothingLeft
    im_NothingLeft := PySem.W.mg_of X G yo_NothingLeft
    ik_NothingLeft := DE1.tabE_of yz_NothingLeft
    ic_Missing := D_Missing
    im_Missing := PySem.W.mg_of X G yo_Missing
    ik_Missing := DE1.tabE_of yz_Missing
    ic_TableError := D_TableError
    im_TableError := PySem.W.mg_of X G yo_TableError
    ik_TableError := DE1.tabE_of yz_TableError
    ik_IndexError := DE1.tabE_of yz_IndexError
    ic_InvalidCount := D_InvalidCount
    im_InvalidCount := PySem.W.mg_of X G yo_InvalidCount
    ik_InvalidCount := DE1.tabE_of yz_InvalidCount
    ic_InvalidName := D_InvalidName
    im_InvalidName := PySem.W.mg_of X G yo_InvalidName
    ik_InvalidName := DE1.tabE_of yz_InvalidName }
  exact ⟨PySem.W.fnOf "law" "law" (defArgs s_law) (defBody s_law) (defScope s_law) .none kV7 dc7 pm7 an7 cd7 ct7, fun s v => .of_eq rfl, fun base _ _ => ok_law T hB⟩
end K01
open PySem PySem.W PyProof.Rows
set_option maxRecDepth 100000 in
set_option maxHeartbeats 0 in
theorem PySem.Challenge.cw_lookedrows_k01_errors_by_themselves_holds : PySem.Challenge.rw_lookedrows_k01_errors_by_themselves.Holds := by
  w_on; o_law; k_head; (case hw => w_witness2)
  k_fill
  refine L2.walk_of (l := PySem.Challenge.rw_lookedrows_k01_errors_by_themselves) (n := 63) (k := K01.lvLaw) (x := "_law_script") (CX := fun _ => L2.CX0) (sp := fun w => @DL.spLaw DL.noTabs _) rfl (by decide) rfl ⟨rfl, by decide, by decide⟩ (fun w h Y => PySem.W.kIn_of Y) ?F (fun _ _ a ns hl _ hS => ⟨a, ns, rfl, hS, hl, (fun _ hq => (List.not_mem_nil hq).elim), fun _ => rfl⟩) (fun _ _ _ _ _ h => h)
  case F =>
    intro w mg fa h KX G hmg
    refine' K01.all_mk KX G hmg ?a0 ?l0 ?c0 ?k0 ?a1 ?l1 ?c1 ?k1 ?a2 ?l2 ?c2 ?k2 ?a3 ?l3 ?c3 ?k3 ?a4 ?l4 ?c4 ?k4 ?a5 ?l5 ?c5 ?k5 ?a6 ?l6 ?c6 ?k6 ?a7 ?l7 ?c7 ?k7 ?z_IndexError ?z_LookupError ?z_ValueError ?z_all ?z_bool ?z_int ?z_isinstance ?z_len ?z_list ?z_str ?z_tuple ?z_zip ?yT1 ?yT2 ?yT3 ?yI_Missing ?yI_NothingLeft ?yI_TableError ?ya_InvalidArguments ?ye_InvalidArguments ?ya_InvalidValue ?ye_InvalidValue ?ya_InvalidColumns ?ye_InvalidColumns ?ya_NothingLeft ?ye_NothingLeft ?ya_InvalidText ?ye_InvalidText ?ya_ColumnsDiffer ?ye_ColumnsDiffer ?ya_NotOpen ?ye_NotOpen ?ya_InvalidLimit ?ye_InvalidLimit ?ya_InvalidCount ?ye_InvalidCount ?ya_InvalidName ?ye_InvalidName ?ya_InvalidRule ?ye_InvalidRule ?ya_InvalidComparison ?ye_InvalidComparison ?ya_InvalidRow ?ye_InvalidRow ?ya_InvalidCommand ?ye_InvalidCommand ?ya_InvalidLine ?ye_InvalidLine ?ya_FailsLate ?ye_FailsLate ?ya_InvalidStatement ?ye_InvalidStatement ?ya_InvalidCondition ?ye_InvalidCondition ?ya_UnknownName ?ye_UnknownName ?ya_WrongKind ?ye_WrongKind ?ya_DuplicateName ?ye_DuplicateName ?ya_UnknownKey ?ye_UnknownKey ?ya_Failed ?ye_Failed ?ya_Full ?ye_Full ?ya_TooWide ?ye_TooWide ?ya_NotCarried ?ye_NotCarried ?lI_Missing ?cI_Missing ?kI_Missing ?fT_Missing ?yfn_Missing ?lI_NothingLeft ?cI_NothingLeft ?kI_NothingLeft ?fT_NothingLeft ?yfn_NothingLeft ?lI_TableError ?cI_TableError ?kI_TableError ?fT_TableError ?yfn_TableError ?ysT ?ysS ?ysA ?yb_InvalidArguments ?yc_InvalidArguments ?yd_InvalidArguments ?yv_InvalidArguments ?yb_InvalidValue ?yc_InvalidValue ?yd_InvalidValue ?yv_InvalidValue ?yb_InvalidColumns ?yc_InvalidColumns ?yd_InvalidColumns ?yv_InvalidColumns ?yb_NothingLeft ?yc_NothingLeft ?yd_NothingLeft ?yv_NothingLeft ?yb_InvalidText ?yc_InvalidText ?yd_InvalidText ?yv_InvalidText ?yb_ColumnsDiffer ?yc_ColumnsDiffer ?yd_ColumnsDiffer ?yv_ColumnsDiffer ?yb_NotOpen ?yc_NotOpen ?yd_NotOpen ?yv_NotOpen ?yb_InvalidLimit ?yc_InvalidLimit ?yd_InvalidLimit ?yv_InvalidLimit ?yf_InvalidLimit ?yl_InvalidLimit ?yg_InvalidLimit ?yh_InvalidLimit ?yi_InvalidLimit ?yj_InvalidLimit ?yk_InvalidLimit ?ym_InvalidLimit ?yn_InvalidLimit ?yb_InvalidCount ?yc_InvalidCount ?yd_InvalidCount ?yv_InvalidCount ?yf_InvalidCount ?yl_InvalidCount ?yg_InvalidCount ?yh_InvalidCount ?yi_InvalidCount ?yj_InvalidCount ?yk_InvalidCount ?ym_InvalidCount ?yn_InvalidCount ?yb_InvalidName ?yc_InvalidName ?yd_InvalidName ?yv_InvalidName ?yf_InvalidName ?yl_InvalidName ?yg_InvalidName ?yh_InvalidName ?yi_InvalidName ?yj_InvalidName ?yk_InvalidName ?ym_InvalidName ?yn_InvalidName ?yb_InvalidRule ?yc_InvalidRule ?yd_InvalidRule ?yv_InvalidRule ?yf_InvalidRule ?yl_InvalidRule ?yg_InvalidRule ?yh_InvalidRule ?yi_InvalidRule ?yj_InvalidRule ?yk_InvalidRule ?ym_InvalidRule ?yn_InvalidRule ?yb_InvalidComparison ?yc_InvalidComparison ?yd_InvalidComparison ?yv_InvalidComparison ?yf_InvalidComparison ?yl_InvalidComparison ?yg_InvalidComparison ?yh_InvalidComparison ?yi_InvalidComparison ?yj_InvalidComparison ?yk_InvalidComparison ?ym_InvalidComparison ?yn_InvalidComparison ?yb_InvalidRow ?yc_InvalidRow ?yd_InvalidRow ?yv_InvalidRow ?yf_InvalidRow ?yl_InvalidRow ?yg_InvalidRow ?yh_InvalidRow ?yi_InvalidRow ?yj_InvalidRow ?yk_InvalidRow ?ym_InvalidRow ?yn_InvalidRow ?yb_InvalidCommand ?yc_InvalidCommand ?yd_InvalidCommand ?yv_InvalidCommand ?yf_InvalidCommand ?yl_InvalidCommand ?yg_InvalidCommand ?yh_InvalidCommand ?yi_InvalidCommand ?yj_InvalidCommand ?yk_InvalidCommand ?ym_InvalidCommand ?yn_InvalidCommand ?yb_InvalidLine ?yc_InvalidLine ?yd_InvalidLine ?yv_InvalidLine ?yf_InvalidLine ?yl_InvalidLine ?yg_InvalidLine ?yh_InvalidLine ?yi_InvalidLine ?yj_InvalidLine ?yk_InvalidLine ?ym_InvalidLine ?yn_InvalidLine ?yb_FailsLate ?yc_FailsLate ?yd_FailsLate ?yv_FailsLate ?yf_FailsLate ?yl_FailsLate ?yg_FailsLate ?yh_FailsLate ?yi_FailsLate ?yj_FailsLate ?yk_FailsLate ?ym_FailsLate ?yn_FailsLate ?yb_InvalidStatement ?yc_InvalidStatement ?yd_InvalidStatement ?yv_InvalidStatement ?yf_InvalidStatement ?yl_InvalidStatement ?yg_InvalidStatement ?yh_InvalidStatement ?yi_InvalidStatement ?yj_InvalidStatement ?yk_InvalidStatement ?ym_InvalidStatement ?yn_InvalidStatement ?yb_InvalidCondition ?yc_InvalidCondition ?yd_InvalidCondition ?yv_InvalidCondition ?yf_InvalidCondition ?yl_InvalidCondition ?yg_InvalidCondition ?yh_InvalidCondition ?yi_InvalidCondition ?yj_InvalidCondition ?yk_InvalidCondition ?ym_InvalidCondition ?yn_InvalidCondition ?yb_UnknownName ?yc_UnknownName ?yd_UnknownName ?yv_UnknownName ?yf_UnknownName ?yl_UnknownName ?yg_UnknownName ?yh_UnknownName ?yi_UnknownName ?yj_UnknownName ?yk_UnknownName ?ym_UnknownName ?yn_UnknownName ?yb_WrongKind ?yc_WrongKind ?yd_WrongKind ?yv_WrongKind ?yf_WrongKind ?yl_WrongKind ?yg_WrongKind ?yh_WrongKind ?yi_WrongKind ?yj_WrongKind ?yk_WrongKind ?ym_WrongKind ?yn_WrongKind ?yb_DuplicateName ?yc_DuplicateName ?yd_DuplicateName ?yv_DuplicateName ?yf_DuplicateName ?yl_DuplicateName ?yg_DuplicateName ?yh_DuplicateName ?yi_DuplicateName ?yj_DuplicateName ?yk_DuplicateName ?ym_DuplicateName ?yn_DuplicateName ?yb_UnknownKey ?yc_UnknownKey ?yd_UnknownKey ?yv_UnknownKey ?yf_UnknownKey ?yl_UnknownKey ?yg_UnknownKey ?yh_UnknownKey ?yi_UnknownKey ?yj_UnknownKey ?yk_UnknownKey ?ym_UnknownKey ?yn_UnknownKey ?yb_Failed ?yc_Failed ?yd_Failed ?yv_Failed ?yf_Failed ?yl_Failed ?yg_Failed ?yh_Failed ?yi_Failed ?yj_Failed ?yk_Failed ?ym_Failed ?yn_Failed ?yb_Full ?yc_Full ?yd_Full ?yv_Full ?yf_Full ?yl_Full ?yg_Full ?yh_Full ?yi_Full ?yj_Full ?yk_Full ?ym_Full ?yn_Full ?yb_TooWide ?yc_TooWide ?yd_TooWide ?yv_TooWide ?yf_TooWide ?yl_TooWide ?yg_TooWide ?yh_TooWide ?yi_TooWide ?yj_TooWide ?yk_TooWide ?ym_TooWide ?yn_TooWide ?yb_NotCarried ?yc_NotCarried ?yd_NotCarried ?yv_NotCarried ?yf_NotCarried ?yl_NotCarried ?yg_NotCarried ?yh_NotCarried ?yi_NotCarried ?yj_NotCarried ?yk_NotCarried ?ym_NotCarried ?yn_NotCarried ?yz_LookupError ?yz_ValueError ?yo_NothingLeft ?yz_NothingLeft ?yo_Missing ?yz_Missing ?yo_TableError ?yz_TableError ?yz_IndexError ?yo_InvalidCount ?yz_InvalidCount ?yo_InvalidName ?yz_InvalidName
    (case a0 => first | k_is | fail)
    (case l0 => first | k_is | fail)
    (case c0 => first | k_is | fail)
    (case k0 => first | k_is | fail)
    (case a1 => first | k_is | fail)
    (case l1 => first | k_is | fail)
    (case c1 => first | k_is | fail)
    (case k1 => first | k_is | fail)
    (case a2 => first | k_is | fail)
    (case l2 => first | k_is | fail)
    (case c2 => first | k_is | fail)
    (case k2 => first | k_is | fail)
    (case a3 => first | k_is | fail)
    (case l3 => first | k_is | fail)
    (case c3 => first | k_is | fail)
    (case k3 => first | k_is | fail)
    (case a4 => first | k_is | fail)
    (case l4 => first | k_is | fail)
    (case c4 => first | k_is | fail)
    (case k4 => first | k_is | fail)
    (case a5 => first | k_is | fail)
    (case l5 => first | k_is | fail)
    (case c5 => first | k_is | fail)
    (case k5 => first | k_is | fail)
    (case a6 => first | k_is | fail)
    (case l6 => first | k_is | fail)
    (case c6 => first | k_is | fail)
    (case k6 => first | k_is | fail)
    (case a7 => first | k_is | fail)
    (case l7 => first | k_is | fail)
    (case c7 => first | k_is | fail)
    (case k7 => first | k_is | fail)
    (case z_IndexError => first | k_is | fail)
    (case z_LookupError => first | k_is | fail)
    (case z_ValueError => first | k_is | fail)
    (case z_all => first | k_is | fail)
    (case z_bool => first | k_is | fail)
    (case z_int => first | k_is | fail)
    (case z_isinstance => first | k_is | fail)
    (case z_len => first | k_is | fail)
    (case z_list => first | k_is | fail)
    (case z_str => first | k_is | fail)
    (case z_tuple => first | k_is | fail)
    (case z_zip => first | k_is | fail)
    (case yT1 => first | k_is | fail)
    (case yT2 => first | k_is | fail)
    (case yT3 => first | k_is | fail)
    (case yI_Missing => first | k_is | fail)
    (case yI_NothingLeft => first | k_is | fail)
    (case yI_TableError => first | k_is | fail)
    (case ya_InvalidArguments => first | k_is | fail)
    (case ye_InvalidArguments => first | k_is | fail)
    (case ya_InvalidValue => first | k_is | fail)
    (case ye_InvalidValue => first | k_is | fail)
    (case ya_InvalidColumns => first | k_is | fail)
    (case ye_InvalidColumns => first | k_is | fail)
    (case ya_NothingLeft => first | k_is | fail)
    (case ye_NothingLeft => first | k_is | fail)
    (case ya_InvalidText => first | k_is | fail)
    (case ye_InvalidText => first | k_is | fail)
    (case ya_ColumnsDiffer => first | k_is | fail)
    (case ye_ColumnsDiffer => first | k_is | fail)
    (case ya_NotOpen => first | k_is | fail)
    (case ye_NotOpen => first | k_is | fail)
    (case ya_InvalidLimit => first | k_is | fail)
    (case ye_InvalidLimit => first | k_is | fail)
    (case ya_InvalidCount => first | k_is | fail)
    (case ye_InvalidCount => first | k_is | fail)
    (case ya_InvalidName => first | k_is | fail)
    (case ye_InvalidName => first | k_is | fail)
    (case ya_InvalidRule => first | k_is | fail)
    (case ye_InvalidRule => first | k_is | fail)
    (case ya_InvalidComparison => first | k_is | fail)
    (case ye_InvalidComparison => first | k_is | fail)
    (case ya_InvalidRow => first | k_is | fail)
    (case ye_InvalidRow => first | k_is | fail)
    (case ya_InvalidCommand => first | k_is | fail)
    (case ye_InvalidCommand => first | k_is | fail)
    (case ya_InvalidLine => first | k_is | fail)
    (case ye_InvalidLine => first | k_is | fail)
    (case ya_FailsLate => first | k_is | fail)
    (case ye_FailsLate => first | k_is | fail)
    (case ya_InvalidStatement => first | k_is | fail)
    (case ye_InvalidStatement => first | k_is | fail)
    (case ya_InvalidCondition => first | k_is | fail)
    (case ye_InvalidCondition => first | k_is | fail)
    (case ya_UnknownName => first | k_is | fail)
    (case ye_UnknownName => first | k_is | fail)
    (case ya_WrongKind => first | k_is | fail)
    (case ye_WrongKind => first | k_is | fail)
    (case ya_DuplicateName => first | k_is | fail)
    (case ye_DuplicateName => first | k_is | fail)
    (case ya_UnknownKey => first | k_is | fail)
    (case ye_UnknownKey => first | k_is | fail)
    (case ya_Failed => first | k_is | fail)
    (case ye_Failed => first | k_is | fail)
    (case ya_Full => first | k_is | fail)
    (case ye_Full => first | k_is | fail)
    (case ya_TooWide => first | k_is | fail)
    (case ye_TooWide => first | k_is | fail)
    (case ya_NotCarried => first | k_is | fail)
    (case ye_NotCarried => first | k_is | fail)
    (case lI_Missing => first | k_is | fail)
    (case cI_Missing => first | k_is | fail)
    (case kI_Missing => first | k_is | fail)
    (case fT_Missing => first | k_is | fail)
    (case yfn_Missing => first | k_is | rfl | kernel_rfl)
    (case lI_NothingLeft => first | k_is | fail)
    (case cI_NothingLeft => first | k_is | fail)
    (case kI_NothingLeft => first | k_is | fail)
    (case fT_NothingLeft => first | k_is | fail)
    (case yfn_NothingLeft => first | k_is | rfl | kernel_rfl)
    (case lI_TableError => first | k_is | fail)
    (case cI_TableError => first | k_is | fail)
    (case kI_TableError => first | k_is | fail)
    (case fT_TableError => first | k_is | fail)
    (case yfn_TableError => first | k_is | rfl | kernel_rfl)
    (case ysT => first | rfl | decide +kernel)
    (case ysS => first | k_is | fail)
    (case ysA => first | k_is | fail)
    (case yb_InvalidArguments => constructor <;> first | k_is | rfl | kernel_rfl)
    (case yc_InvalidArguments => first | k_is | fail)
    (case yd_InvalidArguments => first | k_is | rfl | decide)
    (case yv_InvalidArguments => first | kernel_rfl | k_is)
    (case yb_InvalidValue => constructor <;> first | k_is | rfl | kernel_rfl)
    (case yc_InvalidValue => first | k_is | fail)
    (case yd_InvalidValue => first | k_is | rfl | decide)
    (case yv_InvalidValue => first | kernel_rfl | k_is)
    (case yb_InvalidColumns => constructor <;> first | k_is | rfl | kernel_rfl)
    (case yc_InvalidColumns => first | k_is | fail)
    (case yd_InvalidColumns => first | k_is | rfl | decide)
    (case yv_InvalidColumns => first | kernel_rfl | k_is)
    (case yb_NothingLeft => constructor <;> first | k_is | rfl | kernel_rfl)
    (case yc_NothingLeft => first | k_is | fail)
    (case yd_NothingLeft => first | k_is | rfl | decide)
    (case yv_NothingLeft => first | kernel_rfl | k_is)
    (case yb_InvalidText => constructor <;> first | k_is | rfl | kernel_rfl)
    (case yc_InvalidText => first | k_is | fail)
    (case yd_InvalidText => first | k_is | rfl | decide)
    (case yv_InvalidText => first | kernel_rfl | k_is)
    (case yb_ColumnsDiffer => constructor <;> first | k_is | rfl | kernel_rfl)
    (case yc_ColumnsDiffer => first | k_is | fail)
    (case yd_ColumnsDiffer => first | k_is | rfl | decide)
    (case yv_ColumnsDiffer => first | kernel_rfl | k_is)
    (case yb_NotOpen => constructor <;> first | k_is | rfl | kernel_rfl)
    (case yc_NotOpen => first | k_is | fail)
    (case yd_NotOpen => first | k_is | rfl | decide)
    (case yv_NotOpen => first | kernel_rfl | k_is)
    (case yb_InvalidLimit => constructor <;> first | k_is | rfl | kernel_rfl)
    (case yc_InvalidLimit => first | k_is | fail)
    (case yd_InvalidLimit => first | k_is | rfl | decide)
    (case yv_InvalidLimit => first | kernel_rfl | k_is)
    (case yf_InvalidLimit => first | k_is | fail)
    (case yl_InvalidLimit => first | k_is | fail)
    (case yg_InvalidLimit => first | k_is | fail)
    (case yh_InvalidLimit => first | k_is | fail)
    (case yi_InvalidLimit => rfl)
    (case yj_InvalidLimit => first | rfl | decide +kernel)
    (case yk_InvalidLimit => first | k_is | fail)
    (case ym_InvalidLimit => first | k_is | fail)
    (case yn_InvalidLimit => first | ks_is | kernel_rfl)
    (case yb_InvalidCount => constructor <;> first | k_is | rfl | kernel_rfl)
    (case yc_InvalidCount => first | k_is | fail)
    (case yd_InvalidCount => first | k_is | rfl | decide)
    (case yv_InvalidCount => first | kernel_rfl | k_is)
    (case yf_InvalidCount => first | k_is | fail)
    (case yl_InvalidCount => first | k_is | fail)
    (case yg_InvalidCount => first | k_is | fail)
    (case yh_InvalidCount => first | k_is | fail)
    (case yi_InvalidCount => rfl)
    (case yj_InvalidCount => first | rfl | decide +kernel)
    (case yk_InvalidCount => first | k_is | fail)
    (case ym_InvalidCount => first | k_is | fail)
    (case yn_InvalidCount => first | ks_is | kernel_rfl)
    (case yb_InvalidName => constructor <;> first | k_is | rfl | kernel_rfl)
    (case yc_InvalidName => first | k_is | fail)
    (case yd_InvalidName => first | k_is | rfl | decide)
    (case yv_InvalidName => first | kernel_rfl | k_is)
    (case yf_InvalidName => first | k_is | fail)
    (case yl_InvalidName => first | k_is | fail)
    (case yg_InvalidName => first | k_is | fail)
    (case yh_InvalidName => first | k_is | fail)
    (case yi_InvalidName => rfl)
    (case yj_InvalidName => first | rfl | decide +kernel)
    (case yk_InvalidName => first | k_is | fail)
    (case ym_InvalidName => first | k_is | fail)
    (case yn_InvalidName => first | ks_is | kernel_rfl)
    (case yb_InvalidRule => constructor <;> first | k_is | rfl | kernel_rfl)
    (case yc_InvalidRule => first | k_is | fail)
    (case yd_InvalidRule => first | k_is | rfl | decide)
    (case yv_InvalidRule => first | kernel_rfl | k_is)
    (case yf_InvalidRule => first | k_is | fail)
    (case yl_InvalidRule => first | k_is | fail)
    (case yg_InvalidRule => first | k_is | fail)
    (case yh_InvalidRule => first | k_is | fail)
    (case yi_InvalidRule => rfl)
    (case yj_InvalidRule => first | rfl | decide +kernel)
    (case yk_InvalidRule => first | k_is | fail)
    (case ym_InvalidRule => first | k_is | fail)
    (case yn_InvalidRule => first | ks_is | kernel_rfl)
    (case yb_InvalidComparison => constructor <;> first | k_is | rfl | kernel_rfl)
    (case yc_InvalidComparison => first | k_is | fail)
    (case yd_InvalidComparison => first | k_is | rfl | decide)
    (case yv_InvalidComparison => first | kernel_rfl | k_is)
    (case yf_InvalidComparison => first | k_is | fail)
    (case yl_InvalidComparison => first | k_is | fail)
    (case yg_InvalidComparison => first | k_is | fail)
    (case yh_InvalidComparison => first | k_is | fail)
    (case yi_InvalidComparison => rfl)
    (case yj_InvalidComparison => first | rfl | decide +kernel)
    (case yk_InvalidComparison => first | k_is | fail)
    (case ym_InvalidComparison => first | k_is | fail)
    (case yn_InvalidComparison => first | ks_is | kernel_rfl)
    (case yb_InvalidRow => constructor <;> first | k_is | rfl | kernel_rfl)
    (case yc_InvalidRow => first | k_is | fail)
    (case yd_InvalidRow => first | k_is | rfl | decide)
    (case yv_InvalidRow => first | kernel_rfl | k_is)
    (case yf_InvalidRow => first | k_is | fail)
    (case yl_InvalidRow => first | k_is | fail)
    (case yg_InvalidRow => first | k_is | fail)
    (case yh_InvalidRow => first | k_is | fail)
    (case yi_InvalidRow => rfl)
    (case yj_InvalidRow => first | rfl | decide +kernel)
    (case yk_InvalidRow => first | k_is | fail)
    (case ym_InvalidRow => first | k_is | fail)
    (case yn_InvalidRow => first | ks_is | kernel_rfl)
    (case yb_InvalidCommand => constructor <;> first | k_is | rfl | kernel_rfl)
    (case yc_InvalidCommand => first | k_is | fail)
    (case yd_InvalidCommand => first | k_is | rfl | decide)
    (case yv_InvalidCommand => first | kernel_rfl | k_is)
    (case yf_InvalidCommand => first | k_is | fail)
    (case yl_InvalidCommand => first | k_is | fail)
    (case yg_InvalidCommand => first | k_is | fail)
    (case yh_InvalidCommand => first | k_is | fail)
    (case yi_InvalidCommand => rfl)
    (case yj_InvalidCommand => first | rfl | decide +kernel)
    (case yk_InvalidCommand => first | k_is | fail)
    (case ym_InvalidCommand => first | k_is | fail)
    (case yn_InvalidCommand => first | ks_is | kernel_rfl)
    (case yb_InvalidLine => constructor <;> first | k_is | rfl | kernel_rfl)
    (case yc_InvalidLine => first | k_is | fail)
    (case yd_InvalidLine => first | k_is | rfl | decide)
    (case yv_InvalidLine => first | kernel_rfl | k_is)
    (case yf_InvalidLine => first | k_is | fail)
    (case yl_InvalidLine => first | k_is | fail)
    (case yg_InvalidLine => first | k_is | fail)
    (case yh_InvalidLine => first | k_is | fail)
    (case yi_InvalidLine => rfl)
    (case yj_InvalidLine => first | rfl | decide +kernel)
    (case yk_InvalidLine => first | k_is | fail)
    (case ym_InvalidLine => first | k_is | fail)
    (case yn_InvalidLine => first | ks_is | kernel_rfl)
    (case yb_FailsLate => constructor <;> first | k_is | rfl | kernel_rfl)
    (case yc_FailsLate => first | k_is | fail)
    (case yd_FailsLate => first | k_is | rfl | decide)
    (case yv_FailsLate => first | kernel_rfl | k_is)
    (case yf_FailsLate => first | k_is | fail)
    (case yl_FailsLate => first | k_is | fail)
    (case yg_FailsLate => first | k_is | fail)
    (case yh_FailsLate => first | k_is | fail)
    (case yi_FailsLate => rfl)
    (case yj_FailsLate => first | rfl | decide +kernel)
    (case yk_FailsLate => first | k_is | fail)
    (case ym_FailsLate => first | k_is | fail)
    (case yn_FailsLate => first | ks_is | kernel_rfl)
    (case yb_InvalidStatement => constructor <;> first | k_is | rfl | kernel_rfl)
    (case yc_InvalidStatement => first | k_is | fail)
    (case yd_InvalidStatement => first | k_is | rfl | decide)
    (case yv_InvalidStatement => first | kernel_rfl | k_is)
    (case yf_InvalidStatement => first | k_is | fail)
    (case yl_InvalidStatement => first | k_is | fail)
    (case yg_InvalidStatement => first | k_is | fail)
    (case yh_InvalidStatement => first | k_is | fail)
    (case yi_InvalidStatement => rfl)
    (case yj_InvalidStatement => first | rfl | decide +kernel)
    (case yk_InvalidStatement => first | k_is | fail)
    (case ym_InvalidStatement => first | k_is | fail)
    (case yn_InvalidStatement => first | ks_is | kernel_rfl)
    (case yb_InvalidCondition => constructor <;> first | k_is | rfl | kernel_rfl)
    (case yc_InvalidCondition => first | k_is | fail)
    (case yd_InvalidCondition => first | k_is | rfl | decide)
    (case yv_InvalidCondition => first | kernel_rfl | k_is)
    (case yf_InvalidCondition => first | k_is | fail)
    (case yl_InvalidCondition => first | k_is | fail)
    (case yg_InvalidCondition => first | k_is | fail)
    (case yh_InvalidCondition => first | k_is | fail)
    (case yi_InvalidCondition => rfl)
    (case yj_InvalidCondition => first | rfl | decide +kernel)
    (case yk_InvalidCondition => first | k_is | fail)
    (case ym_InvalidCondition => first | k_is | fail)
    (case yn_InvalidCondition => first | ks_is | kernel_rfl)
    (case yb_UnknownName => constructor <;> first | k_is | rfl | kernel_rfl)
    (case yc_UnknownName => first | k_is | fail)
    (case yd_UnknownName => first | k_is | rfl | decide)
    (case yv_UnknownName => first | kernel_rfl | k_is)
    (case yf_UnknownName => first | k_is | fail)
    (case yl_UnknownName => first | k_is | fail)
    (case yg_UnknownName => first | k_is | fail)
    (case yh_UnknownName => first | k_is | fail)
    (case yi_UnknownName => rfl)
    (case yj_UnknownName => first | rfl | decide +kernel)
    (case yk_UnknownName => first | k_is | fail)
    (case ym_UnknownName => first | k_is | fail)
    (case yn_UnknownName => first | ks_is | kernel_rfl)
    (case yb_WrongKind => constructor <;> first | k_is | rfl | kernel_rfl)
    (case yc_WrongKind => first | k_is | fail)
    (case yd_WrongKind => first | k_is | rfl | decide)
    (case yv_WrongKind => first | kernel_rfl | k_is)
    (case yf_WrongKind => first | k_is | fail)
    (case yl_WrongKind => first | k_is | fail)
    (case yg_WrongKind => first | k_is | fail)
    (case yh_WrongKind => first | k_is | fail)
    (case yi_WrongKind => rfl)
    (case yj_WrongKind => first | rfl | decide +kernel)
    (case yk_WrongKind => first | k_is | fail)
    (case ym_WrongKind => first | k_is | fail)
    (case yn_WrongKind => first | ks_is | kernel_rfl)
    (case yb_DuplicateName => constructor <;> first | k_is | rfl | kernel_rfl)
    (case yc_DuplicateName => first | k_is | fail)
    (case yd_DuplicateName => first | k_is | rfl | decide)
    (case yv_DuplicateName => first | kernel_rfl | k_is)
    (case yf_DuplicateName => first | k_is | fail)
    (case yl_DuplicateName => first | k_is | fail)
    (case yg_DuplicateName => first | k_is | fail)
    (case yh_DuplicateName => first | k_is | fail)
    (case yi_DuplicateName => rfl)
    (case yj_DuplicateName => first | rfl | decide +kernel)
    (case yk_DuplicateName => first | k_is | fail)
    (case ym_DuplicateName => first | k_is | fail)
    (case yn_DuplicateName => first | ks_is | kernel_rfl)
    (case yb_UnknownKey => constructor <;> first | k_is | rfl | kernel_rfl)
    (case yc_UnknownKey => first | k_is | fail)
    (case yd_UnknownKey => first | k_is | rfl | decide)
    (case yv_UnknownKey => first | kernel_rfl | k_is)
    (case yf_UnknownKey => first | k_is | fail)
    (case yl_UnknownKey => first | k_is | fail)
    (case yg_UnknownKey => first | k_is | fail)
    (case yh_UnknownKey => first | k_is | fail)
    (case yi_UnknownKey => rfl)
    (case yj_UnknownKey => first | rfl | decide +kernel)
    (case yk_UnknownKey => first | k_is | fail)
    (case ym_UnknownKey => first | k_is | fail)
    (case yn_UnknownKey => first | ks_is | kernel_rfl)
    (case yb_Failed => constructor <;> first | k_is | rfl | kernel_rfl)
    (case yc_Failed => first | k_is | fail)
    (case yd_Failed => first | k_is | rfl | decide)
    (case yv_Failed => first | kernel_rfl | k_is)
    (case yf_Failed => first | k_is | fail)
    (case yl_Failed => first | k_is | fail)
    (case yg_Failed => first | k_is | fail)
    (case yh_Failed => first | k_is | fail)
    (case yi_Failed => rfl)
    (case yj_Failed => first | rfl | decide +kernel)
    (case yk_Failed => first | k_is | fail)
    (case ym_Failed => first | k_is | fail)
    (case yn_Failed => first | ks_is | kernel_rfl)
    (case yb_Full => constructor <;> first | k_is | rfl | kernel_rfl)
    (case yc_Full => first | k_is | fail)
    (case yd_Full => first | k_is | rfl | decide)
    (case yv_Full => first | kernel_rfl | k_is)
    (case yf_Full => first | k_is | fail)
    (case yl_Full => first | k_is | fail)
    (case yg_Full => first | k_is | fail)
    (case yh_Full => first | k_is | fail)
    (case yi_Full => rfl)
    (case yj_Full => first | rfl | decide +kernel)
    (case yk_Full => first | k_is | fail)
    (case ym_Full => first | k_is | fail)
    (case yn_Full => first | ks_is | kernel_rfl)
    (case yb_TooWide => constructor <;> first | k_is | rfl | kernel_rfl)
    (case yc_TooWide => first | k_is | fail)
    (case yd_TooWide => first | k_is | rfl | decide)
    (case yv_TooWide => first | kernel_rfl | k_is)
    (case yf_TooWide => first | k_is | fail)
    (case yl_TooWide => first | k_is | fail)
    (case yg_TooWide => first | k_is | fail)
    (case yh_TooWide => first | k_is | fail)
    (case yi_TooWide => rfl)
    (case yj_TooWide => first | rfl | decide +kernel)
    (case yk_TooWide => first | k_is | fail)
    (case ym_TooWide => first | k_is | fail)
    (case yn_TooWide => first | ks_is | kernel_rfl)
    (case yb_NotCarried => constructor <;> first | k_is | rfl | kernel_rfl)
    (case yc_NotCarried => first | k_is | fail)
    (case yd_NotCarried => first | k_is | rfl | decide)
    (case yv_NotCarried => first | kernel_rfl | k_is)
    (case yf_NotCarried => first | k_is | fail)
    (case yl_NotCarried => first | k_is | fail)
    (case yg_NotCarried => first | k_is | fail)
    (case yh_NotCarried => first | k_is | fail)
    (case yi_NotCarried => rfl)
    (case yj_NotCarried => first | rfl | decide +kernel)
    (case yk_NotCarried => first | k_is | fail)
    (case ym_NotCarried => first | k_is | fail)
    (case yn_NotCarried => first | ks_is | kernel_rfl)
    (case yz_LookupError => first | kernel_rfl | k_is)
    (case yz_ValueError => first | kernel_rfl | k_is)
    (case yo_NothingLeft => first | k_is | fail)
    (case yz_NothingLeft => first | kernel_rfl | k_is)
    (case yo_Missing => first | k_is | fail)
    (case yz_Missing => first | kernel_rfl | k_is)
    (case yo_TableError => first | k_is | fail)
    (case yz_TableError => first | kernel_rfl | k_is)
    (case yz_IndexError => first | kernel_rfl | k_is)
    (case yo_InvalidCount => first | k_is | fail)
    (case yz_InvalidCount => first | kernel_rfl | k_is)
    (case yo_InvalidName => first | k_is | fail)
    (case yz_InvalidName => first | kernel_rfl | k_is)
