import PyProof.Rows.All
import Wide.All
import OpenK.AllK
import Wide.FinOn
import HandS.Base
import HandS.Call
import HandS.IsInst
import HandS.Exc
import HandS.ExcInit
import HandS.ExcIs
import HandS.ExcField
import KE.KExcIs
import HandS.List
import HandS.Comp
import HandS.Ends
import HandS.Dict
import HandS.Iter
import HandS.Text
import HandS.Words
import HandS.WordsList
import HandS.Walk
import HandS.Zip
import HandS.Lambda
import HandS.TupAny
import HandS.Style
import HandS.FStr
import HandS.RaiseMore
import HandS.Rev
import HandS.Conv
import HandS.Star
import HandS.More
import HandS.ReplaceDef
import HandS.GenList
import HandS.ReplaceList
import PySem.Challenge.RW_lookedrows_k08_parts_and_values_of_condi
set_option Elab.async false
set_option linter.all false
set_option maxRecDepth 100000
/-! types of values, errors of own classes among them -/
namespace DL
open PySem PySem.Spec PyProof.Rows L2
/-- the value's type: as the library has it, or an error of an own class, made and not raised -/
def TyE (K : PySem.W.Frag) (H : Hp) (x : V) (t : Value) : Prop := TyX K H x t ∨ ∃ (a C dx : Addr) (fs : List (Str × V)), x = .ref a ∧ t = .ref C ∧ H a = some (exo a C (some dx)) ∧ H dx = some (exd dx fs) ∧ ExcC K C
section
variable {X : Cx} {pins : List (Addr × Obj)} {σ : L2.St} {H : Hp} {s : Shared}
theorem kit_ofE {x : V} {u t : Value} (I : Inv X pins σ H s) (rx : RelV x u) (ty : TyE X.K H x t) : ∃ P : Heap → Prop, PySem.W.KitX X.K u t P ∧ P s.heap ∧ u ≠ .builtin "__main__.__loader__#opaque" := by
  rcases ty with ty | ⟨a, C, dx, fs, rfl, rfl, ea, ed, T⟩
  · exact kit_of I rx ty
  · obtain rfl : u = Value.ref a := rx
    obtain ⟨t1, ho⟩ := exo_at I.hok ea
    obtain ⟨mA, hns, rel⟩ := exd_at I.hok ed
    obtain ⟨oD, _, _, hoD, _, _⟩ := hns.count (within_of rel)
    have J : PySem.W.InstAt s.heap a { cls := .ref C, dict := some dx, data := .fields #[.ref t1, .none, .none, .none, .bool false, .none] } C (some oD) := ⟨ho, rfl, rfl, hoD⟩
    obtain ⟨cd, hc, _⟩ := PySem.W.any_some T.hd
    exact ⟨_, PySem.W.kitx_exc (by rw [hc]; rfl) T.hg T.hk T.hs T.ha T.hn T.ht T.hm, J, fun z => nomatch z⟩
end
/-- isinstance(x, c) -/
def rIsE1 (K : PySem.W.Frag) : List V → Hp → VK → Prop := fun xs H Q => ∃ (x c : V) (t u : Value) (b : Bool), xs = [x, c] ∧ ClsV c u ∧ TyE K H x t ∧ PySem.W.kitOne K t u = some b ∧ Q (.bl b) H
/-- isinstance(x, (c1, c2, ..)) -/
def rIsET (K : PySem.W.Frag) : List V → Hp → VK → Prop := fun xs H Q => ∃ (x : V) (tp : Addr) (cs : List V) (t : Value) (us : List Value) (b : Bool), xs = [x, .ref tp] ∧ H tp = some (.tup cs) ∧ Paired ClsV cs us ∧ TyE K H x t ∧ PySem.W.kitAny K t us = some b ∧ Q (.bl b) H
section
variable {X : Cx}
theorem call_isE1 : CallR X (.builtin "isinstance") (rIsE1 X.K) := by
  intro pins s σ H xs us Q I r h
  obtain ⟨x, c, t, u, b, rfl, k, ty, e, q⟩ := h
  obtain ⟨u1, u2, rfl, r1, r2⟩ := vals2 r
  have e2 := k.eq r2
  subst e2
  obtain ⟨P, Z, p, hx⟩ := kit_ofE I r1 ty
  refine PySem.W.kia_one Z I.kIn p e hx fun tk => ?_
  exact ⟨.bl b, H, I.tok tk, rfl, q⟩
theorem call_isET : CallR X (.builtin "isinstance") (rIsET X.K) := by
  intro pins s σ H xs us Q I r h
  obtain ⟨x, tp, cs, t, ws, b, rfl, hT, k, ty, e, q⟩ := h
  obtain ⟨u1, u2, rfl, r1, r2⟩ := vals2 r
  obtain rfl : u2 = Value.ref tp := r2
  obtain ⟨P, Z, p, hx⟩ := kit_ofE I r1 ty
  have hh : ObjOk X.prog X.w H s.heap tp (.tup cs) := I.hok tp _ hT
  obtain ⟨_, its, rv, o, h1, h2, n, h3⟩ := hh
  have e3 := ClsV.all k rv
  subst e3
  obtain ⟨oc, od, dt, sl⟩ := o
  simp only at h2 h3
  subst h2 h3
  refine PySem.W.kia_tup Z I.kIn p h1 e hx fun tk => ?_
  exact ⟨.bl b, H, I.tok tk, rfl, q⟩
end

/-! ### the class of an error that is data -/
/-- the fields that errors bear -/
def errAll : List Str := ["code", "path", "index", "given", "witness", "key", "name", "word", "most", "limit"]
def noAtt (K : PySem.W.Frag) (C : Addr) (f : Str) : Bool := match PySem.W.findIn K (.ref C) f with
  | some none => true
  | _ => false
def kitNo (K : PySem.W.Frag) (C : Addr) (T : String) : Bool := match PySem.W.kitOne K (.ref C) (.type T) with
  | some false => true
  | _ => false
structure ErrV (K : PySem.W.Frag) (c : Str) (C : Addr) : Prop where
  at_ : PySem.W.nsIn K mainGlobals c = some (some (.ref C))
  exc : L2.ExcC K C
  nof : (errAll.all fun f => noAtt K C f) = true
  kit : ((["int", "str", "bool", "tuple", "list", "dict"] : List String).all fun T => kitNo K C T) = true
theorem ErrV.no {K : PySem.W.Frag} {c : Str} {C : Addr} (T : ErrV K c C) {f : Str} (h : f ∈ errAll) : PySem.W.findIn K (.ref C) f = some none := by
  have e := List.all_eq_true.mp T.nof f h
  unfold noAtt at e
  split at e
  · assumption
  · cases e
theorem ErrV.kin {K : PySem.W.Frag} {c : Str} {C : Addr} (T : ErrV K c C) {n : String} (h : n ∈ (["int", "str", "bool", "tuple", "list", "dict"] : List String)) : PySem.W.kitOne K (.ref C) (.type n) = some false := by
  have e := List.all_eq_true.mp T.kit n h
  unfold kitNo at e
  split at e
  · assumption
  · cases e
end DL

namespace DL
open PySem PySem.Spec PyProof.Rows L2

/-- the tables of code objects that may grow, each with the name that its own bear -/
class Tabs where
  ts : List (Addr × Str)
  uq : ∀ p ∈ ts, ∀ r ∈ ts, p.1 = r.1 → p.2 = r.2
/-- none -/
abbrev noTabs : Tabs := ⟨[], fun _ h => nomatch h⟩
/-- where the instance stands that a def is making -/
class Me where
  me : Addr
variable [Tabs] [Me]

/-! ### data without addresses -/
omit [Me] in
inductive Dt where
  | non | bl (b : Bool) | int (i : Int) | str (x : Str) | tup (l : List Dt) | lst (l : List Dt) | bag
  /-- a dict that never changes: its keys, its values -/
  | dic (ks : List Key) (l : List Dt)
  /-- an instance of an own class that never changes: the class's name, its attributes -/
  | ins (c : Str) (ks : List Str) (l : List Dt)
  /-- an error of an own class, made and not raised: the class's name, its attributes -/
  | err (c : Str) (ks : List Str) (l : List Dt)

omit [Me] in
abbrev Ext (G G' : Hp) : Prop := ∀ a o, G a = some o → G' a = some o
theorem Ext.refl (G : Hp) : Ext G G := fun _ _ h => h
theorem Ext.trans {G G1 G2 : Hp} (a : Ext G G1) (b : Ext G1 G2) : Ext G G2 := fun x o h => b x o (a x o h)
theorem Ext.new {G : Hp} {p : Addr} {o : HO} (h : G p = none) : Ext G (upd G p o) := fun a u e => by
  rw [upd_ne (ne_of_none e h)]
  exact e
theorem ext_t {K : PySem.W.Frag} {H H' : Hp} {a : Addr} {xs : List V} (e : Ext H H') (h : SqT K H a xs) : SqT K H' a xs := by
  rcases h with (h | ⟨o, h⟩) | h
  · exact .inl (.inl (e _ _ h))
  · exact .inl (.inr ⟨o, e _ _ h⟩)
  · exact .inr h

omit [Me] in
/-- what the fixed part says of an own class whose instances are data -/
structure InsC (K : PySem.W.Frag) (c : Str) (C : Addr) : Prop where
  at_ : PySem.W.nsIn K mainGlobals c = some (some (.ref C))
  cls : L2.Cls K C
  ha : PySem.W.findIn K (.ref C) "__class__" = some (some (.builtin "object.__class__"))
  hn : PySem.W.specialIn K (.builtin "object.__class__") "__get__" = some (some (.builtin "getset_descriptor.__get__"))
  ht : PySem.W.takesIn K (.builtin "object.__class__") = some true
  hm : PySem.W.mroIn K C (.type "object") = some true
  kit : ∀ T ∈ (["int", "str", "bool", "tuple", "list", "dict"] : List String), PySem.W.kitOne K (.ref C) (.type T) = some false
section
variable (K : PySem.W.Frag) (β : Addr)
omit [Me] in
mutual
def IsD (G : Hp) : Dt → V → Prop
  | .non, v => v = .non
  | .bl b, v => v = .bl b
  | .int i, v => v = .int i
  | .str x, v => v = .str x
  | .bag, v => v = .ref β
  | .tup l, v => ∃ a vs, v = .ref a ∧ SqT K G a vs ∧ IsL G l vs
  | .lst l, v => ∃ a vs, v = .ref a ∧ G a = some (.lst vs) ∧ IsL G l vs
  | .dic ks l, v => ∃ a vs, v = .ref a ∧ G a = some (.dK (ks.zip vs)) ∧ ks.length = l.length ∧ IsL G l vs
  | .ins c ks l, v => ∃ a C dx vs, v = .ref a ∧ InsC K c C ∧ G a = some (.ins C dx (ks.zip vs)) ∧ ks.length = l.length ∧ IsL G l vs
  | .err c ks l, v => ∃ a C dx vs, v = .ref a ∧ ErrV K c C ∧ G a = some (exo a C (some dx)) ∧ G dx = some (exd dx (ks.zip vs)) ∧ ks.length = l.length ∧ IsL G l vs
def IsL (G : Hp) : List Dt → List V → Prop
  | [], vs => vs = []
  | d :: l, vs => ∃ v r, vs = v :: r ∧ IsD G d v ∧ IsL G l r
end
end
section
variable {K : PySem.W.Frag} {β : Addr}
mutual
theorem IsD.mono {G G' : Hp} (e : Ext G G') : ∀ (d : Dt) (v : V), IsD K β G d v → IsD K β G' d v
  | .non, _, h => h
  | .bl _, _, h => h
  | .int _, _, h => h
  | .str _, _, h => h
  | .bag, _, h => h
  | .tup l, v, h => by
    unfold IsD at h ⊢
    obtain ⟨a, vs, rfl, h1, h2⟩ := h
    exact ⟨a, vs, rfl, ext_t e h1, IsL.mono e l vs h2⟩
  | .lst l, v, h => by
    unfold IsD at h ⊢
    obtain ⟨a, vs, rfl, h1, h2⟩ := h
    exact ⟨a, vs, rfl, e _ _ h1, IsL.mono e l vs h2⟩
  | .dic ks l, v, h => by
    unfold IsD at h ⊢
    obtain ⟨a, vs, rfl, h1, h3, h2⟩ := h
    exact ⟨a, vs, rfl, e _ _ h1, h3, IsL.mono e l vs h2⟩
  | .ins c ks l, v, h => by
    unfold IsD at h ⊢
    obtain ⟨a, C, dx, vs, rfl, h0, h1, h3, h2⟩ := h
    exact ⟨a, C, dx, vs, rfl, h0, e _ _ h1, h3, IsL.mono e l vs h2⟩
  | .err c ks l, v, h => by
    unfold IsD at h ⊢
    obtain ⟨a, C, dx, vs, rfl, h0, h1, h4, h3, h2⟩ := h
    exact ⟨a, C, dx, vs, rfl, h0, e _ _ h1, e _ _ h4, h3, IsL.mono e l vs h2⟩
theorem IsL.mono {G G' : Hp} (e : Ext G G') : ∀ (l : List Dt) (vs : List V), IsL K β G l vs → IsL K β G' l vs
  | [], _, h => h
  | d :: l, vs, h => by
    unfold IsL at h ⊢
    obtain ⟨v, r, rfl, h1, h2⟩ := h
    exact ⟨v, r, rfl, IsD.mono e d v h1, IsL.mono e l r h2⟩
end
variable {G : Hp}
theorem is_non {v : V} : IsD K β G .non v ↔ v = .non := by unfold IsD; rfl
theorem is_bl {v : V} {b : Bool} : IsD K β G (.bl b) v ↔ v = .bl b := by unfold IsD; rfl
theorem is_int {v : V} {b : Int} : IsD K β G (.int b) v ↔ v = .int b := by unfold IsD; rfl
theorem is_str {v : V} {b : Str} : IsD K β G (.str b) v ↔ v = .str b := by unfold IsD; rfl
theorem is_bag {v : V} : IsD K β G .bag v ↔ v = .ref β := by unfold IsD; rfl
theorem is_tup {v : V} {l : List Dt} : IsD K β G (.tup l) v ↔ ∃ a vs, v = .ref a ∧ SqT K G a vs ∧ IsL K β G l vs := by conv => lhs; unfold IsD
theorem is_lst {v : V} {l : List Dt} : IsD K β G (.lst l) v ↔ ∃ a vs, v = .ref a ∧ G a = some (.lst vs) ∧ IsL K β G l vs := by conv => lhs; unfold IsD
theorem is_dic {v : V} {ks : List Key} {l : List Dt} : IsD K β G (.dic ks l) v ↔ ∃ a vs, v = .ref a ∧ G a = some (.dK (ks.zip vs)) ∧ ks.length = l.length ∧ IsL K β G l vs := by conv => lhs; unfold IsD
theorem is_ins {v : V} {c : Str} {ks : List Str} {l : List Dt} : IsD K β G (.ins c ks l) v ↔ ∃ a C dx vs, v = .ref a ∧ InsC K c C ∧ G a = some (.ins C dx (ks.zip vs)) ∧ ks.length = l.length ∧ IsL K β G l vs := by conv => lhs; unfold IsD
theorem is_err {v : V} {c : Str} {ks : List Str} {l : List Dt} : IsD K β G (.err c ks l) v ↔ ∃ a C dx vs, v = .ref a ∧ ErrV K c C ∧ G a = some (exo a C (some dx)) ∧ G dx = some (exd dx (ks.zip vs)) ∧ ks.length = l.length ∧ IsL K β G l vs := by conv => lhs; unfold IsD
theorem isl_nil {vs : List V} : IsL K β G [] vs ↔ vs = [] := by unfold IsL; rfl
theorem isl_cons {vs : List V} {d : Dt} {l : List Dt} : IsL K β G (d :: l) vs ↔ ∃ v r, vs = v :: r ∧ IsD K β G d v ∧ IsL K β G l r := by conv => lhs; unfold IsL
theorem IsL.len : ∀ {l : List Dt} {vs : List V}, IsL K β G l vs → vs.length = l.length
  | [], vs, h => by rw [isl_nil] at h; rw [h]; rfl
  | d :: l, vs, h => by
    obtain ⟨v, r, rfl, _, h2⟩ := isl_cons.mp h
    simp [IsL.len h2]
theorem IsL.get : ∀ {l : List Dt} {vs : List V} {i : Nat} {d : Dt}, IsL K β G l vs → l[i]? = some d → ∃ v, vs[i]? = some v ∧ IsD K β G d v
  | [], _, _, _, _, e => by simp at e
  | d :: l, vs, 0, d', h, e => by
    obtain ⟨v, r, rfl, h1, h2⟩ := isl_cons.mp h
    simp at e; subst e
    exact ⟨v, rfl, h1⟩
  | d :: l, vs, i + 1, d', h, e => by
    obtain ⟨v, r, rfl, h1, h2⟩ := isl_cons.mp h
    obtain ⟨u, e1, e2⟩ := IsL.get (i := i) h2 (by simpa using e)
    exact ⟨u, by simpa using e1, e2⟩
theorem IsL.set : ∀ {l : List Dt} {vs : List V} (i : Nat) {d : Dt} {v : V}, IsL K β G l vs → IsD K β G d v → IsL K β G (l.set i d) (vs.set i v)
  | [], vs, i, d, v, h, _ => by rw [isl_nil] at h; subst h; simp [isl_nil]
  | e :: l, vs, 0, d, v, h, q => by
    obtain ⟨u, r, rfl, h1, h2⟩ := isl_cons.mp h
    exact isl_cons.mpr ⟨v, r, rfl, q, h2⟩
  | e :: l, vs, i + 1, d, v, h, q => by
    obtain ⟨u, r, rfl, h1, h2⟩ := isl_cons.mp h
    exact isl_cons.mpr ⟨u, r.set i v, rfl, h1, IsL.set i h2 q⟩
theorem IsL.append : ∀ {l m : List Dt} {vs us : List V}, IsL K β G l vs → IsL K β G m us → IsL K β G (l ++ m) (vs ++ us)
  | [], m, vs, us, h, q => by rw [isl_nil] at h; subst h; exact q
  | d :: l, m, vs, us, h, q => by
    obtain ⟨u, r, rfl, h1, h2⟩ := isl_cons.mp h
    exact isl_cons.mpr ⟨u, r ++ us, rfl, h1, IsL.append h2 q⟩
theorem IsL.take : ∀ {l : List Dt} {vs : List V} (n : Nat), IsL K β G l vs → IsL K β G (l.take n) (vs.take n)
  | l, vs, 0, h => by simp [isl_nil]
  | [], vs, n + 1, h => by rw [isl_nil] at h; subst h; simp [isl_nil]
  | d :: l, vs, n + 1, h => by
    obtain ⟨u, r, rfl, h1, h2⟩ := isl_cons.mp h
    exact isl_cons.mpr ⟨u, r.take n, rfl, h1, IsL.take n h2⟩
theorem IsL.drop : ∀ {l : List Dt} {vs : List V} (n : Nat), IsL K β G l vs → IsL K β G (l.drop n) (vs.drop n)
  | l, vs, 0, h => h
  | [], vs, n + 1, h => by rw [isl_nil] at h; subst h; simp [isl_nil]
  | d :: l, vs, n + 1, h => by
    obtain ⟨u, r, rfl, h1, h2⟩ := isl_cons.mp h
    exact IsL.drop n h2
theorem IsL.snoc {l : List Dt} {vs : List V} {d : Dt} {v : V} (h : IsL K β G l vs) (q : IsD K β G d v) : IsL K β G (l ++ [d]) (vs ++ [v]) :=
  h.append (isl_cons.mpr ⟨v, [], rfl, q, isl_nil.mpr rfl⟩)
theorem IsL.txts : ∀ {ss : List Str}, IsL K β G (ss.map Dt.str) (ss.map V.str)
  | [] => isl_nil.mpr rfl
  | s :: r => isl_cons.mpr ⟨_, _, rfl, is_str.mpr rfl, IsL.txts⟩
theorem IsL.ints : ∀ {ss : List Int}, IsL K β G (ss.map Dt.int) (ss.map V.int)
  | [] => isl_nil.mpr rfl
  | s :: r => isl_cons.mpr ⟨_, _, rfl, is_int.mpr rfl, IsL.ints⟩
end

/-! ### what is known between two steps -/
omit [Me] in
/-- no table, no code object -/
def Nx (p : Addr) (o : HO) : Prop := (∀ ps, o ≠ .tbl ps) ∧ ∀ q, o ≠ LamX.CodeO p q
theorem nx_lst {p : Addr} {vs : List V} : Nx p (.lst vs) := by
  refine ⟨(fun ps z => by cases z), fun q z => ?_⟩
  have z' : HO.lst vs = HO.ext _ := z
  cases z'
theorem nx_ins {p : Addr} {C dx : Addr} {fs : List (Str × V)} : Nx p (.ins C dx fs) := by
  refine ⟨(fun ps z => by cases z), fun q z => ?_⟩
  have z' : HO.ins C dx fs = HO.ext _ := z
  cases z'
omit [Me] in
/-- obj: the instance that is being made -/
inductive Slo where
  | dat (d : Dt) | own (l : List Dt) | obj (c : Str) (ks : List Str) (l : List Dt)
  /-- a list of lambdas, with their code objects, that bear the name q -/
  | fns (l : List (Addr × Addr)) (q : Str)
omit [Me] in
structure Sta where
  sl : List (Option Slo)
  bag : List Dt

omit [Me] in
def FnsAt (σ : L2.St) (G : Hp) (i : Nat) (l : List (Addr × Addr)) (q : Str) : Prop := ∃ L, σ[i]? = some (some (V.ref L)) ∧ G L = some (.lst (l.map fun p => V.ref p.1)) ∧ ∀ p ∈ l, G p.2 = some (LamX.CodeO p.2 q)
theorem FnsAt.mono {σ : L2.St} {G G' : Hp} {i : Nat} {l : List (Addr × Addr)} {q : Str} (h : FnsAt σ G i l q) (e : Ext G G') : FnsAt σ G' i l q :=
  let ⟨L, h1, h2, h3⟩ := h
  ⟨L, h1, e _ _ h2, fun p hp => e _ _ (h3 p hp)⟩
theorem FnsAt.of {σ σ' : L2.St} {G : Hp} {i : Nat} {l : List (Addr × Addr)} {q : Str} (h : FnsAt σ G i l q) (e : σ'[i]? = σ[i]?) : FnsAt σ' G i l q := by
  unfold FnsAt at h ⊢
  rw [e]
  exact h
omit [Me] in
def TabG (H G : Hp) (a : Addr) (q : Str) : Prop := ∃ ps : Array Value, H a = some (.tbl ps) ∧ TriplesOk ps.toList ∧ ∀ (pos : Pos) (cv : Value), codeAmong pos ps.toList = some cv → ∃ c, cv = .ref c ∧ G c = some (LamX.CodeO c q)
theorem TabG.of {H G H' G' : Hp} {a : Addr} {q : Str} (t : TabG H G a q) (h : H' a = H a) (e : Ext G G') : TabG H' G' a q := by
  obtain ⟨ps, h1, h2, h3⟩ := t
  refine ⟨ps, h.trans h1, h2, fun pos cv z => ?_⟩
  obtain ⟨c, e1, e2⟩ := h3 pos cv z
  exact ⟨c, e1, e _ _ e2⟩
theorem TabG.ne {H G : Hp} {a p : Addr} {q : Str} (t : TabG H G a q) (h : H p = none) : a ≠ p := by
  obtain ⟨ps, h1, _⟩ := t
  exact ne_of_none h1 h
theorem TabG.neL {H G : Hp} {a p : Addr} {q : Str} {vs : List V} (t : TabG H G a q) (h : H p = some (.lst vs)) : a ≠ p := fun z => by
  obtain ⟨ps, h1, _⟩ := t
  rw [z, h] at h1
  cases h1
theorem TabG.neI {H G : Hp} {a p : Addr} {q : Str} {C dx : Addr} {fs : List (Str × V)} (t : TabG H G a q) (h : H p = some (.ins C dx fs)) : a ≠ p := fun z => by
  obtain ⟨ps, h1, _⟩ := t
  rw [z, h] at h1
  cases h1
omit [Me] in
def ObjAt (K : PySem.W.Frag) (β : Addr) (P : Hp) (σ : L2.St) (H G : Hp) (i : Nat) (c : Str) (ks : List Str) (l : List Dt) : Prop :=
  ∃ (p C dx : Addr) (vs : List V), σ[i]? = some (some (.ref p)) ∧ (p = Me.me ∧ InsC K c C) ∧ H p = some (.ins C dx (ks.zip vs)) ∧ G p = none ∧ P p = none ∧ ks.length = l.length ∧ IsL K β G l vs
omit [Me] in
structure Rel (K : PySem.W.Frag) (β : Addr) (P : Hp) (σ : L2.St) (H G : Hp) (s : Sta) : Prop where
  len : σ.length = s.sl.length
  gh : Ext G H
  pr : ∀ p o, P p = some o → H p = some o ∧ G p = none
  pb : P β = none
  bag : ∃ vs, H β = some (.lst vs) ∧ G β = none ∧ IsL K β G s.bag vs
  dat : ∀ (i : Nat) (d : Dt), s.sl[i]? = some (some (.dat d)) → ∃ v, σ[i]? = some (some v) ∧ IsD K β G d v
  own : ∀ (i : Nat) (l : List Dt), s.sl[i]? = some (some (.own l)) → ∃ p vs, σ[i]? = some (some (.ref p)) ∧ H p = some (.lst vs) ∧ G p = none ∧ P p = none ∧ p ≠ β ∧ IsL K β G l vs
  dj : ∀ (i j : Nat) (l m : List Dt) (p : Addr), s.sl[i]? = some (some (.own l)) → s.sl[j]? = some (some (.own m)) → σ[i]? = some (some (.ref p)) → σ[j]? = some (some (.ref p)) → i = j
  obj : ∀ (i : Nat) (c : Str) (ks : List Str) (l : List Dt), s.sl[i]? = some (some (.obj c ks l)) → ObjAt K β P σ H G i c ks l
  oj : ∀ (i j : Nat) (c : Str) (ks : List Str) (l : List Dt) (c' : Str) (ks' : List Str) (l' : List Dt), s.sl[i]? = some (some (.obj c ks l)) → s.sl[j]? = some (some (.obj c' ks' l')) → i = j
  fns : ∀ (i : Nat) (l : List (Addr × Addr)) (q : Str), s.sl[i]? = some (some (.fns l q)) → FnsAt σ G i l q
  tabs : ∀ p ∈ Tabs.ts, TabG H G p.1 p.2 ∧ G p.1 = none ∧ P p.1 = none
  nt : ∀ (p : Addr) (ps : Array Value), G p ≠ some (.tbl ps)
  pt : ∀ p o, P p = some o → Nx p o

section
variable {K : PySem.W.Frag} {β : Addr} {P : Hp} {σ : L2.St} {H G : Hp} {s : Sta}
theorem Rel.free (R : Rel K β P σ H G s) {p : Addr} (h : H p = none) : G p = none := by
  cases e : G p with
  | none => rfl
  | some o => rw [R.gh p o e] at h; cases h
/-- a new object that never changes -/
theorem Rel.new (R : Rel K β P σ H G s) {p : Addr} {o : HO} (h : H p = none) (ho : ∀ ps, o ≠ .tbl ps := by intro _ z; cases z) : Rel K β P σ (upd H p o) (upd G p o) s where
  len := R.len
  gh := fun a u e => by
    by_cases q : a = p
    · subst q; rw [upd_same] at e ⊢; exact e
    · rw [upd_ne q] at e ⊢; exact R.gh a u e
  pr := fun a u e => by
    have h1 := R.pr a u e
    have q : a ≠ p := ne_of_none h1.1 h
    rw [upd_ne q, upd_ne q]; exact h1
  pb := R.pb
  bag := by
    obtain ⟨vs, h1, h2, h3⟩ := R.bag
    have q : β ≠ p := ne_of_none h1 h
    exact ⟨vs, by rw [upd_ne q]; exact h1, by rw [upd_ne q]; exact h2, IsL.mono (Ext.new (R.free h)) _ _ h3⟩
  dat := fun i d e => by
    obtain ⟨v, h1, h2⟩ := R.dat i d e
    exact ⟨v, h1, IsD.mono (Ext.new (R.free h)) _ _ h2⟩
  own := fun i l e => by
    obtain ⟨q, vs, h1, h2, h3, h4, h5, h6⟩ := R.own i l e
    have n : q ≠ p := ne_of_none h2 h
    exact ⟨q, vs, h1, by rw [upd_ne n]; exact h2, by rw [upd_ne n]; exact h3, h4, h5, IsL.mono (Ext.new (R.free h)) _ _ h6⟩
  dj := R.dj
  obj := fun i c ks l e => by
    obtain ⟨q, C, dx, vs, h1, h0, h2, h3, h4, h5, h6⟩ := R.obj i c ks l e
    have n : q ≠ p := ne_of_none h2 h
    exact ⟨q, C, dx, vs, h1, h0, by rw [upd_ne n]; exact h2, by rw [upd_ne n]; exact h3, h4, h5, IsL.mono (Ext.new (R.free h)) _ _ h6⟩
  oj := R.oj
  fns := fun i l q e => (R.fns i l q e).mono (Ext.new (R.free h))
  tabs := fun q hq => by
    obtain ⟨t, g, n⟩ := R.tabs q hq
    have z := t.ne h
    exact ⟨t.of (upd_ne z) (Ext.new (R.free h)), by rw [upd_ne z]; exact g, n⟩
  pt := R.pt
  nt := fun a ps e => by
    by_cases c : a = p
    · subst c; rw [upd_same] at e; exact ho ps (Option.some.inj e)
    · rw [upd_ne c] at e; exact R.nt a ps e
omit [Me] in
/-- the caller's part, for a callee -/
noncomputable def shut (β : Addr) (H G : Hp) : Hp := fun p => open Classical in if G p = none ∧ p ≠ β ∧ (∀ t ∈ Tabs.ts, t.1 ≠ p) ∧ (∀ o, H p = some o → Nx p o) then H p else none
theorem shut_some {β p : Addr} {H G : Hp} {o : HO} (h : H p = some o) (g : G p = none) (n : p ≠ β) (m : ∀ t ∈ Tabs.ts, t.1 ≠ p) (x : Nx p o) : shut β H G p = some o := by
  unfold shut; rw [if_pos ⟨g, n, m, fun o' h' => by rw [h] at h'; cases h'; exact x⟩]; exact h
theorem shut_nx {β p : Addr} {H G : Hp} {o : HO} (h : shut β H G p = some o) : Nx p o := by
  unfold shut at h
  split at h
  · rename_i q; exact q.2.2.2 o h
  · cases h
theorem shut_tab {β : Addr} {H G : Hp} {t : Addr × Str} (h : t ∈ Tabs.ts) : shut β H G t.1 = none := by
  unfold shut; rw [if_neg (fun q => q.2.2.1 t h rfl)]
theorem Rel.callee (R : Rel K β P σ H G s) : Rel K β (shut β H G) [] H G ⟨[], s.bag⟩ where
  len := rfl
  gh := R.gh
  pr := fun p o e => by
    unfold shut at e
    split at e
    · rename_i q; exact ⟨e, q.1⟩
    · cases e
  pb := by unfold shut; rw [if_neg (fun q => q.2.1 rfl)]
  bag := R.bag
  dat := fun i d e => by simp at e
  own := fun i d e => by simp at e
  dj := fun i j l m p e => by simp at e
  obj := fun i c ks l e => by simp at e
  oj := fun i j c ks l c' ks' l' e => by simp at e
  fns := fun i l q e => by simp at e
  tabs := fun q hq => ⟨(R.tabs q hq).1, (R.tabs q hq).2.1, shut_tab hq⟩
  pt := fun p o h => shut_nx h
  nt := R.nt
theorem Rel.back (R : Rel K β P σ H G s) {H' G' : Hp} {bg : List Dt} (e : Ext G G') (C : Rel K β (shut β H G) [] H' G' ⟨[], bg⟩) : Rel K β P σ H' G' { s with bag := bg } where
  len := R.len
  gh := C.gh
  pr := fun p o q => by
    have h1 := R.pr p o q
    have n : p ≠ β := fun z => by subst z; rw [R.pb] at q; cases q
    exact C.pr p o (shut_some h1.1 h1.2 n (fun t ht z => by rw [← z, (R.tabs t ht).2.2] at q; cases q) (R.pt p o q))
  pb := R.pb
  bag := C.bag
  dat := fun i d q => by
    obtain ⟨v, h1, h2⟩ := R.dat i d q
    exact ⟨v, h1, IsD.mono e _ _ h2⟩
  own := fun i l q => by
    obtain ⟨p, vs, h1, h2, h3, h4, h5, h6⟩ := R.own i l q
    have h7 := C.pr p _ (shut_some h2 h3 h5 (fun t ht z => (R.tabs t ht).1.neL h2 z) nx_lst)
    exact ⟨p, vs, h1, h7.1, h7.2, h4, h5, IsL.mono e _ _ h6⟩
  dj := R.dj
  obj := fun i c ks l q => by
    obtain ⟨p, Ca, dx, vs, h1, h0, h2, h3, h4, h5, h6⟩ := R.obj i c ks l q
    have n : p ≠ β := fun z => by
      obtain ⟨us, b1, _⟩ := R.bag
      rw [← z, h2] at b1
      cases b1
    have h7 := C.pr p _ (shut_some h2 h3 n (fun t ht z => (R.tabs t ht).1.neI h2 z) nx_ins)
    exact ⟨p, _, dx, vs, h1, h0, h7.1, h7.2, h4, h5, IsL.mono e _ _ h6⟩
  oj := R.oj
  fns := fun i l q h => (R.fns i l q h).mono e
  tabs := fun q hq => ⟨(C.tabs q hq).1, (C.tabs q hq).2.1, (R.tabs q hq).2.2⟩
  pt := R.pt
  nt := C.nt
/-- a slot is given data -/
theorem get_set {α : Type} {l : List α} {i j : Nat} {x : α} : (l.set i x)[j]? = if i = j ∧ i < l.length then some x else l[j]? := by
  rw [List.getElem?_set]
  by_cases h : i = j
  · subst h
    by_cases q : i < l.length
    · simp [q]
    · simp [q]
  · simp [h]
theorem Rel.set (R : Rel K β P σ H G s) {i : Nat} {d : Dt} {v : V} (h : IsD K β G d v) : Rel K β P (σ.set i (some v)) H G { s with sl := s.sl.set i (some (.dat d)) } where
  len := by simp [R.len]
  gh := R.gh
  pr := R.pr
  pb := R.pb
  bag := R.bag
  dat := fun j e q => by
    rw [get_set] at q ⊢
    rw [R.len]
    by_cases c : i = j ∧ i < s.sl.length
    · rw [if_pos c] at q ⊢
      cases q
      exact ⟨v, rfl, h⟩
    · rw [if_neg c] at q ⊢
      exact R.dat j e q
  own := fun j e q => by
    rw [get_set] at q ⊢
    rw [R.len]
    by_cases c : i = j ∧ i < s.sl.length
    · rw [if_pos c] at q
      cases q
    · rw [if_neg c] at q ⊢
      exact R.own j e q
  dj := fun j k l m p q1 q2 r1 r2 => by
    simp only [get_set] at q1 q2 r1 r2
    rw [R.len] at r1 r2
    by_cases c : i = j ∧ i < s.sl.length
    · rw [if_pos c] at q1; cases q1
    by_cases c' : i = k ∧ i < s.sl.length
    · rw [if_pos c'] at q2; cases q2
    rw [if_neg c] at q1 r1
    rw [if_neg c'] at q2 r2
    exact R.dj j k l m p q1 q2 r1 r2
  obj := fun j c ks l q => by
    rw [get_set] at q
    by_cases c : i = j ∧ i < s.sl.length
    · rw [if_pos c] at q
      cases q
    · rw [if_neg c] at q
      have z := R.obj j _ ks l q
      unfold ObjAt at z ⊢
      rw [get_set, R.len, if_neg c]
      exact z
  oj := fun j k c ks l c' ks' l' q1 q2 => by
    simp only [get_set] at q1 q2
    by_cases c : i = j ∧ i < s.sl.length
    · rw [if_pos c] at q1; cases q1
    by_cases c' : i = k ∧ i < s.sl.length
    · rw [if_pos c'] at q2; cases q2
    rw [if_neg c] at q1
    rw [if_neg c'] at q2
    exact R.oj j k _ _ _ _ _ _ q1 q2
  fns := fun j l q e => by
    rw [get_set] at e
    by_cases c : i = j ∧ i < s.sl.length
    · rw [if_pos c] at e; cases e
    · rw [if_neg c] at e
      exact (R.fns j l q e).of (by rw [get_set, R.len, if_neg c])
  tabs := R.tabs
  pt := R.pt
  nt := R.nt
end

/-! ### the judgements -/
omit [Me] in
abbrev DM (α : Type) := Sta → Option (α × Sta)
omit [Me] in
def TEok (K : PySem.W.Frag) (t : TE) (f : DM Dt) : Prop := ∀ (β : Addr) (P : Hp) (σ : L2.St) (H G : Hp) (s : Sta) (d : Dt) (s' : Sta), Rel K β P σ H G s → f s = some (d, s') →
  ∀ Q : VK, (∀ v H' G', Ext G G' → Rel K β P σ H' G' s' → IsD K β G' d v → Q v H') → t σ H Q
omit [Me] in
def TTok (K : PySem.W.Frag) (t : TT) (f : DM Bool) : Prop := ∀ (β : Addr) (P : Hp) (σ : L2.St) (H G : Hp) (s : Sta) (b : Bool) (s' : Sta), Rel K β P σ H G s → f s = some (b, s') →
  ∀ Q : Bool → Hp → Prop, (∀ H' G', Ext G G' → Rel K β P σ H' G' s' → Q b H') → t σ H Q
omit [Me] in
def TAok (K : PySem.W.Frag) (t : TA) (f : DM (List Dt)) : Prop := ∀ (β : Addr) (P : Hp) (σ : L2.St) (H G : Hp) (s : Sta) (ds : List Dt) (s' : Sta), Rel K β P σ H G s → f s = some (ds, s') →
  ∀ Q : List V → Hp → Prop, (∀ vs H' G', Ext G G' → Rel K β P σ H' G' s' → IsL K β G' ds vs → Q vs H') → t σ H Q
omit [Me] in
def TOok (K : PySem.W.Frag) (t : TO) (f : DM (Option Int)) : Prop := ∀ (β : Addr) (P : Hp) (σ : L2.St) (H G : Hp) (s : Sta) (o : Option Int) (s' : Sta), Rel K β P σ H G s → f s = some (o, s') →
  ∀ Q : Option Int → Hp → Prop, (∀ H' G', Ext G G' → Rel K β P σ H' G' s' → Q o H') → t σ H Q
omit [Me] in
def DE (X : Cx) (e : Expr) (f : DM Dt) : Prop := ∃ t, PE X e t ∧ TEok X.K t f
omit [Me] in
def DT (X : Cx) (e : Expr) (f : DM Bool) : Prop := ∃ t, PT X e t ∧ TTok X.K t f
omit [Me] in
def DW (X : Cx) (e : Expr) (f : DM Bool) : Prop := ∃ t, PW X e t ∧ TTok X.K t f
omit [Me] in
def DA (X : Cx) (es : List Expr) (f : DM (List Dt)) : Prop := ∃ t, PA X es t ∧ TAok X.K t f
omit [Me] in
def DO (X : Cx) (e : Option Expr) (f : DM (Option Int)) : Prop := ∃ t, PO X e t ∧ TOok X.K t f

/-! ### names and constants -/
omit [Me] in
def mC (d : Dt) : DM Dt := fun s => some (d, s)
omit [Me] in
def mVar (i : Nat) : DM Dt := fun s => match s.sl[i]? with
  | some (some (.dat d)) => some (d, s)
  | _ => none
section
variable {X : Cx}
theorem de_int {i j pos} : DE X (.Constant (.int i) j pos) (mC (.int i)) := ⟨_, pe_int, fun β P σ H G s d s' R h Q q => by cases h; exact q _ _ _ (Ext.refl G) R (is_int.mpr rfl)⟩
theorem de_str {i j pos} : DE X (.Constant (.str i) j pos) (mC (.str i)) := ⟨_, pe_str, fun β P σ H G s d s' R h Q q => by cases h; exact q _ _ _ (Ext.refl G) R (is_str.mpr rfl)⟩
theorem de_bl {i j pos} : DE X (.Constant (.bool i) j pos) (mC (.bl i)) := ⟨_, pe_bl, fun β P σ H G s d s' R h Q q => by cases h; exact q _ _ _ (Ext.refl G) R (is_bl.mpr rfl)⟩
theorem de_non {j pos} : DE X (.Constant .none j pos) (mC .non) := ⟨_, pe_non, fun β P σ H G s d s' R h Q q => by cases h; exact q _ _ _ (Ext.refl G) R (is_non.mpr rfl)⟩
theorem de_var {e : Expr} (i : Nat) (h : PE X e (tVar i)) : DE X e (mVar i) := ⟨_, h, fun β P σ H G s d s' R h Q q => by
  unfold mVar at h
  split at h
  · rename_i d' e
    cases h
    obtain ⟨v, h1, h2⟩ := R.dat i d e
    exact ⟨v, h1, q _ _ _ (Ext.refl G) R h2⟩
  · cases h⟩
/-- a name of the module that holds a plain thing -/
theorem de_cst {e : Expr} {v : V} {d : Dt} (h : PE X e (tC v)) (hd : ∀ β G, IsD X.K β G d v) : DE X e (mC d) := ⟨_, h, fun β P σ H G s d s' R h Q q => by
  cases h; exact q _ _ _ (Ext.refl G) R (hd _ _)⟩
end

/-! ### operators -/
omit [Me] in
def m2 (g : Dt → Dt → Option Dt) (f1 f2 : DM Dt) : DM Dt := fun s => (f1 s).bind fun p => (f2 p.2).bind fun q => (g p.1 q.1).bind fun d => some (d, q.2)
omit [Me] in
def R2ok (K : PySem.W.Frag) (r : R2) (g : Dt → Dt → Option Dt) : Prop := ∀ (β : Addr) (P : Hp) (σ : L2.St) (H G : Hp) (s : Sta) (x y : V) (dx dy d : Dt), Rel K β P σ H G s → IsD K β G dx x → IsD K β G dy y → g dx dy = some d →
  ∀ Q : VK, (∀ v H' G', Ext G G' → Rel K β P σ H' G' s → IsD K β G' d v → Q v H') → r x y H Q
theorem te_op {K : PySem.W.Frag} {r : R2} {g : Dt → Dt → Option Dt} {ta tb : TE} {fa fb : DM Dt} (hr : R2ok K r g) (ha : TEok K ta fa) (hb : TEok K tb fb) : TEok K (tOp r ta tb) (m2 g fa fb) := by
  intro β P σ H G s d s' R h Q q
  unfold m2 at h
  obtain ⟨⟨x, s1⟩, e1, h⟩ := Option.bind_eq_some_iff.mp h
  obtain ⟨⟨y, s2⟩, e2, h⟩ := Option.bind_eq_some_iff.mp h
  obtain ⟨z, e3, h⟩ := Option.bind_eq_some_iff.mp h
  cases h
  refine ha β P σ H G s x s1 R e1 _ fun v H1 G1 x1 R1 i1 => ?_
  refine hb β P σ H1 G1 s1 y s2 R1 e2 _ fun u H2 G2 x2 R2 i2 => ?_
  exact hr β P σ H2 G2 s2 v u x y d R2 (IsD.mono x2 _ _ i1) i2 e3 Q fun w H3 G3 x3 R3 i3 => q w H3 G3 ((x1.trans x2).trans x3) R3 i3
section
variable {X : Cx}
theorem de_op {op : Operator} {r : R2} {g : Dt → Dt → Option Dt} {a b : Expr} {fa fb : DM Dt} {pos : Pos} (ho : OpR X (binaryOp op) r) (hr : R2ok X.K r g) (ha : DE X a fa) (hb : DE X b fb) : DE X (.BinOp a op b pos) (m2 g fa fb) := by
  obtain ⟨ta, pa, oa⟩ := ha
  obtain ⟨tb, pb, ob⟩ := hb
  exact ⟨_, pe_op ho pa pb, te_op hr oa ob⟩
theorem de_cmp {op : CmpOp} {r : R2} {g : Dt → Dt → Option Dt} {a b : Expr} {fa fb : DM Dt} {pos : Pos} (ho : OpR X (compareOp op) r) (hr : R2ok X.K r g) (ha : DE X a fa) (hb : DE X b fb) (hm : behindInMarks op b = false) : DE X (.Compare a [op] [b] pos) (m2 g fa fb) := by
  obtain ⟨ta, pa, oa⟩ := ha
  obtain ⟨tb, pb, ob⟩ := hb
  exact ⟨_, pe_cmpR ho pa pb hm, te_op hr oa ob⟩
end
omit [Me] in
def mB (f : DM Dt) : DM Bool := fun s => (f s).bind fun p => match p.1 with
  | .bl b => some (b, p.2)
  | _ => none
theorem tt_of {K : PySem.W.Frag} {t : TE} {f : DM Dt} (h : TEok K t f) : TTok K (tTest t) (mB f) := by
  intro β P σ H G s b s' R e Q q
  unfold mB at e
  obtain ⟨⟨x, s1⟩, e1, e⟩ := Option.bind_eq_some_iff.mp e
  refine h β P σ H G s x s1 R e1 _ fun v H1 G1 x1 R1 i1 => ?_
  cases x with
  | bl k => cases e; exact ⟨b, is_bl.mp i1, q H1 G1 x1 R1⟩
  | _ => cases e
theorem tt_B {K : PySem.W.Frag} {t : TE} {f : DM Dt} (h : TEok K t f) : TTok K (tB t) (mB f) := by
  intro β P σ H G s b s' R e Q q
  unfold mB at e
  obtain ⟨⟨x, s1⟩, e1, e⟩ := Option.bind_eq_some_iff.mp e
  refine h β P σ H G s x s1 R e1 _ fun v H1 G1 x1 R1 i1 => ?_
  cases x with
  | bl k => cases e; exact ⟨b, is_bl.mp i1, q H1 G1 x1 R1⟩
  | _ => cases e
section
variable {X : Cx}
theorem dt_cmp {op : CmpOp} {r : R2} {g : Dt → Dt → Option Dt} {a b : Expr} {fa fb : DM Dt} {pos : Pos} (ho : OpR X (compareOp op) r) (hr : R2ok X.K r g) (ha : DE X a fa) (hb : DE X b fb) (hm : behindInMarks op b = false) : DT X (.Compare a [op] [b] pos) (mB (m2 g fa fb)) := by
  obtain ⟨ta, pa, oa⟩ := ha
  obtain ⟨tb, pb, ob⟩ := hb
  exact ⟨_, pt_cmpR ho pa pb hm, tt_of (te_op hr oa ob)⟩
/-- an expression that gives a truth value, as a test -/
theorem dt_val {e : Expr} {f : DM Dt} (h : DE X e f) (he : ∀ whole, isTrue e X.env whole = (do let v ← whole; standAt e.pos; holding [v] (truthy v)) := by intro _; rfl) : DT X e (mB f) := by
  obtain ⟨t, p, o⟩ := h
  exact ⟨_, pt_val p he, tt_B o⟩
omit [Me] in
/-- by truth -/
def truD : Dt → Option Bool
  | .non => some false
  | .bl b => some b
  | .int i => some (i != 0)
  | .str y => if y.length ≤ sizeLine then some ((y.length : Int) != 0) else none
  | .tup l => some !l.isEmpty
  | .lst l => some !l.isEmpty
  | .dic _ _ => none
  | .ins _ _ _ => none
  | .err _ _ _ => none
  | .bag => none
omit [Me] in
def mTru (f : DM Dt) : DM Bool := fun s => (f s).bind fun p => (truD p.1).bind fun b => some (b, p.2)
theorem len_empty {K : PySem.W.Frag} {β : Addr} {G : Hp} {l : List Dt} {vs : List V} (h : IsL K β G l vs) : (!l.isEmpty) = !vs.isEmpty := by
  cases l with
  | nil => rw [isl_nil.mp h]; rfl
  | cons d l => obtain ⟨v, r, rfl, _⟩ := isl_cons.mp h; rfl
theorem dt_tru {e : Expr} {f : DM Dt} (h : DE X e f) (he : ∀ whole, isTrue e X.env whole = (do let v ← whole; standAt e.pos; holding [v] (truthy v)) := by intro _; rfl) : DT X e (mTru f) := by
  obtain ⟨t, p, o⟩ := h
  refine ⟨_, pt_truth p he, fun β P σ H G s b s' R e Q q => ?_⟩
  unfold mTru at e
  obtain ⟨⟨x, s1⟩, e1, e⟩ := Option.bind_eq_some_iff.mp e
  obtain ⟨c, e2, e⟩ := Option.bind_eq_some_iff.mp e
  cases e
  refine o β P σ H G s x s1 R e1 _ fun v H1 G1 x1 R1 i1 => ⟨b, ?_, q H1 G1 x1 R1⟩
  cases x with
  | non => rw [is_non.mp i1]; cases e2; rfl
  | bl k => rw [is_bl.mp i1]; cases e2; rfl
  | int k => rw [is_int.mp i1]; cases e2; rfl
  | str y =>
    rw [is_str.mp i1]
    have e3 : (if y.length ≤ sizeLine then some ((y.length : Int) != 0) else none) = some b := e2
    by_cases hl : y.length ≤ sizeLine
    · rw [if_pos hl] at e3; cases e3; exact ⟨hl, rfl⟩
    · rw [if_neg hl] at e3; cases e3
  | tup l =>
    obtain ⟨a, vs, rfl, h1, h2⟩ := is_tup.mp i1
    cases e2
    exact .inr (.inl ⟨vs, ext_t R1.gh h1, len_empty h2⟩)
  | lst l =>
    obtain ⟨a, vs, rfl, h1, h2⟩ := is_lst.mp i1
    cases e2
    exact .inl ⟨vs, .inl (.inl (R1.gh _ _ h1)), len_empty h2⟩
  | dic ks l => cases e2
  | ins c ks l => cases e2
  | err c ks l => cases e2
  | bag => cases e2
/-! not, and, or, if else -/
omit [Me] in
def mNotB (f : DM Bool) : DM Bool := fun s => (f s).bind fun p => some (!p.1, p.2)
omit [Me] in
def mAndB (f g : DM Bool) : DM Bool := fun s => (f s).bind fun p => if p.1 = true then g p.2 else some (false, p.2)
omit [Me] in
def mOrB (f g : DM Bool) : DM Bool := fun s => (f s).bind fun p => if p.1 = true then some (true, p.2) else g p.2
omit [Me] in
def mIf (c : DM Bool) (f g : DM Dt) : DM Dt := fun s => (c s).bind fun p => if p.1 = true then f p.2 else g p.2
theorem dt_not {a : Expr} {f : DM Bool} {pos : Pos} (h : DT X a f) : DT X (.UnaryOp .Not a pos) (mNotB f) := by
  obtain ⟨t, p, o⟩ := h
  refine ⟨_, pt_not p, fun β P σ H G s b s' R e Q q => ?_⟩
  unfold mNotB at e
  obtain ⟨⟨x, s1⟩, e1, e⟩ := Option.bind_eq_some_iff.mp e
  cases e
  exact o β P σ H G s x s1 R e1 _ fun H1 G1 x1 R1 => q H1 G1 x1 R1
theorem dw_and {a b : Expr} {rest : List Expr} {f g : DM Bool} {pos : Pos} (ha : DT X a f) (hb : DW X (.BoolOp .And (b :: rest) pos) g) : DW X (.BoolOp .And (a :: b :: rest) pos) (mAndB f g) := by
  obtain ⟨t, p, o⟩ := ha
  obtain ⟨u, p2, o2⟩ := hb
  refine ⟨_, pw_and p p2, fun β P σ H G s b s' R e Q q => ?_⟩
  unfold mAndB at e
  obtain ⟨⟨x, s1⟩, e1, e⟩ := Option.bind_eq_some_iff.mp e
  refine o β P σ H G s x s1 R e1 _ fun H1 G1 x1 R1 => ?_
  cases x with
  | true =>
    rw [if_pos rfl] at e ⊢
    exact o2 β P σ H1 G1 s1 b s' R1 e Q fun H2 G2 x2 R2 => q H2 G2 (x1.trans x2) R2
  | false =>
    rw [if_neg Bool.false_ne_true] at e ⊢
    cases e
    exact q H1 G1 x1 R1
theorem dw_or {a b : Expr} {rest : List Expr} {f g : DM Bool} {pos : Pos} (ha : DT X a f) (hb : DW X (.BoolOp .Or (b :: rest) pos) g) : DW X (.BoolOp .Or (a :: b :: rest) pos) (mOrB f g) := by
  obtain ⟨t, p, o⟩ := ha
  obtain ⟨u, p2, o2⟩ := hb
  refine ⟨_, pw_or p p2, fun β P σ H G s b s' R e Q q => ?_⟩
  unfold mOrB at e
  obtain ⟨⟨x, s1⟩, e1, e⟩ := Option.bind_eq_some_iff.mp e
  refine o β P σ H G s x s1 R e1 _ fun H1 G1 x1 R1 => ?_
  cases x with
  | true =>
    rw [if_pos rfl] at e ⊢
    cases e
    exact q H1 G1 x1 R1
  | false =>
    rw [if_neg Bool.false_ne_true] at e ⊢
    exact o2 β P σ H1 G1 s1 b s' R1 e Q fun H2 G2 x2 R2 => q H2 G2 (x1.trans x2) R2
theorem dw_and1 {a : Expr} {f : DM Bool} {pos : Pos} (h : DT X a f) : DW X (.BoolOp .And [a] pos) f := by
  obtain ⟨t, p, o⟩ := h
  exact ⟨_, pw_and1 p, o⟩
theorem dw_or1 {a : Expr} {f : DM Bool} {pos : Pos} (h : DT X a f) : DW X (.BoolOp .Or [a] pos) f := by
  obtain ⟨t, p, o⟩ := h
  exact ⟨_, pw_or1 p, o⟩
theorem DW.dt {e : Expr} {f : DM Bool} (h : DW X e f) : DT X e f := by
  obtain ⟨t, p, o⟩ := h
  exact ⟨_, p.pt, o⟩
theorem de_ifx {c a b : Expr} {f : DM Bool} {g h : DM Dt} {pos : Pos} (hc : DT X c f) (ha : DE X a g) (hb : DE X b h) : DE X (.IfExp c a b pos) (mIf f g h) := by
  obtain ⟨t, p, o⟩ := hc
  obtain ⟨u, p2, o2⟩ := ha
  obtain ⟨w, p3, o3⟩ := hb
  refine ⟨_, pe_ifExp p p2 p3, fun β P σ H G s b s' R e Q q => ?_⟩
  unfold mIf at e
  obtain ⟨⟨x, s1⟩, e1, e⟩ := Option.bind_eq_some_iff.mp e
  refine o β P σ H G s x s1 R e1 _ fun H1 G1 x1 R1 => ?_
  cases x with
  | true =>
    rw [if_pos rfl] at e ⊢
    exact o2 β P σ H1 G1 s1 b s' R1 e Q fun v H2 G2 x2 R2 i => q v H2 G2 (x1.trans x2) R2 i
  | false =>
    rw [if_neg Bool.false_ne_true] at e ⊢
    exact o3 β P σ H1 G1 s1 b s' R1 e Q fun v H2 G2 x2 R2 i => q v H2 G2 (x1.trans x2) R2 i
/-! as values: all but the last give truth values -/
omit [Me] in
def mAndV (f g : DM Dt) : DM Dt := fun s => (f s).bind fun p => match p.1 with
  | .bl true => g p.2
  | .bl false => some (.bl false, p.2)
  | _ => none
omit [Me] in
def mOrV (f g : DM Dt) : DM Dt := fun s => (f s).bind fun p => match p.1 with
  | .bl false => g p.2
  | .bl true => some (.bl true, p.2)
  | _ => none
omit [Me] in
def mNotV (f : DM Dt) : DM Dt := fun s => (f s).bind fun p => match p.1 with
  | .bl b => some (.bl !b, p.2)
  | _ => none
theorem de_one {op} {a : Expr} {f : DM Dt} {pos : Pos} (h : DE X a f) : DE X (.BoolOp op [a] pos) f := by
  obtain ⟨t, p, o⟩ := h
  exact ⟨_, pe_one p, o⟩
theorem de_and {a b : Expr} {rest : List Expr} {f g : DM Dt} {pos : Pos} (ha : DE X a f) (hb : DE X (.BoolOp .And (b :: rest) pos) g) : DE X (.BoolOp .And (a :: b :: rest) pos) (mAndV f g) := by
  obtain ⟨t, p, o⟩ := ha
  obtain ⟨u, p2, o2⟩ := hb
  refine ⟨_, pe_and p p2, fun β P σ H G s b s' R e Q q => ?_⟩
  unfold mAndV at e
  obtain ⟨⟨x, s1⟩, e1, e⟩ := Option.bind_eq_some_iff.mp e
  refine o β P σ H G s x s1 R e1 _ fun v H1 G1 x1 R1 i1 => ?_
  split at e
  · rename_i k
    rw [show x = Dt.bl true from k] at i1
    rw [is_bl.mp i1]
    exact ⟨true, rfl, iteT (o2 β P σ H1 G1 s1 b s' R1 e Q fun v H2 G2 x2 R2 i => q v H2 G2 (x1.trans x2) R2 i)⟩
  · rename_i k
    rw [show x = Dt.bl false from k] at i1
    cases e
    rw [is_bl.mp i1]
    exact ⟨false, rfl, iteF (q _ H1 G1 x1 R1 (is_bl.mpr rfl))⟩
  · cases e
theorem de_or {a b : Expr} {rest : List Expr} {f g : DM Dt} {pos : Pos} (ha : DE X a f) (hb : DE X (.BoolOp .Or (b :: rest) pos) g) : DE X (.BoolOp .Or (a :: b :: rest) pos) (mOrV f g) := by
  obtain ⟨t, p, o⟩ := ha
  obtain ⟨u, p2, o2⟩ := hb
  refine ⟨_, pe_or p p2, fun β P σ H G s b s' R e Q q => ?_⟩
  unfold mOrV at e
  obtain ⟨⟨x, s1⟩, e1, e⟩ := Option.bind_eq_some_iff.mp e
  refine o β P σ H G s x s1 R e1 _ fun v H1 G1 x1 R1 i1 => ?_
  split at e
  · rename_i k
    rw [show x = Dt.bl false from k] at i1
    rw [is_bl.mp i1]
    exact ⟨false, rfl, iteF (o2 β P σ H1 G1 s1 b s' R1 e Q fun v H2 G2 x2 R2 i => q v H2 G2 (x1.trans x2) R2 i)⟩
  · rename_i k
    cases e
    rw [show x = Dt.bl true from k] at i1
    rw [is_bl.mp i1]
    exact ⟨true, rfl, iteT (q _ H1 G1 x1 R1 (is_bl.mpr rfl))⟩
  · cases e
theorem de_not {a : Expr} {f : DM Dt} {pos : Pos} (ha : DE X a f) : DE X (.UnaryOp .Not a pos) (mNotV f) := by
  obtain ⟨t, p, o⟩ := ha
  refine ⟨_, pe_not p, fun β P σ H G s b s' R e Q q => ?_⟩
  unfold mNotV at e
  obtain ⟨⟨x, s1⟩, e1, e⟩ := Option.bind_eq_some_iff.mp e
  refine o β P σ H G s x s1 R e1 _ fun v H1 G1 x1 R1 i1 => ?_
  split at e
  · rename_i k c
    rw [show x = Dt.bl k from c] at i1
    cases e
    rw [is_bl.mp i1]
    exact ⟨k, rfl, q _ H1 G1 x1 R1 (is_bl.mpr rfl)⟩
  · cases e
/-! ### lists, tuples, arguments -/
omit [Me] in
def mNil : DM (List Dt) := fun s => some ([], s)
omit [Me] in
def mCons (f : DM Dt) (g : DM (List Dt)) : DM (List Dt) := fun s => (f s).bind fun p => (g p.2).bind fun q => some (p.1 :: q.1, q.2)
omit [Me] in
def mTup (f : DM (List Dt)) : DM Dt := fun s => (f s).bind fun p => if p.1.length ≤ 1000 then some (.tup p.1, p.2) else none
omit [Me] in
def mLst (f : DM (List Dt)) : DM Dt := fun s => (f s).bind fun p => if p.1.length ≤ 1000 then some (.lst p.1, p.2) else none
theorem da_nil : DA X [] mNil := ⟨_, pa_nil, fun β P σ H G s b s' R e Q q => by cases e; exact q _ H G (Ext.refl G) R (isl_nil.mpr rfl)⟩
theorem da_cons {e : Expr} {es : List Expr} {f : DM Dt} {g : DM (List Dt)} (ha : DE X e f) (hb : DA X es g) (hs : starEach (e :: es) X.env = (false, eval e X.env) :: starEach es X.env := by rfl) : DA X (e :: es) (mCons f g) := by
  obtain ⟨t, p, o⟩ := ha
  obtain ⟨u, p2, o2⟩ := hb
  refine ⟨_, pa_cons p p2 hs, fun β P σ H G s b s' R e Q q => ?_⟩
  unfold mCons at e
  obtain ⟨⟨x, s1⟩, e1, e⟩ := Option.bind_eq_some_iff.mp e
  obtain ⟨⟨y, s2⟩, e2, e⟩ := Option.bind_eq_some_iff.mp e
  cases e
  refine o β P σ H G s x s1 R e1 _ fun v H1 G1 x1 R1 i1 => ?_
  refine o2 β P σ H1 G1 s1 y s2 R1 e2 _ fun vs H2 G2 x2 R2 i2 => ?_
  exact q _ H2 G2 (x1.trans x2) R2 (isl_cons.mpr ⟨v, vs, rfl, IsD.mono x2 _ _ i1, i2⟩)
theorem le_line {n : Nat} (h : n ≤ 1000) : n ≤ sizeLine := Nat.le_trans h (by decide)
theorem de_tup {es : List Expr} {f : DM (List Dt)} {x1 pos} (h : DA X es f) : DE X (.Tuple es x1 pos) (mTup f) := by
  obtain ⟨t, p, o⟩ := h
  refine ⟨_, pe_tup p, fun β P σ H G s b s' R e Q q => ?_⟩
  unfold mTup at e
  obtain ⟨⟨x, s1⟩, e1, e⟩ := Option.bind_eq_some_iff.mp e
  refine o β P σ H G s x s1 R e1 _ fun vs H1 G1 x1 R1 i1 => ?_
  by_cases hl : x.length ≤ 1000
  · simp only [if_pos hl] at e
    cases e
    refine ⟨le_line (by rw [i1.len]; exact hl), fun p hp => ?_⟩
    exact q _ _ _ (x1.trans (Ext.new (R1.free hp))) (R1.new hp) (is_tup.mpr ⟨p, vs, rfl, .inl (.inl upd_same), IsL.mono (Ext.new (R1.free hp)) _ _ i1⟩)
  · simp only [if_neg hl] at e
    cases e
theorem de_lst {es : List Expr} {f : DM (List Dt)} {pos} (h : DA X es f) : DE X (.List es pos) (mLst f) := by
  obtain ⟨t, p, o⟩ := h
  refine ⟨_, pe_lst p, fun β P σ H G s b s' R e Q q => ?_⟩
  unfold mLst at e
  obtain ⟨⟨x, s1⟩, e1, e⟩ := Option.bind_eq_some_iff.mp e
  refine o β P σ H G s x s1 R e1 _ fun vs H1 G1 x1 R1 i1 => ?_
  by_cases hl : x.length ≤ 1000
  · simp only [if_pos hl] at e
    cases e
    refine ⟨le_line (by rw [i1.len]; exact hl), fun p hp => ?_⟩
    exact q _ _ _ (x1.trans (Ext.new (R1.free hp))) (R1.new hp) (is_lst.mpr ⟨p, vs, rfl, upd_same, IsL.mono (Ext.new (R1.free hp)) _ _ i1⟩)
  · simp only [if_neg hl] at e
    cases e
end
end DL

namespace DL
open PySem PySem.Spec PyProof.Rows L2
variable [Tabs] [Me]

section
variable {K : PySem.W.Frag}
/-! ### integers -/
omit [Me] in
def i2 (C : Int → Int → Bool) (g : Int → Int → Dt) : Dt → Dt → Option Dt
  | .int i, .int j => if C i j = true then some (g i j) else none
  | _, _ => none
theorem i2_some {C : Int → Int → Bool} {g : Int → Int → Dt} {x y d : Dt} (h : i2 C g x y = some d) : ∃ i j, x = .int i ∧ y = .int j ∧ C i j = true ∧ d = g i j := by
  unfold i2 at h
  split at h
  · rename_i i j
    split at h
    · rename_i c; cases h; exact ⟨i, j, rfl, rfl, c, rfl⟩
    · cases h
  · cases h
omit [Me] in
def cTrue (_ _ : Int) : Bool := true
theorem r2_int0 {g : Int → Int → Int} : R2ok K (rI0 fun i j => .int (g i j)) (i2 cTrue fun i j => .int (g i j)) := by
  intro β P σ H G s x y dx dy d R ix iy h Q q
  obtain ⟨i, j, rfl, rfl, _, rfl⟩ := i2_some h
  exact ⟨i, j, is_int.mp ix, is_int.mp iy, q _ H G (Ext.refl G) R (is_int.mpr rfl)⟩
theorem r2_intB {g : Int → Int → Bool} : R2ok K (rI0 fun i j => .bl (g i j)) (i2 cTrue fun i j => .bl (g i j)) := by
  intro β P σ H G s x y dx dy d R ix iy h Q q
  obtain ⟨i, j, rfl, rfl, _, rfl⟩ := i2_some h
  exact ⟨i, j, is_int.mp ix, is_int.mp iy, q _ H G (Ext.refl G) R (is_bl.mpr rfl)⟩
theorem r2_int {C : Int → Int → Prop} {B : Int → Int → Bool} {g : Int → Int → Int} (hB : ∀ i j, B i j = true → C i j) : R2ok K (rI C fun i j => .int (g i j)) (i2 B fun i j => .int (g i j)) := by
  intro β P σ H G s x y dx dy d R ix iy h Q q
  obtain ⟨i, j, rfl, rfl, c, rfl⟩ := i2_some h
  exact ⟨i, j, is_int.mp ix, is_int.mp iy, hB i j c, q _ H G (Ext.refl G) R (is_int.mpr rfl)⟩
omit [Me] in
def bMul (i j : Int) : Bool := (decide (-18446744073709551616 < j) && decide (j < 18446744073709551616)) || (decide (-18446744073709551616 < i) && decide (i < 18446744073709551616))
theorem bMul_ok (i j : Int) (h : bMul i j = true) : CMul i j := by
  unfold bMul at h
  rw [Bool.or_eq_true] at h
  rcases h with h | h
  · rw [Bool.and_eq_true] at h; exact .inr ⟨of_decide_eq_true h.1, of_decide_eq_true h.2⟩
  · rw [Bool.and_eq_true] at h; exact .inl ⟨of_decide_eq_true h.1, of_decide_eq_true h.2⟩
omit [Me] in
def bDiv (_ j : Int) : Bool := decide (0 < j) && decide (j < 1073741824)
theorem bDiv_ok (i j : Int) (h : bDiv i j = true) : CDivN i j := by
  unfold bDiv at h
  rw [Bool.and_eq_true] at h
  have h1 := of_decide_eq_true h.1
  have h2 := of_decide_eq_true h.2
  exact ⟨by omega, by omega⟩
omit [Me] in
def bMod (_ j : Int) : Bool := decide (0 < j)
theorem bMod_ok (i j : Int) (h : bMod i j = true) : 0 < j := of_decide_eq_true h
omit [Me] in
def bPow (i j : Int) : Bool := decide (0 ≤ j) && decide (j ≤ 1000000) && decide (i.natAbs < 2 ^ 64)
theorem bPow_ok (i j : Int) (h : bPow i j = true) : CPow i j := by
  unfold bPow at h
  rw [Bool.and_eq_true, Bool.and_eq_true] at h
  exact ⟨of_decide_eq_true h.1.1, of_decide_eq_true h.1.2, of_decide_eq_true h.2⟩
omit [Me] in
def gSub0 : Dt → Dt → Option Dt := i2 cTrue fun i j => .int (i - j)
omit [Me] in
def gMul : Dt → Dt → Option Dt := i2 bMul fun i j => .int (i * j)
omit [Me] in
def gDiv : Dt → Dt → Option Dt := i2 bDiv fun i j => .int (i.fdiv j)
omit [Me] in
def gMod : Dt → Dt → Option Dt := i2 bMod fun i j => .int (i % j)
omit [Me] in
def gPow : Dt → Dt → Option Dt := i2 bPow fun i j => .int (i ^ j.toNat)
omit [Me] in
def gLt : Dt → Dt → Option Dt := i2 cTrue fun i j => .bl (decide (i < j))
omit [Me] in
def gLe : Dt → Dt → Option Dt := i2 cTrue fun i j => .bl (decide (i ≤ j))
omit [Me] in
def gGt : Dt → Dt → Option Dt := i2 cTrue fun i j => .bl (decide (j < i))
omit [Me] in
def gGe : Dt → Dt → Option Dt := i2 cTrue fun i j => .bl (decide (j ≤ i))
theorem R2ok.or {r r' : R2} {g g' : Dt → Dt → Option Dt} (h : R2ok K r g) (h' : R2ok K r' g') : R2ok K (fun x y H Q => r x y H Q ∨ r' x y H Q) (fun x y => match g x y with | some d => some d | none => g' x y) := by
  intro β P σ H G s x y dx dy d R ix iy e Q q
  dsimp only at e
  split at e
  · rename_i d' k
    cases e
    exact .inl (h β P σ H G s x y dx dy d R ix iy k Q q)
  · exact .inr (h' β P σ H G s x y dx dy d R ix iy e Q q)
theorem R2ok.imp {r : R2} {g g' : Dt → Dt → Option Dt} (h : R2ok K r g) (hg : ∀ x y d, g' x y = some d → g x y = some d) : R2ok K r g' :=
  fun β P σ H G s x y dx dy d R ix iy e => h β P σ H G s x y dx dy d R ix iy (hg _ _ _ e)
/-! ### texts, lists, tuples -/
omit [Me] in
def gAddS : Dt → Dt → Option Dt
  | .str a, .str b => if a.length + b.length ≤ sizeLine then some (.str (a ++ b)) else none
  | _, _ => none
theorem r2_addS : R2ok K (fun x y H Q => ∃ i j, x = .str i ∧ y = .str j ∧ i.length + j.length ≤ sizeLine ∧ Q (.str (i ++ j)) H) gAddS := by
  intro β P σ H G s x y dx dy d R ix iy h Q q
  unfold gAddS at h
  split at h
  · rename_i a b
    split at h
    · rename_i c; cases h; exact ⟨a, b, is_str.mp ix, is_str.mp iy, c, q _ H G (Ext.refl G) R (is_str.mpr rfl)⟩
    · cases h
  · cases h
omit [Me] in
def gAddL : Dt → Dt → Option Dt
  | .lst a, .lst b => if a.length + b.length ≤ sizeLine then some (.lst (a ++ b)) else none
  | _, _ => none
theorem r2_addL : R2ok K rCat gAddL := by
  intro β P σ H G s x y dx dy d R ix iy h Q q
  unfold gAddL at h
  split at h
  · rename_i a b
    split at h
    · rename_i c
      cases h
      obtain ⟨p, vs, rfl, h1, h2⟩ := is_lst.mp ix
      obtain ⟨p', us, rfl, h3, h4⟩ := is_lst.mp iy
      refine ⟨p, p', vs, us, rfl, rfl, R.gh _ _ h1, R.gh _ _ h3, by rw [h2.len, h4.len]; exact c, fun l hl => ?_⟩
      exact q _ _ _ (Ext.new (R.free hl)) (R.new hl) (is_lst.mpr ⟨l, _, rfl, upd_same, IsL.mono (Ext.new (R.free hl)) _ _ (h2.append h4)⟩)
    · cases h
  · cases h
omit [Me] in
def gAddT : Dt → Dt → Option Dt
  | .tup a, .tup b => if a.length + b.length ≤ sizeLine then some (.tup (a ++ b)) else none
  | _, _ => none
theorem r2_addT : R2ok K (rCatA K) gAddT := by
  intro β P σ H G s x y dx dy d R ix iy h Q q
  unfold gAddT at h
  split at h
  · rename_i a b
    split at h
    · rename_i c
      cases h
      obtain ⟨p, vs, rfl, h1, h2⟩ := is_tup.mp ix
      obtain ⟨p', us, rfl, h3, h4⟩ := is_tup.mp iy
      refine ⟨p, p', vs, us, rfl, rfl, ext_t R.gh h1, ext_t R.gh h3, by rw [h2.len, h4.len]; exact c, fun e => ?_, fun e e' => ?_, fun e e' l hl => ?_⟩
      · refine q _ H G (Ext.refl G) R ?_
        have z : a = [] := by
          have := h2.len; rw [e] at this; exact List.eq_nil_of_length_eq_zero this.symm
        rw [z]; exact iy
      · refine q _ H G (Ext.refl G) R ?_
        have z : b = [] := by
          have := h4.len; rw [e'] at this; exact List.eq_nil_of_length_eq_zero this.symm
        rw [z, List.append_nil]; exact ix
      · exact q _ _ _ (Ext.new (R.free hl)) (R.new hl) (is_tup.mpr ⟨l, _, rfl, .inl (.inl upd_same), IsL.mono (Ext.new (R.free hl)) _ _ (h2.append h4)⟩)
    · cases h
  · cases h
omit [Me] in
/-- + of ints, texts, lists, tuples -/
def gAdd : Dt → Dt → Option Dt
  | .int i, .int j => some (.int (i + j))
  | .str a, .str b => if a.length + b.length ≤ sizeLine then some (.str (a ++ b)) else none
  | .lst a, .lst b => if a.length + b.length ≤ sizeLine then some (.lst (a ++ b)) else none
  | .tup a, .tup b => if a.length + b.length ≤ sizeLine then some (.tup (a ++ b)) else none
  | _, _ => none
section
variable {X : Cx}
theorem de_add {a b : Expr} {fa fb : DM Dt} {pos : Pos} (ha : DE X a fa) (hb : DE X b fb) : DE X (.BinOp a .Add b pos) (m2 gAdd fa fb) := by
  refine de_op (op_add.or (op_add_str.or (op_cat.or op_catA))) ((r2_int0.or (r2_addS.or (r2_addL.or r2_addT))).imp fun x y d h => ?_) ha hb
  unfold gAdd at h
  split at h
  · exact h
  · exact (show (match gAddS _ _ with | some d => some d | none => _) = _ by simp only [gAddS]; split at h <;> simp_all)
  · simp only [i2, gAddS, gAddL]; split at h <;> simp_all
  · simp only [i2, gAddS, gAddL, gAddT]; split at h <;> simp_all
  · cases h
theorem de_sub {a b : Expr} {fa fb : DM Dt} {pos : Pos} (ha : DE X a fa) (hb : DE X b fb) : DE X (.BinOp a .Sub b pos) (m2 gSub0 fa fb) := de_op op_sub r2_int0 ha hb
theorem de_mul {a b : Expr} {fa fb : DM Dt} {pos : Pos} (ha : DE X a fa) (hb : DE X b fb) : DE X (.BinOp a .Mult b pos) (m2 gMul fa fb) := de_op op_mul (r2_int bMul_ok) ha hb
theorem de_fdiv {a b : Expr} {fa fb : DM Dt} {pos : Pos} (ha : DE X a fa) (hb : DE X b fb) : DE X (.BinOp a .FloorDiv b pos) (m2 gDiv fa fb) := de_op op_fdivN (r2_int bDiv_ok) ha hb
theorem de_mod {a b : Expr} {fa fb : DM Dt} {pos : Pos} (ha : DE X a fa) (hb : DE X b fb) : DE X (.BinOp a .Mod b pos) (m2 gMod fa fb) := de_op op_mod (r2_int bMod_ok) ha hb
theorem de_pow {a b : Expr} {fa fb : DM Dt} {pos : Pos} (ha : DE X a fa) (hb : DE X b fb) : DE X (.BinOp a .Pow b pos) (m2 gPow fa fb) := de_op op_pow (r2_int bPow_ok) ha hb
end
/-! ### the comparisons -/
omit [Me] in
def strLt (a b : Str) : Bool := decide (a.cps.toList < b.cps.toList)
omit [Me] in
def s2 (g : Str → Str → Bool) : Dt → Dt → Option Dt
  | .str a, .str b => some (.bl (g a b))
  | _, _ => none
theorem r2_s2 {g : Str → Str → Bool} : R2ok K (fun x y H Q => ∃ i j, x = .str i ∧ y = .str j ∧ Q (.bl (g i j)) H) (s2 g) := by
  intro β P σ H G s x y dx dy d R ix iy h Q q
  unfold s2 at h
  split at h
  · rename_i a b; cases h; exact ⟨a, b, is_str.mp ix, is_str.mp iy, q _ H G (Ext.refl G) R (is_bl.mpr rfl)⟩
  · cases h
omit [Me] in
def oLt : Dt → Dt → Option Dt
  | .int i, .int j => some (.bl (decide (i < j)))
  | .str a, .str b => some (.bl (strLt a b))
  | _, _ => none
omit [Me] in
def oLe : Dt → Dt → Option Dt
  | .int i, .int j => some (.bl (decide (i ≤ j)))
  | .str a, .str b => some (.bl !(strLt b a))
  | _, _ => none
omit [Me] in
def oGt : Dt → Dt → Option Dt
  | .int i, .int j => some (.bl (decide (j < i)))
  | .str a, .str b => some (.bl (strLt b a))
  | _, _ => none
omit [Me] in
def oGe : Dt → Dt → Option Dt
  | .int i, .int j => some (.bl (decide (j ≤ i)))
  | .str a, .str b => some (.bl !(strLt a b))
  | _, _ => none
theorem r2_lt : R2ok K (fun x y H Q => rI0 (fun i j => .bl (decide (i < j))) x y H Q ∨ ∃ i j, x = .str i ∧ y = .str j ∧ Q (.bl (decide (i.cps.toList < j.cps.toList))) H) oLt :=
  (r2_intB.or (r2_s2 (g := strLt))).imp fun x y d h => by unfold oLt at h; split at h <;> first | exact h | cases h
theorem r2_le : R2ok K (fun x y H Q => rI0 (fun i j => .bl (decide (i ≤ j))) x y H Q ∨ ∃ i j, x = .str i ∧ y = .str j ∧ Q (.bl (!decide (j.cps.toList < i.cps.toList))) H) oLe :=
  (r2_intB.or (r2_s2 (g := fun a b => !strLt b a))).imp fun x y d h => by unfold oLe at h; split at h <;> first | exact h | cases h
theorem r2_gt : R2ok K (fun x y H Q => rI0 (fun i j => .bl (decide (j < i))) x y H Q ∨ ∃ i j, x = .str i ∧ y = .str j ∧ Q (.bl (decide (j.cps.toList < i.cps.toList))) H) oGt :=
  (r2_intB.or (r2_s2 (g := fun a b => strLt b a))).imp fun x y d h => by unfold oGt at h; split at h <;> first | exact h | cases h
theorem r2_ge : R2ok K (fun x y H Q => rI0 (fun i j => .bl (decide (j ≤ i))) x y H Q ∨ ∃ i j, x = .str i ∧ y = .str j ∧ Q (.bl (!decide (i.cps.toList < j.cps.toList))) H) oGe :=
  (r2_intB.or (r2_s2 (g := fun a b => !strLt a b))).imp fun x y d h => by unfold oGe at h; split at h <;> first | exact h | cases h
/-! == of data -/
omit [Me] in
mutual
def toPy : Dt → PyData
  | .non => .none
  | .bl b => .bool b
  | .int i => .int i
  | .str x => .str x
  | .tup l => .tuple (toPys l)
  | .lst l => .list (toPys l)
  | .bag => .none
  | .dic _ _ => .none
  | .ins _ _ _ => .none
  | .err _ _ _ => .none
def toPys : List Dt → List PyData
  | [] => []
  | d :: l => toPy d :: toPys l
end
omit [Me] in
mutual
def plain : Dt → Bool
  | .bag => false
  | .dic _ _ => false
  | .ins _ _ _ => false
  | .err _ _ _ => false
  | .tup l => plains l
  | .lst l => plains l
  | _ => true
def plains : List Dt → Bool
  | [] => true
  | d :: l => plain d && plains l
end
mutual
theorem dp_of {β : Addr} {G H : Hp} (e : Ext G H) : ∀ (d : Dt) (v : V), plain d = true → IsD K β G d v → Dp K H v (toPy d)
  | .non, v, _, h => by rw [is_non.mp h]; exact .non
  | .bl b, v, _, h => by rw [is_bl.mp h]; exact .bl b
  | .int b, v, _, h => by rw [is_int.mp h]; exact .int b
  | .str b, v, _, h => by rw [is_str.mp h]; exact .str b
  | .bag, _, p, _ => by cases p
  | .dic _ _, _, p, _ => by cases p
  | .ins _ _ _, _, p, _ => by cases p
  | .err _ _ _, _, p, _ => by cases p
  | .tup l, v, p, h => by
    obtain ⟨a, vs, rfl, h1, h2⟩ := is_tup.mp h
    unfold toPy
    exact .tup (ext_t e h1) (dps_of e l vs (by unfold plain at p; exact p) h2)
  | .lst l, v, p, h => by
    obtain ⟨a, vs, rfl, h1, h2⟩ := is_lst.mp h
    unfold toPy
    exact .lst (.inl (.inl (e _ _ h1))) (dps_of e l vs (by unfold plain at p; exact p) h2)
theorem dps_of {β : Addr} {G H : Hp} (e : Ext G H) : ∀ (l : List Dt) (vs : List V), plains l = true → IsL K β G l vs → DpAll K H vs (toPys l)
  | [], vs, _, h => by rw [isl_nil.mp h]; unfold toPys; exact .nil
  | d :: l, vs, p, h => by
    obtain ⟨v, r, rfl, h1, h2⟩ := isl_cons.mp h
    unfold plains at p
    rw [Bool.and_eq_true] at p
    unfold toPys
    exact .cons (dp_of e d v p.1 h1) (dps_of e l r p.2 h2)
end
omit [Me] in
def eqOk (d : Dt) : Bool := plain d && SeqAt.shaped (toPy d)
omit [Me] in
def eqD (d e : Dt) : Bool := PyData.eqv (toPy d) (toPy e)
omit [Me] in
def gEq (d e : Dt) : Option Dt := if (eqOk d && eqOk e) = true then some (.bl (eqD d e)) else none
omit [Me] in
def gNe (d e : Dt) : Option Dt := if (eqOk d && eqOk e) = true then some (.bl !(eqD d e)) else none
theorem r2_eq : R2ok K (rEqD K) gEq := by
  intro β P σ H G s x y dx dy d R ix iy h Q q
  unfold gEq at h
  split at h
  · rename_i c
    cases h
    unfold eqOk at c
    simp only [Bool.and_eq_true] at c
    exact ⟨_, _, dp_of R.gh _ _ c.1.1 ix, dp_of R.gh _ _ c.2.1 iy, c.1.2, c.2.2, q _ H G (Ext.refl G) R (is_bl.mpr rfl)⟩
  · cases h
theorem r2_ne : R2ok K (rNeD K) gNe := by
  intro β P σ H G s x y dx dy d R ix iy h Q q
  unfold gNe at h
  split at h
  · rename_i c
    cases h
    unfold eqOk at c
    simp only [Bool.and_eq_true] at c
    exact ⟨_, _, dp_of R.gh _ _ c.1.1 ix, dp_of R.gh _ _ c.2.1 iy, c.1.2, c.2.2, q _ H G (Ext.refl G) R (is_bl.mpr rfl)⟩
  · cases h
/-! is None -/
omit [Me] in
def isNon : Dt → Bool
  | .non => true
  | _ => false
theorem non_iff {β : Addr} {G : Hp} {d : Dt} {v : V} (h : IsD K β G d v) : decide (v = .non) = isNon d := by
  cases d with
  | non => rw [is_non.mp h]; rfl
  | bl b => rw [is_bl.mp h]; rfl
  | int b => rw [is_int.mp h]; rfl
  | str b => rw [is_str.mp h]; rfl
  | bag => rw [is_bag.mp h]; rfl
  | tup l => obtain ⟨a, vs, rfl, _⟩ := is_tup.mp h; rfl
  | lst l => obtain ⟨a, vs, rfl, _⟩ := is_lst.mp h; rfl
  | dic ks l => obtain ⟨a, vs, rfl, _⟩ := is_dic.mp h; rfl
  | ins c ks l => obtain ⟨a, C, dx, vs, rfl, _⟩ := is_ins.mp h; rfl
  | err c ks l => obtain ⟨a, C, dx, vs, rfl, _⟩ := is_err.mp h; rfl
omit [Me] in
def gIsN (x y : Dt) : Option Dt := if isNon y = true then some (.bl (isNon x)) else none
omit [Me] in
def gNotN (x y : Dt) : Option Dt := if isNon y = true then some (.bl !(isNon x)) else none
theorem r2_isN : R2ok K (fun x y H Q => y = .non ∧ Q (.bl (decide (x = .non))) H) gIsN := by
  intro β P σ H G s x y dx dy d R ix iy h Q q
  unfold gIsN at h
  split at h
  · rename_i c
    cases h
    have e := non_iff iy
    rw [c] at e
    exact ⟨of_decide_eq_true e, by rw [non_iff ix]; exact q _ H G (Ext.refl G) R (is_bl.mpr rfl)⟩
  · cases h
theorem r2_notN : R2ok K (fun x y H Q => y = .non ∧ Q (.bl (!decide (x = .non))) H) gNotN := by
  intro β P σ H G s x y dx dy d R ix iy h Q q
  unfold gNotN at h
  split at h
  · rename_i c
    cases h
    have e := non_iff iy
    rw [c] at e
    exact ⟨of_decide_eq_true e, by rw [non_iff ix]; exact q _ H G (Ext.refl G) R (is_bl.mpr rfl)⟩
  · cases h
/-! in -/
omit [Me] in
def flatD : Dt → Bool
  | .non => true
  | .bl _ => true
  | .int _ => true
  | .str _ => true
  | _ => false
omit [Me] in
def sameD : Dt → Dt → Bool
  | .non, .non => true
  | .bl a, .bl b => a == b
  | .bl a, .int b => (if a then 1 else 0) == b
  | .int a, .bl b => a == (if b then 1 else 0)
  | .int a, .int b => a == b
  | .str a, .str b => a == b
  | _, _ => false
theorem flat_ok {β : Addr} {G : Hp} {d : Dt} {v : V} (h : IsD K β G d v) (f : flatD d = true) : flatV v = true := by
  cases d with
  | non => rw [is_non.mp h]; rfl
  | bl b => rw [is_bl.mp h]; rfl
  | int b => rw [is_int.mp h]; rfl
  | str b => rw [is_str.mp h]; rfl
  | _ => cases f
theorem same_ok {β : Addr} {G : Hp} {d e : Dt} {v u : V} (h : IsD K β G d v) (f : flatD d = true) (h' : IsD K β G e u) (f' : flatD e = true) : eqV v u = sameD d e := by
  cases d with
  | non => rw [is_non.mp h]; cases e with
    | non => rw [is_non.mp h']; rfl
    | bl b => rw [is_bl.mp h']; rfl
    | int b => rw [is_int.mp h']; rfl
    | str b => rw [is_str.mp h']; rfl
    | _ => cases f'
  | bl b => rw [is_bl.mp h]; cases e with
    | non => rw [is_non.mp h']; rfl
    | bl b => rw [is_bl.mp h']; rfl
    | int b => rw [is_int.mp h']; rfl
    | str b => rw [is_str.mp h']; rfl
    | _ => cases f'
  | int b => rw [is_int.mp h]; cases e with
    | non => rw [is_non.mp h']; rfl
    | bl b => rw [is_bl.mp h']; rfl
    | int b => rw [is_int.mp h']; rfl
    | str b => rw [is_str.mp h']; rfl
    | _ => cases f'
  | str b => rw [is_str.mp h]; cases e with
    | non => rw [is_non.mp h']; rfl
    | bl b => rw [is_bl.mp h']; rfl
    | int b => rw [is_int.mp h']; rfl
    | str b => rw [is_str.mp h']; rfl
    | _ => cases f'
  | _ => cases f
theorem flats_ok {β : Addr} {G : Hp} : ∀ {l : List Dt} {vs : List V}, IsL K β G l vs → l.all flatD = true → vs.all flatV = true
  | [], vs, h, _ => by rw [isl_nil.mp h]; rfl
  | d :: l, vs, h, f => by
    obtain ⟨v, r, rfl, h1, h2⟩ := isl_cons.mp h
    simp only [List.all_cons, Bool.and_eq_true] at f ⊢
    exact ⟨flat_ok h1 f.1, flats_ok h2 f.2⟩
theorem ins_ok {β : Addr} {G : Hp} {e : Dt} {u : V} (hu : IsD K β G e u) (f' : flatD e = true) : ∀ {l : List Dt} {vs : List V}, IsL K β G l vs → l.all flatD = true → inV u vs = l.any fun d => sameD d e
  | [], vs, h, _ => by rw [isl_nil.mp h]; rfl
  | d :: l, vs, h, f => by
    obtain ⟨v, r, rfl, h1, h2⟩ := isl_cons.mp h
    simp only [List.all_cons, Bool.and_eq_true] at f
    show (eqV v u || inV u r) = _
    rw [same_ok h1 f.1 hu f', ins_ok hu f' h2 f.2]
    rfl
omit [Me] in
def inS (a b : Str) : Bool := !(Builtin.Str.occurrences b a 0 b.length 1).isEmpty
omit [Me] in
def gIn : Dt → Dt → Option Dt
  | .str a, .str b => some (.bl (inS a b))
  | x, .tup l => if (flatD x && l.all flatD) = true then some (.bl (l.any fun d => sameD d x)) else none
  | x, .lst l => if (flatD x && l.all flatD) = true then some (.bl (l.any fun d => sameD d x)) else none
  | _, _ => none
omit [Me] in
def gNin : Dt → Dt → Option Dt
  | .str a, .str b => some (.bl !(inS a b))
  | x, .tup l => if (flatD x && l.all flatD) = true then some (.bl !(l.any fun d => sameD d x)) else none
  | x, .lst l => if (flatD x && l.all flatD) = true then some (.bl !(l.any fun d => sameD d x)) else none
  | _, _ => none
theorem r2_in : R2ok K (fun x y H Q => (∃ i j, x = .str i ∧ y = .str j ∧ Q (.bl (!(Builtin.Str.occurrences j i 0 j.length 1).isEmpty)) H) ∨ rIn K false x y H Q) gIn := by
  intro β P σ H G s x y dx dy d R ix iy h Q q
  unfold gIn at h
  split at h
  · rename_i a b
    cases h
    exact .inl ⟨a, b, is_str.mp ix, is_str.mp iy, q _ H G (Ext.refl G) R (is_bl.mpr rfl)⟩
  · rename_i l
    split at h
    · rename_i c
      cases h
      rw [Bool.and_eq_true] at c
      obtain ⟨a, vs, rfl, h1, h2⟩ := is_tup.mp iy
      exact .inr ⟨a, vs, rfl, .inr (ext_t R.gh h1), flat_ok ix c.1, flats_ok h2 c.2, q _ H G (Ext.refl G) R (is_bl.mpr (by rw [ins_ok ix c.1 h2 c.2]; rfl))⟩
    · cases h
  · rename_i l
    split at h
    · rename_i c
      cases h
      rw [Bool.and_eq_true] at c
      obtain ⟨a, vs, rfl, h1, h2⟩ := is_lst.mp iy
      exact .inr ⟨a, vs, rfl, .inl (.inl (.inl (R.gh _ _ h1))), flat_ok ix c.1, flats_ok h2 c.2, q _ H G (Ext.refl G) R (is_bl.mpr (by rw [ins_ok ix c.1 h2 c.2]; rfl))⟩
    · cases h
  · cases h
theorem r2_nin : R2ok K (fun x y H Q => (∃ i j, x = .str i ∧ y = .str j ∧ Q (.bl (!(!(Builtin.Str.occurrences j i 0 j.length 1).isEmpty))) H) ∨ rIn K true x y H Q) gNin := by
  intro β P σ H G s x y dx dy d R ix iy h Q q
  unfold gNin at h
  split at h
  · rename_i a b
    cases h
    exact .inl ⟨a, b, is_str.mp ix, is_str.mp iy, q _ H G (Ext.refl G) R (is_bl.mpr rfl)⟩
  · rename_i l
    split at h
    · rename_i c
      cases h
      rw [Bool.and_eq_true] at c
      obtain ⟨a, vs, rfl, h1, h2⟩ := is_tup.mp iy
      exact .inr ⟨a, vs, rfl, .inr (ext_t R.gh h1), flat_ok ix c.1, flats_ok h2 c.2, q _ H G (Ext.refl G) R (is_bl.mpr (by rw [ins_ok ix c.1 h2 c.2]; rfl))⟩
    · cases h
  · rename_i l
    split at h
    · rename_i c
      cases h
      rw [Bool.and_eq_true] at c
      obtain ⟨a, vs, rfl, h1, h2⟩ := is_lst.mp iy
      exact .inr ⟨a, vs, rfl, .inl (.inl (.inl (R.gh _ _ h1))), flat_ok ix c.1, flats_ok h2 c.2, q _ H G (Ext.refl G) R (is_bl.mpr (by rw [ins_ok ix c.1 h2 c.2]; rfl))⟩
    · cases h
  · cases h
/-! ### an item, a slice -/
omit [Me] in
def gIx : Dt → Dt → Option Dt
  | .tup l, .int i => atI l i
  | .lst l, .int i => atI l i
  | .str z, .int i => if z.length ≤ sizeLine then (atI z.cps.toList i).bind fun c => some (.str ⟨#[c]⟩) else none
  | _, _ => none
theorem ati_ok {β : Addr} {G : Hp} {l : List Dt} {vs : List V} {i : Int} {d : Dt} (h : IsL K β G l vs) (e : atI l i = some d) : ∃ v, atI vs i = some v ∧ IsD K β G d v := by
  unfold atI at e ⊢
  obtain ⟨j, e1, e2⟩ := Option.bind_eq_some_iff.mp e
  obtain ⟨v, e3, e4⟩ := h.get e2
  exact ⟨v, by rw [h.len, e1]; exact e3, e4⟩
theorem r2_ix : R2ok K (rIx K) gIx := by
  intro β P σ H G s x y dx dy d R ix iy h Q q
  unfold gIx at h
  split at h
  · rename_i l i
    obtain ⟨a, vs, rfl, h1, h2⟩ := is_tup.mp ix
    obtain ⟨v, e1, e2⟩ := ati_ok h2 h
    exact .inr (.inl ⟨a, vs, i, v, rfl, is_int.mp iy, ext_t R.gh h1, e1, q _ H G (Ext.refl G) R e2⟩)
  · rename_i l i
    obtain ⟨a, vs, rfl, h1, h2⟩ := is_lst.mp ix
    obtain ⟨v, e1, e2⟩ := ati_ok h2 h
    exact .inl ⟨a, vs, i, v, rfl, is_int.mp iy, .inl (.inl (R.gh _ _ h1)), e1, q _ H G (Ext.refl G) R e2⟩
  · rename_i z i
    split at h
    · rename_i c
      obtain ⟨k, e1, e2⟩ := Option.bind_eq_some_iff.mp h
      cases e2
      exact .inr (.inr ⟨z, i, k, is_str.mp ix, is_int.mp iy, c, e1, q _ H G (Ext.refl G) R (is_str.mpr rfl)⟩)
    · cases h
  · cases h
end
section
variable {X : Cx}
theorem de_ix {a b : Expr} {fa fb : DM Dt} {pos : Pos} (ha : DE X a fa) (hb : DE X b fb) (hs : PlainIx b := by exact fun _ _ => rfl) : DE X (.Subscript a b pos) (m2 gIx fa fb) := by
  obtain ⟨ta, pa, oa⟩ := ha
  obtain ⟨tb, pb, ob⟩ := hb
  exact ⟨_, pe_ix ix_seq pa pb hs, te_op r2_ix oa ob⟩
end
end DL

namespace DL
open PySem PySem.Spec PyProof.Rows L2
variable [Tabs] [Me]

/-! ### slices -/
omit [Me] in
def mNoP : DM (Option Int) := fun s => some (none, s)
omit [Me] in
def mPart (f : DM Dt) : DM (Option Int) := fun s => (f s).bind fun p => match p.1 with
  | .int i => some (some i, p.2)
  | _ => none
omit [Me] in
def cutD {α : Type} (l : List α) (lo hi : Option Int) : List α := (l.drop (HT.sIx l.length 0 lo)).take (HT.sIx l.length l.length hi - HT.sIx l.length 0 lo)
omit [Me] in
def gSl : Dt → Option Int → Option Int → Option Dt
  | .str z, lo, hi => if z.length ≤ sizeLine then some (.str (cutS z lo hi)) else none
  | .lst l, lo, hi => some (.lst (cutD l lo hi))
  | .tup l, lo, hi => some (.tup (cutD l lo hi))
  | _, _, _ => none
omit [Me] in
def mSl (f : DM Dt) (g h : DM (Option Int)) : DM Dt := fun s => (f s).bind fun p => (g p.2).bind fun q => (h q.2).bind fun r => (gSl p.1 q.1 r.1).bind fun d => some (d, r.2)
theorem cutD_ok {K : PySem.W.Frag} {β : Addr} {G : Hp} {l : List Dt} {vs : List V} (h : IsL K β G l vs) (lo hi : Option Int) : IsL K β G (cutD l lo hi) (cutV vs lo hi) := by
  unfold cutD cutV
  rw [h.len]
  exact (h.drop _).take _
section
variable {X : Cx}
theorem do_none : DO X none mNoP := ⟨_, po_none, fun β P σ H G s o s' R e Q q => by cases e; exact q H G (Ext.refl G) R⟩
theorem do_some {e : Expr} {f : DM Dt} (h : DE X e f) : DO X (some e) (mPart f) := by
  obtain ⟨t, p, o⟩ := h
  refine ⟨_, po_some p, fun β P σ H G s b s' R e Q q => ?_⟩
  unfold mPart at e
  obtain ⟨⟨x, s1⟩, e1, e⟩ := Option.bind_eq_some_iff.mp e
  refine o β P σ H G s x s1 R e1 _ fun v H1 G1 x1 R1 i1 => ?_
  cases x with
  | int k => cases e; exact ⟨k, is_int.mp i1, q H1 G1 x1 R1⟩
  | _ => cases e
theorem de_sl {e : Expr} {lo hi : Option Expr} {f : DM Dt} {g h : DM (Option Int)} {p2 pos : Pos} (he : DE X e f) (hl : DO X lo g) (hh : DO X hi h) : DE X (.Subscript e (.Slice lo hi none p2) pos) (mSl f g h) := by
  obtain ⟨t, p, o⟩ := he
  obtain ⟨t2, p2, o2⟩ := hl
  obtain ⟨t3, p3, o3⟩ := hh
  refine ⟨_, pe_slice (sl_list.or (sl_str.or sl_tupA)) p p2 p3, fun β P σ H G s b s' R e Q q => ?_⟩
  unfold mSl at e
  obtain ⟨⟨x, s1⟩, e1, e⟩ := Option.bind_eq_some_iff.mp e
  obtain ⟨⟨l, s2⟩, e2, e⟩ := Option.bind_eq_some_iff.mp e
  obtain ⟨⟨u, s3⟩, e3, e⟩ := Option.bind_eq_some_iff.mp e
  obtain ⟨d, e4, e⟩ := Option.bind_eq_some_iff.mp e
  cases e
  refine o β P σ H G s x s1 R e1 _ fun v H1 G1 x1 R1 i1 => ?_
  refine o2 β P σ H1 G1 s1 l s2 R1 e2 _ fun H2 G2 x2 R2 => ?_
  refine o3 β P σ H2 G2 s2 u s3 R2 e3 _ fun H3 G3 x3 R3 => ?_
  have i3 := IsD.mono (x2.trans x3) _ _ i1
  have xx := (x1.trans x2).trans x3
  unfold gSl at e4
  dsimp only at e4
  split at e4
  · rename_i z lo hi
    split at e4
    · rename_i c
      cases e4
      exact .inr (.inl ⟨z, is_str.mp i3, c, q _ H3 G3 xx R3 (is_str.mpr rfl)⟩)
    · cases e4
  · rename_i m lo hi
    cases e4
    obtain ⟨a, vs, rfl, h1, h2⟩ := is_lst.mp i3
    refine .inl ⟨a, vs, rfl, .inl (.inl (R3.gh _ _ h1)), fun l hl => ?_⟩
    exact q _ _ _ (xx.trans (Ext.new (R3.free hl))) (R3.new hl) (is_lst.mpr ⟨l, _, rfl, upd_same, IsL.mono (Ext.new (R3.free hl)) _ _ (cutD_ok h2 _ _)⟩)
  · rename_i m lo hi
    cases e4
    obtain ⟨a, vs, rfl, h1, h2⟩ := is_tup.mp i3
    refine .inr (.inr ⟨a, vs, rfl, ext_t R3.gh h1, fun c => ?_, fun _ l hl => ?_⟩)
    · refine q _ H3 G3 xx R3 ?_
      have z : cutD m l u = m := by
        rw [h2.len] at c
        unfold cutD
        rw [c.1, c.2]
        simp
      rw [z]; exact i3
    · exact q _ _ _ (xx.trans (Ext.new (R3.free hl))) (R3.new hl) (is_tup.mpr ⟨l, _, rfl, .inl (.inl upd_same), IsL.mono (Ext.new (R3.free hl)) _ _ (cutD_ok h2 _ _)⟩)
  · cases e4
omit [Me] in
/-- xs[::-1] of a list -/
def mRev (f : DM Dt) : DM Dt := fun s => (f s).bind fun p => match p.1 with
  | .lst l => some (.lst l.reverse, p.2)
  | _ => none
theorem isl_rev {K : PySem.W.Frag} {β : Addr} {G : Hp} : ∀ {l : List Dt} {vs : List V}, IsL K β G l vs → IsL K β G l.reverse vs.reverse
  | [], vs, h => by rw [isl_nil.mp h]; exact isl_nil.mpr rfl
  | d :: l, vs, h => by
    obtain ⟨v, r, rfl, h1, h2⟩ := isl_cons.mp h
    rw [List.reverse_cons, List.reverse_cons]
    exact (isl_rev h2).snoc h1
theorem de_rev {e : Expr} {f : DM Dt} {k : Nat} {p1 p2 p3 pos : Pos} (he : DE X e f) : DE X (.Subscript e (.Slice none none (some (.UnaryOp .USub (.Constant (.int 1) k p1) p2)) p3) pos) (mRev f) := by
  obtain ⟨t, p, o⟩ := he
  refine ⟨_, pe_revL p, fun β P σ H G s b s' R e Q q => ?_⟩
  unfold mRev at e
  obtain ⟨⟨x, s1⟩, e1, e⟩ := Option.bind_eq_some_iff.mp e
  refine o β P σ H G s x s1 R e1 _ fun v H1 G1 x1 R1 i1 => ?_
  cases x with
  | lst m =>
    cases e
    obtain ⟨a, vs, rfl, h1, h2⟩ := is_lst.mp i1
    refine ⟨a, vs, rfl, .inl (.inl (R1.gh _ _ h1)), fun l hl => ?_⟩
    exact q _ _ _ (x1.trans (Ext.new (R1.free hl))) (R1.new hl) (is_lst.mpr ⟨l, _, rfl, upd_same, IsL.mono (Ext.new (R1.free hl)) _ _ (isl_rev h2)⟩)
  | _ => cases e
/-! ### a chain of two comparisons; is a truth value -/
omit [Me] in
def mChain (g g' : Dt → Dt → Option Dt) (f1 f2 f3 : DM Dt) : DM Dt := fun s => (f1 s).bind fun p => (f2 p.2).bind fun q => (g p.1 q.1).bind fun d => match d with
  | .bl true => (f3 q.2).bind fun r => (g' q.1 r.1).bind fun d' => some (d', r.2)
  | .bl false => some (.bl false, q.2)
  | _ => none
theorem te_chain {K : PySem.W.Frag} {r r' : R2} {g g' : Dt → Dt → Option Dt} {ta tb tc : TE} {fa fb fc : DM Dt} (hr : R2ok K r g) (hr' : R2ok K r' g') (ha : TEok K ta fa) (hb : TEok K tb fb) (hc : TEok K tc fc) : TEok K (tChain r r' ta tb tc) (mChain g g' fa fb fc) := by
  intro β P σ H G s d s' R h Q q
  unfold mChain at h
  obtain ⟨⟨x, s1⟩, e1, h⟩ := Option.bind_eq_some_iff.mp h
  obtain ⟨⟨y, s2⟩, e2, h⟩ := Option.bind_eq_some_iff.mp h
  obtain ⟨z, e3, h⟩ := Option.bind_eq_some_iff.mp h
  refine ha β P σ H G s x s1 R e1 _ fun v H1 G1 x1 R1 i1 => ?_
  refine hb β P σ H1 G1 s1 y s2 R1 e2 _ fun u H2 G2 x2 R2 i2 => ?_
  refine hr β P σ H2 G2 s2 v u x y z R2 (IsD.mono x2 _ _ i1) i2 e3 _ fun w H3 G3 x3 R3 i3 => ?_
  split at h
  · rw [is_bl.mp i3]
    obtain ⟨⟨z', s4⟩, e4, h⟩ := Option.bind_eq_some_iff.mp h
    obtain ⟨d', e5, h⟩ := Option.bind_eq_some_iff.mp h
    cases h
    refine ⟨true, rfl, iteT ?_⟩
    refine hc β P σ H3 G3 s2 z' s4 R3 e4 _ fun w' H4 G4 x4 R4 i4 => ?_
    exact hr' β P σ H4 G4 s4 u w' y z' d R4 (IsD.mono (x3.trans x4) _ _ i2) i4 e5 Q fun w5 H5 G5 x5 R5 i5 => q w5 H5 G5 ((((x1.trans x2).trans x3).trans x4).trans x5) R5 i5
  · rw [is_bl.mp i3]
    cases h
    exact ⟨false, rfl, iteF (q _ H3 G3 ((x1.trans x2).trans x3) R3 (is_bl.mpr rfl))⟩
  · cases h
theorem de_chain {op op' : CmpOp} {r r' : R2} {g g' : Dt → Dt → Option Dt} {a b c : Expr} {fa fb fc : DM Dt} {pos : Pos} (ho : OpR X (compareOp op) r) (hr : R2ok X.K r g) (ho' : OpR X (compareOp op') r') (hr' : R2ok X.K r' g') (ha : DE X a fa) (hb : DE X b fb) (hc : DE X c fc)
    (hm : lastMarks [op, op'] [b, c] = false := by with_unfolding_all rfl) : DE X (.Compare a [op, op'] [b, c] pos) (mChain g g' fa fb fc) := by
  obtain ⟨ta, pa, oa⟩ := ha
  obtain ⟨tb, pb, ob⟩ := hb
  obtain ⟨tc, pc, oc⟩ := hc
  exact ⟨_, pe_chain ho ho' pa pb pc hm, te_chain hr hr' oa ob oc⟩
theorem dt_chain {op op' : CmpOp} {r r' : R2} {g g' : Dt → Dt → Option Dt} {a b c : Expr} {fa fb fc : DM Dt} {pos : Pos} (ho : OpR X (compareOp op) r) (hr : R2ok X.K r g) (ho' : OpR X (compareOp op') r') (hr' : R2ok X.K r' g') (ha : DE X a fa) (hb : DE X b fb) (hc : DE X c fc)
    (hm : lastMarks [op, op'] [b, c] = false := by with_unfolding_all rfl) : DT X (.Compare a [op, op'] [b, c] pos) (mB (mChain g g' fa fb fc)) := by
  obtain ⟨ta, pa, oa⟩ := ha
  obtain ⟨tb, pb, ob⟩ := hb
  obtain ⟨tc, pc, oc⟩ := hc
  exact ⟨_, pt_chain ho ho' pa pb pc hm, tt_of (te_chain hr hr' oa ob oc)⟩
omit [Me] in
def gIsB : Dt → Dt → Option Dt
  | .bl a, .bl b => some (.bl (decide (a = b)))
  | _, _ => none
omit [Me] in
def gNotB : Dt → Dt → Option Dt
  | .bl a, .bl b => some (.bl !(decide (a = b)))
  | _, _ => none
theorem r2_isB {K : PySem.W.Frag} : R2ok K L2.rIsB gIsB := by
  intro β P σ H G s x y dx dy d R ix iy h Q q
  unfold gIsB at h
  split at h
  · rename_i a b; cases h; exact ⟨a, b, is_bl.mp ix, is_bl.mp iy, q _ H G (Ext.refl G) R (is_bl.mpr rfl)⟩
  · cases h
theorem r2_notB {K : PySem.W.Frag} : R2ok K L2.rNotB gNotB := by
  intro β P σ H G s x y dx dy d R ix iy h Q q
  unfold gNotB at h
  split at h
  · rename_i a b; cases h; exact ⟨a, b, is_bl.mp ix, is_bl.mp iy, q _ H G (Ext.refl G) R (is_bl.mpr rfl)⟩
  · cases h
end

/-! ### calls of what Python brings -/
omit [Me] in
def mCall (g : List Dt → Option Dt) (f : DM (List Dt)) : DM Dt := fun s => (f s).bind fun p => (g p.1).bind fun d => some (d, p.2)
omit [Me] in
def Rok (K : PySem.W.Frag) (r : List V → Hp → VK → Prop) (g : List Dt → Option Dt) : Prop := ∀ (β : Addr) (P : Hp) (σ : L2.St) (H G : Hp) (s : Sta) (vs : List V) (ds : List Dt) (d : Dt), Rel K β P σ H G s → IsL K β G ds vs → g ds = some d →
  ∀ Q : VK, (∀ v H' G', Ext G G' → Rel K β P σ H' G' s → IsD K β G' d v → Q v H') → r vs H Q
theorem te_call {K : PySem.W.Frag} {r : List V → Hp → VK → Prop} {g : List Dt → Option Dt} {t : TA} {f : DM (List Dt)} (hr : Rok K r g) (h : TAok K t f) : TEok K (tCB r t) (mCall g f) := by
  intro β P σ H G s d s' R e Q q
  unfold mCall at e
  obtain ⟨⟨x, s1⟩, e1, e⟩ := Option.bind_eq_some_iff.mp e
  obtain ⟨z, e2, e⟩ := Option.bind_eq_some_iff.mp e
  cases e
  refine h β P σ H G s x s1 R e1 _ fun vs H1 G1 x1 R1 i1 => ?_
  exact hr β P σ H1 G1 s1 vs x d R1 i1 e2 Q fun w H3 G3 x3 R3 i3 => q w H3 G3 (x1.trans x3) R3 i3
section
variable {X : Cx} {x : Str} {p pos : Pos} {e : Expr} {es : List Expr} {f : DM (List Dt)} {r : List V → Hp → VK → Prop} {g : List Dt → Option Dt} {id T : String}
theorem de_callB (hc : CallR X (.builtin id) r) (hr : Rok X.K r g) (hg : Gl X x) (hm : X.mg x = none) (hv : bootBuiltins x = some (.builtin id)) (ha : DA X (e :: es) f) (hn : x ≠ "__name__" := by decide) (hdb : (x == ("__debug__" : Str)) = false := by decide)
    (he : starEach (e :: es) X.env = (false, eval e X.env) :: starEach es X.env := by rfl) (hpl : (backTo pos (starEach es X.env)).any (·.1) = false := by rfl) : DE X (.Call (.Name x p) (e :: es) [] pos) (mCall g f) := by
  obtain ⟨t, p, o⟩ := ha
  exact ⟨_, pe_callB hc hg hm hv p hn hdb he hpl, te_call hr o⟩
theorem de_callT (hc : CallR X (.type T) r) (hr : Rok X.K r g) (hg : Gl X x) (hm : X.mg x = none) (hv : bootBuiltins x = some (.type T)) (ha : DA X (e :: es) f) (hn : x ≠ "__name__" := by decide) (hdb : (x == ("__debug__" : Str)) = false := by decide)
    (he : starEach (e :: es) X.env = (false, eval e X.env) :: starEach es X.env := by rfl) (hpl : (backTo pos (starEach es X.env)).any (·.1) = false := by rfl) : DE X (.Call (.Name x p) (e :: es) [] pos) (mCall g f) := by
  obtain ⟨t, p, o⟩ := ha
  exact ⟨_, pe_callTy hc hg hm hv p hn hdb he hpl, te_call hr o⟩
end
section
variable {K : PySem.W.Frag}
theorem one_of {β : Addr} {G : Hp} {d : Dt} {vs : List V} (h : IsL K β G [d] vs) : ∃ v, vs = [v] ∧ IsD K β G d v := by
  obtain ⟨v, r, rfl, h1, h2⟩ := isl_cons.mp h
  rw [isl_nil.mp h2]
  exact ⟨v, rfl, h1⟩
omit [Me] in
def gLen : List Dt → Option Dt
  | [.str y] => if y.length ≤ sizeLine then some (.int (y.length : Nat)) else none
  | [.tup l] => some (.int (l.length : Nat))
  | [.lst l] => some (.int (l.length : Nat))
  | _ => none
theorem ok_len : Rok K (fun xs H Q => ∃ x n, xs = [x] ∧ LenV K x H n ∧ Q (.int n) H) gLen := by
  intro β P σ H G s vs ds d R i e Q q
  unfold gLen at e
  split at e
  · rename_i y
    split at e
    · rename_i c
      cases e
      obtain ⟨v, rfl, h⟩ := one_of i
      rw [is_str.mp h]
      exact ⟨_, y.length, rfl, ⟨c, rfl⟩, q _ H G (Ext.refl G) R (is_int.mpr rfl)⟩
    · cases e
  · rename_i l
    cases e
    obtain ⟨v, rfl, h⟩ := one_of i
    obtain ⟨a, us, rfl, h1, h2⟩ := is_tup.mp h
    exact ⟨_, l.length, rfl, .inr ⟨us, ext_t R.gh h1, h2.len.symm⟩, q _ H G (Ext.refl G) R (is_int.mpr rfl)⟩
  · rename_i l
    cases e
    obtain ⟨v, rfl, h⟩ := one_of i
    obtain ⟨a, us, rfl, h1, h2⟩ := is_lst.mp h
    exact ⟨_, l.length, rfl, .inl ⟨us, .inl (.inl (R.gh _ _ h1)), h2.len.symm⟩, q _ H G (Ext.refl G) R (is_int.mpr rfl)⟩
  · cases e
omit [Me] in
def gInt1 : List Dt → Option Dt
  | [.int i] => some (.int i)
  | [.bl k] => some (.int (if k then 1 else 0))
  | _ => none
theorem ok_int1 : Rok K (fun xs H Q => (∃ i, xs = [.int i] ∧ Q (.int i) H) ∨ ∃ k, xs = [.bl k] ∧ Q (.int (if k then 1 else 0)) H) gInt1 := by
  intro β P σ H G s vs ds d R i e Q q
  unfold gInt1 at e
  split at e
  · cases e
    obtain ⟨v, rfl, h⟩ := one_of i
    exact .inl ⟨_, by rw [is_int.mp h], q _ H G (Ext.refl G) R (is_int.mpr rfl)⟩
  · cases e
    obtain ⟨v, rfl, h⟩ := one_of i
    exact .inr ⟨_, by rw [is_bl.mp h], q _ H G (Ext.refl G) R (is_int.mpr rfl)⟩
  · cases e
omit [Me] in
def gAbs : List Dt → Option Dt
  | [.int i] => some (.int (if i < 0 then -i else i))
  | _ => none
theorem ok_abs : Rok K (fun xs H Q => ∃ i, xs = [.int i] ∧ Q (.int (if i < 0 then -i else i)) H) gAbs := by
  intro β P σ H G s vs ds d R i e Q q
  unfold gAbs at e
  split at e
  · cases e
    obtain ⟨v, rfl, h⟩ := one_of i
    exact ⟨_, by rw [is_int.mp h], q _ H G (Ext.refl G) R (is_int.mpr rfl)⟩
  · cases e
omit [Me] in
/-- str of an int; of a text -/
def gStrI : List Dt → Option Dt
  | [.int i] => if i.natAbs.log2 < 1920 then some (.str (toString i)) else none
  | _ => none
theorem ok_strI : Rok K (fun xs H Q => ∃ i, xs = [.int i] ∧ i.natAbs.log2 < 1920 ∧ Q (.str (toString i)) H) gStrI := by
  intro β P σ H G s vs ds d R i e Q q
  unfold gStrI at e
  split at e
  · split at e
    · rename_i c
      cases e
      obtain ⟨v, rfl, h⟩ := one_of i
      exact ⟨_, by rw [is_int.mp h], c, q _ H G (Ext.refl G) R (is_str.mpr rfl)⟩
    · cases e
  · cases e
omit [Me] in
def bools : List Dt → Option (List Bool)
  | [] => some []
  | .bl b :: r => (bools r).bind fun bs => some (b :: bs)
  | _ => none
theorem bools_ok {β : Addr} {G : Hp} : ∀ {l : List Dt} {vs : List V} {bs : List Bool}, IsL K β G l vs → bools l = some bs → vs = bs.map V.bl
  | [], vs, bs, h, e => by cases e; exact isl_nil.mp h
  | .bl b :: r, vs, bs, h, e => by
    obtain ⟨v, us, rfl, h1, h2⟩ := isl_cons.mp h
    unfold bools at e
    obtain ⟨cs, e1, e⟩ := Option.bind_eq_some_iff.mp e
    cases e
    rw [is_bl.mp h1, bools_ok h2 e1]
    rfl
  | .non :: _, _, _, _, e => by cases e
  | .int _ :: _, _, _, _, e => by cases e
  | .str _ :: _, _, _, _, e => by cases e
  | .tup _ :: _, _, _, _, e => by cases e
  | .lst _ :: _, _, _, _, e => by cases e
  | .bag :: _, _, _, _, e => by cases e
omit [Me] in
def gAll : List Dt → Option Dt
  | [.lst l] => (bools l).bind fun bs => some (.bl (bs.all id))
  | _ => none
omit [Me] in
def gAny : List Dt → Option Dt
  | [.lst l] => (bools l).bind fun bs => some (.bl (bs.any id))
  | _ => none
theorem ok_all : Rok K (rAll K) gAll := by
  intro β P σ H G s vs ds d R i e Q q
  unfold gAll at e
  split at e
  · obtain ⟨bs, e1, e⟩ := Option.bind_eq_some_iff.mp e
    cases e
    obtain ⟨v, rfl, h⟩ := one_of i
    obtain ⟨a, us, rfl, h1, h2⟩ := is_lst.mp h
    exact ⟨a, bs, rfl, .inl (.inl (by rw [← bools_ok h2 e1]; exact R.gh _ _ h1)), q _ H G (Ext.refl G) R (is_bl.mpr rfl)⟩
  · cases e
theorem ok_any : Rok K (rAny K) gAny := by
  intro β P σ H G s vs ds d R i e Q q
  unfold gAny at e
  split at e
  · obtain ⟨bs, e1, e⟩ := Option.bind_eq_some_iff.mp e
    cases e
    obtain ⟨v, rfl, h⟩ := one_of i
    obtain ⟨a, us, rfl, h1, h2⟩ := is_lst.mp h
    exact ⟨a, bs, rfl, .inl (.inl (by rw [← bools_ok h2 e1]; exact R.gh _ _ h1)), q _ H G (Ext.refl G) R (is_bl.mpr rfl)⟩
  · cases e
omit [Me] in
def gListOf : List Dt → Option Dt
  | [.lst l] => some (.lst l)
  | [.tup l] => some (.lst l)
  | _ => none
theorem ok_listOf : Rok K (fun xs H Q => ∃ p ys, xs = [.ref p] ∧ (SqL K H p ys ∨ SqT K H p ys) ∧ ∀ l, H l = none → Q (.ref l) (upd H l (.lst ys))) gListOf := by
  intro β P σ H G s vs ds d R i e Q q
  unfold gListOf at e
  split at e
  · cases e
    obtain ⟨v, rfl, h⟩ := one_of i
    obtain ⟨a, us, rfl, h1, h2⟩ := is_lst.mp h
    refine ⟨a, us, rfl, .inl (.inl (.inl (R.gh _ _ h1))), fun l hl => ?_⟩
    exact q _ _ _ (Ext.new (R.free hl)) (R.new hl) (is_lst.mpr ⟨l, _, rfl, upd_same, IsL.mono (Ext.new (R.free hl)) _ _ h2⟩)
  · cases e
    obtain ⟨v, rfl, h⟩ := one_of i
    obtain ⟨a, us, rfl, h1, h2⟩ := is_tup.mp h
    refine ⟨a, us, rfl, .inr (ext_t R.gh h1), fun l hl => ?_⟩
    exact q _ _ _ (Ext.new (R.free hl)) (R.new hl) (is_lst.mpr ⟨l, _, rfl, upd_same, IsL.mono (Ext.new (R.free hl)) _ _ h2⟩)
  · cases e
end

/-! ### isinstance with a built-in class, or two -/
omit [Me] in
def tyN : Dt → String
  | .non => "NoneType"
  | .bl _ => "bool"
  | .int _ => "int"
  | .str _ => "str"
  | .tup _ => "tuple"
  | .lst _ => "list"
  | .bag => "list"
  | .dic _ _ => "dict"
  | .ins _ _ _ => "object"
  | .err _ _ _ => "object"
omit [Me] in
def insB : Dt → Bool
  | .ins _ _ _ => true
  | .err _ _ _ => true
  | _ => false
theorem ty_ok {K : PySem.W.Frag} {β : Addr} {P : Hp} {σ : L2.St} {H G : Hp} {s : Sta} {d : Dt} {v : V} (R : Rel K β P σ H G s) (h : IsD K β G d v) (hi : insB d = false) : TyX K H v (.type (tyN d)) := by
  cases d with
  | ins c ks l => cases hi
  | err c ks l => cases hi
  | non => rw [is_non.mp h]; exact .base .non
  | bl b => rw [is_bl.mp h]; exact .base (.bl b)
  | int b => rw [is_int.mp h]; exact .base (.int b)
  | str b => rw [is_str.mp h]; exact .base (.str b)
  | bag =>
    obtain ⟨vs, h1, _, _⟩ := R.bag
    rw [is_bag.mp h]; exact .base (.lst h1)
  | lst l =>
    obtain ⟨a, us, rfl, h1, h2⟩ := is_lst.mp h
    exact .base (.lst (R.gh _ _ h1))
  | dic ks l =>
    obtain ⟨a, us, rfl, h1, h2⟩ := is_dic.mp h
    exact .base (.dK (R.gh _ _ h1))
  | tup l =>
    obtain ⟨a, us, rfl, h1, h2⟩ := is_tup.mp h
    rcases ext_t R.gh h1 with (h | ⟨o, h⟩) | ⟨o, its, n, h, c, _⟩
    · exact .base (.tup h)
    · exact .fTuple h
    · exact .kTuple h c
omit [Me] in
def basics : List String := ["int", "str", "bool", "tuple", "list", "dict"]
omit [Me] in
/-- isinstance of a built-in class -/
def kitD (d : Dt) (T : String) : Option Bool := if insB d = true then (if basics.contains T = true then some false else none) else L2.kitB (tyN d) T
theorem kit_ok {K : PySem.W.Frag} {β : Addr} {P : Hp} {σ : L2.St} {H G : Hp} {s : Sta} {d : Dt} {v : V} {T : String} {b : Bool} (R : Rel K β P σ H G s) (h : IsD K β G d v) (e : kitD d T = some b) : ∃ t, TyE K H v t ∧ PySem.W.kitOne K t (.type T) = some b := by
  unfold kitD at e
  cases hi : insB d with
  | false =>
    rw [hi, if_neg Bool.false_ne_true] at e
    exact ⟨_, .inl (ty_ok R h hi), L2.kit_ty e⟩
  | true =>
    rw [hi, if_pos rfl] at e
    split at e
    · rename_i c
      cases e
      cases d with
      | ins c' ks l =>
        obtain ⟨a, C, dx, vs, rfl, h0, h1, _⟩ := is_ins.mp h
        exact ⟨.ref C, .inl (.base (.ins (R.gh _ _ h1) h0.cls h0.ha h0.hn h0.ht h0.hm)), h0.kit T (List.contains_iff_mem.mp c)⟩
      | err c' ks l =>
        obtain ⟨a, C, dx, vs, rfl, h0, h1, h2, _⟩ := is_err.mp h
        exact ⟨.ref C, .inr ⟨a, C, dx, _, rfl, rfl, R.gh _ _ h1, R.gh _ _ h2, h0.exc⟩, h0.kin (List.contains_iff_mem.mp c)⟩
      | _ => cases hi
    · cases e
theorem kit_ok2 {K : PySem.W.Frag} {β : Addr} {P : Hp} {σ : L2.St} {H G : Hp} {s : Sta} {d : Dt} {v : V} {T T2 : String} {b b2 : Bool} (R : Rel K β P σ H G s) (h : IsD K β G d v) (e : kitD d T = some b) (e2 : kitD d T2 = some b2) : ∃ t, TyE K H v t ∧ PySem.W.kitOne K t (.type T) = some b ∧ PySem.W.kitOne K t (.type T2) = some b2 := by
  unfold kitD at e e2
  cases hi : insB d with
  | false =>
    rw [hi, if_neg Bool.false_ne_true] at e e2
    exact ⟨_, .inl (ty_ok R h hi), L2.kit_ty e, L2.kit_ty e2⟩
  | true =>
    rw [hi, if_pos rfl] at e e2
    split at e
    · rename_i c
      split at e2
      · rename_i c2
        cases e
        cases e2
        cases d with
        | ins c' ks l =>
          obtain ⟨a, C, dx, vs, rfl, h0, h1, _⟩ := is_ins.mp h
          exact ⟨.ref C, .inl (.base (.ins (R.gh _ _ h1) h0.cls h0.ha h0.hn h0.ht h0.hm)), h0.kit T (List.contains_iff_mem.mp c), h0.kit T2 (List.contains_iff_mem.mp c2)⟩
        | err c' ks l =>
          obtain ⟨a, C, dx, vs, rfl, h0, h1, h2, _⟩ := is_err.mp h
          exact ⟨.ref C, .inr ⟨a, C, dx, _, rfl, rfl, R.gh _ _ h1, R.gh _ _ h2, h0.exc⟩, h0.kin (List.contains_iff_mem.mp c), h0.kin (List.contains_iff_mem.mp c2)⟩
        | _ => cases hi
      · cases e2
    · cases e
omit [Me] in
def mIsi (B : Dt → Bool) (f : DM Dt) : DM Dt := fun s => (f s).bind fun p => some (.bl (B p.1), p.2)
omit [Me] in
def isInt : Dt → Bool
  | .bl _ => true
  | .int _ => true
  | _ => false
omit [Me] in
def isStr : Dt → Bool
  | .str _ => true
  | _ => false
omit [Me] in
def isBl : Dt → Bool
  | .bl _ => true
  | _ => false
omit [Me] in
def isTup : Dt → Bool
  | .tup _ => true
  | _ => false
omit [Me] in
def isLst : Dt → Bool
  | .lst _ => true
  | .bag => true
  | _ => false
theorem kit_int (d : Dt) : kitD d "int" = some (isInt d) := by cases d <;> simp only [kitD, insB, Bool.false_eq_true, if_false, if_true, tyN, isInt] <;> decide +kernel
theorem kit_str (d : Dt) : kitD d "str" = some (isStr d) := by cases d <;> simp only [kitD, insB, Bool.false_eq_true, if_false, if_true, tyN, isStr] <;> decide +kernel
theorem kit_bl (d : Dt) : kitD d "bool" = some (isBl d) := by cases d <;> simp only [kitD, insB, Bool.false_eq_true, if_false, if_true, tyN, isBl] <;> decide +kernel
theorem kit_tup (d : Dt) : kitD d "tuple" = some (isTup d) := by cases d <;> simp only [kitD, insB, Bool.false_eq_true, if_false, if_true, tyN, isTup] <;> decide +kernel
theorem kit_lst (d : Dt) : kitD d "list" = some (isLst d) := by cases d <;> simp only [kitD, insB, Bool.false_eq_true, if_false, if_true, tyN, isLst] <;> decide +kernel
section
variable {X : Cx} {p pos p2 : Pos} {e : Expr} {f : DM Dt} {T T2 : String} {x x2 : Str} {B B2 : Dt → Bool}
theorem de_isi (hB : ∀ d, kitD d T = some (B d)) (hg : Gl X "isinstance") (hm : X.mg "isinstance" = none) (hv : bootBuiltins "isinstance" = some (.builtin "isinstance")) (he : DE X e f)
    (hx : Gl X x) (hxm : X.mg x = none) (hxv : bootBuiltins x = some (.type T)) (hn : x ≠ "__name__" := by decide) (hd : (x == ("__debug__" : Str)) = false := by decide)
    (hs : starEach [e, .Name x p2] X.env = (false, eval e X.env) :: starEach [.Name x p2] X.env := by rfl) (hpl : (backTo pos (starEach [.Name x p2] X.env)).any (·.1) = false := by rfl) :
    DE X (.Call (.Name "isinstance" p) [e, .Name x p2] [] pos) (mIsi B f) := by
  obtain ⟨t, pp, o⟩ := he
  refine ⟨_, pe_callB call_isE1 hg hm hv (pa_cons pp (pa_cons (pe_bltn (v := .ty T) hx hxm hxv rfl hn hd) pa_nil) hs) (by decide) (by decide) hs hpl, fun β P σ H G s b s' R e Q q => ?_⟩
  unfold mIsi at e
  obtain ⟨⟨y, s1⟩, e1, e⟩ := Option.bind_eq_some_iff.mp e
  cases e
  refine o β P σ H G s y s1 R e1 _ fun v H1 G1 x1 R1 i1 => ?_
  obtain ⟨tv, y1, y2⟩ := kit_ok R1 i1 (hB y)
  exact ⟨v, .ty T, tv, .type T, B y, rfl, .ty T, y1, y2, q _ H1 G1 x1 R1 (is_bl.mpr rfl)⟩
theorem de_isi2 (hB : ∀ d, kitD d T = some (B d)) (hB2 : ∀ d, kitD d T2 = some (B2 d)) (hg : Gl X "isinstance") (hm : X.mg "isinstance" = none) (hv : bootBuiltins "isinstance" = some (.builtin "isinstance")) (he : DE X e f)
    (hx : Gl X x) (hxm : X.mg x = none) (hxv : bootBuiltins x = some (.type T)) (hx2 : Gl X x2) (hxm2 : X.mg x2 = none) (hxv2 : bootBuiltins x2 = some (.type T2)) {k : Nat} {p3 pt : Pos}
    (hn : x ≠ "__name__" := by decide) (hd : (x == ("__debug__" : Str)) = false := by decide) (hn2 : x2 ≠ "__name__" := by decide) (hd2 : (x2 == ("__debug__" : Str)) = false := by decide)
    (hs : starEach [e, .Tuple [.Name x p2, .Name x2 p3] k pt] X.env = (false, eval e X.env) :: starEach [.Tuple [.Name x p2, .Name x2 p3] k pt] X.env := by rfl) (hpl : (backTo pos (starEach [.Tuple [.Name x p2, .Name x2 p3] k pt] X.env)).any (·.1) = false := by rfl) :
    DE X (.Call (.Name "isinstance" p) [e, .Tuple [.Name x p2, .Name x2 p3] k pt] [] pos) (mIsi (fun d => B d || B2 d) f) := by
  obtain ⟨t, pp, o⟩ := he
  refine ⟨_, pe_callB call_isET hg hm hv (pa_cons pp (pa_cons (pe_tup (pa_cons (pe_bltn (v := .ty T) hx hxm hxv rfl hn hd) (pa_cons (pe_bltn (v := .ty T2) hx2 hxm2 hxv2 rfl hn2 hd2) pa_nil))) pa_nil) hs) (by decide) (by decide) hs hpl, fun β P σ H G s b s' R e Q q => ?_⟩
  unfold mIsi at e
  obtain ⟨⟨y, s1⟩, e1, e⟩ := Option.bind_eq_some_iff.mp e
  cases e
  refine o β P σ H G s y s1 R e1 _ fun v H1 G1 x1 R1 i1 => ?_
  refine ⟨by show 2 ≤ sizeLine; decide, fun l hl => ?_⟩
  have R2 := R1.new (o := .tup [.ty T, .ty T2]) hl
  have x2 := Ext.new (o := .tup [.ty T, .ty T2]) (R1.free hl)
  obtain ⟨tv, y1, y2, y3⟩ := kit_ok2 R2 (IsD.mono x2 _ _ i1) (hB y) (hB2 y)
  refine ⟨v, l, [.ty T, .ty T2], tv, [.type T, .type T2], B y || B2 y, rfl, upd_same, .cons (.ty T) (.cons (.ty T2) .nil), y1, ?_, q _ _ _ (x1.trans x2) R2 (is_bl.mpr rfl)⟩
  refine L2.kitAny_cons (b := B y) y2 (fun h => ?_) (fun h => by rw [h]; rfl)
  rw [h, Bool.false_or]
  exact L2.kitAny_cons (b := B2 y) y3 (fun h => by rw [h]; exact L2.kitAny_nil) (fun h => h)
end

/-! ### methods of texts -/
omit [Me] in
def mM1 (g : Str → Dt → Option Dt) (f1 f2 : DM Dt) : DM Dt := fun s => (f1 s).bind fun p => match p.1 with
  | .str a => (f2 p.2).bind fun q => (g a q.1).bind fun d => some (d, q.2)
  | _ => none
omit [Me] in
def gJoin (a : Str) : Dt → Option Dt
  | .lst l => (txts l).bind fun ys => if (ys.map (·.length)).sum + ys.length * a.length ≤ 16777216 then some (.str (Txt.join a ys)) else none
  | _ => none
where txts : List Dt → Option (List Str)
  | [] => some []
  | .str b :: r => (txts r).bind fun bs => some (b :: bs)
  | _ => none
theorem strs_ok {K : PySem.W.Frag} {β : Addr} {G : Hp} : ∀ {l : List Dt} {vs : List V} {bs : List Str}, IsL K β G l vs → gJoin.txts l = some bs → vs = bs.map V.str
  | [], vs, bs, h, e => by cases e; exact isl_nil.mp h
  | .str b :: r, vs, bs, h, e => by
    obtain ⟨v, us, rfl, h1, h2⟩ := isl_cons.mp h
    unfold gJoin.txts at e
    obtain ⟨cs, e1, e⟩ := Option.bind_eq_some_iff.mp e
    cases e
    rw [is_str.mp h1, strs_ok h2 e1]
    rfl
  | .non :: _, _, _, _, e => by cases e
  | .int _ :: _, _, _, _, e => by cases e
  | .bl _ :: _, _, _, _, e => by cases e
  | .tup _ :: _, _, _, _, e => by cases e
  | .lst _ :: _, _, _, _, e => by cases e
  | .bag :: _, _, _, _, e => by cases e
omit [Me] in
def gSplit (a : Str) : Dt → Option Dt
  | .str b => if (b.length == 0) = false ∧ a.length + 2 ≤ sizeLine then some (.lst ((Txt.split a b).map Dt.str)) else none
  | _ => none
omit [Me] in
def gPartition (a : Str) : Dt → Option Dt
  | .str b => if (b.length == 0) = false ∧ a.length ≤ sizeLine then some (.tup [.str (Txt.partition a b).1, .str (Txt.partition a b).2.1, .str (Txt.partition a b).2.2]) else none
  | _ => none
omit [Me] in
def gStarts (a : Str) : Dt → Option Dt
  | .str b => some (.bl (Txt.startswith a b))
  | _ => none
omit [Me] in
def gFind (a : Str) : Dt → Option Dt
  | .str b => some (.int (Txt.find a b))
  | _ => none
section
variable {X : Cx} {o e : Expr} {f1 f2 : DM Dt} {apos pos : Pos}
omit [Me] in
def M1ok (K : PySem.W.Frag) (r : V → List V → Hp → VK → Prop) (g : Str → Dt → Option Dt) : Prop := ∀ (β : Addr) (P : Hp) (σ : L2.St) (H G : Hp) (s : Sta) (a : Str) (y : V) (dy d : Dt), Rel K β P σ H G s → IsD K β G dy y → g a dy = some d →
  ∀ Q : VK, (∀ v H' G', Ext G G' → Rel K β P σ H' G' s → IsD K β G' d v → Q v H') → r (.str a) [y] H Q
theorem te_m1 {K : PySem.W.Frag} {r : V → List V → Hp → VK → Prop} {g : Str → Dt → Option Dt} {to te : TE} (hr : M1ok K r g) (ho : TEok K to f1) (he : TEok K te f2) : TEok K (tM1 r to te) (mM1 g f1 f2) := by
  intro β P σ H G s d s' R h Q q
  unfold mM1 at h
  obtain ⟨⟨x, s1⟩, e1, h⟩ := Option.bind_eq_some_iff.mp h
  cases x with
  | str a =>
    obtain ⟨⟨y, s2⟩, e2, h⟩ := Option.bind_eq_some_iff.mp h
    obtain ⟨z, e3, h⟩ := Option.bind_eq_some_iff.mp h
    cases h
    refine ho β P σ H G s _ s1 R e1 _ fun v H1 G1 x1 R1 i1 => ?_
    rw [is_str.mp i1]
    refine ⟨⟨a, rfl⟩, he β P σ H1 G1 s1 y s2 R1 e2 _ fun u H2 G2 x2 R2 i2 => ?_⟩
    exact hr β P σ H2 G2 s2 a u y d R2 i2 e3 Q fun w H3 G3 x3 R3 i3 => q w H3 G3 ((x1.trans x2).trans x3) R3 i3
  | _ => cases h
theorem ok_join {K : PySem.W.Frag} : M1ok K (fun x xs H Q => ∃ a p, ∃ ys : List Str, x = .str a ∧ xs = [.ref p] ∧ (SqL K H p (ys.map V.str) ∨ SqT K H p (ys.map V.str)) ∧
    (ys.map (·.length)).sum + ys.length * a.length ≤ 16777216 ∧ Q (.str (Txt.join a ys)) H) gJoin := by
  intro β P σ H G s a y dy d R i e Q q
  unfold gJoin at e
  split at e
  · obtain ⟨ys, e1, e⟩ := Option.bind_eq_some_iff.mp e
    split at e
    · rename_i c
      cases e
      obtain ⟨b, us, rfl, h1, h2⟩ := is_lst.mp i
      exact ⟨a, b, ys, rfl, rfl, .inl (.inl (.inl (by rw [← strs_ok h2 e1]; exact R.gh _ _ h1))), c, q _ H G (Ext.refl G) R (is_str.mpr rfl)⟩
    · cases e
  · cases e
theorem new_strs {K : PySem.W.Frag} {β : Addr} {P : Hp} {σ : L2.St} {H G : Hp} {s : Sta} (R : Rel K β P σ H G s) {ys : List Str} {Q : VK} (q : ∀ v H' G', Ext G G' → Rel K β P σ H' G' s → IsD K β G' (.lst (ys.map Dt.str)) v → Q v H') : rNewStrs ys H Q :=
  fun l hl => q _ _ _ (Ext.new (R.free hl)) (R.new hl) (is_lst.mpr ⟨l, _, rfl, upd_same, IsL.txts⟩)
theorem ok_split {K : PySem.W.Frag} : M1ok K (fun x xs H Q => ∃ a b, x = .str a ∧ xs = [.str b] ∧ (b.length == 0) = false ∧ a.length + 2 ≤ sizeLine ∧ rNewStrs (Txt.split a b) H Q) gSplit := by
  intro β P σ H G s a y dy d R i e Q q
  unfold gSplit at e
  split at e
  · rename_i b
    split at e
    · rename_i c
      cases e
      rw [is_str.mp i]
      exact ⟨a, b, rfl, rfl, c.1, c.2, new_strs R q⟩
    · cases e
  · cases e
theorem ok_partition {K : PySem.W.Frag} : M1ok K (fun x xs H Q => ∃ a b, x = .str a ∧ xs = [.str b] ∧ (b.length == 0) = false ∧ a.length ≤ sizeLine ∧
    ∀ p, H p = none → Q (.ref p) (upd H p (.tup [.str (Txt.partition a b).1, .str (Txt.partition a b).2.1, .str (Txt.partition a b).2.2]))) gPartition := by
  intro β P σ H G s a y dy d R i e Q q
  unfold gPartition at e
  split at e
  · rename_i b
    split at e
    · rename_i c
      cases e
      rw [is_str.mp i]
      refine ⟨a, b, rfl, rfl, c.1, c.2, fun l hl => ?_⟩
      exact q _ _ _ (Ext.new (R.free hl)) (R.new hl) (is_tup.mpr ⟨l, _, rfl, .inl (.inl upd_same), isl_cons.mpr ⟨_, _, rfl, is_str.mpr rfl, isl_cons.mpr ⟨_, _, rfl, is_str.mpr rfl, isl_cons.mpr ⟨_, _, rfl, is_str.mpr rfl, isl_nil.mpr rfl⟩⟩⟩⟩)
    · cases e
  · cases e
theorem ok_starts {K : PySem.W.Frag} : M1ok K (fun x xs H Q => ∃ a b, x = .str a ∧ xs = [.str b] ∧ Q (.bl (Txt.startswith a b)) H) gStarts := by
  intro β P σ H G s a y dy d R i e Q q
  unfold gStarts at e
  split at e
  · rename_i b
    cases e
    rw [is_str.mp i]
    exact ⟨a, b, rfl, rfl, q _ H G (Ext.refl G) R (is_bl.mpr rfl)⟩
  · cases e
theorem ok_find {K : PySem.W.Frag} : M1ok K (fun x xs H Q => ∃ a b, x = .str a ∧ xs = [.str b] ∧ Q (.int (Txt.find a b)) H) gFind := by
  intro β P σ H G s a y dy d R i e Q q
  unfold gFind at e
  split at e
  · rename_i b
    cases e
    rw [is_str.mp i]
    exact ⟨a, b, rfl, rfl, q _ H G (Ext.refl G) R (is_int.mpr rfl)⟩
  · cases e
theorem de_m1 {id : String} {name : Str} {r : V → List V → Hp → VK → Prop} {g : Str → Dt → Option Dt} (slot : Slot "str" name id) (ty : typeOf (.builtin id) = pure (.type "method_descriptor")) (rule : MtR X id r) (hr : M1ok X.K r g) (ho : DE X o f1) (he : DE X e f2)
    (hs : starEach [e] X.env = [(false, eval e X.env)] := by rfl) (hbase : attributeBase o name X.env (eval o X.env) = eval o X.env := by rfl) (hline : (apos.endLine == pos.line) = true := by rfl) :
    DE X (.Call (.Attribute o name apos) [e] [] pos) (mM1 g f1 f2) := by
  obtain ⟨t, p1, o1⟩ := ho
  obtain ⟨u, p2, o2⟩ := he
  exact ⟨_, pe_m1 slot ty rule p1 p2 hs hbase hline, te_m1 hr o1 o2⟩
theorem de_join (ho : DE X o f1) (he : DE X e f2) (hs : starEach [e] X.env = [(false, eval e X.env)] := by rfl) (hbase : attributeBase o "join" X.env (eval o X.env) = eval o X.env := by rfl) (hline : (apos.endLine == pos.line) = true := by rfl) :
    DE X (.Call (.Attribute o "join" apos) [e] [] pos) (mM1 gJoin f1 f2) := by
  obtain ⟨t, p1, o1⟩ := ho
  obtain ⟨u, p2, o2⟩ := he
  exact ⟨_, pe_join p1 p2 hs hbase hline, te_m1 ok_join o1 o2⟩
theorem de_split (ho : DE X o f1) (he : DE X e f2) (hs : starEach [e] X.env = [(false, eval e X.env)] := by rfl) (hbase : attributeBase o "split" X.env (eval o X.env) = eval o X.env := by rfl) (hline : (apos.endLine == pos.line) = true := by rfl) :
    DE X (.Call (.Attribute o "split" apos) [e] [] pos) (mM1 gSplit f1 f2) := by
  obtain ⟨t, p1, o1⟩ := ho
  obtain ⟨u, p2, o2⟩ := he
  exact ⟨_, pe_split p1 p2 hs hbase hline, te_m1 ok_split o1 o2⟩
end
end DL

namespace DL
open PySem PySem.Spec PyProof.Rows L2
variable [Tabs] [Me]

/-! ### defs -/
omit [Me] in
abbrev FD := List Dt → List Dt → Option (Dt × List Dt)
omit [Me] in
def spD (K : PySem.W.Frag) (n : Nat) (F : FD) : Sp := fun vs H Q _ => ∃ (β : Addr) (P G : Hp) (ds bg : List Dt) (r : Dt) (bg' : List Dt), vs.length = n ∧ IsL K β G ds vs ∧ Rel K β P [] H G ⟨[], bg⟩ ∧ F ds bg = some (r, bg') ∧
  ∀ v H' G', Ext G G' → Rel K β P [] H' G' ⟨[], bg'⟩ → IsD K β G' r v → Q v H'
omit [Me] in
def mApp (F : FD) (f : DM (List Dt)) : DM Dt := fun s => (f s).bind fun p => (F p.1 p.2.bag).bind fun q => some (q.1, { p.2 with bag := q.2 })
section
variable {X : Cx}
theorem te_app {n : Nat} {K : PySem.W.Frag} {F : FD} {t : TA} {f : DM (List Dt)} (ho : TAok K t f) (hn : ∀ s ds s', f s = some (ds, s') → ds.length = n) : TEok K (tCall (spD K n F) [] E0 t) (mApp F f) := by
  intro β P σ H G s d s' R e Q q
  unfold mApp at e
  obtain ⟨⟨x, s1⟩, e1, e⟩ := Option.bind_eq_some_iff.mp e
  obtain ⟨⟨y, bg'⟩, e2, e⟩ := Option.bind_eq_some_iff.mp e
  cases e
  refine ho β P σ H G s x s1 R e1 _ fun vs H1 G1 x1 R1 i1 => ?_
  rw [List.append_nil]
  exact ⟨β, shut β H1 G1, G1, x, s1.bag, y, bg', by rw [i1.len]; exact hn _ _ _ e1, i1, R1.callee, e2, fun v H' G' x2 C i => q v H' G' (x1.trans x2) (R1.back x2 C) i⟩
theorem len_nil {n : Nat} (h : n = 0 := by rfl) : ∀ s ds s', mNil s = some (ds, s') → ds.length = n := fun s ds s' e => by cases e; exact h.symm
theorem len_cons {f : DM Dt} {g : DM (List Dt)} {n m : Nat} (hg : ∀ s ds s', g s = some (ds, s') → ds.length = n) (h : m = n + 1 := by rfl) : ∀ s ds s', mCons f g s = some (ds, s') → ds.length = m := fun s ds s' e => by
  unfold mCons at e
  obtain ⟨⟨x, s1⟩, e1, e⟩ := Option.bind_eq_some_iff.mp e
  obtain ⟨⟨y, s2⟩, e2, e⟩ := Option.bind_eq_some_iff.mp e
  cases e
  simp [hg _ _ _ e2, h]
theorem de_call {k : Nat} {f : Addr} {fd : FuncData} {ps : List Str} {n : Nat} {F : FD} {x : Str} {e : Expr} {es : List Expr} {p pos : Pos} {g : DM (List Dt)} (FF : FnOk X.prog X.w X.K X.mg X.base CX0 k f fd ps (spD X.K n F)) (hr : Room k X.A) (hg : Gl X x) (hm : X.mg x = some (.ref f)) (hk : PySem.W.keepIn X.K (.ref f) = true) (hb : Binds X.K fd ps [])
    (ha : DA X (e :: es) g) (hn : ∀ s ds s', g s = some (ds, s') → ds.length = n) (hdb : (x == ("__debug__" : Str)) = false := by decide) (he : starEach (e :: es) X.env = (false, eval e X.env) :: starEach es X.env := by rfl) (hpl : (backTo pos (starEach es X.env)).any (·.1) = false := by rfl) :
    DE X (.Call (.Name x p) (e :: es) [] pos) (mApp F g) := by
  obtain ⟨t, p1, o1⟩ := ha
  exact ⟨_, pe_call FF hr hg hm hk hb .nil pass0 p1 hdb he hpl, te_app o1 hn⟩
theorem de_call0 {k : Nat} {f : Addr} {fd : FuncData} {ps : List Str} {F : FD} {x : Str} {p pos : Pos} (FF : FnOk X.prog X.w X.K X.mg X.base CX0 k f fd ps (spD X.K 0 F)) (hr : Room k X.A) (hg : Gl X x) (hm : X.mg x = some (.ref f)) (hk : PySem.W.keepIn X.K (.ref f) = true) (hb : Binds X.K fd ps [])
    (hdb : (x == ("__debug__" : Str)) = false := by decide) : DE X (.Call (.Name x p) [] [] pos) (mApp F mNil) := by
  refine ⟨_, pe_call0 FF hr hg hm hk hb .nil pass0 hdb, ?_⟩
  exact te_app (t := tNil) (fun β P σ H G s b s' R e Q q => by cases e; exact q _ H G (Ext.refl G) R (isl_nil.mpr rfl)) len_nil
end

/-! ### targets -/
omit [Me] in
def DG (X : Cx) (tg : Expr) (is : List Nat) (h : Dt → Sta → Option Sta) : Prop := ∃ g, PG X tg g ∧ ∀ (β : Addr) (P : Hp) (σ : L2.St) (H G : Hp) (s : Sta) (d : Dt) (v : V) (s' : Sta), Rel X.K β P σ H G s → IsD X.K β G d v → h d s = some s' →
  ∀ Q : L2.St → Hp → Prop, (∀ σ' H' G', Ext G G' → Rel X.K β P σ' H' G' s' → (∀ j, j ∉ is → σ'[j]? = σ[j]?) → σ'.length = σ.length → Q σ' H') → g v σ H Q
omit [Me] in
def DGs (X : Cx) (tgs : List Expr) (is : List Nat) (h : List Dt → Sta → Option Sta) : Prop := ∃ g, PGs X tgs g ∧ ∀ (β : Addr) (P : Hp) (σ : L2.St) (H G : Hp) (s : Sta) (ds : List Dt) (vs : List V) (s' : Sta), Rel X.K β P σ H G s → IsL X.K β G ds vs → h ds s = some s' →
  ∀ Q : L2.St → Hp → Prop, (∀ σ' H' G', Ext G G' → Rel X.K β P σ' H' G' s' → (∀ j, j ∉ is → σ'[j]? = σ[j]?) → σ'.length = σ.length → Q σ' H') → g vs σ H Q
omit [Me] in
def hName (i : Nat) (d : Dt) (s : Sta) : Option Sta := some { s with sl := s.sl.set i (some (.dat d)) }
omit [Me] in
def hNil : List Dt → Sta → Option Sta
  | [], s => some s
  | _, _ => none
omit [Me] in
def hCons (h : Dt → Sta → Option Sta) (k : List Dt → Sta → Option Sta) : List Dt → Sta → Option Sta
  | d :: r, s => (h d s).bind (k r)
  | [], _ => none
omit [Me] in
def hTup (n : Nat) (k : List Dt → Sta → Option Sta) : Dt → Sta → Option Sta
  | .tup l, s => if l.length = n then k l s else none
  | _, _ => none
omit [Me] in
/-- bag[i] = .. -/
def hBag (fo fi : DM Dt) : Dt → Sta → Option Sta := fun d s => (fo s).bind fun p => match p.1 with
  | .bag => (fi p.2).bind fun q => match q.1 with
    | .int k => (ixN q.2.bag.length k).bind fun j => if plain d = true then some { q.2 with bag := q.2.bag.set j d } else none
    | _ => none
  | _ => none
mutual
theorem plain_free {K : PySem.W.Frag} {β γ : Addr} {G : Hp} : ∀ (d : Dt) (v : V), plain d = true → IsD K β G d v → IsD K γ G d v
  | .non, _, _, h => h
  | .bl _, _, _, h => h
  | .int _, _, _, h => h
  | .str _, _, _, h => h
  | .bag, _, p, _ => by cases p
  | .dic _ _, _, p, _ => by cases p
  | .ins _ _ _, _, p, _ => by cases p
  | .err _ _ _, _, p, _ => by cases p
  | .tup l, v, p, h => by
    obtain ⟨a, vs, rfl, h1, h2⟩ := is_tup.mp h
    exact is_tup.mpr ⟨a, vs, rfl, h1, plains_free l vs (by unfold plain at p; exact p) h2⟩
  | .lst l, v, p, h => by
    obtain ⟨a, vs, rfl, h1, h2⟩ := is_lst.mp h
    exact is_lst.mpr ⟨a, vs, rfl, h1, plains_free l vs (by unfold plain at p; exact p) h2⟩
theorem plains_free {K : PySem.W.Frag} {β γ : Addr} {G : Hp} : ∀ (l : List Dt) (vs : List V), plains l = true → IsL K β G l vs → IsL K γ G l vs
  | [], _, _, h => h
  | d :: l, vs, p, h => by
    obtain ⟨v, r, rfl, h1, h2⟩ := isl_cons.mp h
    unfold plains at p
    rw [Bool.and_eq_true] at p
    exact isl_cons.mpr ⟨v, r, rfl, plain_free d v p.1 h1, plains_free l r p.2 h2⟩
end
section
variable {X : Cx}
theorem Rel.setBag {K : PySem.W.Frag} {β : Addr} {P : Hp} {σ : L2.St} {H G : Hp} {s : Sta} (R : Rel K β P σ H G s) {bg : List Dt} {us : List V} (h : IsL K β G bg us) : Rel K β P σ (upd H β (.lst us)) G { s with bag := bg } where
  len := R.len
  gh := fun a o e => by
    obtain ⟨vs, h1, h2, _⟩ := R.bag
    rw [upd_ne (ne_of_none e h2)]; exact R.gh a o e
  pr := fun a o e => by
    have n : a ≠ β := fun z => by subst z; rw [R.pb] at e; cases e
    rw [upd_ne n]; exact R.pr a o e
  pb := R.pb
  bag := by
    obtain ⟨vs, h1, h2, _⟩ := R.bag
    exact ⟨us, upd_same, h2, h⟩
  dat := R.dat
  own := fun i l e => by
    obtain ⟨p, vs, h1, h2, h3, h4, h5, h6⟩ := R.own i l e
    exact ⟨p, vs, h1, by rw [upd_ne h5]; exact h2, h3, h4, h5, h6⟩
  dj := R.dj
  obj := fun i c ks l e => by
    obtain ⟨p, C, dx, vs, h1, h0, h2, h3⟩ := R.obj i c ks l e
    have n : p ≠ β := fun z => by
      obtain ⟨us, b1, _⟩ := R.bag
      rw [← z, h2] at b1
      cases b1
    exact ⟨p, C, dx, vs, h1, h0, by rw [upd_ne n]; exact h2, h3⟩
  oj := R.oj
  fns := R.fns
  tabs := fun q hq => by
    obtain ⟨t, g, n⟩ := R.tabs q hq
    obtain ⟨ws, b1, _⟩ := R.bag
    exact ⟨t.of (upd_ne (t.neL b1)) (Ext.refl G), g, n⟩
  pt := R.pt
  nt := R.nt
theorem dg_name {i : Nat} {x : Str} {pos : Pos} (hN : X.N.Nodup) (hi : X.N[i]? = some x) (hx : Loc X.env.scope x) (hf : X.fn x = true ∨ X.env.scope.names.lookup x = some .local := by first | exact .inl rfl | exact .inr rfl | assumption) : DG X (.Name x pos) [i] (hName i) := by
  refine ⟨_, pg_name hN hi hx hf, fun β P σ H G s d v s' R h e Q q => ?_⟩
  cases e
  refine q _ H G (Ext.refl G) (R.set h) (fun j hj => ?_) (by simp)
  rw [List.getElem?_set_ne]
  intro e; apply hj; simp [e]
theorem dgs_nil : DGs X [] [] hNil := ⟨_, pgs_nil, fun β P σ H G s ds vs s' R h e Q q => by
  cases ds with
  | nil => cases e; exact ⟨isl_nil.mp h, q σ H G (Ext.refl G) R (fun _ _ => rfl) rfl⟩
  | cons d r => cases e⟩
theorem dgs_cons {e : Expr} {es : List Expr} {is js : List Nat} {h : Dt → Sta → Option Sta} {k : List Dt → Sta → Option Sta} (h1 : DG X e is h) (h2 : DGs X es js k) (hs : (assignEach (e :: es) X.env).map (·.2) = assign e X.env :: (assignEach es X.env).map (·.2) := by rfl) :
    DGs X (e :: es) (is ++ js) (hCons h k) := by
  obtain ⟨g, p1, o1⟩ := h1
  obtain ⟨g2, p2, o2⟩ := h2
  refine ⟨_, pgs_cons p1 p2 hs, fun β P σ H G s ds vs s' R hi e Q q => ?_⟩
  cases ds with
  | nil => cases e
  | cons d r =>
    obtain ⟨v, us, rfl, i1, i2⟩ := isl_cons.mp hi
    obtain ⟨s1, e1, e2⟩ := Option.bind_eq_some_iff.mp (show (h d s).bind (k r) = some s' from e)
    refine ⟨v, us, rfl, o1 β P σ H G s d v s1 R i1 e1 _ fun σ1 H1 G1 x1 R1 c1 l1 => ?_⟩
    refine o2 β P σ1 H1 G1 s1 r us s' R1 (IsL.mono x1 _ _ i2) e2 _ fun σ2 H2 G2 x2 R2 c2 l2 => ?_
    refine q σ2 H2 G2 (x1.trans x2) R2 (fun j hj => ?_) (l2.trans l1)
    rw [List.mem_append, not_or] at hj
    exact (c2 j hj.2).trans (c1 j hj.1)
theorem dg_tup {es : List Expr} {k : Nat} {pos : Pos} {n : Nat} {is : List Nat} {h : List Dt → Sta → Option Sta} (hc : X.calm = true) (hg : DGs X es is h) (hn : (assignEach es X.env).length = n := by rfl) (hst : (assignEach es X.env).findIdx? (·.1) = none := by rfl) :
    DG X (.Tuple es k pos) is (hTup n h) := by
  obtain ⟨g, p1, o1⟩ := hg
  refine ⟨_, pg_tup hc p1 hn hst, fun β P σ H G s d v s' R hi e Q q => ?_⟩
  cases d with
  | tup l =>
    obtain ⟨a, vs, rfl, h1, h2⟩ := is_tup.mp hi
    unfold hTup at e
    dsimp only at e
    split at e
    · rename_i c
      exact ⟨a, vs, rfl, ext_t R.gh h1, by rw [h2.len]; exact c, o1 β P σ H G s l vs s' R h2 e Q q⟩
    · cases e
  | _ => cases e
theorem dg_bag {o i : Expr} {fo fi : DM Dt} {pos : Pos} (ho : DE X o fo) (hi : DE X i fi)
    (ha : ∀ v, assign (.Subscript o i pos) X.env v = (do
      let ov ← holding [v] (eval o X.env)
      let iv ← holding [v, ov] (eval i X.env)
      standAt pos
      holding [v, ov, iv] (setItem ov iv v)
      release [v, ov, iv] []) := by intro _; rfl) : DG X (.Subscript o i pos) [] (hBag fo fi) := by
  obtain ⟨t, p1, o1⟩ := ho
  obtain ⟨u, p2, o2⟩ := hi
  refine ⟨_, pg_sub p1 p2 set_list ha, fun β P σ H G s d v s' R h e Q q => ?_⟩
  unfold hBag at e
  obtain ⟨⟨x, s1⟩, e1, e⟩ := Option.bind_eq_some_iff.mp e
  cases x with
  | bag =>
    obtain ⟨⟨y, s2⟩, e2, e⟩ := Option.bind_eq_some_iff.mp e
    cases y with
    | int k =>
      obtain ⟨j, e3, e⟩ := Option.bind_eq_some_iff.mp e
      split at e
      · rename_i c
        cases e
        refine o1 β P σ H G s _ s1 R e1 _ fun w H1 G1 x1 R1 i1 => ?_
        refine o2 β P σ H1 G1 s1 _ s2 R1 e2 _ fun z H2 G2 x2 R2 i2 => ?_
        rw [is_bag.mp i1, is_int.mp i2]
        obtain ⟨vs, h1, h2, h3⟩ := R2.bag
        refine ⟨β, vs, k, j, rfl, rfl, h1, by rw [h3.len]; exact e3, ?_⟩
        exact q σ _ G2 (x1.trans x2) (R2.setBag (h3.set j (IsD.mono (x1.trans x2) _ _ h))) (fun _ _ => rfl) rfl
      · cases e
    | _ => cases e
  | _ => cases e
omit [Me] in
/-- bag[i] read -/
def mBagIx (fo fi : DM Dt) : DM Dt := fun s => (fo s).bind fun p => match p.1 with
  | .bag => (fi p.2).bind fun q => match q.1 with
    | .int k => (atI q.2.bag k).bind fun d => some (d, q.2)
    | _ => none
  | _ => none
theorem de_bagIx {a b : Expr} {fo fi : DM Dt} {pos : Pos} (ho : DE X a fo) (hi : DE X b fi) (hs : PlainIx b := by exact fun _ _ => rfl) : DE X (.Subscript a b pos) (mBagIx fo fi) := by
  obtain ⟨t, p1, o1⟩ := ho
  obtain ⟨u, p2, o2⟩ := hi
  refine ⟨_, pe_ix ix_list p1 p2 hs, fun β P σ H G s d s' R e Q q => ?_⟩
  unfold mBagIx at e
  obtain ⟨⟨x, s1⟩, e1, e⟩ := Option.bind_eq_some_iff.mp e
  cases x with
  | bag =>
    obtain ⟨⟨y, s2⟩, e2, e⟩ := Option.bind_eq_some_iff.mp e
    cases y with
    | int k =>
      obtain ⟨j, e3, e⟩ := Option.bind_eq_some_iff.mp e
      cases e
      refine o1 β P σ H G s _ s1 R e1 _ fun w H1 G1 x1 R1 i1 => ?_
      refine o2 β P σ H1 G1 s1 _ s2 R1 e2 _ fun z H2 G2 x2 R2 i2 => ?_
      rw [is_bag.mp i1, is_int.mp i2]
      obtain ⟨vs, h1, h2, h3⟩ := R2.bag
      obtain ⟨v, e4, i4⟩ := ati_ok h3 e3
      exact ⟨β, vs, k, v, rfl, rfl, .inl (.inl h1), e4, q v H2 G2 (x1.trans x2) R2 i4⟩
    | _ => cases e
  | _ => cases e
end

/-! ### statements -/
omit [Me] in
inductive Res where
  | nx | bk | ct | rt (d : Dt)
omit [Me] in
abbrev DMs := Sta → Option (Res × Sta)
omit [Me] in
def endOf (K : PySem.W.Frag) (β : Addr) (P G : Hp) (D : Ends) (r : Res) (s' : Sta) : Prop := match r with
  | .nx => ∀ σ' H' G', Ext G G' → Rel K β P σ' H' G' s' → D.nx σ' H'
  | .bk => ∀ σ' H' G', Ext G G' → Rel K β P σ' H' G' s' → D.bk σ' H'
  | .ct => ∀ σ' H' G', Ext G G' → Rel K β P σ' H' G' s' → D.ct σ' H'
  | .rt d => ∀ v σ' H' G', Ext G G' → Rel K β P σ' H' G' s' → IsD K β G' d v → D.rt v H'
theorem endOf.mono {K : PySem.W.Frag} {β : Addr} {P G G1 : Hp} {D : Ends} {r : Res} {s' : Sta} (e : Ext G G1) (h : endOf K β P G D r s') : endOf K β P G1 D r s' := by
  cases r with
  | nx => exact fun σ' H' G' x R => h σ' H' G' (e.trans x) R
  | bk => exact fun σ' H' G' x R => h σ' H' G' (e.trans x) R
  | ct => exact fun σ' H' G' x R => h σ' H' G' (e.trans x) R
  | rt d => exact fun v σ' H' G' x R => h v σ' H' G' (e.trans x) R
omit [Me] in
def TSok (K : PySem.W.Frag) (t : TS) (f : DMs) : Prop := ∀ (β : Addr) (P : Hp) (σ : L2.St) (H G : Hp) (s : Sta) (r : Res) (s' : Sta), Rel K β P σ H G s → f s = some (r, s') → ∀ D : Ends, endOf K β P G D r s' → t D σ H
omit [Me] in
def DS (X : Cx) (st : Stmt) (f : DMs) : Prop := ∃ t, PS X st t ∧ TSok X.K t f
omit [Me] in
def DSs (X : Cx) (st : List Stmt) (f : DMs) : Prop := ∃ t, PSs X st t ∧ TSok X.K t f
omit [Me] in
def kSkip : DMs := fun s => some (.nx, s)
omit [Me] in
def kSeq (f g : DMs) : DMs := fun s => (f s).bind fun p => match p.1 with
  | .nx => g p.2
  | r => some (r, p.2)
omit [Me] in
def kAsg (f : DM Dt) (h : Dt → Sta → Option Sta) : DMs := fun s => (f s).bind fun p => (h p.1 p.2).bind fun s' => some (.nx, s')
omit [Me] in
def kRet (f : DM Dt) : DMs := fun s => (f s).bind fun p => some (.rt p.1, p.2)
omit [Me] in
def kDrop (f : DM Dt) : DMs := fun s => (f s).bind fun p => some (.nx, p.2)
omit [Me] in
def kIf (c : DM Bool) (f g : DMs) : DMs := fun s => (c s).bind fun p => if p.1 = true then f p.2 else g p.2
omit [Me] in
def kCt : DMs := fun s => some (.ct, s)
omit [Me] in
def kBk : DMs := fun s => some (.bk, s)
section
variable {X : Cx}
theorem dss_nil : DSs X [] kSkip := ⟨_, pss_nil, fun β P σ H G s r s' R e D h => by cases e; exact h σ H G (Ext.refl G) R⟩
theorem dss_one {st : Stmt} {f : DMs} (h : DS X st f) : DSs X [st] f := by
  obtain ⟨t, p, o⟩ := h
  exact ⟨_, pss_one p, o⟩
theorem dss_cons {st : Stmt} {rest : List Stmt} {f g : DMs} (h1 : DS X st f) (h2 : DSs X rest g) : DSs X (st :: rest) (kSeq f g) := by
  obtain ⟨t, p, o⟩ := h1
  obtain ⟨u, p2, o2⟩ := h2
  refine ⟨_, pss_cons p p2, fun β P σ H G s r s' R e D h => ?_⟩
  unfold kSeq at e
  obtain ⟨⟨x, s1⟩, e1, e⟩ := Option.bind_eq_some_iff.mp e
  cases x with
  | nx =>
    refine o β P σ H G s .nx s1 R e1 _ ?_
    exact fun σ1 H1 G1 x1 R1 => o2 β P σ1 H1 G1 s1 r s' R1 e D (h.mono x1)
  | bk => cases e; exact o β P σ H G s .bk s1 R e1 _ h
  | ct => cases e; exact o β P σ H G s .ct s1 R e1 _ h
  | rt d => cases e; exact o β P σ H G s (.rt d) s1 R e1 _ h
theorem ds_asg {tg e : Expr} {f : DM Dt} {is : List Nat} {h : Dt → Sta → Option Sta} {pos : Pos} (he : DE X e f) (hg : DG X tg is h) (hs : swapsWithSole [tg] e pos.line X.env = pure false := by rfl) (hw : swappedStores [tg] e X.env = pure none := by rfl)
    (h1 : (assignEach [tg] X.env).map (·.2) = [assign tg X.env] := by rfl) : DS X (.Assign [tg] e pos) (kAsg f h) := by
  obtain ⟨t, p, o⟩ := he
  obtain ⟨g, p2, o2⟩ := hg
  refine ⟨_, ps_asg p p2 hs hw h1, fun β P σ H G s r s' R e D k => ?_⟩
  unfold kAsg at e
  obtain ⟨⟨x, s1⟩, e1, e⟩ := Option.bind_eq_some_iff.mp e
  obtain ⟨s2, e2, e⟩ := Option.bind_eq_some_iff.mp e
  cases e
  refine o β P σ H G s x s1 R e1 _ fun v H1 G1 x1 R1 i1 => ?_
  exact o2 β P σ H1 G1 s1 x v s' R1 i1 e2 _ fun σ2 H2 G2 x2 R2 _ _ => k σ2 H2 G2 (x1.trans x2) R2
theorem ds_set {i : Nat} {x : Str} {e : Expr} {f : DM Dt} {pos' pos : Pos} (hN : X.N.Nodup) (hi : X.N[i]? = some x) (hx : Loc X.env.scope x) (he : DE X e f) (hs : swapsWith e (some (.Name x pos')) pos.line X.env = pure false := by rfl) (hf : X.fn x = true ∨ X.env.scope.names.lookup x = some .local := by first | exact .inl rfl | exact .inr rfl | assumption) :
    DS X (.Assign [.Name x pos'] e pos) (kAsg f (hName i)) := by
  obtain ⟨t, p, o⟩ := he
  refine ⟨_, ps_set hN hi hx p hs hf, fun β P σ H G s r s' R e D k => ?_⟩
  unfold kAsg at e
  obtain ⟨⟨x, s1⟩, e1, e⟩ := Option.bind_eq_some_iff.mp e
  obtain ⟨s2, e2, e⟩ := Option.bind_eq_some_iff.mp e
  cases e2
  cases e
  refine o β P σ H G s x s1 R e1 _ fun v H1 G1 x1 R1 i1 => ?_
  exact k _ H1 G1 x1 (R1.set i1)
theorem ds_ret {e : Expr} {f : DM Dt} {pos : Pos} (he : DE X e f) : DS X (.Return (some e) pos) (kRet f) := by
  obtain ⟨t, p, o⟩ := he
  refine ⟨_, ps_ret p, fun β P σ H G s r s' R e D k => ?_⟩
  unfold kRet at e
  obtain ⟨⟨x, s1⟩, e1, e⟩ := Option.bind_eq_some_iff.mp e
  cases e
  exact o β P σ H G s x s1 R e1 _ fun v H1 G1 x1 R1 i1 => k v σ H1 G1 x1 R1 i1
theorem ds_expr {e : Expr} {f : DM Dt} {pos : Pos} (he : DE X e f) (hs : swapsWith e none pos.line X.env = pure false := by rfl) : DS X (.Expr e pos) (kDrop f) := by
  obtain ⟨t, p, o⟩ := he
  refine ⟨_, ps_expr p hs, fun β P σ H G s r s' R e D k => ?_⟩
  unfold kDrop at e
  obtain ⟨⟨x, s1⟩, e1, e⟩ := Option.bind_eq_some_iff.mp e
  cases e
  exact o β P σ H G s x s1 R e1 _ fun v H1 G1 x1 R1 i1 => k σ H1 G1 x1 R1
theorem ds_if {c : Expr} {a b : List Stmt} {fc : DM Bool} {f g : DMs} {pos : Pos} (hc : DT X c fc) (ha : DSs X a f) (hb : DSs X b g) : DS X (.If c a b pos) (kIf fc f g) := by
  obtain ⟨t, p, o⟩ := hc
  obtain ⟨t2, p2, o2⟩ := ha
  obtain ⟨t3, p3, o3⟩ := hb
  refine ⟨_, ps_if p p2 p3, fun β P σ H G s r s' R e D k => ?_⟩
  unfold kIf at e
  obtain ⟨⟨x, s1⟩, e1, e⟩ := Option.bind_eq_some_iff.mp e
  refine o β P σ H G s x s1 R e1 _ fun H1 G1 x1 R1 => ?_
  cases x with
  | true => rw [if_pos rfl] at e ⊢; exact o2 β P σ H1 G1 s1 r s' R1 e D (k.mono x1)
  | false => rw [if_neg Bool.false_ne_true] at e ⊢; exact o3 β P σ H1 G1 s1 r s' R1 e D (k.mono x1)
theorem ds_cont {pos : Pos} : DS X (.Continue pos) kCt := ⟨_, ps_continue, fun β P σ H G s r s' R e D k => by cases e; exact k σ H G (Ext.refl G) R⟩
theorem ds_never {st : Stmt} : DS X st fun _ => none := ⟨_, ps_never, fun β P σ H G s r s' R e D k => by cases e⟩
end

/-! ### a def -/
omit [Me] in
def fnD (n : Nat) (f : DMs) : FD := fun ds bg => (f ⟨ds.map (fun d => some (.dat d)) ++ List.replicate (n - ds.length) none, bg⟩).bind fun p => match p.1 with
  | .rt d => some (d, p.2.bag)
  | .nx => some (.non, p.2.bag)
  | _ => none
theorem start_get {ds : List Dt} {n i : Nat} {x : Slo} (h : (ds.map (fun d => some (Slo.dat d)) ++ List.replicate (n - ds.length) none)[i]? = some (some x)) : ∃ d, ds[i]? = some d ∧ x = .dat d := by
  rw [List.getElem?_append] at h
  split at h
  · rw [List.getElem?_map] at h
    cases e : ds[i]? with
    | none => rw [e] at h; cases h
    | some d => rw [e] at h; cases h; exact ⟨d, rfl, rfl⟩
  · rw [List.getElem?_replicate] at h
    split at h <;> cases h
theorem rel_start {K : PySem.W.Frag} {β : Addr} {P H G : Hp} {N : List Str} {ds bg : List Dt} {vs : List V} (i : IsL K β G ds vs) (R : Rel K β P [] H G ⟨[], bg⟩) :
    Rel K β P (L2.start N vs) H G ⟨ds.map (fun d => some (.dat d)) ++ List.replicate (N.length - ds.length) none, bg⟩ where
  len := by unfold L2.start; simp [i.len]
  gh := R.gh
  pr := R.pr
  pb := R.pb
  bag := R.bag
  dat := fun j d e => by
    obtain ⟨d', e1, e2⟩ := start_get e
    cases e2
    obtain ⟨v, h1, h2⟩ := i.get e1
    refine ⟨v, ?_, h2⟩
    unfold L2.start
    have hl : j < vs.length := (List.getElem?_eq_some_iff.mp h1).1
    rw [List.getElem?_append_left (by simpa using hl), List.getElem?_map, h1]
    rfl
  own := fun j l e => by
    obtain ⟨d', e1, e2⟩ := start_get e
    cases e2
  dj := fun j _ l _ p e => by
    obtain ⟨d', e1, e2⟩ := start_get e
    cases e2
  obj := fun j c ks l e => by
    obtain ⟨d', e1, e2⟩ := start_get e
    cases e2
  oj := fun j _ c ks l _ _ _ e => by
    obtain ⟨d', e1, e2⟩ := start_get e
    cases e2
  fns := fun j l q e => by
    obtain ⟨d', e1, e2⟩ := start_get e
    cases e2
  tabs := R.tabs
  pt := R.pt
  nt := R.nt
theorem Rel.leave {K : PySem.W.Frag} {β : Addr} {P : Hp} {σ : L2.St} {H G : Hp} {s : Sta} (R : Rel K β P σ H G s) : Rel K β P [] H G ⟨[], s.bag⟩ where
  len := rfl
  gh := R.gh
  pr := R.pr
  pb := R.pb
  bag := R.bag
  dat := fun i d e => by simp at e
  own := fun i d e => by simp at e
  dj := fun i j l m p e => by simp at e
  obj := fun i c ks l e => by simp at e
  oj := fun i j c ks l c' ks' l' e => by simp at e
  fns := fun i l q e => by simp at e
  tabs := R.tabs
  pt := R.pt
  nt := R.nt
section
variable {P : Program} {w : World} {K : PySem.W.Frag} {mg : Str → Option Value} {base : Heap}
theorem fn_ok {x qual : Str} {st : Stmt} {f : Addr} {fd : FuncData} {N ps : List Str} {k n : Nat} {g : DMs} (F : Fun K x qual st f fd) (S : FnScope N ps (defScope st)) (hn : ps.length = n := by rfl)
    (hb : ∀ (cdv : Value) (A : Around) (outer : List Env) (s : Shared) (H : Hp) (E : XK), Room k (A.deeper (envOfC qual (defScope st) s.heap.objs.size f cdv)) →
      DSs (cxOf CX0 P w K mg base N qual (defScope st) f cdv A outer s H E).nox (defBody st) g) : FnOk P w K mg base CX0 (k + 1) f fd ps (spD K n (fnD N.length g)) := by
  refine F.ok S (fun vs H Q E h => ?_) (fun cdv A outer s H vs Q E hr h => ?_)
  · obtain ⟨β, P, G, ds, bg, r, bg', h, _⟩ := h
    rw [hn]; exact h
  · obtain ⟨β, PP, G, ds, bg, r, bg', hl, i, R, e, q⟩ := h
    obtain ⟨t, p, o⟩ := hb cdv A outer s H E hr
    refine ⟨t, p, ?_⟩
    unfold fnD at e
    obtain ⟨⟨res, s'⟩, e1, e⟩ := Option.bind_eq_some_iff.mp e
    refine o β PP (L2.start N vs) H G _ res s' (rel_start i R) e1 _ ?_
    cases res with
    | nx =>
      cases e
      exact fun σ' H' G' x R' => q .non H' G' x R'.leave (is_non.mpr rfl)
    | rt d =>
      cases e
      exact fun v σ' H' G' x R' iv => q v H' G' x R'.leave iv
    | bk => cases e
    | ct => cases e
/-- a promise that nobody can call -/
theorem fn_none {f : Addr} {fd : FuncData} {ps : List Str} {k n : Nat} (hn : ps.length = n := by rfl) : FnOk P w K mg base CX0 k f fd ps (spD K n fun _ _ => none) :=
  ⟨fun vs H Q E h => by obtain ⟨β, P, G, ds, bg, r, bg', h, _⟩ := h; rw [hn]; exact h, fun A outer s H args us vs Q E _ _ _ _ h => by
    obtain ⟨β, P, G, ds, bg, r, bg', _, _, _, e, _⟩ := h
    cases e⟩
end
end DL

namespace DL
open PySem PySem.Spec PyProof.Rows L2
variable [Tabs] [Me]

/-! ### canonical readings -/
omit [Me] in
def tOf (K : PySem.W.Frag) (f : DM Dt) : TE := fun σ H Q => ∃ (β : Addr) (P G : Hp) (s : Sta) (d : Dt) (s' : Sta), Rel K β P σ H G s ∧ f s = some (d, s') ∧ ∀ v H' G', Ext G G' → Rel K β P σ H' G' s' → IsD K β G' d v → Q v H'
omit [Me] in
def ttOf (K : PySem.W.Frag) (f : DM Bool) : TT := fun σ H Q => ∃ (β : Addr) (P G : Hp) (s : Sta) (d : Bool) (s' : Sta), Rel K β P σ H G s ∧ f s = some (d, s') ∧ ∀ H' G', Ext G G' → Rel K β P σ H' G' s' → Q d H'
omit [Me] in
def TGok (K : PySem.W.Frag) (g : TG) (is : List Nat) (h : Dt → Sta → Option Sta) : Prop := ∀ (β : Addr) (P : Hp) (σ : L2.St) (H G : Hp) (s : Sta) (d : Dt) (v : V) (s' : Sta), Rel K β P σ H G s → IsD K β G d v → h d s = some s' →
  ∀ Q : L2.St → Hp → Prop, (∀ σ' H' G', Ext G G' → Rel K β P σ' H' G' s' → (∀ j, j ∉ is → σ'[j]? = σ[j]?) → σ'.length = σ.length → Q σ' H') → g v σ H Q
omit [Me] in
def gOf (K : PySem.W.Frag) (is : List Nat) (h : Dt → Sta → Option Sta) : TG := fun v σ H Q => ∃ (β : Addr) (P G : Hp) (s : Sta) (d : Dt) (s' : Sta), Rel K β P σ H G s ∧ IsD K β G d v ∧ h d s = some s' ∧
  ∀ σ' H' G', Ext G G' → Rel K β P σ' H' G' s' → (∀ j, j ∉ is → σ'[j]? = σ[j]?) → σ'.length = σ.length → Q σ' H'
theorem tOf_ok {K : PySem.W.Frag} {f : DM Dt} : TEok K (tOf K f) f := fun β P σ H G s d s' R e Q q => ⟨β, P, G, s, d, s', R, e, q⟩
theorem ttOf_ok {K : PySem.W.Frag} {f : DM Bool} : TTok K (ttOf K f) f := fun β P σ H G s d s' R e Q q => ⟨β, P, G, s, d, s', R, e, q⟩
theorem gOf_ok {K : PySem.W.Frag} {is : List Nat} {h : Dt → Sta → Option Sta} : TGok K (gOf K is h) is h := fun β P σ H G s d v s' R i e Q q => ⟨β, P, G, s, d, s', R, i, e, q⟩
section
variable {X : Cx}
theorem DE.pe {e : Expr} {f : DM Dt} (h : DE X e f) : PE X e (tOf X.K f) := by
  obtain ⟨t, p, o⟩ := h
  refine ⟨fun pins s σ H Q I k => ?_⟩
  obtain ⟨β, P, G, a, d, a', R, e1, q⟩ := k
  exact p.run pins s σ H Q I (o β P σ H G a d a' R e1 Q q)
theorem DT.pt {e : Expr} {f : DM Bool} (h : DT X e f) : PT X e (ttOf X.K f) := by
  obtain ⟨t, p, o⟩ := h
  refine ⟨fun pins s σ H Q I k => ?_⟩
  obtain ⟨β, P, G, a, d, a', R, e1, q⟩ := k
  exact p.run pins s σ H Q I (o β P σ H G a d a' R e1 Q q)
theorem DG.pg {e : Expr} {is : List Nat} {h : Dt → Sta → Option Sta} (k : DG X e is h) : PG X e (gOf X.K is h) := by
  obtain ⟨g, p, o⟩ := k
  refine ⟨fun pins s σ H v u Q I r k => ?_⟩
  obtain ⟨β, P, G, a, d, a', R, i, e1, q⟩ := k
  exact p.run pins s σ H v u Q I r (o β P σ H G a d _ a' R i e1 Q q)
end

/-! ### what is walked -/
omit [Me] in
def TIok (K : PySem.W.Frag) (wi : TI) (f : DM (List Dt)) : Prop := ∀ (β : Addr) (P : Hp) (σ : L2.St) (H G : Hp) (s : Sta) (l : List Dt) (s' : Sta), Rel K β P σ H G s → f s = some (l, s') →
  ∀ R : It → Hp → Prop, (∀ (J : It) (H' G' : Hp) (Gd : Hp → Prop) (Y : Nat → Hp → V → Hp → Prop), Ext G G' → Rel K β P σ H' G' s' → Walk J l.length Gd Y → (∀ H1 G1, Ext G' G1 → Ext G1 H1 → Gd H1) →
    (∀ (i : Nat) (d : Dt) (H1 : Hp) (x : V) (H2 P1 : Hp) (σ1 : L2.St) (G1 : Hp) (s1 : Sta), l[i]? = some d → Ext G' G1 → Rel K β P1 σ1 H1 G1 s1 → Y i H1 x H2 → ∃ G2, Ext G1 G2 ∧ Rel K β P1 σ1 H2 G2 s1 ∧ IsD K β G2 d x) → R J H') → wi σ H R
omit [Me] in
def DI (X : Cx) (tg iter : Expr) (f : DM (List Dt)) : Prop := ∃ wi, PI X tg iter wi ∧ TIok X.K wi f
omit [Me] in
def wLst (f : DM Dt) : DM (List Dt) := fun s => (f s).bind fun p => match p.1 with
  | .lst l => some (l, p.2)
  | _ => none
omit [Me] in
def wTup (f : DM Dt) : DM (List Dt) := fun s => (f s).bind fun p => match p.1 with
  | .tup l => some (l, p.2)
  | _ => none
omit [Me] in
def wStr (f : DM Dt) : DM (List Dt) := fun s => (f s).bind fun p => match p.1 with
  | .str z => some (z.cps.toList.map fun c => .str ⟨#[c]⟩, p.2)
  | _ => none
omit [Me] in
def bRng (j : Int) : Bool := decide (-(2 ^ 62) ≤ j) && decide (j < 2 ^ 62)
omit [Me] in
def rngD (lo : Int) (n : Nat) : List Dt := (List.range n).map fun i => .int (lo + (i : Nat))
omit [Me] in
def wRng1 (f : DM (List Dt)) : DM (List Dt) := fun s => (f s).bind fun p => match p.1 with
  | [.int j] => if bRng j = true then some (rngD 0 j.toNat, p.2) else none
  | _ => none
omit [Me] in
def wRng2 (f : DM (List Dt)) : DM (List Dt) := fun s => (f s).bind fun p => match p.1 with
  | [.int i, .int j] => if (bRng i && bRng j) = true then some (rngD i (j - i).toNat, p.2) else none
  | _ => none
omit [Me] in
def zipD : List Dt → List Dt → List Dt
  | x :: xs, y :: ys => .tup [x, y] :: zipD xs ys
  | _, _ => []
omit [Me] in
def wZip (f : DM (List Dt)) : DM (List Dt) := fun s => (f s).bind fun p => match p.1 with
  | [.lst a, .lst b] => some (zipD a b, p.2)
  | [.tup a, .tup b] => some (zipD a b, p.2)
  | _ => none
theorem zip_len : ∀ (a b : List Dt), (zipD a b).length = min a.length b.length
  | [], [] => rfl
  | [], _ :: _ => rfl
  | _ :: _, [] => rfl
  | x :: a, y :: b => by simp only [zipD, List.length_cons, zip_len a b]; omega
theorem zip_get : ∀ (a b : List Dt) (i : Nat) (d : Dt), (zipD a b)[i]? = some d → ∃ x y, a[i]? = some x ∧ b[i]? = some y ∧ d = .tup [x, y]
  | [], [], i, d, h => by simp [zipD] at h
  | [], _ :: _, i, d, h => by simp [zipD] at h
  | _ :: _, [], i, d, h => by simp [zipD] at h
  | x :: a, y :: b, 0, d, h => by simp [zipD] at h; exact ⟨x, y, rfl, rfl, h.symm⟩
  | x :: a, y :: b, i + 1, d, h => by
    simp [zipD] at h
    obtain ⟨u, v, h1, h2, h3⟩ := zip_get a b i d h
    exact ⟨u, v, by simpa using h1, by simpa using h2, h3⟩
theorem same_turn {K : PySem.W.Frag} {β : Addr} {P1 : Hp} {σ1 : L2.St} {H1 G1 : Hp} {s1 : Sta} (R : Rel K β P1 σ1 H1 G1 s1) {d : Dt} {x : V} (h : IsD K β G1 d x) : ∃ G2, Ext G1 G2 ∧ Rel K β P1 σ1 H1 G2 s1 ∧ IsD K β G2 d x := ⟨G1, Ext.refl G1, R, h⟩
section
variable {X : Cx} {tg e : Expr} {f : DM Dt}
theorem di_list (h : DE X e f) : DI X tg e (wLst f) := by
  obtain ⟨t, p, o⟩ := h
  refine ⟨_, pi_list p, fun β P σ H G s l s' R e Q q => ?_⟩
  unfold wLst at e
  obtain ⟨⟨x, s1⟩, e1, e⟩ := Option.bind_eq_some_iff.mp e
  cases x with
  | lst m =>
    cases e
    refine o β P σ H G s _ s1 R e1 _ fun v H1 G1 x1 R1 i1 => ?_
    obtain ⟨a, vs, rfl, h1, h2⟩ := is_lst.mp i1
    refine ⟨a, rfl, ⟨vs, .inl (.inl (R1.gh _ _ h1))⟩, q _ H1 G1 (fun H => SqL X.K H a vs) (YAt vs) x1 R1 (by rw [← h2.len]; exact walk_list) (fun H2 G2 x2 g => .inl (.inl (g _ _ (x2 _ _ h1)))) ?_⟩
    rintro i d H2 x H3 P1 σ1 G2 s2 hd x2 R2 ⟨rfl, hx⟩
    obtain ⟨v, e4, i4⟩ := h2.get hd
    rw [hx] at e4
    cases e4
    exact same_turn R2 (IsD.mono x2 _ _ i4)
  | _ => cases e
theorem di_tup (h : DE X e f) : DI X tg e (wTup f) := by
  obtain ⟨t, p, o⟩ := h
  refine ⟨_, pi_tup p, fun β P σ H G s l s' R e Q q => ?_⟩
  unfold wTup at e
  obtain ⟨⟨x, s1⟩, e1, e⟩ := Option.bind_eq_some_iff.mp e
  cases x with
  | tup m =>
    cases e
    refine o β P σ H G s _ s1 R e1 _ fun v H1 G1 x1 R1 i1 => ?_
    obtain ⟨a, vs, rfl, h1, h2⟩ := is_tup.mp i1
    refine ⟨a, rfl, ⟨vs, ext_t R1.gh h1⟩, q _ H1 G1 (fun H => SqT X.K H a vs) (YAt vs) x1 R1 (by rw [← h2.len]; exact walk_tup) (fun H2 G2 x2 g => ext_t (x2.trans g) h1) ?_⟩
    rintro i d H2 x H3 P1 σ1 G2 s2 hd x2 R2 ⟨rfl, hx⟩
    obtain ⟨v, e4, i4⟩ := h2.get hd
    rw [hx] at e4
    cases e4
    exact same_turn R2 (IsD.mono x2 _ _ i4)
  | _ => cases e
theorem di_str (h : DE X e f) : DI X tg e (wStr f) := by
  obtain ⟨t, p, o⟩ := h
  refine ⟨_, pi_str p, fun β P σ H G s l s' R e Q q => ?_⟩
  unfold wStr at e
  obtain ⟨⟨x, s1⟩, e1, e⟩ := Option.bind_eq_some_iff.mp e
  cases x with
  | str z =>
    cases e
    refine o β P σ H G s _ s1 R e1 _ fun v H1 G1 x1 R1 i1 => ?_
    refine ⟨z, is_str.mp i1, q _ H1 G1 (fun _ => True) _ x1 R1 (by rw [List.length_map, Array.length_toList]; exact walk_str) (fun _ _ _ _ => trivial) ?_⟩
    rintro i d H2 x H3 P1 σ1 G2 s2 hd x2 R2 ⟨rfl, c, hc, rfl⟩
    rw [List.getElem?_map, Array.getElem?_toList, hc] at hd
    cases hd
    exact same_turn R2 (is_str.mpr rfl)
  | _ => cases e
theorem bRng_ok {j : Int} (h : bRng j = true) : -(2 ^ 62) ≤ j ∧ j < 2 ^ 62 := by
  unfold bRng at h
  rw [Bool.and_eq_true] at h
  exact ⟨of_decide_eq_true h.1, of_decide_eq_true h.2⟩
theorem rng_turn {K : PySem.W.Frag} {β : Addr} {lo : Int} {n : Nat} (i : Nat) (d : Dt) (H1 : Hp) (x : V) (H2 P1 : Hp) (σ1 : L2.St) (G1 : Hp) (s1 : Sta) (hd : (rngD lo n)[i]? = some d) (R : Rel K β P1 σ1 H1 G1 s1) (y : YFn (fun i => V.int (lo + (i : Nat))) i H1 x H2) :
    ∃ G2, Ext G1 G2 ∧ Rel K β P1 σ1 H2 G2 s1 ∧ IsD K β G2 d x := by
  obtain ⟨rfl, rfl⟩ := y
  unfold rngD at hd
  rw [List.getElem?_map] at hd
  by_cases c : i < n
  · rw [List.getElem?_range c] at hd
    cases hd
    exact same_turn R (is_int.mpr rfl)
  · rw [List.getElem?_eq_none (by simpa using c)] at hd
    cases hd
theorem di_rng1 {a : Expr} {f : DM (List Dt)} {p pos : Pos} (hg : Gl X "range") (hm : X.mg "range" = none) (ha : DA X [a] f) (hs : starEach [a] X.env = [(false, eval a X.env)] := by rfl) : DI X tg (.Call (.Name "range" p) [a] [] pos) (wRng1 f) := by
  obtain ⟨t, p, o⟩ := ha
  refine ⟨_, pi_range1 hg hm p hs, fun β P σ H G s l s' R e Q q => ?_⟩
  unfold wRng1 at e
  obtain ⟨⟨x, s1⟩, e1, e⟩ := Option.bind_eq_some_iff.mp e
  split at e
  · rename_i j hx
    rw [show x = _ from hx] at e1
    split at e
    · rename_i c
      cases e
      refine o β P σ H G s _ s1 R e1 _ fun vs H1 G1 x1 R1 i1 => ?_
      obtain ⟨v, rfl, h⟩ := one_of i1
      rw [is_int.mp h]
      exact ⟨j, rfl, (bRng_ok c).1, (bRng_ok c).2, q _ H1 G1 (fun _ => True) _ x1 R1 (by rw [show (rngD 0 j.toNat).length = j.toNat by simp [rngD]]; exact walk_range) (fun _ _ _ _ => trivial) fun i d H2 x H3 P1 σ1 G2 s2 hd x2 R2 y => rng_turn i d H2 x H3 P1 σ1 G2 s2 hd R2 y⟩
    · cases e
  · cases e
theorem di_rng2 {a b : Expr} {f : DM (List Dt)} {p pos : Pos} (hg : Gl X "range") (hm : X.mg "range" = none) (ha : DA X [a, b] f) (hs : starEach [a, b] X.env = [(false, eval a X.env), (false, eval b X.env)] := by rfl) (hs2 : starEach [b] X.env = [(false, eval b X.env)] := by rfl) :
    DI X tg (.Call (.Name "range" p) [a, b] [] pos) (wRng2 f) := by
  obtain ⟨t, p, o⟩ := ha
  refine ⟨_, pi_range2 hg hm p hs hs2, fun β P σ H G s l s' R e Q q => ?_⟩
  unfold wRng2 at e
  obtain ⟨⟨x, s1⟩, e1, e⟩ := Option.bind_eq_some_iff.mp e
  split at e
  · rename_i i j hx
    rw [show x = _ from hx] at e1
    split at e
    · rename_i c
      cases e
      rw [Bool.and_eq_true] at c
      refine o β P σ H G s _ s1 R e1 _ fun vs H1 G1 x1 R1 i1 => ?_
      obtain ⟨v, r, rfl, h, h'⟩ := isl_cons.mp i1
      obtain ⟨v', rfl, h2'⟩ := one_of h'
      rw [is_int.mp h, is_int.mp h2']
      exact ⟨i, j, rfl, ⟨(bRng_ok c.1).1, (bRng_ok c.1).2, (bRng_ok c.2).1, (bRng_ok c.2).2⟩, q _ H1 G1 (fun _ => True) _ x1 R1 (by rw [show (rngD i (j - i).toNat).length = (j - i).toNat by simp [rngD]]; exact walk_range) (fun _ _ _ _ => trivial) fun i d H2 x H3 P1 σ1 G2 s2 hd x2 R2 y => rng_turn i d H2 x H3 P1 σ1 G2 s2 hd R2 y⟩
    · cases e
  · cases e
theorem pair_turn {K : PySem.W.Frag} {β : Addr} {a b : List Dt} {xs ys : List V} {G' : Hp} (h1 : IsL K β G' a xs) (h2 : IsL K β G' b ys) (i : Nat) (d : Dt) (H1 : Hp) (x : V) (H2 P1 : Hp) (σ1 : L2.St) (G1 : Hp) (s1 : Sta) (hd : (zipD a b)[i]? = some d) (e : Ext G' G1) (R : Rel K β P1 σ1 H1 G1 s1)
    (y : YPair (fun i => xs[i]?) (fun i => ys[i]?) i H1 x H2) : ∃ G2, Ext G1 G2 ∧ Rel K β P1 σ1 H2 G2 s1 ∧ IsD K β G2 d x := by
  obtain ⟨T, u, v, rfl, hT, rfl, hu, hv⟩ := y
  obtain ⟨da, db, e1, e2, rfl⟩ := zip_get a b i d hd
  obtain ⟨u', e3, i3⟩ := h1.get e1
  obtain ⟨v', e4, i4⟩ := h2.get e2
  dsimp only at hu hv
  rw [hu] at e3; cases e3
  rw [hv] at e4; cases e4
  have xx := Ext.new (o := .tup [u, v]) (R.free hT)
  exact ⟨_, xx, R.new hT, is_tup.mpr ⟨T, _, rfl, .inl (.inl upd_same), isl_cons.mpr ⟨_, _, rfl, IsD.mono (e.trans xx) _ _ i3, isl_cons.mpr ⟨_, _, rfl, IsD.mono (e.trans xx) _ _ i4, isl_nil.mpr rfl⟩⟩⟩⟩
theorem walk_zipT {K : PySem.W.Frag} {a b : Addr} {xs ys : List V} {n : Nat} (hn : n = min xs.length ys.length) : Walk (RZ.ItzT K a b) n (fun H => SqT K H a xs ∧ SqT K H b ys) (YPair (fun i => xs[i]?) (fun i => ys[i]?)) := by
  subst hn
  refine ⟨fun i _ hi q => ?_, fun _ q => ⟨xs, ys, q.1, q.2, by omega⟩, fun i H v H' _ q y => ?_⟩
  · have h1 : i < xs.length := by omega
    have h2 : i < ys.length := by omega
    exact ⟨xs, ys, xs[i], ys[i], q.1, q.2, by simp [h1], by simp [h2]⟩
  · obtain ⟨T, x, z, h1, h2, h3, h4, h5⟩ := y
    exact ⟨T, x, z, h1, h2, h3, h4 xs q.1, h5 ys q.2⟩
theorem di_zip {e e2 : Expr} {f : DM (List Dt)} {p pos tpos : Pos} {elts : List Expr} {kk : Nat} (hg : Gl X "zip") (hm : X.mg "zip" = none) (ha : DA X [e, e2] f)
    (hs : starEach [e, e2] X.env = (false, eval e X.env) :: starEach [e2] X.env := by rfl) (hpl : (backTo pos (starEach [e2] X.env)).any (·.1) = false := by rfl) :
    DI X (.Tuple elts kk tpos) (.Call (.Name "zip" p) [e, e2] [] pos) (wZip f) := by
  obtain ⟨t, p, o⟩ := ha
  refine ⟨_, RZ.pi_zipA hg hm p hs hpl, fun β P σ H G s l s' R e Q q => ?_⟩
  unfold wZip at e
  obtain ⟨⟨x, s1⟩, e1, e⟩ := Option.bind_eq_some_iff.mp e
  split at e
  · rename_i a b hx
    rw [show x = _ from hx] at e1
    cases e
    refine o β P σ H G s _ s1 R e1 _ fun vs H1 G1 x1 R1 i1 => ?_
    obtain ⟨v, r, rfl, h, h'⟩ := isl_cons.mp i1
    obtain ⟨v', rfl, h2'⟩ := one_of h'
    obtain ⟨pa, xs, rfl, g1, g2⟩ := is_lst.mp h
    obtain ⟨pb, ys, rfl, g3, g4⟩ := is_lst.mp h2'
    exact ⟨pa, pb, xs, ys, rfl, .inl ⟨.inl (.inl (R1.gh _ _ g1)), .inl (.inl (R1.gh _ _ g3)), q _ H1 G1 _ _ x1 R1 (walk_zip (xs := xs) (ys := ys) (by rw [zip_len, g2.len, g4.len]))
      (fun H2 G2 x2 g => ⟨.inl (.inl (g _ _ (x2 _ _ g1))), .inl (.inl (g _ _ (x2 _ _ g3)))⟩) fun i d H2 x H3 P1 σ1 G2 s2 hd x2 R2 y => pair_turn g2 g4 i d H2 x H3 P1 σ1 G2 s2 hd x2 R2 y⟩⟩
  · rename_i a b hx
    rw [show x = _ from hx] at e1
    cases e
    refine o β P σ H G s _ s1 R e1 _ fun vs H1 G1 x1 R1 i1 => ?_
    obtain ⟨v, r, rfl, h, h'⟩ := isl_cons.mp i1
    obtain ⟨v', rfl, h2'⟩ := one_of h'
    obtain ⟨pa, xs, rfl, g1, g2⟩ := is_tup.mp h
    obtain ⟨pb, ys, rfl, g3, g4⟩ := is_tup.mp h2'
    exact ⟨pa, pb, xs, ys, rfl, .inr ⟨ext_t R1.gh g1, ext_t R1.gh g3, q _ H1 G1 _ _ x1 R1 (walk_zipT (xs := xs) (ys := ys) (by rw [zip_len, g2.len, g4.len]))
      (fun H2 G2 x2 g => ⟨ext_t (x2.trans g) g1, ext_t (x2.trans g) g3⟩) fun i d H2 x H3 P1 σ1 G2 s2 hd x2 R2 y => pair_turn g2 g4 i d H2 x H3 P1 σ1 G2 s2 hd x2 R2 y⟩⟩
  · cases e
end

/-! ### for -/
omit [Me] in
def loopD (h : Dt → Sta → Option Sta) (b : DMs) : List Dt → DMs
  | [], s => some (.nx, s)
  | d :: r, s => (h d s).bind fun s1 => (b s1).bind fun p => match p.1 with
    | .nx => loopD h b r p.2
    | .ct => loopD h b r p.2
    | .bk => some (.nx, p.2)
    | .rt v => some (.rt v, p.2)
omit [Me] in
def kFor (f : DM (List Dt)) (h : Dt → Sta → Option Sta) (b : DMs) : DMs := fun s => (f s).bind fun p => loopD h b p.1 p.2
section
variable {X : Cx}
theorem ds_for {tg iter : Expr} {body : List Stmt} {f : DM (List Dt)} {is : List Nat} {h : Dt → Sta → Option Sta} {b : DMs} {pos : Pos} (hp : PassesOwn (model X.prog X.w) X.A X.env X.xe) (hc : X.calm = true) (hi : DI X tg iter f) (hg : DG X tg is h) (hb : DSs X body b)
    (hs : ∀ x, foldedSetIterable iter X.env x = pure x := by intro _; rfl) : DS X (.For tg iter body [] pos) (kFor f h b) := by
  obtain ⟨wi, p1, o1⟩ := hi
  obtain ⟨g, p2, o2⟩ := hg
  obtain ⟨tb, p3, o3⟩ := hb
  refine ⟨_, ps_for hp hc p1 p2 p3 hs, fun β P σ H G s r s' R e D k => ?_⟩
  unfold kFor at e
  obtain ⟨⟨l, s1⟩, e1, e⟩ := Option.bind_eq_some_iff.mp e
  refine o1 β P σ H G s l s1 R e1 _ fun J H1 G1 Gd Y x1 R1 wk hG hY => ?_
  refine for_it wk (fun i σ2 H2 => ∃ G2 s2, Ext G1 G2 ∧ Rel X.K β P σ2 H2 G2 s2 ∧ loopD h b (l.drop i) s2 = some (r, s')) ⟨G1, s1, Ext.refl G1, R1, e⟩ (fun i σ2 H2 hi ⟨G2, s2, x2, R2, _⟩ => hG H2 G2 x2 R2.gh) ?_ ?_
  · rintro i x σ2 H2 H3 hi ⟨G2, s2, x2, R2, e2⟩ y
    have hd : l[i]? = some l[i] := List.getElem?_eq_getElem hi
    obtain ⟨G3, x3, R3, i3⟩ := hY i l[i] H2 x H3 P σ2 G2 s2 hd x2 R2 y
    rw [List.drop_eq_getElem_cons hi] at e2
    unfold loopD at e2
    obtain ⟨s3, e3, e2⟩ := Option.bind_eq_some_iff.mp e2
    obtain ⟨⟨res, s4⟩, e4, e2⟩ := Option.bind_eq_some_iff.mp e2
    refine o2 β P σ2 H3 G3 s2 l[i] x s3 R3 i3 e3 _ fun σ4 H4 G4 x4 R4 _ _ => ?_
    refine o3 β P σ4 H4 G4 s3 res s4 R4 e4 _ ?_
    cases res with
    | nx => exact fun σ5 H5 G5 x5 R5 => ⟨G5, s4, ((x2.trans x3).trans x4).trans x5, R5, e2⟩
    | ct => exact fun σ5 H5 G5 x5 R5 => ⟨G5, s4, ((x2.trans x3).trans x4).trans x5, R5, e2⟩
    | bk => cases e2; exact fun σ5 H5 G5 x5 R5 => k σ5 H5 G5 ((((x1.trans x2).trans x3).trans x4).trans x5) R5
    | rt d => cases e2; exact fun v σ5 H5 G5 x5 R5 i5 => k v σ5 H5 G5 ((((x1.trans x2).trans x3).trans x4).trans x5) R5 i5
  · rintro σ2 H2 ⟨G2, s2, x2, R2, e2⟩
    rw [List.drop_length] at e2
    cases e2
    exact k σ2 H2 G2 (x1.trans x2) R2
end

/-! ### comprehensions -/
omit [Me] in
def datOnly : Option Slo → Option Slo
  | some (.dat d) => some (.dat d)
  | _ => none
omit [Me] in
def wipeS (sl : List (Option Slo)) : List Nat → List (Option Slo)
  | [] => sl
  | v :: vs => (wipeS sl vs).set v none
omit [Me] in
def compD (sl0 : List (Option Slo)) (h : Dt → Sta → Option Sta) (t : DM Bool) (e : DM Dt) : List Dt → List Dt → Option (List Dt × List Dt)
  | [], bg => some ([], bg)
  | d :: r, bg => (h d ⟨sl0, bg⟩).bind fun s1 => (t s1).bind fun p => if p.1 = true then (e p.2).bind fun q => (compD sl0 h t e r q.2.bag).bind fun z => some (q.1 :: z.1, z.2) else compD sl0 h t e r p.2.bag
omit [Me] in
def mComp (is : List Nat) (f : DM (List Dt)) (h : Dt → Sta → Option Sta) (t : DM Bool) (e : DM Dt) : DM Dt := fun s => (f s).bind fun p => if p.1.length ≤ 100000 then
  (compD (wipeS (p.2.sl.map datOnly) is) h t e p.1 p.2.bag).bind fun z => some (.lst z.1, { p.2 with bag := z.2 }) else none
theorem wipe_len : ∀ (vs : List Nat) (σ : L2.St), (wipe σ vs).length = σ.length
  | [], _ => rfl
  | v :: vs, σ => by show ((wipe σ vs).set v none).length = _; rw [List.length_set, wipe_len vs]
theorem wipeS_len : ∀ (vs : List Nat) (σ : List (Option Slo)), (wipeS σ vs).length = σ.length
  | [], _ => rfl
  | v :: vs, σ => by show ((wipeS σ vs).set v none).length = _; rw [List.length_set, wipeS_len vs]
theorem wipe_get : ∀ (vs : List Nat) (σ : L2.St) (j : Nat), (wipe σ vs)[j]? = if j ∈ vs ∧ j < σ.length then some none else σ[j]?
  | [], σ, j => by simp [wipe]
  | v :: vs, σ, j => by
    show ((wipe σ vs).set v none)[j]? = _
    rw [get_set, wipe_get vs, wipe_len]
    by_cases h : v = j
    · subst h
      by_cases q : v < σ.length
      · simp [q]
      · simp [q]
    · have h' : ¬ j = v := fun e => h e.symm
      simp [h, h']
theorem wipeS_get : ∀ (vs : List Nat) (σ : List (Option Slo)) (j : Nat), (wipeS σ vs)[j]? = if j ∈ vs ∧ j < σ.length then some none else σ[j]?
  | [], σ, j => by simp [wipeS]
  | v :: vs, σ, j => by
    show ((wipeS σ vs).set v none)[j]? = _
    rw [get_set, wipeS_get vs, wipeS_len]
    by_cases h : v = j
    · subst h
      by_cases q : v < σ.length
      · simp [q]
      · simp [q]
    · have h' : ¬ j = v := fun e => h e.symm
      simp [h, h']
theorem hid_get {sl : List (Option Slo)} {vs : List Nat} {j : Nat} {x : Slo} (h : (wipeS (sl.map datOnly) vs)[j]? = some (some x)) : j ∉ vs ∧ ∃ d, x = .dat d ∧ sl[j]? = some (some (.dat d)) := by
  rw [wipeS_get] at h
  split at h
  · cases h
  · rename_i c
    rw [List.getElem?_map] at h
    cases e : sl[j]? with
    | none => rw [e] at h; cases h
    | some y =>
      rw [e] at h
      have hl : j < sl.length := (List.getElem?_eq_some_iff.mp e).1
      have hj : j ∉ vs := fun m => c ⟨m, by simpa using hl⟩
      match y, h with
      | some (.dat d), h => cases h; exact ⟨hj, d, rfl, rfl⟩
      | some (.own l), h => cases h
      | some (.obj _ _ _), h => cases h
      | none, h => cases h
theorem rel_hide {K : PySem.W.Frag} {β : Addr} {P : Hp} {σ : L2.St} {H G : Hp} {s : Sta} (R : Rel K β P σ H G s) {D : Addr} (hD : H D = none) (vs : List Nat) :
    Rel K β (upd (shut β H G) D (.lst [])) (wipe σ vs) (upd H D (.lst [])) G ⟨wipeS (s.sl.map datOnly) vs, s.bag⟩ where
  len := by rw [wipe_len, wipeS_len, List.length_map]; exact R.len
  gh := fun a o e => by rw [upd_ne (ne_of_none e (R.free hD))]; exact R.gh a o e
  pr := fun p o e => by
    by_cases c : p = D
    · subst c; rw [upd_same] at e ⊢; exact ⟨e, R.free hD⟩
    · rw [upd_ne c] at e ⊢; exact R.callee.pr p o e
  pb := by
    obtain ⟨us, h1, _⟩ := R.bag
    rw [upd_ne (ne_of_none h1 hD)]; exact R.callee.pb
  bag := by
    obtain ⟨us, h1, h2, h3⟩ := R.bag
    exact ⟨us, by rw [upd_ne (ne_of_none h1 hD)]; exact h1, h2, h3⟩
  dat := fun i d e => by
    obtain ⟨hi, d', e1, e2⟩ := hid_get e
    cases e1
    obtain ⟨v, h1, h2⟩ := R.dat i d e2
    refine ⟨v, ?_, h2⟩
    rw [wipe_get, if_neg (fun q => hi q.1)]
    exact h1
  own := fun i l e => by
    obtain ⟨hi, d', e1, e2⟩ := hid_get e
    cases e1
  dj := fun i j l m p e => by
    obtain ⟨hi, d', e1, e2⟩ := hid_get e
    cases e1
  obj := fun i c ks l e => by
    obtain ⟨hi, d', e1, e2⟩ := hid_get e
    cases e1
  oj := fun i j c ks l c' ks' l' e => by
    obtain ⟨hi, d', e1, e2⟩ := hid_get e
    cases e1
  fns := fun i l q e => by
    obtain ⟨hi, d', e1, e2⟩ := hid_get e
    cases e1
  tabs := fun q hq => by
    obtain ⟨t, g, n⟩ := R.tabs q hq
    have z := t.ne hD
    exact ⟨t.of (upd_ne z) (Ext.refl G), g, by rw [upd_ne z]; exact shut_tab hq⟩
  pt := fun p o h => by
    by_cases c : p = D
    · subst c; rw [upd_same] at h; cases h; exact nx_lst
    · rw [upd_ne c] at h; exact shut_nx h
  nt := R.nt
theorem rel_acc {K : PySem.W.Frag} {β : Addr} {P : Hp} {σ σ0 : L2.St} {H H0 G G0 P0 : Hp} {s : Sta} {sl0 : List (Option Slo)} {bg0 : List Dt} {D : Addr} {o o' : HO} (R : Rel K β (upd P D o) σ H G s) (R0 : Rel K β P0 σ0 H0 G0 ⟨sl0, bg0⟩) (e : Ext G0 G) (hn : ∀ (i : Nat) (x : Slo), sl0[i]? = some (some x) → ∃ d, x = .dat d) (hx : Nx D o') :
    Rel K β (upd P D o') σ0 (upd H D o') G ⟨sl0, s.bag⟩ where
  len := R0.len
  gh := fun a u h => by
    have q := (R.pr D o upd_same).2
    rw [upd_ne (ne_of_none h q)]; exact R.gh a u h
  pr := fun p u h => by
    by_cases c : p = D
    · subst c; rw [upd_same] at h ⊢; exact ⟨h, (R.pr p o upd_same).2⟩
    · rw [upd_ne c] at h ⊢; exact R.pr p u (by rw [upd_ne c]; exact h)
  pb := by
    have q := R.pb
    by_cases c : β = D
    · subst c; rw [upd_same] at q; cases q
    · rw [upd_ne c] at q ⊢; exact q
  bag := by
    obtain ⟨us, h1, h2, h3⟩ := R.bag
    have c : β ≠ D := fun c => by have q := R.pb; rw [c, upd_same] at q; cases q
    exact ⟨us, by rw [upd_ne c]; exact h1, h2, h3⟩
  dat := fun i d h => by
    obtain ⟨v, h1, h2⟩ := R0.dat i d h
    exact ⟨v, h1, IsD.mono e _ _ h2⟩
  own := fun i l h => by
    obtain ⟨d, z⟩ := hn i _ h
    cases z
  dj := fun i j l m p h => by
    obtain ⟨d, z⟩ := hn i _ h
    cases z
  obj := fun i c ks l h => by
    obtain ⟨d, z⟩ := hn i _ h
    cases z
  oj := fun i j c ks l c' ks' l' h => by
    obtain ⟨d, z⟩ := hn i _ h
    cases z
  fns := fun i l q h => by
    obtain ⟨d, z⟩ := hn i _ h
    cases z
  tabs := fun q hq => by
    obtain ⟨t, g, n⟩ := R.tabs q hq
    have z : q.1 ≠ D := fun z => by rw [z, upd_same] at n; cases n
    exact ⟨t.of (upd_ne z) (Ext.refl G), g, by rw [upd_ne z] at n ⊢; exact n⟩
  pt := fun p u h => by
    by_cases c : p = D
    · subst c; rw [upd_same] at h; cases h; exact hx
    · rw [upd_ne c] at h; exact R.pt p u (by rw [upd_ne c]; exact h)
  nt := R.nt
theorem rel_skip {K : PySem.W.Frag} {β : Addr} {P : Hp} {σ σ0 : L2.St} {H H0 G G0 P0 : Hp} {s : Sta} {sl0 : List (Option Slo)} {bg0 : List Dt} (R : Rel K β P σ H G s) (R0 : Rel K β P0 σ0 H0 G0 ⟨sl0, bg0⟩) (e : Ext G0 G) (hn : ∀ (i : Nat) (x : Slo), sl0[i]? = some (some x) → ∃ d, x = .dat d) :
    Rel K β P σ0 H G ⟨sl0, s.bag⟩ where
  len := R0.len
  gh := R.gh
  pr := R.pr
  pb := R.pb
  bag := R.bag
  dat := fun i d h => by
    obtain ⟨v, h1, h2⟩ := R0.dat i d h
    exact ⟨v, h1, IsD.mono e _ _ h2⟩
  own := fun i l h => by
    obtain ⟨d, z⟩ := hn i _ h
    cases z
  dj := fun i j l m p h => by
    obtain ⟨d, z⟩ := hn i _ h
    cases z
  obj := fun i c ks l h => by
    obtain ⟨d, z⟩ := hn i _ h
    cases z
  oj := fun i j c ks l c' ks' l' h => by
    obtain ⟨d, z⟩ := hn i _ h
    cases z
  fns := fun i l q h => by
    obtain ⟨d, z⟩ := hn i _ h
    cases z
  tabs := R.tabs
  pt := R.pt
  nt := R.nt
theorem rel_done {K : PySem.W.Frag} {β : Addr} {P : Hp} {σ σ0 : L2.St} {H H0 G G0 : Hp} {s s0 : Sta} {D : Addr} {acc : List V} (R0 : Rel K β P σ H0 G0 s) (hD : H0 D = none) (R : Rel K β (upd (shut β H0 G0) D (.lst acc)) σ0 H G s0) (e : Ext G0 G) :
    Rel K β P σ H (upd G D (.lst acc)) { s with bag := s0.bag } := by
  have q := R.pr D _ upd_same
  have xx : Ext G (upd G D (.lst acc)) := Ext.new q.2
  have hb : β ≠ D := fun c => by have q := R.pb; rw [c, upd_same] at q; cases q
  have keep : ∀ p o, H0 p = some o → G0 p = none → p ≠ β → (∀ t ∈ Tabs.ts, t.1 ≠ p) → Nx p o → H p = some o ∧ upd G D (.lst acc) p = none := fun p o h1 h2 h3 h4 h5 => by
    have n : p ≠ D := ne_of_none h1 hD
    have k := R.pr p o (by rw [upd_ne n]; exact shut_some h1 h2 h3 h4 h5)
    exact ⟨k.1, by rw [upd_ne n]; exact k.2⟩
  exact {
    len := R0.len
    gh := fun a u h => by
      by_cases c : a = D
      · subst c; rw [upd_same] at h; cases h; exact q.1
      · rw [upd_ne c] at h; exact R.gh a u h
    pr := fun p o h => by
      have h1 := R0.pr p o h
      exact keep p o h1.1 h1.2 (fun z => by subst z; rw [R0.pb] at h; cases h) (fun t ht z => by rw [← z, (R0.tabs t ht).2.2] at h; cases h) (R0.pt p o h)
    pb := R0.pb
    bag := by
      obtain ⟨us, h1, h2, h3⟩ := R.bag
      exact ⟨us, h1, by rw [upd_ne hb]; exact h2, IsL.mono xx _ _ h3⟩
    dat := fun i d h => by
      obtain ⟨v, h1, h2⟩ := R0.dat i d h
      exact ⟨v, h1, IsD.mono (e.trans xx) _ _ h2⟩
    own := fun i l h => by
      obtain ⟨p, vs, h1, h2, h3, h4, h5, h6⟩ := R0.own i l h
      have k := keep p _ h2 h3 h5 (fun t ht z => (R0.tabs t ht).1.neL h2 z) nx_lst
      exact ⟨p, vs, h1, k.1, k.2, h4, h5, IsL.mono (e.trans xx) _ _ h6⟩
    dj := R0.dj
    obj := fun i c ks l h => by
      obtain ⟨p, C, dx, vs, h1, h0, h2, h3, h4, h5, h6⟩ := R0.obj i c ks l h
      have n : p ≠ β := fun z => by
        obtain ⟨us, b1, _⟩ := R0.bag
        rw [← z, h2] at b1
        cases b1
      have k := keep p _ h2 h3 n (fun t ht z => (R0.tabs t ht).1.neI h2 z) nx_ins
      exact ⟨p, C, dx, vs, h1, h0, k.1, k.2, h4, h5, IsL.mono (e.trans xx) _ _ h6⟩
    oj := R0.oj
    fns := fun i l q h => (R0.fns i l q h).mono (e.trans xx)
    tabs := fun y hy => by
      obtain ⟨t, g, n⟩ := R.tabs y hy
      have z : y.1 ≠ D := fun z => by rw [z, upd_same] at n; cases n
      exact ⟨t.of rfl xx, by rw [upd_ne z]; exact g, (R0.tabs y hy).2.2⟩
    pt := R0.pt
    nt := fun a ps h => by
      by_cases c : a = D
      · subst c; rw [upd_same] at h; cases h
      · rw [upd_ne c] at h; exact R.nt a ps h }
theorem wipe_same {σ σ0 : L2.St} {vs : List Nat} (hl : σ0.length = (wipe σ vs).length) (h : ∀ j, j ∉ vs → σ0[j]? = (wipe σ vs)[j]?) : wipe σ0 vs = wipe σ vs := by
  apply List.ext_getElem?
  intro j
  rw [wipe_len] at hl
  by_cases c : j ∈ vs
  · rw [wipe_get, wipe_get, hl]
    by_cases q : j < σ.length
    · rw [if_pos ⟨c, q⟩, if_pos ⟨c, q⟩]
    · rw [if_neg fun z => q z.2, if_neg fun z => q z.2, List.getElem?_eq_none (by omega), List.getElem?_eq_none (by omega)]
  · rw [wipe_get, if_neg fun z => c z.1, h j c]
theorem te_comp {K : PySem.W.Frag} {wi : TI} {g : TG} {tt : TT} {te : TE} {vs is : List Nat} {f : DM (List Dt)} {h : Dt → Sta → Option Sta} {ft : DM Bool} {fe : DM Dt} (hi : TIok K wi f) (hg : TGok K g is h) (ht : TTok K tt ft) (he : TEok K te fe) (hv : ∀ j ∈ is, j ∈ vs) :
    TEok K (tLc wi g tt te vs) (mComp vs f h ft fe) := by
  intro β P σ H G s d s' R e Q q
  unfold mComp at e
  obtain ⟨⟨l, s1⟩, e1, e⟩ := Option.bind_eq_some_iff.mp e
  dsimp only at e
  split at e
  case isFalse => cases e
  rename_i hlen
  obtain ⟨⟨ys, bgF⟩, e2, e⟩ := Option.bind_eq_some_iff.mp e
  cases e
  refine hi β P σ H G s l s1 R e1 _ fun J H1 G1 Gd Y x1 R1 wk hG hY => ?_
  intro D hD
  have hn : ∀ (i : Nat) (x : Slo), (wipeS (s1.sl.map datOnly) vs)[i]? = some (some x) → ∃ d, x = .dat d := fun i x z => by
    obtain ⟨_, d', e3, _⟩ := hid_get z
    exact ⟨d', e3⟩
  have R0 := rel_hide R1 hD vs
  refine lc_it wk (fun i H2 => ∃ G2 bg acc ds rs, Ext G1 G2 ∧ Rel K β (upd (shut β H1 G1) D (.lst acc)) (wipe σ vs) H2 G2 ⟨wipeS (s1.sl.map datOnly) vs, bg⟩ ∧ IsL K β G2 ds acc ∧ acc.length ≤ i ∧
    compD (wipeS (s1.sl.map datOnly) vs) h ft fe (l.drop i) bg = some (rs, bgF) ∧ ds ++ rs = ys) ⟨G1, s1.bag, [], [], ys, Ext.refl G1, R0, isl_nil.mpr rfl, Nat.le_refl _, e2, rfl⟩ ?_ ?_ ?_
  · rintro i H2 hi' ⟨G2, bg, acc, ds, rs, x2, R2, _⟩
    exact hG H2 G2 x2 R2.gh
  · rintro i x H2 H3 hi' ⟨G2, bg, acc, ds, rs, x2, R2, ia, la, e3, e4⟩ y
    have hd : l[i]? = some l[i] := List.getElem?_eq_getElem hi'
    obtain ⟨G3, x3, R3, i3⟩ := hY i l[i] H2 x H3 _ _ G2 _ hd x2 R2 y
    rw [List.drop_eq_getElem_cons hi'] at e3
    unfold compD at e3
    obtain ⟨s3, e5, e3⟩ := Option.bind_eq_some_iff.mp e3
    obtain ⟨⟨b, s4⟩, e6, e3⟩ := Option.bind_eq_some_iff.mp e3
    refine hg β _ _ H3 G3 _ l[i] x s3 R3 i3 e5 _ fun σ4 H4 G4 x4 R4 c4 l4 => ⟨wipe_same l4 fun j hj => c4 j fun z => hj (hv j z), ?_⟩
    refine ht β _ _ H4 G4 s3 b s4 R4 e6 _ fun H5 G5 x5 R5 => ?_
    cases b with
    | true =>
      rw [if_pos rfl] at e3 ⊢
      obtain ⟨⟨dy, s5⟩, e7, e3⟩ := Option.bind_eq_some_iff.mp e3
      obtain ⟨⟨zs, bz⟩, e8, e3⟩ := Option.bind_eq_some_iff.mp e3
      cases e3
      refine he β _ _ H5 G5 s4 dy s5 R5 e7 _ fun v H6 G6 x6 R6 i6 => ?_
      have xx : Ext G2 G6 := ((x3.trans x4).trans x5).trans x6
      refine ⟨acc, (R6.pr D _ upd_same).1, Nat.lt_of_le_of_lt la (Nat.lt_of_lt_of_le hi' (Nat.le_trans hlen (by decide))), G6, s5.bag, acc ++ [v], ds ++ [dy], zs, x2.trans xx, rel_acc R6 R2 xx hn nx_lst, (IsL.mono xx _ _ ia).snoc i6, by simp; exact la, e8, ?_⟩
      rw [← e4]
      simp
    | false =>
      rw [if_neg Bool.false_ne_true] at e3 ⊢
      have xx : Ext G2 G5 := (x3.trans x4).trans x5
      exact ⟨G5, s4.bag, acc, ds, rs, x2.trans xx, rel_skip R5 R2 xx hn, IsL.mono xx _ _ ia, Nat.le_succ_of_le la, e3, e4⟩
  · rintro H2 ⟨G2, bg, acc, ds, rs, x2, R2, ia, la, e3, e4⟩
    rw [List.drop_length] at e3
    cases e3
    rw [List.append_nil] at e4
    subst e4
    have qd := R2.pr D _ upd_same
    have xx : Ext G2 (upd G2 D (.lst acc)) := Ext.new qd.2
    exact q (.ref D) H2 _ ((x1.trans x2).trans xx) (rel_done R1 hD R2 x2) (is_lst.mpr ⟨D, acc, rfl, upd_same, IsL.mono xx _ _ ia⟩)
omit [Me] in
def mYes : DM Bool := fun s => some (true, s)
omit [Me] in
def DTs (X : Cx) (ifs : List Expr) (f : DM Bool) : Prop := PTs X ifs (ttOf X.K f)
section
variable {X : Cx}
theorem dts_nil : DTs X [] mYes := by
  refine ⟨fun pins s σ H Q I k => ?_⟩
  obtain ⟨β, P, G, a, d, a', R, e1, q⟩ := k
  cases e1
  exact pts_nil.run pins s σ H Q I (q H G (Ext.refl G) R)
theorem dts_one {c : Expr} {f : DM Bool} (h : DT X c f) : DTs X [c] f := pts_one h.pt
theorem de_comp {elt tg iter : Expr} {ifs : List Expr} {scope : Scope} {own : List (Str × Nat)} {pos : Pos} {is : List Nat} {f : DM (List Dt)} {h : Dt → Sta → Option Sta} {ft : DM Bool} {fe : DM Dt} (hc : X.calm = true) (hN : X.N.Nodup) (hi : DI X tg iter f) (ok : BlkOk X.N X.env.scope scope own)
    (hg : ∀ (s : Shared) (H : Hp) (C : Addr) (cl : List (Str × Addr)) (fp : List Addr), DG (X.blk s H scope (compEnvC scope cl C X.env) fp) tg is h) (ht : ∀ (s : Shared) (H : Hp) (C : Addr) (cl : List (Str × Addr)) (fp : List Addr), DTs (X.blk s H scope (compEnvC scope cl C X.env) fp) ifs ft)
    (he : ∀ (s : Shared) (H : Hp) (C : Addr) (cl : List (Str × Addr)) (fp : List Addr), DE (X.blk s H scope (compEnvC scope cl C X.env) fp) elt fe) (hv : ∀ j ∈ is, j ∈ own.map (·.2)) (hs : ∀ x, foldedSetIterable iter X.env x = pure x := by intro _; rfl) :
    DE X (.ListComp elt [⟨tg, iter, ifs, 0⟩] scope pos) (mComp (own.map (·.2)) f h ft fe) := by
  obtain ⟨wi, p1, o1⟩ := hi
  exact ⟨_, pe_lc (g := gOf X.K is h) (tt := ttOf X.K ft) (te := tOf X.K fe) hc hN p1 ok (fun s H C cl fp => (hg s H C cl fp).pg) (fun s H C cl fp => ht s H C cl fp) (fun s H C cl fp => (he s H C cl fp).pe) hs, te_comp o1 gOf_ok ttOf_ok tOf_ok hv⟩
theorem ds_setComp {i : Nat} {y : Str} {py : Pos} {elt tg iter : Expr} {ifs : List Expr} {scope : Scope} {own : List (Str × Nat)} {pos spos : Pos} {is : List Nat} {f : DM (List Dt)} {h : Dt → Sta → Option Sta} {ft : DM Bool} {fe : DM Dt} (hc : X.calm = true) (hN : X.N.Nodup) (hy : X.N[i]? = some y) (hyl : X.env.scope.names.lookup y = some .local)
    (hsw : swapsWith (.ListComp elt [⟨tg, iter, ifs, 0⟩] scope pos) (some (.Name y py)) spos.line X.env = pure true) (hi : DI X tg iter f) (ok : BlkOk X.N X.env.scope scope own)
    (hg : ∀ (s : Shared) (H : Hp) (C : Addr) (cl : List (Str × Addr)) (fp : List Addr), DG (X.blk s H scope (compEnvC scope cl C X.env) fp) tg is h) (ht : ∀ (s : Shared) (H : Hp) (C : Addr) (cl : List (Str × Addr)) (fp : List Addr), DTs (X.blk s H scope (compEnvC scope cl C X.env) fp) ifs ft)
    (he : ∀ (s : Shared) (H : Hp) (C : Addr) (cl : List (Str × Addr)) (fp : List Addr), DE (X.blk s H scope (compEnvC scope cl C X.env) fp) elt fe) (hv : ∀ j ∈ is, j ∈ own.map (·.2)) (hs : ∀ x, foldedSetIterable iter X.env x = pure x := by intro _; rfl) :
    DS X (.Assign [.Name y py] (.ListComp elt [⟨tg, iter, ifs, 0⟩] scope pos) spos) (kAsg (mComp (own.map (·.2)) f h ft fe) (hName i)) := by
  obtain ⟨wi, p1, o1⟩ := hi
  refine ⟨_, ps_setLc (g := gOf X.K is h) (tt := ttOf X.K ft) (te := tOf X.K fe) hc hN hy hyl hsw p1 ok (fun s H C cl fp => (hg s H C cl fp).pg) (fun s H C cl fp => ht s H C cl fp) (fun s H C cl fp => (he s H C cl fp).pe) hs, fun β P σ H G s r s' R e D k => ?_⟩
  unfold kAsg at e
  obtain ⟨⟨x, s1⟩, e1, e⟩ := Option.bind_eq_some_iff.mp e
  obtain ⟨s2, e2, e⟩ := Option.bind_eq_some_iff.mp e
  cases e2
  cases e
  refine te_comp o1 gOf_ok ttOf_ok tOf_ok hv β P σ H G s x s1 R e1 _ fun v H1 G1 x1 R1 i1 => ?_
  exact k _ H1 G1 x1 (R1.set i1)
end
end DL

namespace DL
open PySem PySem.Spec PyProof.Rows L2
variable [Tabs] [Me]
/-! a, b = e1, e2 over two locals -/
omit [Me] in
def kPar (i j : Nat) (f : DM (List Dt)) : DMs := fun s => (f s).bind fun p => match p.1 with
  | [d, e] => some (.nx, { p.2 with sl := (p.2.sl.set i (some (.dat d))).set j (some (.dat e)) })
  | _ => none
section
variable {X : Cx}
theorem ds_par {i j : Nat} {x y : Str} {a b : Expr} {f : DM (List Dt)} {px py pt : Pos} {kt k2 pt2 pos} (hc : X.calm = true) (hN : X.N.Nodup) (hi : X.N[i]? = some x) (hj : X.N[j]? = some y) (hij : i ≠ j)
    (hx : X.env.scope.names.lookup x = some .local) (hy : X.env.scope.names.lookup y = some .local) (ha : DA X [a, b] f)
    (hw : swappedStores [.Tuple [.Name x px, .Name y py] kt pt] (.Tuple [a, b] k2 pt2) X.env = pure (some [x, y]))
    (hs : swapsWithSole [.Tuple [.Name x px, .Name y py] kt pt] (.Tuple [a, b] k2 pt2) pos.line X.env = pure false := by rfl) :
    DS X (.Assign [.Tuple [.Name x px, .Name y py] kt pt] (.Tuple [a, b] k2 pt2) pos) (kPar i j f) := by
  obtain ⟨t, p, o⟩ := ha
  refine ⟨_, ps_par hc hN hi hj hij hx hy p hw hs, fun β P σ H G s r s' R e D k => ?_⟩
  unfold kPar at e
  obtain ⟨⟨l, s1⟩, e1, e⟩ := Option.bind_eq_some_iff.mp e
  split at e
  · rename_i d d' hl
    rw [show l = _ from hl] at e1
    cases e
    refine o β P σ H G s _ s1 R e1 _ fun vs H1 G1 x1 R1 i1 => ?_
    obtain ⟨v, r, rfl, h1, h2⟩ := isl_cons.mp i1
    obtain ⟨v', rfl, h3⟩ := one_of h2
    exact ⟨v, v', rfl, k _ H1 G1 x1 ((R1.set h1).set h3)⟩
  · cases e
/-! -a -/
omit [Me] in
def mNeg (f : DM Dt) : DM Dt := fun s => (f s).bind fun p => match p.1 with
  | .int i => some (.int (-i), p.2)
  | _ => none
theorem de_neg {a : Expr} {f : DM Dt} {pos : Pos} (h : DE X a f) : DE X (.UnaryOp .USub a pos) (mNeg f) := by
  obtain ⟨t, p, o⟩ := h
  refine ⟨_, pe_un un_neg p, fun β P σ H G s r s' R e Q q => ?_⟩
  unfold mNeg at e
  obtain ⟨⟨x, s1⟩, e1, e⟩ := Option.bind_eq_some_iff.mp e
  refine o β P σ H G s x s1 R e1 _ fun v H1 G1 x1 R1 i1 => ?_
  cases x with
  | int i => cases e; exact ⟨i, is_int.mp i1, q _ H1 G1 x1 R1 (is_int.mpr rfl)⟩
  | _ => cases e
end
/-! ### calls by keywords alone -/
section
variable {X : Cx} {k : Nat} {f : Addr} {fd : FuncData} {ps ks : List Str} {sp : Sp} {E : XK} {CX : CXT} {x : Str} {p pos : Pos} {kws : List Keyword} {tk : TA} {g : List Value → List Value → List Value} {gV : List V → List V → List V}
theorem pe_callK0 (F : FnOk X.prog X.w X.K X.mg X.base CX k f fd ps sp) (hr : Room k X.A) (hg : Gl X x) (hm : X.mg x = some (.ref f)) (hk : PySem.W.keepIn X.K (.ref f) = true) (hb : KBinds X.K fd ps ks g gV) (hx : Passes CX X E)
    (hkw : PK X kws tk) (hall : (backToKw pos (keywordEach kws X.env)).all (·.1.isSome) = true := by rfl) (hks : (backToKw pos (keywordEach kws X.env)).filterMap (·.1) = ks := by rfl)
    (hdb : (x == ("__debug__" : Str)) = false := by decide)
    (hpl : ((backTo pos (starEach [] X.env)).any (·.1) || (backToKw pos (keywordEach kws X.env)).any (·.1.isNone)) = false := by rfl) :
    PE X (.Call (.Name x p) [] kws pos) (fun σ H Q => tk σ H fun zs H2 => sp (gV [] zs) H2 Q E) := by
  refine ⟨fun pins s σ H Q I h => ?_⟩
  refine wpAny_Call_Name_kw (ld_glob I hg hm ?_ hdb)
  refine PySem.W.callWith_KW0 (h₀ := X.base) I.ok.mod.kin hk hall ?_ hpl
  refine thn (hkw.run pos pins s σ H _ I h) fun ws s2 ⟨zs, H2, I2, rz, q2⟩ => ⟨I2.kIn, ?_⟩
  rw [hks]
  exact run_fnk F hr hb hx I2 .nil rz q2
end
omit [Me] in
def DK (X : Cx) (kws : List Keyword) (f : DM (List Dt)) : Prop := ∃ t, PK X kws t ∧ TAok X.K t f
section
variable {X : Cx}
theorem dk_nil : DK X [] mNil := ⟨_, pk_nil, fun β P σ H G s b s' R e Q q => by cases e; exact q _ H G (Ext.refl G) R (isl_nil.mpr rfl)⟩
theorem dk_cons {e : Expr} {es : List Keyword} {f : DM Dt} {g : DM (List Dt)} {nm : Option Str} {kpos : Pos} (ha : DE X e f) (hb : DK X es g) : DK X (⟨nm, e, kpos⟩ :: es) (mCons f g) := by
  obtain ⟨t, p, o⟩ := ha
  obtain ⟨u, p2, o2⟩ := hb
  refine ⟨_, pk_cons p p2, fun β P σ H G s b s' R e Q q => ?_⟩
  unfold mCons at e
  obtain ⟨⟨x, s1⟩, e1, e⟩ := Option.bind_eq_some_iff.mp e
  obtain ⟨⟨y, s2⟩, e2, e⟩ := Option.bind_eq_some_iff.mp e
  cases e
  refine o β P σ H G s x s1 R e1 _ fun v H1 G1 x1 R1 i1 => ?_
  refine o2 β P σ H1 G1 s1 y s2 R1 e2 _ fun vs H2 G2 x2 R2 i2 => ?_
  exact q _ H2 G2 (x1.trans x2) R2 (isl_cons.mpr ⟨v, vs, rfl, IsD.mono x2 _ _ i1, i2⟩)
omit [Me] in
def mAppK (pm : List Nat) (F : FD) (f : DM (List Dt)) : DM Dt := fun s => (f s).bind fun p => (F (pm.filterMap fun i => p.1[i]?) p.2.bag).bind fun q => some (q.1, { p.2 with bag := q.2 })
theorem isl_perm {K : PySem.W.Frag} {β : Addr} {G : Hp} {ds : List Dt} {vs : List V} (h : IsL K β G ds vs) : ∀ pm : List Nat, IsL K β G (pm.filterMap fun i => ds[i]?) (pm.filterMap fun i => vs[i]?)
  | [] => isl_nil.mpr rfl
  | i :: r => by
    rw [List.filterMap_cons, List.filterMap_cons]
    cases e : ds[i]? with
    | none =>
      have e' : vs[i]? = none := by
        rw [List.getElem?_eq_none_iff] at e ⊢
        rw [h.len]; exact e
      rw [e']
      exact isl_perm h r
    | some d =>
      obtain ⟨v, e1, i1⟩ := h.get e
      rw [e1]
      exact isl_cons.mpr ⟨v, _, rfl, i1, isl_perm h r⟩
theorem vals_perm {vs : List V} {us : List Value} (h : Vals vs us) : ∀ pm : List Nat, Vals (pm.filterMap fun i => vs[i]?) (pm.filterMap fun i => us[i]?)
  | [] => .nil
  | i :: r => by
    rw [List.filterMap_cons, List.filterMap_cons]
    cases e : vs[i]? with
    | none =>
      rw [h.none_of e]
      exact vals_perm h r
    | some d =>
      obtain ⟨v, e1, i1⟩ := h.get e
      rw [e1]
      exact .cons i1 (vals_perm h r)
omit [Me] in
def kwG {α : Type} (pm : List Nat) : List α → List α → List α
  | [], ws => pm.filterMap fun i => ws[i]?
  | _ :: _, _ => []
theorem de_callK0 {k : Nat} {f : Addr} {fd : FuncData} {ps ks : List Str} {n : Nat} {F : FD} {x : Str} {p pos : Pos} {kws : List Keyword} {g : DM (List Dt)} {pm : List Nat} (FF : FnOk X.prog X.w X.K X.mg X.base CX0 k f fd ps (spD X.K n F)) (hr : Room k X.A) (hg : Gl X x) (hm : X.mg x = some (.ref f)) (hk : PySem.W.keepIn X.K (.ref f) = true)
    (hb : KBinds X.K fd ps ks (kwG pm) (kwG pm)) (ha : DK X kws g) {m : Nat} (hn : ∀ s ds s', g s = some (ds, s') → ds.length = m) (hpm : ∀ ds : List Dt, ds.length = m → (pm.filterMap fun i => ds[i]?).length = n)
    (hall : (backToKw pos (keywordEach kws X.env)).all (·.1.isSome) = true := by rfl) (hks : (backToKw pos (keywordEach kws X.env)).filterMap (·.1) = ks := by rfl)
    (hdb : (x == ("__debug__" : Str)) = false := by decide)
    (hpl : ((backTo pos (starEach [] X.env)).any (·.1) || (backToKw pos (keywordEach kws X.env)).any (·.1.isNone)) = false := by rfl) : DE X (.Call (.Name x p) [] kws pos) (mAppK pm F g) := by
  obtain ⟨t, p1, o1⟩ := ha
  refine ⟨_, pe_callK0 FF hr hg hm hk hb pass0 p1 hall hks hdb hpl, fun β P σ H G s d s' R e Q q => ?_⟩
  unfold mAppK at e
  obtain ⟨⟨x, s1⟩, e1, e⟩ := Option.bind_eq_some_iff.mp e
  obtain ⟨⟨y, bg'⟩, e2, e⟩ := Option.bind_eq_some_iff.mp e
  cases e
  refine o1 β P σ H G s x s1 R e1 _ fun vs H1 G1 x1 R1 i1 => ?_
  exact ⟨β, shut β H1 G1, G1, _, s1.bag, y, bg', by show (pm.filterMap fun i => vs[i]?).length = n; rw [(isl_perm i1 pm).len]; exact hpm _ (hn _ _ _ e1), isl_perm i1 pm, R1.callee, e2, fun v H' G' x2 C i => q v H' G' (x1.trans x2) (R1.back x2 C) i⟩
theorem kb_of {K : PySem.W.Frag} {x qual : Str} {st : Stmt} {f : Addr} {fd : FuncData} {ps ks : List Str} {pm : List Nat} (F : Fun K x qual st f fd) (hp : 0 < ps.length)
    (h : ∀ (kV doc pmv : Value) (an : Option Addr) (cdv ct : Value) (ws : List Value), (pm.filterMap fun i => ws[i]?).length = ps.length → bindArgs (PySem.W.fnOf x qual (defArgs st) (defBody st) (defScope st) .none kV doc pmv an cdv ct) ⟨[], ks.zip ws⟩ = pure (ps.zip (pm.filterMap fun i => ws[i]?))) :
    KBinds K fd ps ks (kwG pm) (kwG pm) := by
  obtain ⟨oc, od, kV, doc, pmv, an, cdv, ct, osl, rfl, lk, hcd⟩ := F.ex
  refine ⟨fun s us ws _ hl => ?_, fun {vs us zs ws} r rz => ?_⟩
  · cases us with
    | nil => exact .of_eq (h kV doc pmv an cdv ct ws hl)
    | cons u us => simp [kwG] at hl; omega
  · cases r with
    | nil => exact vals_perm rz pm
    | cons _ _ => exact .nil
end
/-! ### the script, the law -/
omit [Me] in
def spLaw (K : PySem.W.Frag) : Sp := fun vs H Q _ => ∃ (a : Addr) (ns : List Int), vs = [.ref a] ∧ SqL K H a (ns.map V.int) ∧ ns.length ≤ 63 ∧ (∀ q ∈ Tabs.ts, H q.1 = some (.tbl #[])) ∧ ∀ H', Q (.bl true) H'
omit [Me] in
def bag0 (ns : List Int) (seed : Int) : List Dt := [.lst (ns.map Dt.int), .int 0, .int 0, .int seed, .int 0]
theorem law_rel {K : PySem.W.Frag} {β l : Addr} {ns : List Int} {seed : Int} {H : Hp} {a : V} {n : Nat} (hn : β ≠ l) (hl : H l = some (.lst (ns.map V.int))) (hb : H β = some (.lst [.ref l, .int 0, .int 0, .int seed, .int 0])) (ht : ∀ q ∈ Tabs.ts, H q.1 = some (.tbl #[])) :
    Rel K β (fun _ => none) ([some a, some (.ref β)] ++ List.replicate n none) H (upd (fun _ => none) l (.lst (ns.map V.int))) ⟨[none, some (.dat .bag)] ++ List.replicate n none, bag0 ns seed⟩ where
  len := by simp
  gh := fun p o e => by
    by_cases c : p = l
    · subst c; rw [upd_same] at e; cases e; exact hl
    · rw [upd_ne c] at e; cases e
  pr := fun p o e => by cases e
  pb := rfl
  bag := ⟨_, hb, by rw [upd_ne hn], isl_cons.mpr ⟨_, _, rfl, is_lst.mpr ⟨l, _, rfl, upd_same, IsL.ints⟩, isl_cons.mpr ⟨_, _, rfl, is_int.mpr rfl, isl_cons.mpr ⟨_, _, rfl, is_int.mpr rfl, isl_cons.mpr ⟨_, _, rfl, is_int.mpr rfl, isl_cons.mpr ⟨_, _, rfl, is_int.mpr rfl, isl_nil.mpr rfl⟩⟩⟩⟩⟩⟩
  dat := fun i d e => by
    match i, e with
    | 0, e => cases e
    | 1, e => cases e; exact ⟨_, rfl, is_bag.mpr rfl⟩
    | i + 2, e =>
      simp only [List.cons_append, List.nil_append, List.getElem?_cons_succ, List.getElem?_replicate] at e
      split at e <;> cases e
  own := fun i d e => by
    match i, e with
    | 0, e => cases e
    | 1, e => cases e
    | i + 2, e =>
      simp only [List.cons_append, List.nil_append, List.getElem?_cons_succ, List.getElem?_replicate] at e
      split at e <;> cases e
  dj := fun i _ d _ _ e => by
    match i, e with
    | 0, e => cases e
    | 1, e => cases e
    | i + 2, e =>
      simp only [List.cons_append, List.nil_append, List.getElem?_cons_succ, List.getElem?_replicate] at e
      split at e <;> cases e
  obj := fun i c ks l e => by
    match i, e with
    | 0, e => cases e
    | 1, e => cases e
    | i + 2, e =>
      simp only [List.cons_append, List.nil_append, List.getElem?_cons_succ, List.getElem?_replicate] at e
      split at e <;> cases e
  oj := fun i _ c ks l _ _ _ e => by
    match i, e with
    | 0, e => cases e
    | 1, e => cases e
    | i + 2, e =>
      simp only [List.cons_append, List.nil_append, List.getElem?_cons_succ, List.getElem?_replicate] at e
      split at e <;> cases e
  fns := fun i l q e => by
    match i, e with
    | 0, e => cases e
    | 1, e => cases e
    | i + 2, e =>
      simp only [List.cons_append, List.nil_append, List.getElem?_cons_succ, List.getElem?_replicate] at e
      split at e <;> cases e
  tabs := fun q hq => by
    have h := ht q hq
    refine ⟨⟨#[], h, trivial, fun pos cv hc => by cases hc⟩, ?_, rfl⟩
    rw [upd_ne (fun z => by rw [z, hl] at h; cases h)]
  pt := fun p o h => by cases h
  nt := fun p ps e => by
    by_cases c : p = l
    · subst c; rw [upd_same] at e; cases e
    · rw [upd_ne c] at e; cases e
end DL

namespace DL
open PySem PySem.Spec PyProof.Rows L2
variable [Tabs] [Me]
/-! ### str of ints and texts, int of texts, f-strings -/
omit [Me] in
def gStr : List Dt → Option Dt
  | [.int i] => if i.natAbs.log2 < 1920 then some (.str (toString i)) else none
  | [.str z] => some (.str z)
  | _ => none
theorem ok_str {K : PySem.W.Frag} : Rok K (fun xs H Q => (∃ i, xs = [.int i] ∧ i.natAbs.log2 < 1920 ∧ Q (.str (toString i)) H) ∨ ∃ a, xs = [.str a] ∧ Q (.str a) H) gStr := by
  intro β P σ H G s vs ds d R i e Q q
  unfold gStr at e
  split at e
  · split at e
    · rename_i c
      cases e
      obtain ⟨v, rfl, h⟩ := one_of i
      exact .inl ⟨_, by rw [is_int.mp h], c, q _ H G (Ext.refl G) R (is_str.mpr rfl)⟩
    · cases e
  · cases e
    obtain ⟨v, rfl, h⟩ := one_of i
    exact .inr ⟨_, by rw [is_str.mp h], q _ H G (Ext.refl G) R (is_str.mpr rfl)⟩
  · cases e
omit [Me] in
def gIntS : List Dt → Option Dt
  | [.str z] => if z.length ≤ 640 then (PySem.intText? z).bind fun n => some (.int n) else none
  | _ => none
theorem ok_intS {K : PySem.W.Frag} : Rok K (fun xs H Q => ∃ a n, xs = [.str a] ∧ PySem.intText? a = some n ∧ a.length ≤ 640 ∧ Q (.int n) H) gIntS := by
  intro β P σ H G s vs ds d R i e Q q
  unfold gIntS at e
  split at e
  · split at e
    · rename_i c
      obtain ⟨n, e1, e⟩ := Option.bind_eq_some_iff.mp e
      cases e
      obtain ⟨v, rfl, h⟩ := one_of i
      exact ⟨_, n, by rw [is_str.mp h], e1, c, q _ H G (Ext.refl G) R (is_int.mpr rfl)⟩
    · cases e
  · cases e
omit [Me] in
/-- a part {x} -/
def mFmt (f : DM Dt) : DM Dt := fun s => (f s).bind fun p => match p.1 with
  | .str y => if y.length ≤ sizeLine then some (.str y, p.2) else none
  | .int i => if i.natAbs.log2 < 1920 then some (.str (toString i), p.2) else none
  | _ => none
omit [Me] in
def mJs : List (DM Dt) → Str → DM Str
  | [], acc, s => some (acc, s)
  | f :: fs, acc, s => (f s).bind fun p => match p.1 with
    | .str y => if (acc ++ y).length ≤ sizeLine then mJs fs (acc ++ y) p.2 else none
    | _ => none
omit [Me] in
def mJoined (fs : List (DM Dt)) : DM Dt := fun s => (mJs fs Str.empty s).bind fun p => some (.str p.1, p.2)
omit [Me] in
inductive DJ (X : Cx) : List Expr → List (DM Dt) → Prop where
  | nil : DJ X [] []
  | cons {e : Expr} {f : DM Dt} {es : List Expr} {fs : List (DM Dt)} (h : DE X e f) (r : DJ X es fs) : DJ X (e :: es) (f :: fs)
section
variable {X : Cx}
theorem de_fmt {e : Expr} {f : DM Dt} {pos : Pos} (h : DE X e f) : DE X (.FormattedValue e (-1) none pos) (mFmt f) := by
  obtain ⟨t, p, o⟩ := h
  refine ⟨_, pe_fmt p, fun β P σ H G s d s' R e Q q => ?_⟩
  unfold mFmt at e
  obtain ⟨⟨x, s1⟩, e1, e⟩ := Option.bind_eq_some_iff.mp e
  refine o β P σ H G s x s1 R e1 _ fun v H1 G1 x1 R1 i1 => ?_
  cases x with
  | str y =>
    dsimp only at e
    split at e
    · rename_i c; cases e; exact .inl ⟨y, is_str.mp i1, c, q _ H1 G1 x1 R1 (is_str.mpr rfl)⟩
    · cases e
  | int i =>
    dsimp only at e
    split at e
    · rename_i c; cases e; exact .inr ⟨i, is_int.mp i1, c, q _ H1 G1 x1 R1 (is_str.mpr rfl)⟩
    · cases e
  | _ => cases e
theorem dj_ok {es : List Expr} {fs : List (DM Dt)} (h : DJ X es fs) : ∃ ts, PJ X es ts ∧ ∀ (β : Addr) (P : Hp) (σ : L2.St) (H G : Hp) (s : Sta) (acc out : Str) (s' : Sta), Rel X.K β P σ H G s → mJs fs acc s = some (out, s') →
    ∀ Q : Str → Hp → Prop, (∀ H' G', Ext G G' → Rel X.K β P σ H' G' s' → Q out H') → tJs ts acc σ H Q := by
  induction h with
  | nil => exact ⟨[], .nil, fun β P σ H G s acc out s' R e Q q => by cases e; exact q H G (Ext.refl G) R⟩
  | @cons e f es fs h r ih =>
    obtain ⟨t, p, o⟩ := h
    obtain ⟨ts, pj, oj⟩ := ih
    refine ⟨t :: ts, .cons p pj, fun β P σ H G s acc out s' R e Q q => ?_⟩
    unfold mJs at e
    obtain ⟨⟨x, s1⟩, e1, e⟩ := Option.bind_eq_some_iff.mp e
    refine o β P σ H G s x s1 R e1 _ fun v H1 G1 x1 R1 i1 => ?_
    cases x with
    | str y =>
      dsimp only at e
      split at e
      · rename_i c
        exact ⟨y, is_str.mp i1, c, oj β P σ H1 G1 s1 (acc ++ y) out s' R1 e Q fun H2 G2 x2 R2 => q H2 G2 (x1.trans x2) R2⟩
      · cases e
    | _ => cases e
theorem de_joined {v1 v2 : Expr} {rest : List Expr} {fs : List (DM Dt)} {pos : Pos} (h : DJ X (v1 :: v2 :: rest) fs) : DE X (.JoinedStr (v1 :: v2 :: rest) pos) (mJoined fs) := by
  obtain ⟨ts, pj, oj⟩ := dj_ok h
  refine ⟨_, pe_joined pj, fun β P σ H G s d s' R e Q q => ?_⟩
  unfold mJoined at e
  obtain ⟨⟨out, s1⟩, e1, e⟩ := Option.bind_eq_some_iff.mp e
  cases e
  exact oj β P σ H G s Str.empty out s1 R e1 _ fun H1 G1 x1 R1 => q _ H1 G1 x1 R1 (is_str.mpr rfl)
end
end DL

namespace DL
open PySem PySem.Spec PyProof.Rows L2
variable [Tabs] [Me]
/-! ### lists that one name alone holds: made, grown, popped; while -/
section
variable {K : PySem.W.Frag} {β : Addr} {P : Hp} {σ : L2.St} {H G : Hp} {s : Sta}
/-- a new list, held by slot i alone -/
theorem Rel.setOwn (R : Rel K β P σ H G s) {i : Nat} {p : Addr} {l : List Dt} {vs : List V} (hp : H p = none) (h : IsL K β G l vs) :
    Rel K β P (σ.set i (some (.ref p))) (upd H p (.lst vs)) G { s with sl := s.sl.set i (some (.own l)) } where
  len := by simp [R.len]
  gh := fun a o e => by rw [upd_ne (ne_of_none e (R.free hp))]; exact R.gh a o e
  pr := fun a o e => by
    have h1 := R.pr a o e
    rw [upd_ne (ne_of_none h1.1 hp)]; exact h1
  pb := R.pb
  bag := by
    obtain ⟨us, h1, h2, h3⟩ := R.bag
    exact ⟨us, by rw [upd_ne (ne_of_none h1 hp)]; exact h1, h2, h3⟩
  dat := fun j d q => by
    rw [get_set] at q ⊢
    rw [R.len]
    by_cases c : i = j ∧ i < s.sl.length
    · rw [if_pos c] at q; cases q
    · rw [if_neg c] at q ⊢; exact R.dat j d q
  own := fun j m q => by
    rw [get_set] at q ⊢
    rw [R.len]
    by_cases c : i = j ∧ i < s.sl.length
    · rw [if_pos c] at q ⊢
      cases q
      obtain ⟨us, b1, _, _⟩ := R.bag
      refine ⟨p, vs, rfl, upd_same, R.free hp, ?_, (ne_of_none b1 hp).symm, h⟩
      cases e : P p with
      | none => rfl
      | some o => have := (R.pr p o e).1; rw [hp] at this; cases this
    · rw [if_neg c] at q ⊢
      obtain ⟨p', us, h1, h2, h3⟩ := R.own j m q
      exact ⟨p', us, h1, by rw [upd_ne (ne_of_none h2 hp)]; exact h2, h3⟩
  dj := fun j k l m a q1 q2 r1 r2 => by
    simp only [get_set] at q1 q2 r1 r2
    rw [R.len] at r1 r2
    by_cases c : i = j ∧ i < s.sl.length
    · by_cases c' : i = k ∧ i < s.sl.length
      · exact c.1.symm.trans c'.1
      · rw [if_pos c] at r1
        rw [if_neg c'] at q2 r2
        cases r1
        obtain ⟨p', us, h1, h2, _⟩ := R.own k m q2
        rw [h1] at r2
        cases r2
        rw [hp] at h2; cases h2
    · by_cases c' : i = k ∧ i < s.sl.length
      · rw [if_pos c'] at r2
        rw [if_neg c] at q1 r1
        cases r2
        obtain ⟨p', us, h1, h2, _⟩ := R.own j l q1
        rw [h1] at r1
        cases r1
        rw [hp] at h2; cases h2
      · rw [if_neg c] at q1 r1
        rw [if_neg c'] at q2 r2
        exact R.dj j k l m a q1 q2 r1 r2
  obj := fun j c0 ks l q => by
    rw [get_set] at q
    by_cases c : i = j ∧ i < s.sl.length
    · rw [if_pos c] at q
      cases q
    · rw [if_neg c] at q
      obtain ⟨p', C, dx, us, h1, h0, h2, h3⟩ := R.obj j c0 ks l q
      refine ⟨p', C, dx, us, ?_, h0, by rw [upd_ne (ne_of_none h2 hp)]; exact h2, h3⟩
      rw [get_set, R.len, if_neg c]
      exact h1
  oj := fun j k c0 ks l c1 ks' l' q1 q2 => by
    simp only [get_set] at q1 q2
    by_cases c : i = j ∧ i < s.sl.length
    · rw [if_pos c] at q1; cases q1
    by_cases c' : i = k ∧ i < s.sl.length
    · rw [if_pos c'] at q2; cases q2
    rw [if_neg c] at q1
    rw [if_neg c'] at q2
    exact R.oj j k _ _ _ _ _ _ q1 q2
  fns := fun j l q e => by
    rw [get_set] at e
    by_cases c : i = j ∧ i < s.sl.length
    · rw [if_pos c] at e; cases e
    · rw [if_neg c] at e
      exact (R.fns j l q e).of (by rw [get_set, R.len, if_neg c])
  tabs := fun q hq => by
    obtain ⟨t, g, n⟩ := R.tabs q hq
    exact ⟨t.of (upd_ne (t.ne hp)) (Ext.refl G), g, n⟩
  pt := R.pt
  nt := R.nt
/-- what an own list holds is changed -/
theorem Rel.putOwn (R : Rel K β P σ H G s) {i : Nat} {p : Addr} {l l' : List Dt} {vs' : List V} (hi : s.sl[i]? = some (some (.own l))) (hp : σ[i]? = some (some (.ref p))) (h : IsL K β G l' vs') :
    Rel K β P σ (upd H p (.lst vs')) G { s with sl := s.sl.set i (some (.own l')) } := by
  obtain ⟨p', vs, e1, e2, e3, e4, e5, _⟩ := R.own i l hi
  rw [hp] at e1
  cases e1
  have hlen : i < s.sl.length := (List.getElem?_eq_some_iff.mp hi).1
  exact {
    len := by simp [R.len]
    gh := fun a o e => by rw [upd_ne (ne_of_none e e3)]; exact R.gh a o e
    pr := fun a o e => by
      have n : a ≠ p := fun z => by rw [z, e4] at e; cases e
      rw [upd_ne n]; exact R.pr a o e
    pb := R.pb
    bag := by
      obtain ⟨us, h1, h2, h3⟩ := R.bag
      exact ⟨us, by rw [upd_ne e5.symm]; exact h1, h2, h3⟩
    dat := fun j d q => by
      rw [get_set] at q
      by_cases c : i = j ∧ i < s.sl.length
      · rw [if_pos c] at q; cases q
      · rw [if_neg c] at q; exact R.dat j d q
    own := fun j m q => by
      rw [get_set] at q
      by_cases c : i = j ∧ i < s.sl.length
      · rw [if_pos c] at q
        cases q
        obtain ⟨rfl, _⟩ := c
        exact ⟨p, vs', hp, upd_same, e3, e4, e5, h⟩
      · rw [if_neg c] at q
        obtain ⟨p', us, h1, h2, h3⟩ := R.own j m q
        have n : p' ≠ p := fun z => by
          subst z
          exact c ⟨R.dj i j l m p' hi q hp h1, hlen⟩
        exact ⟨p', us, h1, by rw [upd_ne n]; exact h2, h3⟩
    dj := fun j k l1 m a q1 q2 r1 r2 => by
      simp only [get_set] at q1 q2
      by_cases c : i = j ∧ i < s.sl.length
      · obtain ⟨rfl, _⟩ := c
        by_cases c' : i = k ∧ i < s.sl.length
        · exact c'.1
        · rw [if_neg c'] at q2
          exact R.dj i k l m a hi q2 r1 r2
      · rw [if_neg c] at q1
        by_cases c' : i = k ∧ i < s.sl.length
        · obtain ⟨rfl, _⟩ := c'
          exact R.dj j i l1 l a q1 hi r1 r2
        · rw [if_neg c'] at q2
          exact R.dj j k l1 m a q1 q2 r1 r2
    obj := fun j c0 ks m q => by
      rw [get_set] at q
      by_cases c : i = j ∧ i < s.sl.length
      · rw [if_pos c] at q; cases q
      · rw [if_neg c] at q
        obtain ⟨p', C, dx, us, h1, h0, h2, h3⟩ := R.obj j c0 ks m q
        have n : p' ≠ p := fun z => by
          rw [z, e2] at h2
          cases h2
        exact ⟨p', C, dx, us, h1, h0, by rw [upd_ne n]; exact h2, h3⟩
    oj := fun j k c0 ks l c1 ks' l' q1 q2 => by
      simp only [get_set] at q1 q2
      by_cases c : i = j ∧ i < s.sl.length
      · rw [if_pos c] at q1; cases q1
      by_cases c' : i = k ∧ i < s.sl.length
      · rw [if_pos c'] at q2; cases q2
      rw [if_neg c] at q1
      rw [if_neg c'] at q2
      exact R.oj j k _ _ _ _ _ _ q1 q2
    fns := fun j l q e => by
      rw [get_set] at e
      by_cases c : i = j ∧ i < s.sl.length
      · rw [if_pos c] at e; cases e
      · rw [if_neg c] at e
        exact R.fns j l q e
    tabs := fun q hq => by
      obtain ⟨t, g, n⟩ := R.tabs q hq
      exact ⟨t.of (upd_ne (t.neL e2)) (Ext.refl G), g, n⟩
    pt := R.pt
    nt := R.nt }
/-- an own list is let go: from now on it is data -/
theorem Rel.freeze (R : Rel K β P σ H G s) {i : Nat} {l : List Dt} (hi : s.sl[i]? = some (some (.own l))) : ∃ p vs G', σ[i]? = some (some (.ref p)) ∧ Ext G G' ∧ Rel K β P σ H G' { s with sl := s.sl.set i (some (.dat (.lst l))) } ∧ IsD K β G' (.lst l) (.ref p) ∧ G' p = some (.lst vs) := by
  obtain ⟨p, vs, e1, e2, e3, e4, e5, e6⟩ := R.own i l hi
  have xx : Ext G (upd G p (.lst vs)) := Ext.new e3
  have hd : IsD K β (upd G p (.lst vs)) (.lst l) (.ref p) := is_lst.mpr ⟨p, vs, rfl, upd_same, IsL.mono xx _ _ e6⟩
  have hlen : i < s.sl.length := (List.getElem?_eq_some_iff.mp hi).1
  refine ⟨p, vs, _, e1, xx, ?_, hd, upd_same⟩
  exact {
    len := by simp [R.len]
    gh := fun a o e => by
      by_cases c : a = p
      · subst c; rw [upd_same] at e; cases e; exact e2
      · rw [upd_ne c] at e; exact R.gh a o e
    pr := fun a o e => by
      have n : a ≠ p := fun z => by rw [z, e4] at e; cases e
      rw [upd_ne n]; exact R.pr a o e
    pb := R.pb
    bag := by
      obtain ⟨us, h1, h2, h3⟩ := R.bag
      exact ⟨us, h1, by rw [upd_ne e5.symm]; exact h2, IsL.mono xx _ _ h3⟩
    dat := fun j d q => by
      rw [get_set] at q
      by_cases c : i = j ∧ i < s.sl.length
      · rw [if_pos c] at q
        cases q
        obtain ⟨rfl, _⟩ := c
        exact ⟨_, e1, hd⟩
      · rw [if_neg c] at q
        obtain ⟨v, h1, h2⟩ := R.dat j d q
        exact ⟨v, h1, IsD.mono xx _ _ h2⟩
    own := fun j m q => by
      rw [get_set] at q
      by_cases c : i = j ∧ i < s.sl.length
      · rw [if_pos c] at q; cases q
      · rw [if_neg c] at q
        obtain ⟨p', us, h1, h2, h3, h4, h5, h6⟩ := R.own j m q
        have n : p' ≠ p := fun z => by
          subst z
          exact c ⟨R.dj i j l m p' hi q e1 h1, hlen⟩
        exact ⟨p', us, h1, h2, by rw [upd_ne n]; exact h3, h4, h5, IsL.mono xx _ _ h6⟩
    dj := fun j k l1 m a q1 q2 r1 r2 => by
      simp only [get_set] at q1 q2
      by_cases c : i = j ∧ i < s.sl.length
      · rw [if_pos c] at q1; cases q1
      · rw [if_neg c] at q1
        by_cases c' : i = k ∧ i < s.sl.length
        · rw [if_pos c'] at q2; cases q2
        · rw [if_neg c'] at q2
          exact R.dj j k l1 m a q1 q2 r1 r2
    obj := fun j c0 ks m q => by
      rw [get_set] at q
      by_cases c : i = j ∧ i < s.sl.length
      · rw [if_pos c] at q; cases q
      · rw [if_neg c] at q
        obtain ⟨p', C, dx, us, h1, h0, h2, h3, h4, h5, h6⟩ := R.obj j c0 ks m q
        have n : p' ≠ p := fun z => by
          rw [z, e2] at h2
          cases h2
        exact ⟨p', C, dx, us, h1, h0, h2, by rw [upd_ne n]; exact h3, h4, h5, IsL.mono xx _ _ h6⟩
    oj := fun j k c0 ks l c1 ks' l' q1 q2 => by
      simp only [get_set] at q1 q2
      by_cases c : i = j ∧ i < s.sl.length
      · rw [if_pos c] at q1; cases q1
      by_cases c' : i = k ∧ i < s.sl.length
      · rw [if_pos c'] at q2; cases q2
      rw [if_neg c] at q1
      rw [if_neg c'] at q2
      exact R.oj j k _ _ _ _ _ _ q1 q2
    fns := fun j l q e => by
      rw [get_set] at e
      by_cases c : i = j ∧ i < s.sl.length
      · rw [if_pos c] at e; cases e
      · rw [if_neg c] at e
        exact (R.fns j l q e).mono xx
    tabs := fun q hq => by
      obtain ⟨t, g, n⟩ := R.tabs q hq
      exact ⟨t.of rfl xx, by rw [upd_ne (t.neL e2)]; exact g, n⟩
    pt := R.pt
    nt := fun a ps h => by
      by_cases c : a = p
      · subst c; rw [upd_same] at h; cases h
      · rw [upd_ne c] at h; exact R.nt a ps h }
end
omit [Me] in
/-- x = [..], x being changed later on -/
def kOwn (i : Nat) (f : DM (List Dt)) : DMs := fun s => (f s).bind fun p => if p.1.length ≤ 1000 then some (.nx, { p.2 with sl := p.2.sl.set i (some (.own p.1)) }) else none
omit [Me] in
/-- the value of such a name: it is let go -/
def mMove (i : Nat) : DM Dt := fun s => match s.sl[i]? with
  | some (some (.own l)) => some (.lst l, { s with sl := s.sl.set i (some (.dat (.lst l))) })
  | _ => none
omit [Me] in
def mTruOwn (i : Nat) : DM Bool := fun s => match s.sl[i]? with
  | some (some (.own l)) => some (!l.isEmpty, s)
  | _ => none
omit [Me] in
def mPop (i : Nat) : DM Dt := fun s => match s.sl[i]? with
  | some (some (.own l)) => (l[l.length - 1]?).bind fun d => some (d, { s with sl := s.sl.set i (some (.own l.dropLast)) })
  | _ => none
omit [Me] in
def mAppend (i : Nat) (f : DM Dt) : DM Dt := fun s => (f s).bind fun p => match p.2.sl[i]? with
  | some (some (.own l)) => if l.length < 100000 then some (.non, { p.2 with sl := p.2.sl.set i (some (.own (l ++ [p.1]))) }) else none
  | _ => none
omit [Me] in
def mExtend (i : Nat) (f : DM Dt) : DM Dt := fun s => (f s).bind fun p => match p.2.sl[i]?, p.1 with
  | some (some (.own l)), .lst m => if l.length + m.length ≤ 100000 then some (.non, { p.2 with sl := p.2.sl.set i (some (.own (l ++ m))) }) else none
  | _, _ => none
theorem IsL.dropLast {K : PySem.W.Frag} {β : Addr} {G : Hp} {l : List Dt} {vs : List V} (h : IsL K β G l vs) : IsL K β G l.dropLast vs.dropLast := by
  rw [List.dropLast_eq_take, List.dropLast_eq_take, h.len]
  exact h.take _
section
variable {X : Cx}
theorem ds_own {i : Nat} {x : Str} {es : List Expr} {f : DM (List Dt)} {pos' p pos : Pos} (hN : X.N.Nodup) (hi : X.N[i]? = some x) (hx : Loc X.env.scope x) (ha : DA X es f) (hs : swapsWith (.List es p) (some (.Name x pos')) pos.line X.env = pure false := by rfl) (hf : X.fn x = true ∨ X.env.scope.names.lookup x = some .local := by first | exact .inl rfl | exact .inr rfl | assumption) :
    DS X (.Assign [.Name x pos'] (.List es p) pos) (kOwn i f) := by
  obtain ⟨t, pp, o⟩ := ha
  refine ⟨_, ps_set hN hi hx (pe_lst pp) hs hf, fun β P σ H G s r s' R e D k => ?_⟩
  unfold kOwn at e
  obtain ⟨⟨l, s1⟩, e1, e⟩ := Option.bind_eq_some_iff.mp e
  dsimp only at e
  split at e
  · rename_i hl
    cases e
    refine o β P σ H G s l s1 R e1 _ fun vs H1 G1 x1 R1 i1 => ?_
    refine ⟨le_line (by rw [i1.len]; exact hl), fun a ha => ?_⟩
    exact k _ _ G1 x1 (R1.setOwn ha i1)
  · cases e
theorem de_move {e : Expr} (i : Nat) (h : PE X e (tVar i)) : DE X e (mMove i) := ⟨_, h, fun β P σ H G s d s' R e Q q => by
  unfold mMove at e
  split at e
  · rename_i l hi
    cases e
    obtain ⟨p, vs, G', e1, xx, R', hd, _⟩ := R.freeze hi
    exact ⟨_, e1, q _ H G' xx R' hd⟩
  · cases e⟩
theorem dt_own {e : Expr} (i : Nat) (h : PE X e (tVar i)) (he : ∀ whole, isTrue e X.env whole = (do let v ← whole; standAt e.pos; holding [v] (truthy v)) := by intro _; rfl) : DT X e (mTruOwn i) := ⟨_, pt_truth h he, fun β P σ H G s b s' R e Q q => by
  unfold mTruOwn at e
  split at e
  · rename_i l hi
    cases e
    obtain ⟨p, vs, e1, e2, e3, e4, e5, e6⟩ := R.own i l hi
    exact ⟨_, e1, _, .inl ⟨vs, .inl (.inl e2), len_empty e6⟩, q H G (Ext.refl G) R⟩
  · cases e⟩
theorem de_pop {o : Expr} {apos cpos : Pos} (i : Nat) (h : PE X o (tVar i)) (hbase : attributeBase o "pop" X.env (eval o X.env) = eval o X.env := by rfl) (hline : (apos.endLine == cpos.line) = true := by rfl) :
    DE X (.Call (.Attribute o "pop" apos) [] [] cpos) (mPop i) := ⟨_, pe_bm0 PySem.F.plainAttrs_list PySem.F.slot_list_pop PySem.F.type_list_pop mt_pop h hbase hline, fun β P σ H G s d s' R e Q q => by
  unfold mPop at e
  split at e
  · rename_i l hi
    obtain ⟨d', e0, e⟩ := Option.bind_eq_some_iff.mp e
    cases e
    obtain ⟨p, vs, e1, e2, e3, e4, e5, e6⟩ := R.own i l hi
    obtain ⟨v, hv, iv⟩ := e6.get e0
    refine ⟨_, e1, .inl ⟨rfl, vs, .inl (.inl e2)⟩, p, vs, v, rfl, rfl, e2, by rw [e6.len]; exact hv, ?_⟩
    exact q v _ G (Ext.refl G) (R.putOwn hi e1 e6.dropLast) iv
  · cases e⟩
theorem de_append {o a : Expr} {f : DM Dt} {apos cpos : Pos} (i : Nat) (h : PE X o (tVar i)) (ha : DE X a f) (hne : ∀ s d s', f s = some (d, s') → s'.sl[i]? = s.sl[i]?)
    (hbase : attributeBase o "append" X.env (eval o X.env) = eval o X.env := by rfl)
    (hfew : ((backTo cpos (starEach [a] X.env)).all (fun x => !x.1) && (backToKw cpos (keywordEach [] X.env)).all (fun x => x.1.isSome)
      && decide ([a].length + ([] : List Keyword).length + (if ([] : List Keyword).isEmpty then 0 else 1) < 30)) = true := by rfl)
    (hline : (apos.endLine == cpos.line) = true := by rfl) (hs : starEach [a] X.env = (false, eval a X.env) :: starEach [] X.env := by rfl) (hplain : (backTo cpos (starEach [] X.env)).any (·.1) = false := by rfl) :
    DE X (.Call (.Attribute o "append" apos) [a] [] cpos) (mAppend i f) := by
  obtain ⟨t, p1, o1⟩ := ha
  refine ⟨_, pe_bm PySem.F.plainAttrs_list PySem.F.slot_list_append PySem.F.type_list_append mt_append h (pa_cons p1 pa_nil hs) hbase hfew hline hs hplain, fun β P σ H G s d s' R e Q q => ?_⟩
  unfold mAppend at e
  obtain ⟨⟨x, s1⟩, e1, e⟩ := Option.bind_eq_some_iff.mp e
  dsimp only at e
  split at e
  · rename_i l hi
    split at e
    · rename_i hl
      cases e
      have hi0 : s.sl[i]? = some (some (.own l)) := by rw [← hne _ _ _ e1]; exact hi
      obtain ⟨p, vs, q1, q2, _⟩ := R.own i l hi0
      refine ⟨_, q1, .inl ⟨rfl, vs, .inl (.inl q2)⟩, ?_⟩
      refine o1 β P σ H G s x s1 R e1 _ fun v H1 G1 x1 R1 i1 => ?_
      obtain ⟨p', vs', r1, r2, r3, r4, r5, r6⟩ := R1.own i l hi
      rw [q1] at r1
      cases r1
      refine ⟨p, vs', v, rfl, rfl, r2, by rw [r6.len]; exact Nat.lt_of_lt_of_le hl (by decide), ?_⟩
      exact q _ _ G1 x1 (R1.putOwn hi q1 (r6.snoc i1)) (is_non.mpr rfl)
    · cases e
  · cases e
theorem de_extend {o a : Expr} {f : DM Dt} {apos cpos : Pos} (i : Nat) (h : PE X o (tVar i)) (ha : DE X a f) (hne : ∀ s d s', f s = some (d, s') → s'.sl[i]? = s.sl[i]?)
    (hbase : attributeBase o "extend" X.env (eval o X.env) = eval o X.env := by rfl)
    (hfew : ((backTo cpos (starEach [a] X.env)).all (fun x => !x.1) && (backToKw cpos (keywordEach [] X.env)).all (fun x => x.1.isSome)
      && decide ([a].length + ([] : List Keyword).length + (if ([] : List Keyword).isEmpty then 0 else 1) < 30)) = true := by rfl)
    (hline : (apos.endLine == cpos.line) = true := by rfl) (hs : starEach [a] X.env = (false, eval a X.env) :: starEach [] X.env := by rfl) (hplain : (backTo cpos (starEach [] X.env)).any (·.1) = false := by rfl) :
    DE X (.Call (.Attribute o "extend" apos) [a] [] cpos) (mExtend i f) := by
  obtain ⟨t, p1, o1⟩ := ha
  refine ⟨_, pe_bm PySem.F.plainAttrs_list PySem.F.slot_list_extend PySem.F.type_list_extend mt_extend h (pa_cons p1 pa_nil hs) hbase hfew hline hs hplain, fun β P σ H G s d s' R e Q q => ?_⟩
  unfold mExtend at e
  obtain ⟨⟨x, s1⟩, e1, e⟩ := Option.bind_eq_some_iff.mp e
  dsimp only at e
  split at e
  · rename_i l m hi
    split at e
    · rename_i hl
      cases e
      have hi0 : s.sl[i]? = some (some (.own l)) := by rw [← hne _ _ _ e1]; exact hi
      obtain ⟨p, vs, q1, q2, _⟩ := R.own i l hi0
      refine ⟨_, q1, .inl ⟨rfl, vs, .inl (.inl q2)⟩, ?_⟩
      refine o1 β P σ H G s _ s1 R e1 _ fun v H1 G1 x1 R1 i1 => ?_
      obtain ⟨b, us, rfl, b1, b2⟩ := is_lst.mp i1
      obtain ⟨p', vs', r1, r2, r3, r4, r5, r6⟩ := R1.own i l hi
      rw [q1] at r1
      cases r1
      refine ⟨p, b, vs', us, rfl, rfl, r2, R1.gh _ _ b1, by rw [r6.len, b2.len]; exact Nat.le_trans hl (by decide), ?_⟩
      exact q _ _ G1 x1 (R1.putOwn hi q1 (r6.append b2)) (is_non.mpr rfl)
    · cases e
  · cases e
/-! while -/
omit [Me] in
def whileD (c : DM Bool) (b : DMs) : Nat → DMs
  | 0, _ => none
  | n + 1, s => (c s).bind fun p => if p.1 = true then (b p.2).bind fun q => match q.1 with
      | .nx => whileD c b n q.2
      | .ct => whileD c b n q.2
      | .bk => some (.nx, q.2)
      | .rt d => some (.rt d, q.2)
    else some (.nx, p.2)
theorem ds_while {c : Expr} {body : List Stmt} {fc : DM Bool} {b : DMs} {pos : Pos} (n : Nat) (hp : PassesOwn (model X.prog X.w) X.A X.env X.xe) (hc : DT X c fc) (hb : DSs X body b) : DS X (.While c body [] pos) (whileD fc b n) := by
  obtain ⟨tc, p1, o1⟩ := hc
  obtain ⟨tb, p2, o2⟩ := hb
  refine ⟨_, ps_while hp p1 p2, fun β P σ H G s r s' R e D k => ?_⟩
  refine ⟨fun m σ2 H2 => ∃ G2 s2, Ext G G2 ∧ Rel X.K β P σ2 H2 G2 s2 ∧ whileD fc b m s2 = some (r, s'), ⟨n, G, s, Ext.refl G, R, e⟩, ?_⟩
  rintro m σ2 H2 ⟨G2, s2, x2, R2, e2⟩
  cases m with
  | zero => cases e2
  | succ m =>
    unfold whileD at e2
    obtain ⟨⟨bv, s3⟩, e3, e2⟩ := Option.bind_eq_some_iff.mp e2
    refine o1 β P σ2 H2 G2 s2 bv s3 R2 e3 _ fun H3 G3 x3 R3 => ?_
    cases bv with
    | true =>
      rw [if_pos rfl] at e2 ⊢
      obtain ⟨⟨res, s4⟩, e4, e2⟩ := Option.bind_eq_some_iff.mp e2
      refine ⟨fun σ' H' => ∃ G2 s2, Ext G G2 ∧ Rel X.K β P σ' H' G2 s2 ∧ whileD fc b m s2 = some (r, s'), fun σ' H' h => ⟨m, Nat.lt_succ_self m, h⟩, ?_⟩
      refine o2 β P σ2 H3 G3 s3 res s4 R3 e4 _ ?_
      cases res with
      | nx => exact fun σ5 H5 G5 x5 R5 => ⟨G5, s4, (x2.trans x3).trans x5, R5, e2⟩
      | ct => exact fun σ5 H5 G5 x5 R5 => ⟨G5, s4, (x2.trans x3).trans x5, R5, e2⟩
      | bk => cases e2; exact fun σ5 H5 G5 x5 R5 => k σ5 H5 G5 ((x2.trans x3).trans x5) R5
      | rt d => cases e2; exact fun v σ5 H5 G5 x5 R5 i5 => k v σ5 H5 G5 ((x2.trans x3).trans x5) R5 i5
    | false =>
      rw [if_neg Bool.false_ne_true] at e2 ⊢
      cases e2
      exact k σ2 H3 G3 (x2.trans x3) R3
end
end DL

namespace DL
open PySem PySem.Spec PyProof.Rows L2
variable [Tabs] [Me]

/-! ### dicts: written ones with text keys, as data -/
theorem pairs_const : ∀ (l : List (Str × Str)) (σ : L2.St) (H : Hp) (Q : List (V × V) → Hp → Prop), Q (l.map fun p => (V.str p.1, V.str p.2)) H → tPairs (l.map fun p => (tC (.str p.1), tC (.str p.2))) σ H Q
  | [], _, _, _, h => h
  | p :: l, σ, H, Q, h => by
    show tPairs (l.map fun p => (tC (.str p.1), tC (.str p.2))) σ H fun ps H3 => Q ((V.str p.1, V.str p.2) :: ps) H3
    exact pairs_const l σ H _ h
omit [Me] in
def dicS (l : List (Str × Str)) : Dt := .dic (l.map fun p => .inr p.1) (l.map fun p => .str p.2)
theorem zip_dicS : ∀ l : List (Str × Str), (l.map fun p => (Sum.inr p.1 : Key)).zip (l.map fun p => V.str p.2) = l.map fun p => ((Sum.inr p.1 : Key), V.str p.2)
  | [] => rfl
  | p :: l => by simp only [List.map_cons, List.zip_cons_cons, zip_dicS l]
theorem isl_strs {K : PySem.W.Frag} {β : Addr} {G : Hp} : ∀ l : List (Str × Str), IsL K β G (l.map fun p => Dt.str p.2) (l.map fun p => V.str p.2)
  | [] => isl_nil.mpr rfl
  | p :: l => isl_cons.mpr ⟨_, _, rfl, is_str.mpr rfl, isl_strs l⟩
section
variable {X : Cx}
theorem de_dicS {pos : Pos} {keys : List (Option Expr)} {values : List Expr} {trs : List (TE × TE)} (l : List (Str × Str)) (h : PPs X pos keys values trs) (ht : trs = l.map (fun p => (tC (.str p.1), tC (.str p.2))) := by rfl) (hall : keys.all (·.isSome) = true := by rfl) (hl : keys.length = values.length := by rfl) (h0 : keys ≠ [] := by intro z; cases z)
    (h15 : keys.length ≤ 15 := by decide) (hlen : l.length ≤ 15 := by decide) (hm : mergeK [] (l.map fun p => ((Sum.inr p.1 : Key), V.str p.2)) = l.map fun p => ((Sum.inr p.1 : Key), V.str p.2) := by rfl) : DE X (.Dict keys values pos) (mC (dicS l)) := by
  refine ⟨_, pe_disp h hall hl h0 h15, fun β P σ H G s d s' R e Q q => ?_⟩
  cases e
  intro p hp
  rw [ht]
  refine pairs_const l σ _ _ ?_
  refine ⟨upd_same, l.map fun p => ((Sum.inr p.1 : Key), V.str p.2), ?_, by rw [List.length_map]; exact hlen, ?_⟩
  · rw [List.map_map] <;> rfl
  · rw [hm]
    have e2 : upd (upd H p (.dK [])) p (.dK (l.map fun p => ((Sum.inr p.1 : Key), V.str p.2))) = upd H p (.dK (l.map fun p => ((Sum.inr p.1 : Key), V.str p.2))) := by
      funext b
      by_cases c : b = p
      · subst c; rw [upd_same, upd_same]
      · rw [upd_ne c, upd_ne c, upd_ne c]
    rw [e2]
    exact q _ _ _ (Ext.new (R.free hp)) (R.new hp) (is_dic.mpr ⟨p, l.map fun p => V.str p.2, rfl, by rw [zip_dicS]; exact upd_same, by rw [List.length_map, List.length_map], isl_strs l⟩)
end
omit [Me] in
def lookD : List Key → List Dt → Key → Option Dt
  | k :: ks, d :: l, x => if k = x then some d else lookD ks l x
  | _, _, _ => none
theorem look_ok {K : PySem.W.Frag} {β : Addr} {G : Hp} : ∀ {ks : List Key} {l : List Dt} {vs : List V} {k : Key} {d : Dt}, IsL K β G l vs → lookD ks l k = some d → ∃ v, valV (ks.zip vs) k = some v ∧ IsD K β G d v
  | [], _, _, _, _, _, e => by simp [lookD] at e
  | _ :: _, [], _, _, _, _, e => by simp [lookD] at e
  | k :: ks, d :: l, vs, x, y, h, e => by
    obtain ⟨v, r, rfl, h1, h2⟩ := isl_cons.mp h
    unfold lookD at e
    rw [List.zip_cons_cons]
    by_cases c : k = x
    · rw [if_pos c] at e
      cases e
      exact ⟨v, valV_pos (p := (k, v)) c, h1⟩
    · rw [if_neg c] at e
      rw [valV_neg (p := (k, v)) c]
      exact look_ok h2 e
omit [Me] in
def keyD : Dt → Option Key
  | .str x => some (.inr x)
  | .int i => some (.inl i)
  | _ => none
omit [Me] in
def gDget : Dt → Dt → Option Dt
  | .dic ks l, d => (keyD d).bind fun k => lookD ks l k
  | _, _ => none
theorem keyD_ok {K : PySem.W.Frag} {β : Addr} {G : Hp} {d : Dt} {k : Key} {v : V} (h : IsD K β G d v) (e : keyD d = some k) : v = kV k := by
  cases d with
  | str x => cases e; exact is_str.mp h
  | int x => cases e; exact is_int.mp h
  | _ => cases e
section
variable {X : Cx} {a b : Expr} {fa fb : DM Dt} {pos : Pos}
theorem de_dget (hu : X.A.units + 1 < cLine) (ha : DE X a fa) (hb : DE X b fb) (hs : NoSl b := by exact fun _ _ => rfl) : DE X (.Subscript a b pos) (m2 gDget fa fb) := by
  obtain ⟨ta, pa, oa⟩ := ha
  obtain ⟨tb, pb, ob⟩ := hb
  refine ⟨_, pe_dget hu pa pb hs, fun β P σ H G s d s' R e Q q => ?_⟩
  unfold m2 at e
  obtain ⟨⟨x, s1⟩, e1, e⟩ := Option.bind_eq_some_iff.mp e
  obtain ⟨⟨y, s2⟩, e2, e⟩ := Option.bind_eq_some_iff.mp e
  obtain ⟨z, e3, e⟩ := Option.bind_eq_some_iff.mp e
  cases e
  refine oa β P σ H G s x s1 R e1 _ fun v H1 G1 x1 R1 i1 => ?_
  refine ob β P σ H1 G1 s1 y s2 R1 e2 _ fun u H2 G2 x2 R2 i2 => ?_
  unfold gDget at e3
  split at e3
  · rename_i ks l hx
    rw [show x = _ from hx] at i1
    obtain ⟨k, e4, e5⟩ := Option.bind_eq_some_iff.mp e3
    obtain ⟨p, vs, rfl, g1, g2, g3⟩ := is_dic.mp i1
    obtain ⟨w, w1, w2⟩ := look_ok g3 e5
    rw [keyD_ok i2 e4]
    refine ⟨p, w, rfl, ?_, q w H2 G2 (x1.trans x2) R2 (IsD.mono x2 _ _ w2)⟩
    rw [← w1]
    exact DGet.k (R2.gh _ _ (x2 _ _ g1))
  · cases e3
end

/-! ### dicts of the module, text to text -/
omit [Me] in
inductive Tbl : List DictEntry → List (Str × Str) → Prop
  | nil : Tbl [] []
  | cons {h : Int} {k v : Str} {t u : Tok} {r : List DictEntry} {l : List (Str × Str)} (n : Tbl r l) : Tbl (⟨h, .str k t, .str v u⟩ :: r) ((k, v) :: l)
omit [Me] in
def tblGet : List (Str × Str) → Str → Option Str
  | [], _ => none
  | (k, v) :: l, z => if (k == z) = true then some v else tblGet l z
theorem tbl_find {es : List DictEntry} {l : List (Str × Str)} (h : Tbl es l) (z : Str) : es.any (·.refKey) = false ∧ (match es.find? (·.key.isStr z) with | some e => ∃ v, tblGet l z = some v ∧ RelV (.str v) e.val | none => tblGet l z = none) := by
  induction h with
  | nil => exact ⟨rfl, rfl⟩
  | @cons hh k v t u r l n ih =>
    refine ⟨by rw [List.any_cons, ih.1]; rfl, ?_⟩
    have e : (Value.str k t).isStr z = (k == z) := PySem.W.isStr_of z _
    cases c : (k == z) with
    | true =>
      have e1 : List.find? (fun x => x.key.isStr z) ((⟨hh, .str k t, .str v u⟩ : DictEntry) :: r) = some ⟨hh, .str k t, .str v u⟩ := by
        rw [List.find?_cons_of_pos]
        show (Value.str k t).isStr z = true
        rw [e, c]
      rw [e1]
      exact ⟨v, by unfold tblGet; rw [c]; rfl, ⟨u, rfl⟩⟩
    | false =>
      have e1 : List.find? (fun x => x.key.isStr z) ((⟨hh, .str k t, .str v u⟩ : DictEntry) :: r) = List.find? (fun x => x.key.isStr z) r := by
        rw [List.find?_cons_of_neg]
        show ¬ (Value.str k t).isStr z = true
        rw [e, c]
        exact Bool.false_ne_true
      have e2 : tblGet ((k, v) :: l) z = tblGet l z := by
        show (if (k == z) = true then some v else tblGet l z) = _
        rw [c]
        rfl
      rw [e1, e2]
      exact ih.2
omit [Me] in
structure KTbl (K : PySem.W.Frag) (w : World) (d : Addr) (l : List (Str × Str)) : Prop where
  ex : ∃ es n, KDict K w d es n ∧ Tbl es.toList l
theorem KTbl.get {K : PySem.W.Frag} {w : World} {d : Addr} {l : List (Str × Str)} (T : KTbl K w d l) (z : Str) : match tblGet l z with | some v => ∃ u, PySem.W.nsIn K d z = some (some u) ∧ RelV (.str v) u | none => PySem.W.nsIn K d z = some none := by
  obtain ⟨es, n, D, t⟩ := T.ex
  obtain ⟨h1, h2⟩ := tbl_find t z
  have e : PySem.W.nsIn K d z = (match es.toList.find? (·.key.isStr z) with | some e => some (some e.val) | none => if es.toList.any (·.refKey) then none else some none) := by
    unfold PySem.W.nsIn
    rw [D.at_]
    rfl
  rw [e, h1]
  cases c : es.toList.find? (·.key.isStr z) with
  | some e' =>
    rw [c] at h2
    obtain ⟨v, a, b⟩ := h2
    rw [a]
    exact ⟨_, rfl, b⟩
  | none =>
    rw [c] at h2
    rw [h2]
    rfl
omit [Me] in
def mKIn (l : List (Str × Str)) (f : DM Dt) : DM Dt := fun s => (f s).bind fun p => match p.1 with
  | .str z => some (.bl (tblGet l z).isSome, p.2)
  | _ => none
omit [Me] in
def mKNin (l : List (Str × Str)) (f : DM Dt) : DM Dt := fun s => (f s).bind fun p => match p.1 with
  | .str z => some (.bl !(tblGet l z).isSome, p.2)
  | _ => none
omit [Me] in
def mKIx (l : List (Str × Str)) (f : DM Dt) : DM Dt := fun s => (f s).bind fun p => match p.1 with
  | .str z => (tblGet l z).bind fun v => some (.str v, p.2)
  | _ => none
section
variable {X : Cx} {e : Expr} {f : DM Dt} {nm : Str} {d : Addr} {l : List (Str × Str)} {p pos : Pos}
theorem te_kin (T : KTbl X.K X.w d l) (h : DE X e f) (hg : Gl X nm) (hm : X.mg nm = some (.ref d)) (hdb : (nm == ("__debug__" : Str)) = false := by decide) (hb : behindInMarks .In (.Name nm p) = false := by rfl) : ∃ t, PE X (.Compare e [.In] [.Name nm p] pos) t ∧ PT X (.Compare e [.In] [.Name nm p] pos) (tTest t) ∧ TEok X.K t (mKIn l f) := by
  obtain ⟨t, p1, o⟩ := h
  obtain ⟨es, n, D, tb⟩ := T.ex
  have pg : PE X (.Name nm p) (tC (.ref d)) := pe_glob hg hm rfl hdb
  refine ⟨_, pe_cmpR (op_in_kd D) p1 pg hb, pt_cmpR (op_in_kd D) p1 pg hb, fun β P σ H G s d' s' R e1 Q q => ?_⟩
  unfold mKIn at e1
  obtain ⟨⟨x, s1⟩, e2, e1⟩ := Option.bind_eq_some_iff.mp e1
  cases x with
  | str z =>
    cases e1
    refine o β P σ H G s _ s1 R e2 _ fun v H1 G1 x1 R1 i1 => ?_
    have g := T.get z
    rw [is_str.mp i1]
    cases c : tblGet l z with
    | none =>
      rw [c] at g
      exact ⟨z, none, rfl, rfl, g, q _ H1 G1 x1 R1 (is_bl.mpr (by rw [c]; rfl))⟩
    | some w =>
      rw [c] at g
      obtain ⟨u, g1, g2⟩ := g
      exact ⟨z, some u, rfl, rfl, g1, q _ H1 G1 x1 R1 (is_bl.mpr (by rw [c]; rfl))⟩
  | _ => cases e1
theorem te_knin (T : KTbl X.K X.w d l) (h : DE X e f) (hg : Gl X nm) (hm : X.mg nm = some (.ref d)) (hdb : (nm == ("__debug__" : Str)) = false := by decide) (hb : behindInMarks .NotIn (.Name nm p) = false := by rfl) : ∃ t, PE X (.Compare e [.NotIn] [.Name nm p] pos) t ∧ PT X (.Compare e [.NotIn] [.Name nm p] pos) (tTest t) ∧ TEok X.K t (mKNin l f) := by
  obtain ⟨t, p1, o⟩ := h
  obtain ⟨es, n, D, tb⟩ := T.ex
  have pg : PE X (.Name nm p) (tC (.ref d)) := pe_glob hg hm rfl hdb
  refine ⟨_, pe_cmpR (op_notIn_kd D) p1 pg hb, pt_cmpR (op_notIn_kd D) p1 pg hb, fun β P σ H G s d' s' R e1 Q q => ?_⟩
  unfold mKNin at e1
  obtain ⟨⟨x, s1⟩, e2, e1⟩ := Option.bind_eq_some_iff.mp e1
  cases x with
  | str z =>
    cases e1
    refine o β P σ H G s _ s1 R e2 _ fun v H1 G1 x1 R1 i1 => ?_
    have g := T.get z
    rw [is_str.mp i1]
    cases c : tblGet l z with
    | none =>
      rw [c] at g
      exact ⟨z, none, rfl, rfl, g, q _ H1 G1 x1 R1 (is_bl.mpr (by rw [c]; rfl))⟩
    | some w =>
      rw [c] at g
      obtain ⟨u, g1, g2⟩ := g
      exact ⟨z, some u, rfl, rfl, g1, q _ H1 G1 x1 R1 (is_bl.mpr (by rw [c]; rfl))⟩
  | _ => cases e1
theorem de_kin (T : KTbl X.K X.w d l) (hg : Gl X nm) (hm : X.mg nm = some (.ref d)) (h : DE X e f) (hdb : (nm == ("__debug__" : Str)) = false := by decide) (hb : behindInMarks .In (.Name nm p) = false := by rfl) : DE X (.Compare e [.In] [.Name nm p] pos) (mKIn l f) := by
  obtain ⟨t, p1, p2, o⟩ := te_kin (pos := pos) T h hg hm hdb hb
  exact ⟨t, p1, o⟩
theorem dt_kin (T : KTbl X.K X.w d l) (hg : Gl X nm) (hm : X.mg nm = some (.ref d)) (h : DE X e f) (hdb : (nm == ("__debug__" : Str)) = false := by decide) (hb : behindInMarks .In (.Name nm p) = false := by rfl) : DT X (.Compare e [.In] [.Name nm p] pos) (mB (mKIn l f)) := by
  obtain ⟨t, p1, p2, o⟩ := te_kin (pos := pos) T h hg hm hdb hb
  exact ⟨_, p2, tt_of o⟩
theorem de_knin (T : KTbl X.K X.w d l) (hg : Gl X nm) (hm : X.mg nm = some (.ref d)) (h : DE X e f) (hdb : (nm == ("__debug__" : Str)) = false := by decide) (hb : behindInMarks .NotIn (.Name nm p) = false := by rfl) : DE X (.Compare e [.NotIn] [.Name nm p] pos) (mKNin l f) := by
  obtain ⟨t, p1, p2, o⟩ := te_knin (pos := pos) T h hg hm hdb hb
  exact ⟨t, p1, o⟩
theorem dt_knin (T : KTbl X.K X.w d l) (hg : Gl X nm) (hm : X.mg nm = some (.ref d)) (h : DE X e f) (hdb : (nm == ("__debug__" : Str)) = false := by decide) (hb : behindInMarks .NotIn (.Name nm p) = false := by rfl) : DT X (.Compare e [.NotIn] [.Name nm p] pos) (mB (mKNin l f)) := by
  obtain ⟨t, p1, p2, o⟩ := te_knin (pos := pos) T h hg hm hdb hb
  exact ⟨_, p2, tt_of o⟩
theorem de_kix (T : KTbl X.K X.w d l) (hg : Gl X nm) (hm : X.mg nm = some (.ref d)) (h : DE X e f) (hdb : (nm == ("__debug__" : Str)) = false := by decide) (hs : PlainIx e := by exact fun _ _ => rfl) : DE X (.Subscript (.Name nm p) e pos) (mKIx l f) := by
  obtain ⟨t, p1, o⟩ := h
  obtain ⟨es, n, D, tb⟩ := T.ex
  have pg : PE X (.Name nm p) (tC (.ref d)) := pe_glob hg hm rfl hdb
  refine ⟨_, pe_ix ix_kdict pg p1 hs, fun β P σ H G s d' s' R e1 Q q => ?_⟩
  unfold mKIx at e1
  obtain ⟨⟨x, s1⟩, e2, e1⟩ := Option.bind_eq_some_iff.mp e1
  cases x with
  | str z =>
    obtain ⟨w, e3, e1⟩ := Option.bind_eq_some_iff.mp e1
    cases e1
    refine o β P σ H G s _ s1 R e2 _ fun v H1 G1 x1 R1 i1 => ?_
    have g := T.get z
    rw [e3] at g
    obtain ⟨u, g1, g2⟩ := g
    rw [is_str.mp i1]
    exact ⟨d, z, .str w, rfl, rfl, ⟨es, n, u, D.at_, D.lit, g1, g2⟩, q _ H1 G1 x1 R1 (is_str.mpr rfl)⟩
  | _ => cases e1
end

/-! ### reversed, list(range), stars -/
omit [Me] in
def wRev (f : DM Dt) : DM (List Dt) := fun s => (f s).bind fun p => match p.1 with
  | .lst l => some (l.reverse, p.2)
  | .tup l => some (l.reverse, p.2)
  | _ => none
theorem rev_get {α : Type} {l : List α} {i : Nat} {d : α} (h : l.reverse[i]? = some d) : l[l.length - 1 - i]? = some d := by
  have hi : i < l.length := by
    have := (List.getElem?_eq_some_iff.mp h).1
    simpa using this
  rw [List.getElem?_reverse hi] at h
  exact h
theorem walk_revT {K : PySem.W.Frag} {a : Addr} {xs : List V} : Walk (RT.ItvT K a xs.length) xs.length (fun H => SqT K H a xs) (fun i H x H' => H' = H ∧ xs[xs.length - 1 - i]? = some x) :=
  ⟨fun i _ hi q => ⟨hi, xs, xs[xs.length - 1 - i]'(by omega), q, by simp [show xs.length - 1 - i < xs.length by omega]⟩, fun _ _ => Nat.le_refl _, fun _ _ _ _ _ q y => ⟨y.1, y.2 xs q⟩⟩
section
variable {X : Cx} {tg e : Expr} {f : DM Dt} {p pos : Pos}
theorem di_rev (hg : Gl X "reversed") (hm : X.mg "reversed" = none) (h : DE X e f) (hs : starEach [e] X.env = (false, eval e X.env) :: starEach [] X.env := by rfl) : DI X tg (.Call (.Name "reversed" p) [e] [] pos) (wRev f) := by
  obtain ⟨t, p1, o⟩ := h
  refine ⟨_, RT.pi_revA hg hm p1 hs, fun β P σ H G s l s' R e1 Q q => ?_⟩
  unfold wRev at e1
  obtain ⟨⟨x, s1⟩, e2, e1⟩ := Option.bind_eq_some_iff.mp e1
  cases x with
  | lst m =>
    cases e1
    refine o β P σ H G s _ s1 R e2 _ fun v H1 G1 x1 R1 i1 => ?_
    obtain ⟨a, vs, rfl, h1, h2⟩ := is_lst.mp i1
    refine ⟨a, vs, rfl, .inl ⟨.inl (.inl (R1.gh _ _ h1)), ?_⟩⟩
    refine q _ H1 G1 (fun H => SqL X.K H a vs) _ x1 R1 (by rw [List.length_reverse, ← h2.len]; exact walk_rev) (fun H2 G2 x2 g => .inl (.inl (g _ _ (x2 _ _ h1)))) ?_
    rintro i d H2 x H3 P1 σ1 G2 s2 hd x2 R2 ⟨rfl, hx⟩
    obtain ⟨v, e4, i4⟩ := h2.get (rev_get hd)
    rw [h2.len, e4] at hx
    cases hx
    exact same_turn R2 (IsD.mono x2 _ _ i4)
  | tup m =>
    cases e1
    refine o β P σ H G s _ s1 R e2 _ fun v H1 G1 x1 R1 i1 => ?_
    obtain ⟨a, vs, rfl, h1, h2⟩ := is_tup.mp i1
    refine ⟨a, vs, rfl, .inr ⟨ext_t R1.gh h1, ?_⟩⟩
    refine q _ H1 G1 (fun H => SqT X.K H a vs) _ x1 R1 (by rw [List.length_reverse, ← h2.len]; exact walk_revT) (fun H2 G2 x2 g => ext_t (x2.trans g) h1) ?_
    rintro i d H2 x H3 P1 σ1 G2 s2 hd x2 R2 ⟨rfl, hx⟩
    obtain ⟨v, e4, i4⟩ := h2.get (rev_get hd)
    rw [h2.len, e4] at hx
    cases hx
    exact same_turn R2 (IsD.mono x2 _ _ i4)
  | _ => cases e1
omit [Me] in
def bRgOk (i j : Int) : Bool := bRng i && bRng j && decide ((j - i).toNat ≤ 2 ^ 24)
omit [Me] in
def gRgL : Dt → Dt → Option Dt
  | .int i, .int j => if bRgOk i j = true then some (.lst (rngD i (j - i).toNat)) else none
  | _, _ => none
theorem isl_rg {K : PySem.W.Frag} {β : Addr} {G : Hp} {i : Int} : ∀ (l : List Nat), IsL K β G (l.map fun n => Dt.int (i + (n : Nat))) (l.map fun n => V.int (i + (n : Nat)))
  | [] => isl_nil.mpr rfl
  | n :: l => isl_cons.mpr ⟨_, _, rfl, is_int.mpr rfl, isl_rg l⟩
theorem de_listRg {a b : Expr} {fa fb : DM Dt} {p2 pos2 : Pos} (hc : X.calm = true) (hg : Gl X "list") (hm : X.mg "list" = none) (hg2 : Gl X "range") (hm2 : X.mg "range" = none) (ha : DE X a fa) (hb : DE X b fb)
    (na : starEach [a, b] X.env = (false, eval a X.env) :: starEach [b] X.env := by rfl) (nb : starEach [b] X.env = (false, eval b X.env) :: starEach [] X.env := by rfl)
    (nd : (backTo pos2 (starEach [b] X.env)).any (·.1) = false := by rfl) (nc : starEach [.Call (.Name "range" p2) [a, b] [] pos2] X.env = (false, eval (.Call (.Name "range" p2) [a, b] [] pos2) X.env) :: starEach [] X.env := by rfl) :
    DE X (.Call (.Name "list" p) [.Call (.Name "range" p2) [a, b] [] pos2] [] pos) (m2 gRgL fa fb) := by
  obtain ⟨ta, pa, oa⟩ := ha
  obtain ⟨tb, pb, ob⟩ := hb
  refine ⟨_, pe_listRg hc hg hm (prg_2 hg2 hm2 pa pb na nb nd) nc, fun β P σ H G s d s' R e Q q => ?_⟩
  unfold m2 at e
  obtain ⟨⟨x, s1⟩, e1, e⟩ := Option.bind_eq_some_iff.mp e
  obtain ⟨⟨y, s2⟩, e2, e⟩ := Option.bind_eq_some_iff.mp e
  obtain ⟨z, e3, e⟩ := Option.bind_eq_some_iff.mp e
  cases e
  refine oa β P σ H G s x s1 R e1 _ fun v H1 G1 x1 R1 i1 => ?_
  refine ob β P σ H1 G1 s1 y s2 R1 e2 _ fun u H2 G2 x2 R2 i2 => ?_
  unfold gRgL at e3
  split at e3
  · rename_i i j hx hy
    split at e3
    · rename_i c
      cases e3
      rw [show x = _ from hx] at i1
      rw [show y = _ from hy] at i2
      unfold bRgOk at c
      rw [Bool.and_eq_true, Bool.and_eq_true] at c
      obtain ⟨⟨c1, c2⟩, c3⟩ := c
      obtain ⟨a1, a2⟩ := bRng_ok c1
      obtain ⟨b1, b2⟩ := bRng_ok c2
      refine ⟨i, j, is_int.mp i1, is_int.mp i2, ⟨a1, a2, b1, b2, of_decide_eq_true c3⟩, fun p hp => ?_⟩
      exact q _ _ _ ((x1.trans x2).trans (Ext.new (R2.free hp))) (R2.new hp) (is_lst.mpr ⟨p, _, rfl, upd_same, isl_rg _⟩)
    · cases e3
  · cases e3
omit [Me] in
/-- f(*x, y), (*x, y) -/
def mStar (f : DM Dt) (g : DM (List Dt)) : DM (List Dt) := fun s => (f s).bind fun p => match p.1 with
  | .tup l => (g p.2).bind fun q => some (l ++ q.1, q.2)
  | .lst l => (g p.2).bind fun q => some (l ++ q.1, q.2)
  | _ => none
theorem da_star {es : List Expr} {g : DM (List Dt)} (h : DE X e f) (hr : DA X es g) (hs : starEach (.Starred e p :: es) X.env = (true, eval e X.env) :: starEach es X.env := by rfl) : DA X (.Starred e p :: es) (mStar f g) := by
  obtain ⟨t, p1, o1⟩ := h
  obtain ⟨u, p2, o2⟩ := hr
  refine ⟨_, StX.pa_star p1 p2 hs, fun β P σ H G s ds s' R e1 Q q => ?_⟩
  unfold mStar at e1
  obtain ⟨⟨x, s1⟩, e2, e1⟩ := Option.bind_eq_some_iff.mp e1
  cases x with
  | tup l =>
    obtain ⟨⟨y, s2⟩, e3, e1⟩ := Option.bind_eq_some_iff.mp e1
    cases e1
    refine o1 β P σ H G s _ s1 R e2 _ fun v H1 G1 x1 R1 i1 => ?_
    obtain ⟨a, vs, rfl, h1, h2⟩ := is_tup.mp i1
    refine ⟨a, vs, rfl, .inl (ext_t R1.gh h1), ?_⟩
    exact o2 β P σ H1 G1 s1 y s2 R1 e3 _ fun us H2 G2 x2 R2 i2 => q _ H2 G2 (x1.trans x2) R2 ((IsL.mono x2 _ _ h2).append i2)
  | lst l =>
    obtain ⟨⟨y, s2⟩, e3, e1⟩ := Option.bind_eq_some_iff.mp e1
    cases e1
    refine o1 β P σ H G s _ s1 R e2 _ fun v H1 G1 x1 R1 i1 => ?_
    obtain ⟨a, vs, rfl, h1, h2⟩ := is_lst.mp i1
    refine ⟨a, vs, rfl, .inr (.inl (.inl (R1.gh _ _ h1))), ?_⟩
    exact o2 β P σ H1 G1 s1 y s2 R1 e3 _ fun us H2 G2 x2 R2 i2 => q _ H2 G2 (x1.trans x2) R2 ((IsL.mono x2 _ _ h2).append i2)
  | _ => cases e1
end
end DL

namespace DL
open PySem PySem.Spec PyProof.Rows L2
variable [Tabs] [Me]

/-! ### s.replace("y", "z"): wants a token out; a def with a parameter has one -/
section
variable {X : Cx}
theorem pet_of {e : Expr} {t : TE} (h : PE X e t) : PET X e t := fun pins s σ H Q _ I q => h.run pins s σ H Q I q
omit [Me] in
def tRepC (y z : Str) (to : TE) : TE := fun σ H Q => to σ H fun x H1 => ∃ a : Str, x = .str a ∧ a.length + (a.length + 1) * z.length ≤ 16777216 ∧ Q (.str (Txt.replace a y z)) H1
theorem pet_replace {o : Expr} {y z : Str} {j0 j1 : Nat} {c0 c1 apos pos : Pos} {to : TE} (ho : PET X o to) (hyz : (y == z) = false := by decide +kernel)
    (hst : starEach [.Constant (.str y) j0 c0, .Constant (.str z) j1 c1] X.env = [(false, eval (.Constant (.str y) j0 c0) X.env), (false, eval (.Constant (.str z) j1 c1) X.env)] := by rfl)
    (hbase : attributeBase o "replace" X.env (eval o X.env) = eval o X.env := by rfl) (hline : (apos.endLine == pos.line) = true := by rfl) :
    PET X (.Call (.Attribute o "replace" apos) [.Constant (.str y) j0 c0, .Constant (.str z) j1 c1] [] pos) (tRepC y z to) := by
  intro pins s σ H Q h0 I h
  refine PySem.Call_method2 hbase hst hline (wpAny_mono (PySem.wpAny_toks (ho pins s σ H _ h0 I h)) (fun v s1 q => ?_) fun _ _ x => x.2)
  obtain ⟨hk, x, H1, I1, r1, a, ex, hb, q⟩ := q
  subst ex
  obtain ⟨tx, rfl⟩ := (show ∃ t, v = Value.str a t from r1)
  have h1 : 1 ≤ s1.toks := Nat.le_trans h0 hk
  refine ⟨"str", _, F.plainAttrs_str, F.slot_str_replace, F.type_str_replace, typeIs_str _ _ _, (fun _ e => nomatch e), Calls.callWith_builtin rfl (Calls.evalArgs_plain (Calls.spliced_cons (Calls.Constant_str (Calls.spliced_cons (Calls.Constant_str (Calls.spliced_nil ?_))))))⟩
  refine PySem.SC.replace (show s1.toks ≠ 0 by omega) (show s1.toks + 1 ≠ 0 by omega) (show s1.toks ≠ s1.toks + 1 by omega) hyz hb fun t' k => ?_
  exact ⟨.str (Txt.replace a y z), H1, I1.tok k, ⟨t', rfl⟩, q⟩
theorem pet_m1 {o e : Expr} {to te : TE} {id : String} {name : Str} {apos pos : Pos} {r : V → List V → Hp → VK → Prop} (slot : Slot "str" name id) (ty : typeOf (.builtin id) = pure (.type "method_descriptor")) (rule : MtR X id r) (ho : PET X o to) (he : PE X e te)
    (hs : starEach [e] X.env = [(false, eval e X.env)] := by rfl) (hbase : attributeBase o name X.env (eval o X.env) = eval o X.env := by rfl) (hline : (apos.endLine == pos.line) = true := by rfl) :
    PET X (.Call (.Attribute o name apos) [e] [] pos) (tM1 r to te) := by
  intro pins s σ H Q h0 I h
  refine PySem.Call_method1 hbase hs hline (thn (ho pins s σ H _ h0 I h) fun v s1 ⟨x, H1, I1, r1, q1⟩ => ?_)
  obtain ⟨⟨a, rfl⟩, q1⟩ := q1
  obtain ⟨t, rfl⟩ := _root_.id r1
  refine ⟨"str", _, F.plainAttrs_str, slot, ty, typeIs_str _ _ _, (fun _ e => nomatch e), Calls.callWith_builtin rfl (Calls.evalArgs_plain (Calls.spliced_cons ?_))⟩
  exact thn (he.run pins s1 σ H1 _ I1 q1) fun u s2 ⟨y, H2, I2, r2, q2⟩ => Calls.spliced_nil (rule pins s2 σ H2 _ [y] _ [u] Q I2 r1 (.cons r2 .nil) q2)
omit [Me] in
def DET (X : Cx) (e : Expr) (f : DM Dt) : Prop := ∃ t, PET X e t ∧ TEok X.K t f
omit [Me] in
def DSsT (X : Cx) (st : List Stmt) (f : DMs) : Prop := ∃ t, PSsT X st t ∧ TSok X.K t f
theorem det_of {e : Expr} {f : DM Dt} (h : DE X e f) : DET X e f := by
  obtain ⟨t, p, o⟩ := h
  exact ⟨t, pet_of p, o⟩
omit [Me] in
def mRepC (y z : Str) (f : DM Dt) : DM Dt := fun s => (f s).bind fun p => match p.1 with
  | .str a => if a.length + (a.length + 1) * z.length ≤ 16777216 then some (.str (Txt.replace a y z), p.2) else none
  | _ => none
theorem det_replace {o : Expr} {y z : Str} {j0 j1 : Nat} {c0 c1 apos pos : Pos} {f : DM Dt} (ho : DET X o f) (hyz : (y == z) = false := by decide +kernel)
    (hst : starEach [.Constant (.str y) j0 c0, .Constant (.str z) j1 c1] X.env = [(false, eval (.Constant (.str y) j0 c0) X.env), (false, eval (.Constant (.str z) j1 c1) X.env)] := by rfl)
    (hbase : attributeBase o "replace" X.env (eval o X.env) = eval o X.env := by rfl) (hline : (apos.endLine == pos.line) = true := by rfl) :
    DET X (.Call (.Attribute o "replace" apos) [.Constant (.str y) j0 c0, .Constant (.str z) j1 c1] [] pos) (mRepC y z f) := by
  obtain ⟨t, p, o1⟩ := ho
  refine ⟨_, pet_replace p hyz hst hbase hline, fun β P σ H G s d s' R e Q q => ?_⟩
  unfold mRepC at e
  obtain ⟨⟨x, s1⟩, e1, e⟩ := Option.bind_eq_some_iff.mp e
  cases x with
  | str a =>
    dsimp only at e
    split at e
    · rename_i c
      cases e
      exact o1 β P σ H G s _ _ R e1 _ fun v H1 G1 x1 R1 i1 => ⟨a, is_str.mp i1, c, q _ H1 G1 x1 R1 (is_str.mpr rfl)⟩
    · cases e
  | _ => cases e
theorem det_split {o e : Expr} {f1 f2 : DM Dt} {apos pos : Pos} (ho : DET X o f1) (he : DE X e f2) (hs : starEach [e] X.env = [(false, eval e X.env)] := by rfl) (hbase : attributeBase o "split" X.env (eval o X.env) = eval o X.env := by rfl) (hline : (apos.endLine == pos.line) = true := by rfl) :
    DET X (.Call (.Attribute o "split" apos) [e] [] pos) (mM1 gSplit f1 f2) := by
  obtain ⟨to, p1, o1⟩ := ho
  obtain ⟨te, p2, o2⟩ := he
  exact ⟨_, pet_m1 F.slot_str_split F.type_str_split mt_split p1 p2 hs hbase hline, te_m1 ok_split o1 o2⟩
theorem dsst_of {st : List Stmt} {f : DMs} (h : DSs X st f) : DSsT X st f := by
  obtain ⟨t, p, o⟩ := h
  exact ⟨t, PSsT.of p, o⟩
theorem tsok_seq {K : PySem.W.Frag} {t u : TS} {f g : DMs} (o : TSok K t f) (o2 : TSok K u g) : TSok K (tSeq t u) (kSeq f g) := by
  intro β P σ H G s r s' R e D h
  unfold kSeq at e
  obtain ⟨⟨x, s1⟩, e1, e⟩ := Option.bind_eq_some_iff.mp e
  cases x with
  | nx =>
    refine o β P σ H G s .nx s1 R e1 _ ?_
    exact fun σ1 H1 G1 x1 R1 => o2 β P σ1 H1 G1 s1 r s' R1 e D (h.mono x1)
  | bk => cases e; exact o β P σ H G s _ s1 R e1 _ h
  | ct => cases e; exact o β P σ H G s _ s1 R e1 _ h
  | rt d => cases e; exact o β P σ H G s _ s1 R e1 _ h
theorem dsst_cons {st : Stmt} {rest : List Stmt} {f g : DMs} (h1 : DS X st f) (h2 : DSsT X rest g) : DSsT X (st :: rest) (kSeq f g) := by
  obtain ⟨t, p, o⟩ := h1
  obtain ⟨u, p2, o2⟩ := h2
  exact ⟨_, psst_cons (PST.of p) p2, tsok_seq o o2⟩
theorem pst_set {te : TE} {i : Nat} {x : Str} {e : Expr} {pos' pos : Pos} (hN : X.N.Nodup) (hi : X.N[i]? = some x) (hx : Loc X.env.scope x) (he : PET X e te) (hs : swapsWith e (some (.Name x pos')) pos.line X.env = pure false := by rfl)
    (hf : X.fn x = true ∨ X.env.scope.names.lookup x = some .local := by first | exact .inl rfl | exact .inr rfl | assumption) : PST X (.Assign [.Name x pos'] e pos) (tAsg te (gName i)) := by
  intro pins s σ H D h0 I h
  refine wpAny_Assign_Name (thn (he pins s σ H _ h0 I h) fun v s1 ⟨y, H1, I1, r1, q1⟩ => ?_) hs
  exact store_ok I1 hN hi hx r1 (fun s2 I2 => ⟨_, H1, I2, q1⟩) hf
theorem dsst_set {i : Nat} {x : Str} {e : Expr} {f : DM Dt} {rest : List Stmt} {g : DMs} {pos' pos : Pos} (hN : X.N.Nodup) (hi : X.N[i]? = some x) (hx : Loc X.env.scope x) (he : DET X e f) (hr : DSsT X rest g) (hs : swapsWith e (some (.Name x pos')) pos.line X.env = pure false := by rfl)
    (hf : X.fn x = true ∨ X.env.scope.names.lookup x = some .local := by first | exact .inl rfl | exact .inr rfl | assumption) : DSsT X (.Assign [.Name x pos'] e pos :: rest) (kSeq (kAsg f (hName i)) g) := by
  obtain ⟨t, p, o⟩ := he
  obtain ⟨u, p2, o2⟩ := hr
  refine ⟨_, psst_cons (pst_set hN hi hx p hs hf) p2, tsok_seq (fun β P σ H G s r s' R e D k => ?_) o2⟩
  unfold kAsg at e
  obtain ⟨⟨x, s1⟩, e1, e⟩ := Option.bind_eq_some_iff.mp e
  obtain ⟨s2, e2, e⟩ := Option.bind_eq_some_iff.mp e
  cases e2
  cases e
  refine o β P σ H G s x s1 R e1 _ fun v H1 G1 x1 R1 i1 => ?_
  exact k _ H1 G1 x1 (R1.set i1)
end
section
variable {P : Program} {w : World} {K : PySem.W.Frag} {mg : Str → Option Value} {base : Heap}
theorem fn_okT {x qual : Str} {st : Stmt} {f : Addr} {fd : FuncData} {N ps : List Str} {k n : Nat} {g : DMs} (F : Fun K x qual st f fd) (S : FnScope N ps (defScope st)) (hnc : ∀ y ∈ (defScope st).names, y.2 ≠ .cell) (hps : 1 ≤ ps.length) (hn : ps.length = n := by rfl)
    (hb : ∀ (cdv : Value) (A : Around) (outer : List Env) (s : Shared) (H : Hp) (E : XK), Room k (A.deeper (envOfC qual (defScope st) s.heap.objs.size f cdv)) →
      DSsT (cxOf CX0 P w K mg base N qual (defScope st) f cdv A outer s H E) (defBody st) g) : FnOk P w K mg base CX0 (k + 1) f fd ps (spD K n (fnD N.length g)) := by
  obtain ⟨oc, od, kV, doc, pm, an, cdv, ct, osl, rfl, lk, hcd⟩ := F.ex
  refine fn_ofT lk hcd S hnc hps (fun vs H Q E h => ?_) fun A outer s H vs Q E hr h => ?_
  · obtain ⟨β, P, G, ds, bg, r, bg', h, _⟩ := h
    rw [hn]; exact h
  · obtain ⟨β, PP, G, ds, bg, r, bg', hl, i, R, e, q⟩ := h
    obtain ⟨t, p, o⟩ := hb cdv A outer s H E hr
    refine ⟨t, p, ?_⟩
    unfold fnD at e
    obtain ⟨⟨res, s'⟩, e1, e⟩ := Option.bind_eq_some_iff.mp e
    refine o β PP (L2.start N vs) H G _ res s' (rel_start i R) e1 _ ?_
    cases res with
    | nx =>
      cases e
      exact fun σ' H' G' x R' => q .non H' G' x R'.leave (is_non.mpr rfl)
    | rt d =>
      cases e
      exact fun v σ' H' G' x R' iv => q v H' G' x R'.leave iv
    | bk => cases e
    | ct => cases e
end
/-! ### slots that an expression leaves alone -/
omit [Me] in
def Kp (i : Nat) {α : Type} (f : DM α) : Prop := ∀ s d s', f s = some (d, s') → s'.sl[i]? = s.sl[i]?
theorem kp_var {i j : Nat} : Kp i (mVar j) := fun s d s' h => by
  unfold mVar at h
  split at h <;> first | (cases h; rfl) | cases h
theorem kp_c {i : Nat} {d : Dt} : Kp i (mC d) := fun s d s' h => by cases h; rfl
theorem kp_nil {i : Nat} : Kp i mNil := fun s d s' h => by cases h; rfl
theorem kp_bind {i : Nat} {α γ : Type} {f : DM α} {g : α → Sta → Option (γ × Sta)} (hf : Kp i f) (hg : ∀ a, Kp i (g a)) : Kp i (fun s => (f s).bind fun p => g p.1 p.2) := fun s d s' h => by
  obtain ⟨⟨x, s1⟩, e1, h⟩ := Option.bind_eq_some_iff.mp h
  exact (hg x s1 d s' h).trans (hf s x s1 e1)
theorem kp_cons {i : Nat} {f : DM Dt} {g : DM (List Dt)} (hf : Kp i f) (hg : Kp i g) : Kp i (mCons f g) := fun s d s' h => by
  unfold mCons at h
  obtain ⟨⟨x, s1⟩, e1, h⟩ := Option.bind_eq_some_iff.mp h
  obtain ⟨⟨y, s2⟩, e2, h⟩ := Option.bind_eq_some_iff.mp h
  cases h
  exact (hg _ _ _ e2).trans (hf _ _ _ e1)
theorem kp_tup {i : Nat} {f : DM (List Dt)} (hf : Kp i f) : Kp i (mTup f) := fun s d s' h => by
  unfold mTup at h
  obtain ⟨⟨x, s1⟩, e1, h⟩ := Option.bind_eq_some_iff.mp h
  dsimp only at h
  split at h <;> first | (cases h; exact hf _ _ _ e1) | cases h
theorem kp_app {i : Nat} {F : FD} {f : DM (List Dt)} (hf : Kp i f) : Kp i (mApp F f) := fun s d s' h => by
  unfold mApp at h
  obtain ⟨⟨x, s1⟩, e1, h⟩ := Option.bind_eq_some_iff.mp h
  obtain ⟨⟨y, b⟩, e2, h⟩ := Option.bind_eq_some_iff.mp h
  cases h
  exact (hf s x s1 e1 : s1.sl[i]? = s.sl[i]?)
theorem kp_rev {i : Nat} {f : DM Dt} (hf : Kp i f) : Kp i (wRev f) := fun s d s' h => by
  unfold wRev at h
  obtain ⟨⟨x, s1⟩, e1, h⟩ := Option.bind_eq_some_iff.mp h
  cases x <;> first | (cases h; exact hf _ _ _ e1) | cases h
theorem kp_wlst {i : Nat} {f : DM Dt} (hf : Kp i f) : Kp i (wLst f) := fun s d s' h => by
  unfold wLst at h
  obtain ⟨⟨x, s1⟩, e1, h⟩ := Option.bind_eq_some_iff.mp h
  cases x <;> first | (cases h; exact hf _ _ _ e1) | cases h
theorem kp_comp {i : Nat} {is : List Nat} {f : DM (List Dt)} {h : Dt → Sta → Option Sta} {t : DM Bool} {e : DM Dt} (hf : Kp i f) : Kp i (mComp is f h t e) := fun s d s' k => by
  unfold mComp at k
  obtain ⟨⟨x, s1⟩, e1, k⟩ := Option.bind_eq_some_iff.mp k
  dsimp only at k
  split at k
  · obtain ⟨z, e2, k⟩ := Option.bind_eq_some_iff.mp k
    cases k
    exact (hf s x s1 e1 : s1.sl[i]? = s.sl[i]?)
  · cases k
theorem kp_ix {i : Nat} {g : Dt → Dt → Option Dt} {f1 f2 : DM Dt} (h1 : Kp i f1) (h2 : Kp i f2) : Kp i (m2 g f1 f2) := fun s d s' h => by
  unfold m2 at h
  obtain ⟨⟨x, s1⟩, e1, h⟩ := Option.bind_eq_some_iff.mp h
  obtain ⟨⟨y, s2⟩, e2, h⟩ := Option.bind_eq_some_iff.mp h
  obtain ⟨z, e3, h⟩ := Option.bind_eq_some_iff.mp h
  cases h
  exact (h2 _ _ _ e2).trans (h1 _ _ _ e1)
/-! s.count(t) -/
omit [Me] in
def gCount (a : Str) : Dt → Option Dt
  | .str b => some (.int (Txt.count a b))
  | _ => none
theorem ok_count {K : PySem.W.Frag} : M1ok K (fun x xs H Q => ∃ a b, x = .str a ∧ xs = [.str b] ∧ Q (.int (Txt.count a b)) H) gCount := by
  intro β P σ H G s a y dy d R i e Q q
  unfold gCount at e
  split at e
  · rename_i b
    cases e
    rw [is_str.mp i]
    exact ⟨a, b, rfl, rfl, q _ H G (Ext.refl G) R (is_int.mpr rfl)⟩
  · cases e
end DL

set_option maxHeartbeats 4000000
/-! a generator's body where the one that walks it changes objects of its own besides the list that it fills -/
namespace GZ
open PySem PySem.Spec PyProof.Rows GenW L2

structure SleptZ (Z : List Addr) (S : Addr) (v : Value) (s s' : Shared) : Prop where
  os : s'.os = s.os
  bare : AllBare s'.gens
  keep : ∀ b o, b ≠ S → b ∉ Z → s.heap.get? b = some o → s'.heap.get? b = some o
  own : ∀ acc c, s.heap.get? S = some (lstObj acc c) → ∃ c', s'.heap.get? S = some (lstObj (acc.push v) c')
  there : ∀ z ∈ Z, ∃ o, s'.heap.get? z = some o ∧ ∀ v, o.data ≠ .cell v
/-- the walker's objects: younger than the generator's call, none of its frame's, none that it pins -/
structure ApartZ (X : Cx) (Z : List Addr) (S : Addr) : Prop where
  s : Apart X S
  pn : ∀ p ∈ X.pn, p.1 ≠ S
  z : ∀ z ∈ Z, z ≠ S ∧ Apart X z ∧ ∀ p ∈ X.pn, p.1 ≠ z
/-- running, woken last at s₀ -/
def GIZ (X : Cx) (Z : List Addr) (S : Addr) (ip : List (Addr × Obj)) (ys : List V) (σ : L2.St) (H : Hp) (s₀ s : Shared) : Prop :=
  ∃ (acc : Array Value) (c : Nat), (∀ z ∈ Z, ∃ o, s₀.heap.get? z = some o) ∧ Vals ys acc.toList ∧ Inv X ((S, lstObj acc c) :: (pinsAt Z s₀.heap ++ ip)) σ H s
section
variable {X : Cx} {Z : List Addr} {S : Addr} {ip : List (Addr × Obj)} {ys : List V} {σ : L2.St} {H : Hp} {s₀ s s' : Shared}
theorem GIZ.at (h : GIZ X Z S ip ys σ H s₀ s) : H S = none ∧ S ≠ X.env.locals ∧ S ∉ X.fs ∧ (∃ (acc : Array Value) (c : Nat), Vals ys acc.toList ∧ s.heap.get? S = some (lstObj acc c)) ∧ ∀ z ∈ Z, H z = none ∧ z ≠ X.env.locals ∧ z ∉ X.fs ∧ s.heap.get? z = s₀.heap.get? z := by
  obtain ⟨acc, c, hz1, r, I⟩ := h
  obtain ⟨h1, h2, h3, h4, _⟩ := I.pin (S, lstObj acc c) (List.mem_append_right _ List.mem_cons_self)
  refine ⟨h2, h3, h4, ⟨acc, c, r, h1⟩, fun z hz => ?_⟩
  obtain ⟨o, ho⟩ := hz1 z hz
  obtain ⟨g1, g2, g3, g4, _⟩ := I.pin (z, o) (List.mem_append_right _ (List.mem_cons_of_mem _ (List.mem_append_left _ (mem_pinsAt hz ho))))
  exact ⟨g2, g3, g4, g1.trans ho.symm⟩
theorem GIZ.base (h : GIZ X Z S ip ys σ H s₀ s) : Inv X ip σ H s := by
  obtain ⟨acc, c, hz1, r, I⟩ := h
  exact I.pins_of fun p hp => I.pin p (List.mem_append_right _ (List.mem_cons_of_mem _ (List.mem_append_right _ hp)))
/-- woken again -/
theorem GIZ.woken {x : V} {v : Value} (A : ApartZ X Z S) (hip : ∀ p ∈ ip, p.1 ≠ S ∧ p.1 ∉ Z) (h : GIZ X Z S ip ys σ H s₀ s) (rv : RelV x v) (z : SleptZ Z S v s s') : GIZ X Z S ip (ys ++ [x]) σ H s' s' := by
  obtain ⟨hS0, hSL, hSf, _, hZ⟩ := h.at
  have I0 := h.base
  obtain ⟨acc, c, hz1, r, I⟩ := h
  have eS : s.heap.get? S = some (lstObj acc c) := (I.pin (S, lstObj acc c) (List.mem_append_right _ List.mem_cons_self)).1
  obtain ⟨z1, z2, z3, z4, z5⟩ := z
  obtain ⟨c', eS'⟩ := z4 acc c eS
  obtain ⟨hh, g, d, t, o⟩ := s'
  have ho : o = s.os := z1
  subst ho
  have ncS : ∀ b, b ∉ S :: Z → b ≠ S := fun b hb e => hb (by rw [e]; exact List.mem_cons_self)
  have ncZ : ∀ b, b ∉ S :: Z → b ∉ Z := fun b hb m => hb (List.mem_cons_of_mem _ m)
  have nS : ∀ b u, H b = some u → b ≠ S := fun b u q e => by rw [e, hS0] at q; cases q
  have nZ : ∀ b u, H b = some u → b ∉ Z := fun b u q m => by rw [(hZ b m).1] at q; cases q
  have keep : ∀ b ob, b ∉ S :: Z → s.heap.get? b = some ob → hh.get? b = some ob := fun b ob hb q => z3 b ob (ncS b hb) (ncZ b hb) q
  have J : Inv X ip σ H { s with heap := hh, gens := g, drawn := d, toks := t } := by
    refine I0.step (g' := g) (t' := t) (d' := d) (ch := S :: Z) (fun b hb => ?_) (fun b ob _ _ hc q _ => keep b ob hc q)
      (fun b ob _ _ hc q _ => ⟨ob.slots, keep b ob hc q⟩) (fun _ _ _ _ n => n) (fun b ob hc q => ⟨ob, keep b ob hc q⟩)
      (fun _ _ q => q) (fun _ _ _ q => q) (fun b ps q => ⟨#[], by rw [q]; simp⟩) (fun m hm => ?_) (fun b u q => ?_) z2
    · rcases List.mem_cons.mp hb with e | hb
      · rw [e]
        refine ⟨.inr A.s.1, A.s.2.1, A.s.2.2, fun p hp => ?_⟩
        rcases List.mem_append.mp hp with hp | hp
        · exact A.pn p hp
        · exact (hip p hp).1
      · obtain ⟨_, a1, a2⟩ := A.z b hb
        refine ⟨.inr a1.1, a1.2.1, a1.2.2, fun p hp e => ?_⟩
        rcases List.mem_append.mp hp with hp | hp
        · exact a2 p hp e
        · exact (hip p hp).2 (e ▸ hb)
    · obtain ⟨ob, es, ep, ho, r⟩ := hm
      exact ⟨ob, es, ep, z3 _ ob (Ne.symm hSL) (fun m => (hZ _ m).2.1 rfl) ho, r⟩
    · refine (I0.hok b u q).stay (fun c v hc y => z3 c v ?_ ?_ y) (fun _ y => y) fun _ _ y => y
      · rcases hc with y | y
        · rw [y]; exact nS b u q
        · exact nS c _ y
      · rcases hc with y | y
        · rw [y]; exact nZ b u q
        · exact nZ c _ y
  refine ⟨acc.push v, c', fun z hz => ?_, ?_, J.pins_of fun p hp => ?_⟩
  · obtain ⟨o, e, _⟩ := z5 z hz
    exact ⟨o, e⟩
  · rw [Array.toList_push]
    exact r.append (.cons rv .nil)
  · rcases List.mem_cons.mp hp with hp | hp
    · rw [hp]
      exact ⟨eS', hS0, hSL, hSf, fun v q => by cases q⟩
    · rcases List.mem_append.mp hp with hp | hp
      · obtain ⟨m, e⟩ := of_pinsAt hp
        obtain ⟨o, e2, nc⟩ := z5 _ m
        obtain ⟨g1, g2, g3, _⟩ := hZ _ m
        rw [e] at e2
        cases e2
        exact ⟨e, g1, g2, g3, nc⟩
      · exact J.pin p (List.mem_append_right _ hp)
end

/-! ### the protocol -/
def GYZ (X : Cx) (Z : List Addr) (S : Addr) : Protocol := fun n s₀ v s kap =>
  ∃ ys x ip σ H, n + 1 + ys.length = sizeLine ∧ RelV x v ∧ GIZ X Z S ip ys σ H s₀ s ∧ ∀ s', SleptZ Z S v s s' → kap (.send .none) s'
def GRZ (X : Cx) (Z : List Addr) (S : Addr) (Q : List V → VK) (F : Value → Shared → Prop) : GenEnd := fun n s₀ r s => match r with
  | .ok (.ret u) => ∃ ys v ip σ H, n + ys.length = sizeLine ∧ GIZ X Z S ip ys σ H s₀ s ∧ RelV v u ∧ Q ys v H
  | .ok _ => False
  | .error e => F e s
def GSPZ (X : Cx) (Z : List Addr) (S : Addr) (ip : List (Addr × Obj)) (D : GEnds) (ys : List V) (f : Flow) (s₀ s : Shared) : Prop :=
  match f with
  | .next => ∃ σ H, GIZ X Z S ip ys σ H s₀ s ∧ D.nx ys σ H
  | .brk => ∃ σ H, GIZ X Z S ip ys σ H s₀ s ∧ D.bk ys σ H
  | .cont => ∃ σ H, GIZ X Z S ip ys σ H s₀ s ∧ D.ct ys σ H
  | .ret u => ∃ v σ H, GIZ X Z S ip ys σ H s₀ s ∧ RelV v u ∧ D.rt ys v H
structure GCZ (X : Cx) (Z : List Addr) (S : Addr) (ip : List (Addr × Obj)) (A : Around) (c : Code) (fs : List Frame) (gd : Bool → Bool) : Prop where
  ap : ApartZ X Z S
  ip : ∀ p ∈ ip, p.1 ≠ S ∧ p.1 ∉ Z
  over : A.over c fs = X.A
  split : splitAtGen fs = none
  guard : fs.any Frame.guarded = false
  gd : gd false = false
structure GKZ (X : Cx) (Z : List Addr) (S : Addr) (ip : List (Addr × Obj)) (A : Around) (R : GenEnd) (c : Code) (fs : List Frame) (K : Flow → Sem PySem.Fin) (J : Value → Sem PySem.Fin) (D : GEnds) : Prop where
  ok : ∀ (n : Nat) (ys : List V) (s₀ s : Shared) (f : Flow), n + ys.length = sizeLine → GSPZ X Z S ip D ys f s₀ s → Seg (model X.prog X.w) A R (GYZ X Z S) n s₀ c (K f) fs s
  exc : ∀ (n : Nat) (s₀ : Shared) (e : Value) (s : Shared), X.xe e s → Seg (model X.prog X.w) A R (GYZ X Z S) n s₀ c (J e) fs s
structure GSZ (X : Cx) (st : Stmt) (t : TGn) : Prop where
  run : ∀ (A : Around) (Z : List Addr) (S : Addr) (ip : List (Addr × Obj)) (R : GenEnd) (n : Nat) (ys : List V) (s₀ : Shared) (c : Code) (fs : List Frame) (K : Flow → Sem PySem.Fin) (J : Value → Sem PySem.Fin) (gd : Bool → Bool) (lv : List Value → List Value) (s : Shared) (σ : L2.St) (H : Hp) (D : GEnds),
    GCZ X Z S ip A c fs gd → n + ys.length = sizeLine → GKZ X Z S ip A R c fs K J D → GIZ X Z S ip ys σ H s₀ s → t D ys σ H →
    Seg (model X.prog X.w) A R (GYZ X Z S) n s₀ c ((exec st X.env).wrap K J gd lv) fs s
structure GSsZ (X : Cx) (st : List Stmt) (t : TGn) : Prop where
  run : ∀ (A : Around) (Z : List Addr) (S : Addr) (ip : List (Addr × Obj)) (R : GenEnd) (n : Nat) (ys : List V) (s₀ : Shared) (c : Code) (fs : List Frame) (K : Flow → Sem PySem.Fin) (J : Value → Sem PySem.Fin) (gd : Bool → Bool) (lv : List Value → List Value) (s : Shared) (σ : L2.St) (H : Hp) (D : GEnds),
    GCZ X Z S ip A c fs gd → n + ys.length = sizeLine → GKZ X Z S ip A R c fs K J D → GIZ X Z S ip ys σ H s₀ s → t D ys σ H →
    Seg (model X.prog X.w) A R (GYZ X Z S) n s₀ c ((execs st X.env).wrap K J gd lv) fs s
section
variable {X : Cx} {st : Stmt} {rest : List Stmt}
theorem gssz_nil : GSsZ X [] tG0 := by
  refine ⟨fun A Z S ip R n ys s₀ c fs K J gd lv s σ H D g hn k hI ht => ?_⟩
  refine seg_execs_nil ?_
  exact k.ok n ys s₀ s .next hn ⟨σ, H, hI, ht⟩
theorem gssz_cons {t u : TGn} (a : GSZ X st t) (b : GSsZ X rest u) : GSsZ X (st :: rest) (tGThen t u) := by
  refine ⟨fun A Z S ip R n ys s₀ c fs K J gd lv s σ H D g hn k hI ht => ?_⟩
  refine seg_execs_cons ?_
  refine a.run A Z S ip R n ys s₀ c fs _ J gd lv s σ H { D with nx := fun ys' σ' H' => u D ys' σ' H' } g hn ⟨fun n' ys' s₀' s' f hn' hs => ?_, k.exc⟩ hI ht
  cases f with
  | next =>
    obtain ⟨σ', H', I', q⟩ := hs
    exact b.run A Z S ip R n' ys' s₀' c fs K J gd lv s' σ' H' D g hn' k I' q
  | brk => exact k.ok n' ys' s₀' s' .brk hn' hs
  | cont => exact k.ok n' ys' s₀' s' .cont hn' hs
  | ret u => exact k.ok n' ys' s₀' s' (.ret u) hn' hs
/-- yield e -/
theorem gsz_yield {e : Expr} {yp pos : Pos} {te : TE} (he : PE X e te) (hco : X.env.scope.isCoroutine = false := by rfl) (hi : interactive X.env = false := by rfl) : GSZ X (.Expr (.Yield (some e) yp) pos) (tGYield te) := by
  refine ⟨fun A Z S ip R n ys s₀ c fs K J gd lv s σ H D g hn k hI ht => ?_⟩
  obtain ⟨hlt, ht⟩ := ht
  obtain ⟨n, rfl⟩ : ∃ m, n = m + 1 := ⟨n - 1, by omega⟩
  obtain ⟨acc, cc, hz1, r, I⟩ := hI
  refine seg_Expr_Yield g.split g.gd g.guard ?_ hco hi
  rw [g.over]
  refine wpAny_mono (he.run _ s σ H _ I ht) (fun v s' hv => ?_) fun x s' hx => k.exc _ s₀ x s' hx
  obtain ⟨x, H1, I1, rv, q⟩ := hv
  have G1 : GIZ X Z S ip ys σ H1 s₀ s' := ⟨acc, cc, hz1, r, I1⟩
  intro kap hk
  refine ⟨ys, x, ip, σ, H1, hn, rv, G1, fun s'' z => hk .none s'' ?_⟩
  refine k.ok n (ys ++ [x]) s'' s'' .next ?_ ⟨σ, H1, G1.woken g.ap g.ip rv z, q⟩
  rw [List.length_append, List.length_singleton]
  omega
end
end GZ

set_option maxHeartbeats 4000000
namespace GZ
open PySem PySem.Spec PyProof.Rows GenW L2

/-- what a loop's code does with an exception: it is noted, and goes on -/
def noteOn (env : Env) (e : Value) : Sem PySem.Fin := (do noteFrame e env; theTreesLotGoes e : Sem Unit).bind fun _ => .raise e
section
variable {prog : Program} {w : World} {A : Around} {R : GenEnd} {Y : Protocol} {n : Nat} {s₀ : Shared} {c : Code} {fs : List Frame} {s : Shared} {env : Env}
/-- what follows the body of a turn -/
def turnEnd (tg : Expr) (it : Value) (body : List Stmt) (env : Env) : Flow → Sem PySem.Fin := fun f => match f with
  | .next | .cont => .pure (.again (.forLoop tg it body [] env))
  | .brk => .pure (.done .next)
  | .ret v => .pure (.done (.ret v))
theorem seg_forLoop {tg : Expr} {it : Value} {body : List Stmt}
    (h : wpAny (model prog w) (A.over (.forLoop tg it body [] env) fs) (pyNext it) (fun r s1 => match r with
      | none => Seg (model prog w) A R Y n s₀ (.block [] env) ((model prog w).den (.block [] env)) fs s1
      | some v => wpAny (model prog w) (A.over (.forLoop tg it body [] env) fs) (letOwnedTupleGo tg it v) (fun _ s2 =>
          wpAny (model prog w) (A.over (.forLoop tg it body [] env) fs) (assign tg env v) (fun _ s3 =>
            Seg (model prog w) A R Y n s₀ (.forLoop tg it body [] env) ((execs body env).wrap (turnEnd tg it body env) (noteOn env) id id) fs s3)
            (fun x s' => Seg (model prog w) A R Y n s₀ (.forLoop tg it body [] env) (noteOn env x) fs s') s2)
          (fun x s' => Seg (model prog w) A R Y n s₀ (.forLoop tg it body [] env) (noteOn env x) fs s') s1)
      (fun x s' => Seg (model prog w) A R Y n s₀ (.forLoop tg it body [] env) (noteOn env x) fs s') s) :
    Seg (model prog w) A R Y n s₀ (.forLoop tg it body [] env) ((model prog w).den (.forLoop tg it body [] env)) fs s := by
  show Seg _ A R Y n s₀ _ ((forTurn tg it body [] env).onRaise (fun x => do noteFrame x env; theTreesLotGoes x)) fs s
  rw [Sem.onRaise_eq_wrap]
  unfold forTurn
  refine seg_bind_wrap (wpAny_standAt ?_)
  refine seg_bind_wrap (wpAny_onRaise (wpAny_mono h (fun r s1 h1 => ?_) fun x s' hx => wpAny_standAt hx))
  cases r with
  | none =>
    show Seg _ A R Y n s₀ _ (.pure (.again (.block [] env))) fs s1
    exact seg_again rfl h1
  | some v =>
    refine seg_bind_wrap (wpAny_mono h1 (fun _ s2 h2 => ?_) fun _ _ z => z)
    refine seg_bind_wrap (wpAny_mono h2 (fun _ s3 h3 => ?_) fun _ _ z => z)
    rw [Sem.bind_eq_wrap', Sem.wrap_wrap]
    refine Eq.mpr (congrArg (fun t => Seg (model prog w) A R Y n s₀ (.forLoop tg it body [] env) t fs s3) (Sem.wrap_congr (execs body env) _ _ (K' := turnEnd tg it body env) (H' := noteOn env) (fun f => ?_) (fun e => ?_))) h3
    · cases f <;> rfl
    · rfl
theorem seg_blockEnd (h : Seg (model prog w) A R Y n s₀ (.block [] env) (.pure (.done .next)) fs s) : Seg (model prog w) A R Y n s₀ (.block [] env) ((model prog w).den (.block [] env)) fs s := h
theorem seg_noted {x : Value} (h : wpAny (model prog w) (A.over c fs) (do noteFrame x env; theTreesLotGoes x : Sem Unit) (fun _ s' => Seg (model prog w) A R Y n s₀ c (.raise x) fs s') (fun y s' => Seg (model prog w) A R Y n s₀ c (.raise y) fs s') s) :
    Seg (model prog w) A R Y n s₀ c (noteOn env x) fs s := by
  unfold noteOn
  rw [Sem.bind_eq_wrap]
  exact seg_wrap h
end

theorem gcz_loop {X : Cx} {Z : List Addr} {S : Addr} {ip ip' : List (Addr × Obj)} {A : Around} {c c' : Code} {fs : List Frame} {gd : Bool → Bool} {k : Result → Sem PySem.Fin} {l kp : List Value} {p : Pos} (g : GCZ X Z S ip A c fs gd) (hw : c'.weight = 0) (hu : c'.cUnits = 0) (hip : ∀ p ∈ ip', p.1 ≠ S ∧ p.1 ∉ Z) :
    GCZ X Z S ip' A c' (.ret k none (gd false) l c p kp :: fs) id where
  ap := g.ap
  ip := hip
  over := (over_loop hw hu).trans g.over
  split := by
    show (splitAtGen fs).map _ = none
    rw [g.split]
    rfl
  guard := by
    show (gd false || fs.any Frame.guarded) = false
    rw [g.gd, g.guard]
    rfl
  gd := rfl
theorem seg_back {X : Cx} {Z : List Addr} {S : Addr} {ip : List (Addr × Obj)} {A : Around} {R : GenEnd} {c : Code} {fs : List Frame} {K : Flow → Sem PySem.Fin} {J : Value → Sem PySem.Fin} {gd : Bool → Bool} {lv : List Value → List Value} {D : GEnds} {n : Nat} {s₀ s : Shared} {e : Value}
    (g : GCZ X Z S ip A c fs gd) (k : GKZ X Z S ip A R c fs K J D) (h : cameBackBy (model X.prog X.w) X.A X.env X.xe e s) :
    Seg (model X.prog X.w) A R (GYZ X Z S) n s₀ c (((Sem.raise e : Sem Flow).onRaise (cameBack X.env)).wrap K J gd lv) fs s := by
  show Seg _ _ _ _ _ _ _ (((cameBack X.env e).bind fun _ => (Sem.raise e : Sem Flow)).wrap K J gd lv) _ _
  rw [Sem.bind_eq_wrap, Sem.wrap_wrap]
  refine seg_wrap ?_
  rw [g.over]
  exact wpAny_mono h (fun _ s' hx => k.exc n s₀ e s' hx) fun x s' hx => k.exc n s₀ x s' hx

/-! ### for -/
def tGFor (wi : TI) (g : TG) (tb : TGn) : TGn := fun D ys σ H => wi σ H fun J H1 => ∃ W : Nat → Nat → List V → L2.St → Hp → Prop, (∃ m, W 0 m ys σ H1) ∧ ∀ i m ys σ H, W i m ys σ H →
  (J.stop i H ∧ D.nx ys σ H) ∨ (J.go i H ∧ ∃ N : List V → L2.St → Hp → Prop, (∀ ys' σ' H', N ys' σ' H' → ∃ m', m' < m ∧ W (i + 1) m' ys' σ' H') ∧ ∀ x H', J.yld i H x H' → g x σ H' fun σ2 H2 => tb { D with nx := N, ct := N, bk := D.nx } ys σ2 H2)
/-- the iterator's objects are none of the walker's -/
theorem fp_ne {X : Cx} {pins : List (Addr × Obj)} {H : Hp} {fp : List Addr} (hf : ∀ b ∈ fp, FpOk X pins H b) {p : Addr × Obj} (hp : p ∈ pins) : p.1 ∉ fp := fun m => (hf p.1 m).2.2.2.2.2 p (List.mem_append_right _ hp) rfl
theorem gsz_for {X : Cx} {tg iter : Expr} {body : List Stmt} {wi : TI} {g : TG} {tb : TGn} {pos : Pos} (hp : PassesOwn (model X.prog X.w) X.A X.env X.xe) (hc : X.calm = true) (hi : PI X tg iter wi) (hg : PG X tg g) (hb : GSsZ X body tb)
    (hs : ∀ x, foldedSetIterable iter X.env x = pure x := by intro _; rfl) : GSZ X (.For tg iter body [] pos) (tGFor wi g tb) := by
  refine ⟨fun A Z S ip R n ys s₀ c fs K J gd lv s σ H D gc hn k hI ht => ?_⟩
  obtain ⟨acc, cc, hz1, r, I⟩ := hI
  rw [exec_For]
  refine seg_bind_wrap (wpAny_standAt ?_)
  refine seg_bind_wrap ?_
  rw [gc.over]
  refine wpAny_mono (hi.run _ s σ H _ I ht) (fun v s1 h1 => ?_) fun x s' hx => k.exc n s₀ x s' hx
  refine seg_bind_wrap (wpAny_of_eq (hs v) ?_)
  refine seg_bind_wrap (wpAny_standAt ?_)
  refine seg_bind_wrap (wpAny_holding ?_)
  rw [gc.over]
  refine wpAny_mono h1 (fun itv s2 h2 => ?_) fun x s' hx => k.exc n s₀ x s' hx
  obtain ⟨it, fp, tn, JJ, H2, e, I2, T, st2, f2, W, ⟨m0, w0⟩, turn⟩ := h2
  subst e
  have stat : ∀ {H' : Hp}, (∀ b ∈ fp, H' b = none) → ∀ b ∈ fp, FpOk X ((S, lstObj acc cc) :: (pinsAt Z s₀.heap ++ ip)) H' b := fun hn b hb => ⟨hn b hb, (f2 b hb).2⟩
  have fpS : S ∉ fp := fp_ne f2 (p := (S, lstObj acc cc)) List.mem_cons_self
  have fpZ : ∀ z ∈ Z, z ∉ fp := fun z hz => by
    obtain ⟨o, ho⟩ := hz1 z hz
    exact fp_ne f2 (p := (z, o)) (List.mem_cons_of_mem _ (List.mem_append_left _ (mem_pinsAt hz ho)))
  have fpI : ∀ p ∈ ip, p.1 ∉ fp := fun p h => fp_ne f2 (List.mem_cons_of_mem _ (List.mem_append_right _ h))
  -- with other contents of the walker's objects
  have stat' : ∀ {H' : Hp} {pz' : List (Addr × Obj)} {acc' : Array Value} {c' : Nat}, (∀ p ∈ pz', p.1 ∈ Z) → (∀ b ∈ fp, H' b = none) → ∀ b ∈ fp, FpOk X ((S, lstObj acc' c') :: (pz' ++ ip)) H' b := fun {H' pz' acc' c'} hz hn b hb => by
    obtain ⟨_, f1, f3, f4, f5, f6⟩ := f2 b hb
    refine ⟨hn b hb, f1, f3, f4, f5, fun p hp e => ?_⟩
    rcases List.mem_append.mp hp with hp | hp
    · exact f6 p (List.mem_append_left _ hp) e
    · rcases List.mem_cons.mp hp with hp | hp
      · rw [hp] at e
        have e' : S = b := e
        exact fpS (e' ▸ hb)
      · rcases List.mem_append.mp hp with hp | hp
        · exact fpZ _ (hz p hp) (e ▸ hb)
        · exact fpI p hp (e ▸ hb)
  refine seg_call fun p => ?_
  have gl := fun (ip' : List (Addr × Obj)) (hip : ∀ p ∈ ip', p.1 ≠ S ∧ p.1 ∉ Z) (kk : Result → Sem PySem.Fin) (cd : Code) (hw : cd.weight = 0) (hu : cd.cUnits = 0) => gcz_loop (k := kk) (c' := cd) (l := lv []) (kp := []) (p := p) gc hw hu hip
  have loop : ∀ (m i n : Nat) (ys : List V) (s₀ s : Shared) (σ : L2.St) (H : Hp), n + ys.length = sizeLine → W i m ys σ H → GIZ X Z S ip ys σ H s₀ s → tn i s.heap → (∀ b ∈ fp, H b = none) →
      Seg (model X.prog X.w) A R (GYZ X Z S) n s₀ (.forLoop tg (.ref it) body [] X.env) ((model X.prog X.w).den (.forLoop tg (.ref it) body [] X.env))
        (.ret (fun r => ((match r with | .ok f => (.pure f : Sem Flow) | .error e => .raise e).onRaise (cameBack X.env)).wrap K J gd lv) none (gd false) (lv []) c p [] :: fs) s := by
    intro m
    induction m using Nat.strongRecOn with
    | ind m ih =>
      intro i n ys s₀ s σ H hn w hI st fr
      have ee : ∀ (n : Nat) (s₀ : Shared) (x : Value) (s' : Shared), X.xe x s' → Seg (model X.prog X.w) A R (GYZ X Z S) n s₀ (.forLoop tg (.ref it) body [] X.env) (noteOn X.env x)
          (.ret (fun r => ((match r with | .ok f => (.pure f : Sem Flow) | .error e => .raise e).onRaise (cameBack X.env)).wrap K J gd lv) none (gd false) (lv []) c p [] :: fs) s' := fun n s₀ x s' hx => by
        refine seg_noted ?_
        rw [(gl [] (fun _ h => nomatch h) _ _ rfl rfl).over]
        refine wpAny_bind (wpAny_mono (hp x s' hx) (fun _ s'' hcb => wpAny_theTreesLotGoes ?_) fun y s'' hcb => ?_)
        · exact seg_leaf (.error x) (seg_back gc k hcb)
        · exact seg_leaf (.error y) (seg_back gc k hcb)
      refine seg_forLoop ?_
      rw [(gl [] (fun _ h => nomatch h) _ _ rfl rfl).over]
      obtain ⟨acc', c', hz1', r', I'⟩ := hI
      have hz2' : ∀ p ∈ pinsAt Z s₀.heap, p.1 ∈ Z := fun p hp => (of_pinsAt hp).1
      rcases turn i m ys σ H w with ⟨stop, qn⟩ | ⟨go, N, hN, step⟩
      · refine wpAny_mono (T.done X rfl rfl rfl hc i _ s σ H X.xe I' (stat' hz2' fr) st stop) (fun r s4 h4 => ?_) fun x s' hx => ee n s₀ x s' hx
        obtain ⟨hr, I4⟩ := h4
        subst hr
        exact seg_blockEnd (seg_leaf (.ok .next) (k.ok n ys s₀ s4 .next hn ⟨σ, H, ⟨acc', c', hz1', r', I4⟩, qn⟩))
      · refine wpAny_mono (T.item X rfl rfl rfl hc i _ s σ H X.xe I' (stat' hz2' fr) st go) (fun r s4 h4 => ?_) fun x s' hx => ee n s₀ x s' hx
        obtain ⟨u, hr, h5⟩ := h4
        subst hr
        refine wpAny_mono h5 (fun _ s5 h6 => ?_) fun x s' hx => ee n s₀ x s' hx
        obtain ⟨x, H5, I5, r5, y5, st5, fr5⟩ := h6
        have I6 : Inv X (((S, lstObj acc' c') :: (pinsAt Z s₀.heap ++ ip)) ++ pinsAt fp s5.heap) σ H5 s5 := I5.pinned (stat' hz2' fr5) (T.obj _ _ st5)
        refine wpAny_mono (hg.run _ s5 σ H5 x u _ I6 r5 (step x H5 y5)) (fun _ s6 h7 => ?_) fun x s' hx => ee n s₀ x s' hx
        obtain ⟨σ6, H6, I7, q6⟩ := h7
        let ip' : List (Addr × Obj) := ip ++ pinsAt fp s5.heap
        have hip' : ∀ p ∈ ip', p.1 ≠ S ∧ p.1 ∉ Z := fun p hp => by
          rcases List.mem_append.mp hp with hp | hp
          · exact gc.ip p hp
          · have m := (of_pinsAt hp).1
            exact ⟨fun e => fpS (e ▸ m), fun hz => fpZ _ hz m⟩
        have G7 : GIZ X Z S ip' ys σ6 H6 s₀ s6 := ⟨acc', c', hz1', r', by
          have e : ((S, lstObj acc' c') :: (pinsAt Z s₀.heap ++ ip)) ++ pinsAt fp s5.heap = (S, lstObj acc' c') :: (pinsAt Z s₀.heap ++ ip') := by
            show _ :: ((pinsAt Z s₀.heap ++ ip) ++ pinsAt fp s5.heap) = _
            rw [List.append_assoc]
          rw [← e]
          exact I7⟩
        refine hb.run A Z S ip' R n ys s₀ _ _ _ _ id id s6 σ6 H6 { D with nx := N, ct := N, bk := D.nx } (gl ip' hip' _ _ rfl rfl) hn ⟨fun n' ys' s₀' s7 f hn' hs => ?_, fun n' s₀' x s7 hx => ee n' s₀' x s7 hx⟩ G7 q6
        -- back from ip' to ip
        have drop : ∀ {ys7 : List V} {σ7 : L2.St} {H7 : Hp}, GIZ X Z S ip' ys7 σ7 H7 s₀' s7 → GIZ X Z S ip ys7 σ7 H7 s₀' s7 ∧ tn (i + 1) s7.heap ∧ ∀ b ∈ fp, H7 b = none := fun {ys7 σ7 H7} h => by
          have hb7 := h.base
          refine ⟨?_, T.keep _ _ _ st5 fun b hb o e => (hb7.pin (b, o) (List.mem_append_right _ (List.mem_append_right _ (mem_pinsAt hb e)))).1, fun b hb => ?_⟩
          · obtain ⟨q1, q2, g1, g3, J7⟩ := h
            refine ⟨q1, q2, g1, g3, J7.pins_of fun p hp => J7.pin p (List.mem_append_right _ ?_)⟩
            rcases List.mem_cons.mp hp with hp | hp
            · rw [hp]; exact List.mem_cons_self
            · rcases List.mem_append.mp hp with hp | hp
              · exact List.mem_cons_of_mem _ (List.mem_append_left _ hp)
              · exact List.mem_cons_of_mem _ (List.mem_append_right _ (List.mem_append_left _ hp))
          · obtain ⟨o, e, d⟩ := T.obj _ _ st5 b hb
            exact (hb7.pin (b, o) (List.mem_append_right _ (List.mem_append_right _ (mem_pinsAt hb e)))).2.1
        have again : ∀ {σ7 : L2.St} {H7 : Hp}, GIZ X Z S ip' ys' σ7 H7 s₀' s7 → N ys' σ7 H7 → Seg (model X.prog X.w) A R (GYZ X Z S) n' s₀' (.forLoop tg (.ref it) body [] X.env) (.pure (.again (.forLoop tg (.ref it) body [] X.env)))
            (.ret (fun r => ((match r with | .ok f => (.pure f : Sem Flow) | .error e => .raise e).onRaise (cameBack X.env)).wrap K J gd lv) none (gd false) (lv []) c p [] :: fs) s7 := fun {σ7 H7} h n7 => by
          obtain ⟨m', hm, w7⟩ := hN ys' σ7 H7 n7
          obtain ⟨d1, d2, d3⟩ := drop h
          exact seg_again rfl (ih m' hm (i + 1) n' ys' s₀' s7 σ7 H7 hn' w7 d1 d2 d3)
        cases f with
        | next => obtain ⟨σ7, H7, I7, n7⟩ := hs; exact again I7 n7
        | cont => obtain ⟨σ7, H7, I7, n7⟩ := hs; exact again I7 n7
        | brk => obtain ⟨σ7, H7, I7, q7⟩ := hs; exact seg_leaf (.ok .next) (k.ok n' ys' s₀' s7 .next hn' ⟨σ7, H7, (drop I7).1, q7⟩)
        | ret v => obtain ⟨x7, σ7, H7, I7, r7, q7⟩ := hs; exact seg_leaf (.ok (.ret v)) (k.ok n' ys' s₀' s7 (.ret v) hn' ⟨x7, σ7, H7, (drop I7).1, r7, q7⟩)
  exact loop m0 0 n ys s₀ s2 σ H2 hn w0 ⟨acc, cc, hz1, r, I2⟩ st2 fun b hb => (f2 b hb).1
end GZ

set_option maxHeartbeats 4000000
namespace GZ
open PySem PySem.Spec PyProof.Rows GenW L2

/-- the end, or an exception leaves it; the walker's objects stand as when it was woken -/
def REndZ (P : Program) (w : World) (outer : List Env) (H : Hp) (s : Shared) (Z : List Addr) (S a : Addr) (g : Nat) (Q : List V → Hp → Prop) (E : XK) : GenEnd := fun n s₀ r s1 =>
  ((r = .ok (.ret .none) ∨ r = .ok .next) ∧ ∃ H' ys acc c, (s1.os = s.os ∧ AllBare s1.gens ∧ Un (frs outer) [] H H' s.heap s1.heap ∧ HOk P w H' s1.heap ∧ H' S = none ∧ s1.heap.get? S = some (lstObj acc c) ∧ Vals ys acc.toList ∧ ys.length ≤ sizeLine ∧ Q ys H') ∧ ∀ z ∈ Z, H' z = none ∧ s1.heap.get? z = s₀.heap.get? z) ∨
  ∃ e, r = .error e ∧ CX P w outer H s E e s1 ∧ s1.heap.IsGen a g
def YItemZ (s : Shared) (Z : List Addr) (S a : Addr) (g : Nat) : Protocol := fun n s₀ v s1 kap =>
  (s1.os = s.os ∧ AllBare s1.gens ∧ s1.heap.NoLimit ∧ s1.heap.IsGen a g ∧ (∃ (acc : Array Value) (c : Nat), s1.heap.get? S = some (lstObj acc c) ∧ n + 1 + acc.size = sizeLine) ∧ (∀ z ∈ Z, s1.heap.get? z = s₀.heap.get? z)) ∧ ∀ s', SleptZ Z S v s1 s' → kap (.send .none) s'
/-- what a call gives: a generator that has not begun; whatever objects its walker keeps beside the list -/
def GMadeZ (P : Program) (w : World) (k : Nat) (outer : List Env) (H : Hp) (s : Shared) (Q : List V → Hp → Prop) (E : XK) (u : Value) (s' : Shared) : Prop :=
  ∃ (a : Addr) (g : Nat) (c : Code), (u = .ref a ∧ s.heap.objs.size ≤ a ∧ a < s'.heap.objs.size ∧ s'.heap.IsGen a g ∧ s'.gens[g]? = some (.fresh c) ∧ s'.os = s.os ∧ AllBare s'.gens ∧ s'.heap.NoLimit ∧ (∀ b o, s.heap.get? b = some o → s'.heap.get? b = some o)) ∧
    ∀ (A : Around) (Z : List Addr) (S : Addr) (s2 : Shared), Room k A → A.frames = some outer → s'.heap.objs.size ≤ S → (∀ z ∈ Z, z ≠ S ∧ s'.heap.objs.size ≤ z ∧ ∃ o, s2.heap.get? z = some o ∧ ∀ v, o.data ≠ .cell v) →
      (∀ b o, s'.heap.get? b = some o → s2.heap.get? b = some o) → (∃ c, s2.heap.get? S = some (lstObj #[] c)) → s2.os = s.os → AllBare s2.gens →
      Seg (model P w) A (REndZ P w outer H s Z S a g Q E) (YItemZ s Z S a g) sizeLine s2 c ((model P w).den c) [] s2
structure GFnZ (P : Program) (w : World) (K : PySem.W.Frag) (mg : Str → Option Value) (base : Heap) (k : Nat) (f : Addr) (fd : FuncData) (ps : List Str) (sp : SpG) : Prop where
  len : ∀ vs H Q E, sp vs H Q E → vs.length = ps.length
  run : ∀ (A : Around) (outer : List Env) (s : Shared) (H : Hp) (args : Args) (us : List Value) (vs : List V) (Q : List V → Hp → Prop) (E : XK), Room k A → Env0 P w K mg base A outer s H → BindsTo s fd args (ps.zip us) → Vals vs us → sp vs H Q E →
    codeAny (model P w) A (.call (.ref f) args) (fun r s' => match r with | .ok (.ret u) => GMadeZ P w k outer H s Q E u s' | _ => False) s

theorem gfnz_of {P : Program} {w : World} {K : PySem.W.Frag} {mg : Str → Option Value} {base : Heap} {k : Nat} {f : Addr} {name qual : Str} {params : Arguments} {body : List Stmt} {scope : Scope} {dV kV doc pm cdv ct oc : Value} {an od : Option Addr}
    {osl : Array (Option Value)} {N ps : List Str} {sp : SpG} (lk : K.lookup f = some ⟨oc, od, .func (PySem.W.fnOf name qual params body scope dV kV doc pm an cdv ct), osl⟩) (hcd : PySem.W.codeIn K cdv qual = true) (S : GScope N ps scope)
    (len : ∀ vs H Q E, sp vs H Q E → vs.length = ps.length)
    (hbody : ∀ (A : Around) (outer : List Env) (s : Shared) (H : Hp) (vs : List V) (Q : List V → Hp → Prop) (E : XK) (pn : List (Addr × Obj)), Room k (A.deeper (envOfC qual scope s.heap.objs.size f cdv)) → sp vs H Q E →
      ∃ t, GSsZ (gcxOf P w K mg base N qual scope f cdv A outer s H E pn) body t ∧ t { nx := fun ys _ H' => Q ys H', rt := fun ys v H' => v = .non ∧ Q ys H' } [] (start N vs) H) :
    GFnZ P w K mg base (k + 1) f (PySem.W.fnOf name qual params body scope dV kV doc pm an cdv ct) ps sp := by
  refine ⟨len, fun A outer s H args us vs Q E hr e0 hb r hsp => ?_⟩
  have hl := len _ _ _ _ hsp
  have kinS : K.In s.heap := e0.mod.kin.keeps fun b o e => (e0.bs b o e).1
  have limS : s.heap.NoLimit := e0.mod.nolimit.keeps fun b o e => (e0.bs b o e).1
  refine codeAny_call_generator hr.depth (kinS _ _ lk) rfl S.co S.gen rfl (PySem.W.codeRec_of kinS hcd) (hb _ _ _ _ ?_)
  refine wpAny_newFunctionEnv_cells S.kind (fun ⟨m, v⟩ hy => ?_) fun env he s1 x => ?_
  · rcases S.par m (List.of_mem_zip hy).1 with q | q
    · exact .inl q
    · exact .inr ⟨q, PySem.W.cellsFrom_some _ _ _ (.inl q)⟩
  subst he
  have lim1 : s1.heap.NoLimit := limS.keeps x.toInCall.keep
  refine ⟨lim1, ?_⟩
  obtain ⟨h1, tk, es1, hk1⟩ := x.done
  have os1 : s1.os = s.os := by rw [es1]
  have gen1 : s1.gens = s.gens := by rw [es1]
  have lt1 : s.heap.objs.size < s1.heap.objs.size := x.toInCall.ns.lt
  have kp1 : ∀ b o, s.heap.get? b = some o → s1.heap.get? b = some o := x.toInCall.keep
  suffices main : ∀ (go : Obj) (nm qn : Value) (tk2 : Nat), go.cls = .type "generator" → go.data = .fields #[.int s1.gens.size 0, nm, qn] → go.slots = #[] → (∀ h : Heap, (h.push go).get? h.objs.size = some go) →
      GMadeZ P w (k + 1) outer H s Q E (.ref s1.heap.objs.size) { s1 with gens := s1.gens.push (.fresh (.func body (envOfC qual scope s.heap.objs.size f cdv))), toks := tk2, heap := s1.heap.push go } from
    main _ _ _ _ rfl rfl rfl fun h => Heap.get?_push_size _ rfl
  intro go nm qn tk2 hgc hgd0 hgs hgp
  let G : Addr := s1.heap.objs.size
  have isGen : ∀ h : Heap, h.get? G = some go → h.IsGen G s1.gens.size := fun h e => ⟨go, nm, qn, e, hgc, hgd0, hgs⟩
  have gAt : (s1.heap.push go).get? G = some go := hgp _
  refine ⟨G, s1.gens.size, _, ⟨rfl, Nat.le_of_lt lt1, ?_, isGen _ gAt, Array.getElem?_push_size .., os1, AllBare.push (by rw [gen1]; exact e0.bare) rfl, lim1.keeps fun b o e => Heap.get?_push_of_some _ e, fun b o e => Heap.get?_push_of_some _ (kp1 b o e)⟩, ?_⟩
  · show _ < (s1.heap.push _).objs.size
    rw [Heap.size_push]; exact Nat.lt_succ_self _
  intro Aw Z Sx s2 hrw hfr hSx hZ hk2 hSo hos hba
  have hZ' : ∀ z ∈ Z, z ≠ Sx ∧ G < z ∧ ∃ o, s2.heap.get? z = some o ∧ ∀ v, o.data ≠ .cell v := fun z hz => by
    obtain ⟨a1, a2, a3⟩ := hZ z hz
    have a2' : (s1.heap.push go).objs.size ≤ z := a2
    rw [Heap.size_push] at a2'
    exact ⟨a1, a2', a3⟩
  have hSz : G < Sx := by
    have q : (s1.heap.push go).objs.size ≤ Sx := hSx
    rw [Heap.size_push] at q
    exact q
  have e0w : Env0 P w K mg base Aw outer s H := ⟨hfr, e0.mod, e0.bs, e0.bsz, e0.funs, e0.frf, e0.hok, e0.bare⟩
  obtain ⟨t, ht, hq⟩ := hbody Aw outer s H vs Q E [(G, go)] (hrw.deeper _) hsp
  have I1 : Inv (gcxOf P w K mg base N qual scope f cdv Aw outer s H E []) [] (start N vs) H s1 := inv_startG S hrw.hd e0w hl r x
  have kp2 : ∀ b o, s1.heap.get? b = some o → s2.heap.get? b = some o := fun b o e => hk2 b o (Heap.get?_push_of_some _ e)
  have I2 : Inv (gcxOf P w K mg base N qual scope f cdv Aw outer s H E []) [] (start N vs) H s2 :=
    I1.call' (ch := []) (hos.trans os1.symm) (Un.kept kp2) (I1.hok.kept kp2) hba fun b z => nomatch z
  obtain ⟨cS, heS⟩ := hSo
  have hea : s2.heap.get? G = some go := hk2 G go gAt
  have young : ∀ b, G ≤ b → (H b = none ∧ b ≠ s.heap.objs.size ∧ b ∉ frs outer) ∧ s.heap.objs.size ≤ b ∧ b ≠ s.heap.objs.size ∧ ∀ y c, (cellsFrom (s.heap.objs.size + 1) scope.names []).lookup y = some c → c ≠ b := fun b hb => by
    have ne : b ≠ s.heap.objs.size := Nat.ne_of_gt (Nat.lt_of_lt_of_le lt1 hb)
    refine ⟨⟨I1.hok.fresh hb, ne, I1.nofs hb⟩, Nat.le_trans (Nat.le_of_lt lt1) hb, ne, fun y c e z => ?_⟩
    obtain ⟨v, ob, ho, _⟩ := I1.cell y c e
    have := Heap.lt_size ho
    rw [z] at this
    exact absurd (Nat.lt_of_lt_of_le this hb) (Nat.lt_irrefl _)
  let X : Cx := gcxOf P w K mg base N qual scope f cdv Aw outer s H E [(G, go)]
  have hG : GIZ X Z Sx [] [] (start N vs) H s2 s2 := by
    refine ⟨#[], cS, fun z hz => ?_, .nil, Inv.pinnedG I2 fun p hp => ?_⟩
    · obtain ⟨_, _, o, e, _⟩ := hZ' z hz
      exact ⟨o, e⟩
    · rcases List.mem_append.mp hp with z | z
      · rw [List.mem_singleton.mp z]
        obtain ⟨⟨y1, y2, y3⟩, _⟩ := young G (Nat.le_refl _)
        exact ⟨hea, y1, y2, y3, fun v q => by rw [hgd0] at q; cases q⟩
      · rcases List.mem_cons.mp z with z | z
        · rw [z]
          obtain ⟨⟨y1, y2, y3⟩, _⟩ := young Sx (Nat.le_of_lt hSz)
          exact ⟨heS, y1, y2, y3, fun v q => by cases q⟩
        · rw [List.append_nil] at z
          obtain ⟨hz, e⟩ := of_pinsAt z
          obtain ⟨_, h2, o, e2, nc⟩ := hZ' _ hz
          obtain ⟨⟨y1, y2, y3⟩, _⟩ := young _ (Nat.le_of_lt h2)
          rw [e] at e2
          cases e2
          exact ⟨e, y1, y2, y3, nc⟩
  have apart : ∀ b, G < b → Apart X b := fun b hb => by
    obtain ⟨_, y4, y2, y5⟩ := young b (Nat.le_of_lt hb)
    exact ⟨y4, y2, y5⟩
  have hAp : ApartZ X Z Sx := ⟨apart _ hSz, fun p hp => by rw [List.mem_singleton.mp hp]; exact Nat.ne_of_lt hSz, fun z hz => by
    obtain ⟨a1, a2, _⟩ := hZ' z hz
    exact ⟨a1, apart _ a2, fun p hp => by rw [List.mem_singleton.mp hp]; exact Nat.ne_of_lt a2⟩⟩
  refine seg_func (seg_imp (R := GRZ X Z Sx (fun ys v H' => v = .non ∧ Q ys H') fun e s' => CX P w outer H s E e s' ∧ ∀ p ∈ [(G, go)], s'.heap.get? p.1 = some p.2) (Y := GYZ X Z Sx) (fun n s₀ r s1' hR => ?_) (fun n s₀ v s1' kap kap' hkk hY => ?_) sizeLine ?_)
  · cases r with
    | error e => exact .inr ⟨e, rfl, hR.1, isGen _ (hR.2 (G, go) (List.mem_singleton.mpr rfl))⟩
    | ok fl =>
      cases fl with
      | next => exact False.elim hR
      | brk => exact False.elim hR
      | cont => exact False.elim hR
      | ret u =>
        obtain ⟨ys, v, ip, σ', H', hn, hI, rv, ev, hQ⟩ := hR
        subst ev
        have eu : u = Value.none := rv
        subst eu
        obtain ⟨a1, _, _, ⟨acc, cc, ra, ea⟩, az⟩ := hI.at
        obtain ⟨_, _, _, _, J⟩ := hI
        exact .inl ⟨.inl rfl, H', ys, acc, cc, ⟨J.os, J.bare, J.base, J.hok, a1, ea, ra, by omega, hQ⟩, fun z hz => ⟨(az z hz).1, (az z hz).2.2.2⟩⟩
  · obtain ⟨ys, xx, ip, σ', H', hn, h2, hI, h3⟩ := hY
    obtain ⟨_, _, _, ⟨acc, cc, ra, ea⟩, az⟩ := hI.at
    obtain ⟨_, _, _, _, J⟩ := hI
    have hsz : acc.size = ys.length := by
      have e1 := ra.length
      have e2 : acc.toList.length = acc.size := by simp
      omega
    exact ⟨⟨J.os, J.bare, J.nolimit, isGen _ (J.pin (G, go) (List.mem_append_left _ (List.mem_singleton.mpr rfl))).1, ⟨acc, cc, ea, by rw [hsz]; exact hn⟩, fun z hz => (az z hz).2.2.2⟩, fun s' z => hkk _ _ (h3 s' z)⟩
  · refine ht.run Aw Z Sx [] _ sizeLine [] s2 _ [] _ _ id id s2 (start N vs) H _ ⟨hAp, (fun p hp => nomatch hp), over_func, rfl, rfl, rfl⟩ (Nat.add_zero _) ⟨fun n ys s₀ s' fl hn hs => ?_, fun n s₀ e s' hx => ?_⟩ hG hq
    · cases fl with
      | next =>
        obtain ⟨σ', H', hI, hQ⟩ := hs
        exact seg_end (.ok (.ret .none)) ⟨ys, .non, [], σ', H', hn, hI, rfl, rfl, hQ⟩
      | brk => obtain ⟨_, _, _, q⟩ := hs; exact False.elim q
      | cont => obtain ⟨_, _, _, q⟩ := hs; exact False.elim q
      | ret u =>
        obtain ⟨v, σ', H', hI, rv, ev, hQ⟩ := hs
        exact seg_end (.ok (.ret u)) ⟨ys, v, [], σ', H', hn, hI, rv, ev, hQ⟩
    · refine seg_wrap ?_
      rw [over_func]
      exact wpAny_mono (show wpAny (model P w) (Aw.deeper (envOfC qual scope s.heap.objs.size f cdv)) (leaving (envOfC qual scope s.heap.objs.size f cdv) e) (fun _ s'' => CX P w outer H s E e s'' ∧ ∀ p ∈ [(G, go)], s''.heap.get? p.1 = some p.2) (fun _ _ => False) s' from hx) (fun _ s'' q => seg_end (.error e) q) fun _ s'' q => q.elim
/-- walked by list(..): nothing else is kept -/
theorem GMadeZ.made {P : Program} {w : World} {k : Nat} {outer : List Env} {H : Hp} {s s' : Shared} {Q : List V → Hp → Prop} {E : XK} {u : Value} (h : GMadeZ P w k outer H s Q E u s') : GMade P w k outer H s [] Q E u s' := by
  obtain ⟨a, g, c, ⟨h1, h2, h3, h4, h5, h6, h7, h8, h9⟩, run⟩ := h
  refine ⟨a, g, c, h1, h2, h3, h4, h5, h6, h7, h8, h9, fun A S s2 r1 r2 r3 r4 r5 r6 r7 => ?_⟩
  refine seg_imp (fun n s₀ r s1 hR => ?_) (fun n s₀ v s1 kap kap' hkk hY => ?_) sizeLine (run A [] S s2 r1 r2 r3 (fun z hz => nomatch hz) r4 r5 r6 r7)
  · rcases hR with ⟨q1, H', ys, acc, cc, q2, _⟩ | q
    · exact .inl ⟨q1, H', ys, acc, cc, q2⟩
    · exact .inr q
  · obtain ⟨⟨y1, y2, y3, y4, y5, _⟩, y6⟩ := hY
    exact ⟨y1, y2, y3, y4, y5, fun s'' z => hkk _ _ (y6 s'' ⟨z.os, z.bare, fun b o n _ e => z.keep b o n e, z.own, fun z hz => nomatch hz⟩)⟩
theorem GFnZ.fn {P : Program} {w : World} {K : PySem.W.Frag} {mg : Str → Option Value} {base : Heap} {k : Nat} {f : Addr} {fd : FuncData} {ps : List Str} {sp : SpG} (h : GFnZ P w K mg base k f fd ps sp) : GFn P w K mg base k f fd ps sp :=
  ⟨h.len, fun A outer s H args us vs Q E hr e0 hb r hsp => codeAny_mono (h.run A outer s H args us vs Q E hr e0 hb r hsp) fun r s' hq => by
    cases r with
    | error e => exact hq
    | ok fl =>
      cases fl with
      | ret u => exact hq.made
      | next => exact hq
      | brk => exact hq
      | cont => exact hq⟩
end GZ

set_option maxHeartbeats 4000000
/-! [x for x in g(..)], the element the plain name -/
namespace GZ
open PySem PySem.Spec PyProof.Rows GenW L2

/-- none raises -/
def noX : XK := fun _ _ _ => False
structure PGenZ (X : Cx) (k : Nat) (e : Expr) (tg : TGen) : Prop where
  run : ∀ (pins : List (Addr × Obj)) (s : Shared) (σ : L2.St) (H : Hp) (cont : List V → Hp → Prop), Inv X pins σ H s → tg σ H cont →
    wpAny (model X.prog X.w) X.A (eval e X.env) (fun u s' => ∃ H1 sc, Inv X pins σ H1 sc ∧ GMadeZ X.prog X.w k X.stack H1 sc cont noX u s') X.xe s
theorem PGenZ.pgen {X : Cx} {k : Nat} {e : Expr} {tg : TGen} (h : PGenZ X k e tg) : PGen X k e tg noX :=
  ⟨fun pins s σ H cont I q => wpAny_mono (h.run pins s σ H cont I q) (fun u s' ⟨H1, sc, I1, G⟩ => ⟨H1, sc, [], I1, .nil, G.made⟩) fun _ _ z => z⟩
section
variable {X : Cx} {k : Nat}
theorem pgenz_call {f : Addr} {fd : FuncData} {ps : List Str} {sp : SpG} {x : Str} {p pos' : Pos} {e : Expr} {es : List Expr} {t : TA} (F : GFnZ X.prog X.w X.K X.mg X.base k f fd ps sp) (hr : Room k X.A) (hg : Gl X x) (hm : X.mg x = some (.ref f)) (hk : PySem.W.keepIn X.K (.ref f) = true) (hb : Binds X.K fd ps [])
    (ha : PA X (e :: es) t) (hdb : (x == ("__debug__" : Str)) = false := by decide) (he : starEach (e :: es) X.env = (false, eval e X.env) :: starEach es X.env := by rfl) (hpl : (backTo pos' (starEach es X.env)).any (·.1) = false := by rfl) :
    PGenZ X k (.Call (.Name x p) (e :: es) [] pos') (tCallG sp [] noX t) := by
  refine ⟨fun pins s σ H cont I h => wpAny_Call_Name_kw (ld_glob I hg hm ?_ hdb)⟩
  refine PySem.W.callWith_K (h₀ := X.base) I.ok.mod.kin hk (thn (ha.run pos' pins s σ H _ I h) fun us s1 ⟨vs, H1, I1, r, q⟩ => ⟨I1.kIn, ?_⟩) he hpl
  have q : sp (vs ++ []) H1 cont noX := q
  rw [List.append_nil] at q
  have hl : us.length = ps.length := by rw [← r.length]; exact F.len _ _ _ _ q
  refine wpAny_call (codeAny_mono (F.run X.A X.stack s1 H1 ⟨us, []⟩ us vs cont noX hr I1.env0 ?_ r q) fun r s' hq => ?_)
  · have B := hb s1 us I1.kIn (by rw [List.append_nil]; exact hl)
    rw [List.append_nil] at B
    exact B
  · cases r with
    | error e => exact False.elim hq
    | ok fl =>
      cases fl with
      | ret u => exact ⟨H1, s1, I1, hq⟩
      | next => exact False.elim hq
      | brk => exact False.elim hq
      | cont => exact False.elim hq

theorem pe_lcG {y : Str} {p1 p2 pos : Pos} {iter : Expr} {scope : Scope} {own : List (Str × Nat)} {tg : TGen} (h : PGenZ X k iter tg) (hr : Room (k + 3) X.A) (ok : BlkOk X.N X.env.scope scope own) (hy : scope.names.lookup y = some .local)
    (hyd : (y == ("__debug__" : Str)) = false := by decide) (hs : ∀ x, foldedSetIterable iter X.env x = pure x := by intro _; rfl) :
    PE X (.ListComp (.Name y p1) [⟨.Name y p2, iter, [], 0⟩] scope pos) (tListG tg) := by
  refine ⟨fun pins s σ H Q I hq => ?_⟩
  rw [eval_ListComp]
  have free : ∀ z ∈ scope.names, z.2 = .free → ∃ c, X.env.cells.lookup z.1 = some c := fun z hz e => (ok.free z hz e).elim (fun k => I.ok.has _ (.inl k)) fun k => I.ok.has _ (.inr k)
  refine wpAny_comprehension_free (use := none) rfl hs (closure_ok free) ok.kind (fun z hz e => (ok.uniq z hz).trans (congrArg some e))
    (thn (h.run pins s σ H _ I hq) fun u s1 ⟨H1, sc, I1, hG⟩ => ?_)
  obtain ⟨a, g, c, ⟨rfl, ha1, ha2, hg, hgs, hos, hb, hl, hkp⟩, wake⟩ := hG
  refine wpAny_pyIter_gen hg (wpAny_newObj_type (newEnv_comp ?_) (by show 0 ≤ sizeLine; decide))
  generalize hD : s1.heap.objs.size = D
  have ha1' : sc.heap.objs.size ≤ a := ha1
  have ha2' : a < D := by rw [← hD]; exact ha2
  let h2 : Heap := s1.heap.push { cls := .type "list", data := .seq ([] : List Value).toArray }
  have z2 : h2.objs.size = D + 1 := by rw [← hD]; exact Heap.size_push ..
  let h3 : Heap := pushCells (h2.push { cls := .type "dict", data := .dict #[] }) scope.names
  let C : Addr := h2.objs.size
  have hC : C = D + 1 := z2
  have k12 : ∀ b o, s1.heap.get? b = some o → h2.get? b = some o := fun b o e => Heap.get?_push_of_some _ e
  have k23 : ∀ b o, h2.get? b = some o → h3.get? b = some o := fun b o e => pushCells_keeps scope.names _ b o (Heap.get?_push_of_some _ e)
  have k13 : ∀ b o, s1.heap.get? b = some o → h3.get? b = some o := fun b o e => k23 b o (k12 b o e)
  have D2 : h2.get? D = some (lstObj #[] 0) := by rw [← hD]; exact Heap.get?_push_size _ rfl
  have D3 := k23 _ _ D2
  have C3 : h3.get? C = some { cls := .type "dict", data := .dict #[] } := pushCells_keeps scope.names _ _ _ (Heap.get?_push_size _ rfl)
  have CD : C ≠ D := fun e => by rw [hC] at e; exact absurd e (Nat.succ_ne_self D)
  have aD : D ≠ a := fun e => by rw [e] at ha2'; exact Nat.lt_irrefl _ ha2'
  have aC : C ≠ a := fun e => by rw [← e, hC] at ha2'; exact absurd ha2' (Nat.not_lt.mpr (Nat.le_succ D))
  have scD : sc.heap.objs.size ≤ D := Nat.le_trans ha1' (Nat.le_of_lt ha2')
  let ce : Env := compEnvC scope (cellsFrom (h2.objs.size + 1) scope.names (cloFrom X.env.cells scope.names [])) h2.objs.size X.env
  have ck : ce.scope.kind = .function := ok.kind
  have cy : ce.kindOf y = some .local := lookup_relabel_local hy
  have cst : cStatics < D := by
    rw [← hD]
    obtain ⟨_, hn, _⟩ := hl
    exact hn.lt
  have cstC : C ≠ cStatics := fun e => by rw [← e, hC] at cst; exact absurd cst (Nat.not_lt.mpr (Nat.le_succ D))
  let s4 : Shared := { s1 with heap := h3 }
  have hR : Room k X.A.in1 := ⟨hr.hd, by have := hr.dp; show X.A.depth + 3 * k + 5 < _; omega, by have := hr.un; show X.A.units + 1 + 16 * k + 200 < _; omega⟩
  have dep : X.A.depth < recursionLimit := hr.depth
  let RE : GenEnd := REndZ X.prog X.w X.stack H1 sc [C] D a g (fun out H2 => ∀ p, H2 p = none → Q (.ref p) (upd H2 p (.lst out))) noX
  let YI : Protocol := YItemZ sc [C] D a g
  let Inn : Nat → Shared → Prop := fun m t => t.heap.IsGen a g ∧ t.heap.NoLimit ∧ (∃ mm, t.heap.Ns C mm) ∧ ∃ gs, t.gens[g]? = some gs ∧ gs.Goes (model X.prog X.w) X.A.in1 RE YI m (.send .none) (t.setGen g .running)
  have loop : codeAny (model X.prog X.w) X.A (.compLoop (.ListComp (.Name y p1) [⟨.Name y p2, iter, [], 0⟩] scope pos) 0 (.ref a) (.ref D) ce) (compPost (model X.prog X.w) X.A X.xe none (EP X pins σ Q) (.ref D) C) s4 := by
    refine compLoop_any Inn (fun n t ht => ?_) sizeLine ?_
    · obtain ⟨tg1, tl, ⟨mm, tn⟩, gs, tgs, tgo⟩ := ht
      have goes : ∀ {gs : GenState} {B : Around} {n : Nat} {r : Resume} {s : Shared}, gs.Goes (model X.prog X.w) B RE YI n r s →
          gs.Goes (model X.prog X.w) B (fun n s₀ r s1 => ((r = .ok (.ret .none) ∨ r = .ok .next) ∧ (∃ H' ys acc c, (s1.os = sc.os ∧ AllBare s1.gens ∧ Un (frs X.stack) [] H1 H' sc.heap s1.heap ∧ HOk X.prog X.w H' s1.heap ∧ H' D = none ∧ s1.heap.get? D = some (lstObj acc c) ∧ Vals ys acc.toList ∧ ys.length ≤ sizeLine ∧
            ∀ p, H' p = none → Q (.ref p) (upd H' p (.lst ys))) ∧ ∀ z ∈ [C], H' z = none ∧ s1.heap.get? z = s₀.heap.get? z)) ∨ ∃ e, r = .error e ∧ (CX X.prog X.w X.stack H1 sc noX e s1 ∧ s1.heap.IsGen a g)) YI n r s := fun h => h
      have tgl : g < t.gens.size := (Array.getElem?_eq_some_iff.mp tgs).1
      refine wpAny_gsz (n := g + 1) tgl (next_genG hr.hd tl dep tg1 tgs (goes tgo) (fun v t1 gs' hbare hv => ?_) (fun t1 hp h' hk => ?_) fun e t1 he => ?_)
      · intro hsz
        obtain ⟨⟨os1, hb1, hl1, hg1, ⟨acc, cc, eD, hasz⟩, hz⟩, hk⟩ := hv
        have eC : t1.heap.get? C = t.heap.get? C := hz C (List.mem_singleton.mpr rfl)
        have n1 : t1.heap.Ns C mm := by
          obtain ⟨o, es, ep, e1, r1⟩ := tn
          exact ⟨o, es, ep, eC.trans e1, r1⟩
        refine wpAny_of_eq (rfl : letOwnedTupleGo (.Name y p2) (.ref a) v = pure ()) ?_
        refine wpAny_assign_Name (wpAny_storeName_local cy n1 (fun hh n2 sb2 => ?_) (by rw [ck]; rfl))
        refine wpAny_tests_nil ?_
        rw [if_pos rfl]
        rw [eval_Name ce y p1 hyd]
        refine wpAny_bind (wpAny_standAt (wpAny_loadName_local ck cy n2 (if_pos rfl) ?_))
        have eD2 : hh.get? D = some (lstObj acc cc) := (sb2.2 D (Ne.symm CD)).trans eD
        have hacc : acc.size < sizeLine := by omega
        refine append_at (hsz := Nat.le_of_lt hacc) eD2 fun h5 sb5 eD5 => ?_
        have kp : ∀ b o, b ≠ D → b ≠ C → t1.heap.get? b = some o → h5.get? b = some o := fun b o nD nC e => (sb5.2 b nD).trans ((sb2.2 b nC).trans e)
        have n5 : h5.Ns C _ := n2.sameBut sb5 CD
        have hsz1 : g < t1.gens.size := by
          have q : (t1.setGen g gs').gens.size = t1.gens.size := setGen_size _ _ _
          have hsz' : g + 1 ≤ (t1.setGen g gs').gens.size := hsz
          omega
        have slept : ∀ (gg : Array GenState) (dd : Array Nat) (tt : Nat), AllBare gg → SleptZ [C] D v t1 { t1 with heap := h5, gens := gg, toks := tt } := fun gg _ tt hgg =>
          ⟨rfl, hgg, fun b o nD nC e => kp b o nD (fun z => nC (List.mem_singleton.mpr z)) e, fun acc' c' e => by
            rw [eD] at e
            cases e
            exact ⟨_, eD5⟩, fun z hz => by
            rw [List.mem_singleton.mp hz]
            obtain ⟨o, es, ep, e1, e2, _⟩ := n5
            exact ⟨o, e1, fun v q => by rw [e2] at q; cases q⟩⟩
        cases n with
        | zero => exact False.elim (hk _ (slept _ #[] t1.toks hb1))
        | succ n =>
          refine ⟨n, Nat.lt_succ_self n, ?_, ?_, ⟨_, n5⟩, gs', setGen_at hsz1, hk _ (slept _ #[] _ (allBare_setGen (s := t1.setGen g gs') (allBare_setGen hb1 hbare) rfl))⟩
          · obtain ⟨o, nm, qn, ho, r⟩ := hg1
            exact ⟨o, nm, qn, kp a o (Ne.symm aD) (Ne.symm aC) ho, r⟩
          · obtain ⟨mc, hns, hnn⟩ := hl1
            exact ⟨mc, hns.at' fun o e => kp _ o (Nat.ne_of_lt cst) (Ne.symm cstC) e, hnn⟩
      · intro hsz
        obtain ⟨H', ys, acc, cc, ⟨os1, hb1, un, hok, hSn, hS1, hv, hle, hQ⟩, hz⟩ := hp
        obtain ⟨hCn, eC⟩ := hz C (List.mem_singleton.mpr rfl)
        have eC : t1.heap.get? C = t.heap.get? C := eC
        refine ⟨mm, ?_, fun h'' sb => ?_⟩
        · obtain ⟨o, es, ep, e1, r1⟩ := tn
          exact ⟨o, es, ep, hk _ _ (eC.trans e1), r1⟩
        · have I7 : Inv X pins σ (upd H' D (.lst ys)) { t1.setGen g .finished with heap := h' } :=
            I1.drained scD hle (hk _ _ hS1) hv .nil os1 (allBare_setGen hb1 rfl) (un.trans (Un.kept hk)) (hok.kept hk) hSn
          have hC' : sc.heap.objs.size ≤ C := by rw [hC]; exact Nat.le_succ_of_le scD
          obtain ⟨f0, f1, _, f3, f4, f5⟩ := I1.fpOk (H' := upd H' D (.lst ys)) hC' (by rw [upd_ne CD]; exact hCn)
          exact ⟨.ref D, upd H' D (.lst ys), I7.turned (t' := t1.toks) (fun b o hb e => (sb.2 b hb).trans e) f0 f1 f3 f4 f5, rfl, hQ D hSn⟩
      · exfalso
        obtain ⟨⟨_, _, _, _, _, _, _, _, _, _, _, _, hW⟩, _⟩ := he
        exact hW
    · refine ⟨hg.keeps k13, hl.keeps k13, ⟨fun _ => none, _, _, _, C3, rfl, fun e h => by simp at h, fun name => rfl⟩, .fresh c, hgs, rfl, ?_⟩
      refine wake X.A.in1 [C] D _ hR I1.ok.frames (Nat.le_of_eq hD) (fun z hz => ?_) k13 ⟨0, D3⟩ hos (allBare_setGen (s := s4) hb rfl)
      rw [List.mem_singleton.mp hz]
      exact ⟨CD, by rw [hC, hD]; exact Nat.le_succ D, _, C3, fun v q => by cases q⟩
  exact codeAny_compStart_list loop (wpAny_pyIter_gen (hg.keeps k13) loop)
end
end GZ

set_option maxHeartbeats 4000000
/-! generators as data: a def whose body is `for x in ..: yield e`; list(g(..)); [x for x in g(..)] -/
namespace DL
open PySem PySem.Spec PyProof.Rows L2 GZ
variable [Tabs] [Me]
omit [Me] in
/-- what is handed out -/
def genD (h : Dt → Sta → Option Sta) (fe : DM Dt) : List Dt → DM (List Dt)
  | [], s => some ([], s)
  | d :: r, s => (h d s).bind fun s1 => (fe s1).bind fun p => (genD h fe r p.2).bind fun q => some (p.1 :: q.1, q.2)
omit [Me] in
def mGenFor (f : DM (List Dt)) (h : Dt → Sta → Option Sta) (fe : DM Dt) : DM (List Dt) := fun s => (f s).bind fun p => if p.1.length ≤ 100000 then genD h fe p.1 p.2 else none
omit [Me] in
abbrev FG := List Dt → List Dt → Option (List Dt × List Dt)
omit [Me] in
def fnG (n : Nat) (g : DM (List Dt)) : FG := fun ds bg => (g ⟨ds.map (fun d => some (.dat d)) ++ List.replicate (n - ds.length) none, bg⟩).bind fun p => some (p.1, p.2.bag)
omit [Me] in
def spG (K : PySem.W.Frag) (n : Nat) (F : FG) : SpG := fun vs H Q _ => ∃ (β : Addr) (P G : Hp) (ds bg r bg' : List Dt), vs.length = n ∧ IsL K β G ds vs ∧ Rel K β P [] H G ⟨[], bg⟩ ∧ F ds bg = some (r, bg') ∧
  ∀ out H' G', Ext G G' → Rel K β P [] H' G' ⟨[], bg'⟩ → IsL K β G' r out → Q out H'
theorem tgfor_ok {K : PySem.W.Frag} {wi : TI} {g : TG} {te : TE} {f : DM (List Dt)} {is : List Nat} {h : Dt → Sta → Option Sta} {fe : DM Dt} (hi : TIok K wi f) (hg : TGok K g is h) (he : TEok K te fe)
    {β : Addr} {P : Hp} {σ : L2.St} {H G : Hp} {s s' : Sta} {r : List Dt} (R : Rel K β P σ H G s) (e : mGenFor f h fe s = some (r, s')) {D : GEnds} (k : ∀ out σ' H' G', Ext G G' → Rel K β P σ' H' G' s' → IsL K β G' r out → D.nx out σ' H') :
    tGFor wi g (tGThen (tGYield te) tG0) D [] σ H := by
  unfold mGenFor at e
  obtain ⟨⟨l, s1⟩, e1, e⟩ := Option.bind_eq_some_iff.mp e
  dsimp only at e
  split at e
  case isFalse => cases e
  rename_i hlen
  refine hi β P σ H G s l s1 R e1 _ fun J H1 G1 Gd Y x1 R1 wk hG hY => ?_
  refine ⟨fun i m ys σ2 H2 => m = l.length - i ∧ i ≤ l.length ∧ ys.length = i ∧ ∃ G2 s2 ds rs, Ext G1 G2 ∧ Rel K β P σ2 H2 G2 s2 ∧ IsL K β G2 ds ys ∧ genD h fe (l.drop i) s2 = some (rs, s') ∧ ds ++ rs = r,
    ⟨l.length, rfl, Nat.zero_le _, rfl, G1, s1, [], r, Ext.refl G1, R1, isl_nil.mpr rfl, e, rfl⟩, ?_⟩
  rintro i m ys σ2 H2 ⟨rfl, hi', hy, G2, s2, ds, rs, x2, R2, i2, e2, e3⟩
  have gd := hG H2 G2 x2 R2.gh
  by_cases hlt : i < l.length
  · refine .inr ⟨wk.goes i H2 hlt gd, _, fun ys' σ' H' p' => ⟨l.length - (i + 1), by omega, p'⟩, fun x H3 y => ?_⟩
    have hd : l[i]? = some l[i] := List.getElem?_eq_getElem hlt
    obtain ⟨G3, x3, R3, i3⟩ := hY i l[i] H2 x H3 P σ2 G2 s2 hd x2 R2 (wk.yields i H2 x H3 hlt gd y)
    rw [List.drop_eq_getElem_cons hlt] at e2
    unfold genD at e2
    obtain ⟨s3, e4, e2⟩ := Option.bind_eq_some_iff.mp e2
    obtain ⟨⟨dy, s4⟩, e5, e2⟩ := Option.bind_eq_some_iff.mp e2
    obtain ⟨⟨zs, s5⟩, e6, e2⟩ := Option.bind_eq_some_iff.mp e2
    cases e2
    refine hg β P σ2 H3 G3 s2 l[i] x s3 R3 i3 e4 _ fun σ4 H4 G4 x4 R4 _ _ => ?_
    refine ⟨by rw [hy]; exact Nat.lt_of_lt_of_le hlt (Nat.le_trans hlen (by decide)), he β P σ4 H4 G4 s3 dy s4 R4 e5 _ fun v H5 G5 x5 R5 i5 => ?_⟩
    have xx : Ext G2 G5 := (x3.trans x4).trans x5
    exact ⟨rfl, hlt, by rw [List.length_append, hy]; rfl, G5, s4, ds ++ [dy], zs, x2.trans xx, R5, (IsL.mono xx _ _ i2).snoc i5, e6, by rw [← e3]; simp⟩
  · have e : i = l.length := by omega
    subst e
    rw [List.drop_length] at e2
    cases e2
    rw [List.append_nil] at e3
    subst e3
    exact .inl ⟨wk.stops H2 gd, k ys σ2 H2 G2 (x1.trans x2) R2 i2⟩
section
variable {P : Program} {w : World} {K : PySem.W.Frag} {mg : Str → Option Value} {base : Heap}
theorem gfn_ok {x qual : Str} {st : Stmt} {f : Addr} {fd : FuncData} {N ps : List Str} {k n : Nat} {tg iter elt : Expr} {pos yp ypos : Pos} {fi : DM (List Dt)} {is : List Nat} {h : Dt → Sta → Option Sta} {fe : DM Dt} (F : Fun K x qual st f fd) (S : GScope N ps (defScope st))
    (hbody : defBody st = [.For tg iter [.Expr (.Yield (some elt) yp) ypos] [] pos]) (hn : ps.length = n := by rfl)
    (hb : ∀ (cdv : Value) (A : Around) (outer : List Env) (s : Shared) (H : Hp) (E : XK) (pn : List (Addr × Obj)), Room k (A.deeper (envOfC qual (defScope st) s.heap.objs.size f cdv)) →
      let X := gcxOf P w K mg base N qual (defScope st) f cdv A outer s H E pn
      (DI X tg iter fi ∧ DG X tg is h ∧ DE X elt fe) ∧ (X.calm = true ∧ X.env.scope.isCoroutine = false ∧ interactive X.env = false ∧ ∀ x, foldedSetIterable iter X.env x = pure x)) :
    GFnZ P w K mg base (k + 1) f fd ps (spG K n (fnG N.length (mGenFor fi h fe))) := by
  obtain ⟨oc, od, kV, doc, pm, an, cdv, ct, osl, rfl, lk, hcd⟩ := F.ex
  refine gfnz_of lk hcd S (fun vs H Q E h => ?_) fun A outer s H vs Q E pn hr hsp => ?_
  · obtain ⟨_, _, _, _, _, _, _, h, _⟩ := h
    rw [hn]
    exact h
  · obtain ⟨⟨⟨wi, p1, o1⟩, ⟨g, p2, o2⟩, te, p3, o3⟩, c1, c2, c3, c4⟩ := hb cdv A outer s H E pn hr
    obtain ⟨β, PP, G, ds, bg, r, bg', hl, i, R, e, q⟩ := hsp
    rw [hbody]
    refine ⟨_, gssz_cons (gsz_for owns_gcx c1 p1 p2 (gssz_cons (gsz_yield p3 c2 c3) gssz_nil) c4) gssz_nil, ?_⟩
    unfold fnG at e
    obtain ⟨⟨out, s'⟩, e1, e⟩ := Option.bind_eq_some_iff.mp e
    cases e
    exact tgfor_ok o1 o2 o3 (rel_start i R) e1 fun ys σ' H' G' x R' i' => q ys H' G' x R'.leave i'
end
omit [Me] in
/-- the list of what g(..) hands out -/
def mListG (F : FG) (f : DM (List Dt)) : DM Dt := fun s => (f s).bind fun p => (F p.1 p.2.bag).bind fun q => some (.lst q.1, { p.2 with bag := q.2 })
theorem te_listG {K : PySem.W.Frag} {n : Nat} {F : FG} {t : TA} {f : DM (List Dt)} (ho : TAok K t f) (hn : ∀ s ds s', f s = some (ds, s') → ds.length = n) : TEok K (tListG (tCallG (spG K n F) [] noX t)) (mListG F f) := by
  intro β P σ H G s d s' R e Q q
  unfold mListG at e
  obtain ⟨⟨x, s1⟩, e1, e⟩ := Option.bind_eq_some_iff.mp e
  obtain ⟨⟨y, bg'⟩, e2, e⟩ := Option.bind_eq_some_iff.mp e
  cases e
  refine ho β P σ H G s x s1 R e1 _ fun vs H1 G1 x1 R1 i1 => ?_
  rw [List.append_nil]
  refine ⟨β, shut β H1 G1, G1, x, s1.bag, y, bg', by rw [i1.len]; exact hn _ _ _ e1, i1, R1.callee, e2, fun out H' G' x2 C i p hp => ?_⟩
  have R2 := R1.back x2 C
  have xx : Ext G' (upd G' p (.lst out)) := Ext.new (R2.free hp)
  exact q (.ref p) _ _ ((x1.trans x2).trans xx) (R2.new hp) (is_lst.mpr ⟨p, out, rfl, upd_same, IsL.mono xx _ _ i⟩)
section
variable {X : Cx} {k : Nat} {f : Addr} {fd : FuncData} {ps : List Str} {n : Nat} {F : FG} {x : Str} {e : Expr} {es : List Expr} {g : DM (List Dt)} {p p1 pos pos2 : Pos}
theorem de_listG (FF : GFnZ X.prog X.w X.K X.mg X.base k f fd ps (spG X.K n F)) (hr : Room (k + 3) X.A) (hg : Gl X x) (hm : X.mg x = some (.ref f)) (hk : PySem.W.keepIn X.K (.ref f) = true) (hb : L2.Binds X.K fd ps [])
    (ha : DA X (e :: es) g) (hn : ∀ s ds s', g s = some (ds, s') → ds.length = n) (hgl : Gl X "list") (hml : X.mg "list" = none) (hdb : (x == ("__debug__" : Str)) = false := by decide)
    (he : starEach (e :: es) X.env = (false, eval e X.env) :: starEach es X.env := by rfl) (hpl : (backTo pos2 (starEach es X.env)).any (·.1) = false := by rfl)
    (he2 : starEach [.Call (.Name x p1) (e :: es) [] pos2] X.env = (false, eval (.Call (.Name x p1) (e :: es) [] pos2) X.env) :: starEach [] X.env := by rfl) :
    DE X (.Call (.Name "list" p) [.Call (.Name x p1) (e :: es) [] pos2] [] pos) (mListG F g) := by
  obtain ⟨t, pa, ok⟩ := ha
  have pg := pgenz_call (p := p1) (pos' := pos2) FF (hr.mono (Nat.le_add_right _ _)) hg hm hk hb pa hdb he hpl
  refine ⟨_, pe_listG (p := p) (pos := pos) pg.pgen ?_ (fun _ _ _ z => z.elim) hr hgl hml (by decide +kernel) (he := he2), te_listG ok hn⟩
  intro pins σ H s u s' I hc
  obtain ⟨_, _, _, _, _, _, _, _, _, _, _, _, z⟩ := hc
  exact z.elim
theorem de_compG {y : Str} {p2 p3 cpos : Pos} {scope : Scope} {own : List (Str × Nat)} (FF : GFnZ X.prog X.w X.K X.mg X.base k f fd ps (spG X.K n F)) (hr : Room (k + 3) X.A) (hg : Gl X x) (hm : X.mg x = some (.ref f)) (hk : PySem.W.keepIn X.K (.ref f) = true) (hb : L2.Binds X.K fd ps [])
    (ha : DA X (e :: es) g) (hn : ∀ s ds s', g s = some (ds, s') → ds.length = n) (ok : BlkOk X.N X.env.scope scope own) (hy : scope.names.lookup y = some .local) (hdb : (x == ("__debug__" : Str)) = false := by decide)
    (he : starEach (e :: es) X.env = (false, eval e X.env) :: starEach es X.env := by rfl) (hpl : (backTo pos2 (starEach es X.env)).any (·.1) = false := by rfl) (hyd : (y == ("__debug__" : Str)) = false := by decide)
    (hs : ∀ v, foldedSetIterable (.Call (.Name x p1) (e :: es) [] pos2) X.env v = pure v := by intro _; rfl) :
    DE X (.ListComp (.Name y p2) [⟨.Name y p3, .Call (.Name x p1) (e :: es) [] pos2, [], 0⟩] scope cpos) (mListG F g) := by
  obtain ⟨t, pa, okt⟩ := ha
  have pg := pgenz_call (p := p1) (pos' := pos2) FF (hr.mono (Nat.le_add_right _ _)) hg hm hk hb pa hdb he hpl
  exact ⟨_, pe_lcG pg hr ok hy hyd hs, te_listG okt hn⟩
end
end DL

set_option maxHeartbeats 4000000
/-! a comprehension with two fors -/
namespace DL
open PySem PySem.Spec PyProof.Rows L2 GZ
variable [Tabs] [Me]
omit [Me] in
def compD2 (sl0 : List (Option Slo)) (vs1 : List Nat) (h : Dt → Sta → Option Sta) (ft : DM Bool) (f1 : DM (List Dt)) (h1 : Dt → Sta → Option Sta) (ft1 : DM Bool) (fe : DM Dt) : List Dt → List Dt → Option (List Dt × List Dt)
  | [], bg => some ([], bg)
  | d :: r, bg => (h d ⟨sl0, bg⟩).bind fun s1 => (ft s1).bind fun p => if p.1 = true then
      (f1 p.2).bind fun q => if q.1.length ≤ 1000 then (compD (wipeS (q.2.sl.map datOnly) vs1) h1 ft1 fe q.1 q.2.bag).bind fun z => (compD2 sl0 vs1 h ft f1 h1 ft1 fe r z.2).bind fun y => some (z.1 ++ y.1, y.2) else none
    else compD2 sl0 vs1 h ft f1 h1 ft1 fe r p.2.bag
omit [Me] in
def mComp2 (is vs1 : List Nat) (f : DM (List Dt)) (h : Dt → Sta → Option Sta) (ft : DM Bool) (f1 : DM (List Dt)) (h1 : Dt → Sta → Option Sta) (ft1 : DM Bool) (fe : DM Dt) : DM Dt := fun s => (f s).bind fun p => if p.1.length ≤ 1000 then
  (compD2 (wipeS (p.2.sl.map datOnly) is) vs1 h ft f1 h1 ft1 fe p.1 p.2.bag).bind fun z => some (.lst z.1, { p.2 with bag := z.2 }) else none
omit [Me] in
/-- the canonical reading of what is walked -/
def tiOf (K : PySem.W.Frag) (f : DM (List Dt)) : TI := fun σ H R => ∃ (β : Addr) (P G : Hp) (s : Sta) (l : List Dt) (s' : Sta), Rel K β P σ H G s ∧ f s = some (l, s') ∧
  ∀ (J : It) (H' G' : Hp) (Gd : Hp → Prop) (Y : Nat → Hp → V → Hp → Prop), Ext G G' → Rel K β P σ H' G' s' → Walk J l.length Gd Y → (∀ H1 G1, Ext G' G1 → Ext G1 H1 → Gd H1) →
    (∀ (i : Nat) (d : Dt) (H1 : Hp) (x : V) (H2 P1 : Hp) (σ1 : L2.St) (G1 : Hp) (s1 : Sta), l[i]? = some d → Ext G' G1 → Rel K β P1 σ1 H1 G1 s1 → Y i H1 x H2 → ∃ G2, Ext G1 G2 ∧ Rel K β P1 σ1 H2 G2 s1 ∧ IsD K β G2 d x) → R J H'
theorem tiOf_ok {K : PySem.W.Frag} {f : DM (List Dt)} : TIok K (tiOf K f) f := fun β P σ H G s l s' R e Q q => ⟨β, P, G, s, l, s', R, e, q⟩
theorem DI.pi {X : Cx} {tg iter : Expr} {f : DM (List Dt)} (h : DI X tg iter f) : PI X tg iter (tiOf X.K f) := by
  obtain ⟨wi, p, o⟩ := h
  refine ⟨fun pins s σ H R I k => ?_⟩
  obtain ⟨β, P, G, a, l, a', R0, e1, q⟩ := k
  exact p.run pins s σ H R I (o β P σ H G a l a' R0 e1 R q)
theorem rel_wipeD {K : PySem.W.Frag} {β : Addr} {P : Hp} {σ : L2.St} {H G : Hp} {s : Sta} (R : Rel K β P σ H G s) (vs : List Nat) : Rel K β P (wipe σ vs) H G ⟨wipeS (s.sl.map datOnly) vs, s.bag⟩ where
  len := by rw [wipe_len, wipeS_len, List.length_map]; exact R.len
  gh := R.gh
  pr := R.pr
  pb := R.pb
  bag := R.bag
  dat := fun i d e => by
    obtain ⟨hi, d', e1, e2⟩ := hid_get e
    cases e1
    obtain ⟨v, h1, h2⟩ := R.dat i d e2
    exact ⟨v, by rw [wipe_get, if_neg (fun q => hi q.1)]; exact h1, h2⟩
  own := fun i l e => by obtain ⟨_, _, z, _⟩ := hid_get e; cases z
  dj := fun i j l m p e => by obtain ⟨_, _, z, _⟩ := hid_get e; cases z
  obj := fun i c ks l e => by obtain ⟨_, _, z, _⟩ := hid_get e; cases z
  oj := fun i j c ks l c' ks' l' e => by obtain ⟨_, _, z, _⟩ := hid_get e; cases z
  fns := fun i l q e => by obtain ⟨_, _, z, _⟩ := hid_get e; cases z
  tabs := R.tabs
  pt := R.pt
  nt := R.nt
theorem t2_core {K : PySem.W.Frag} {wi wi1 : TI} {g g1 : TG} {tt tt1 : TT} {te : TE} {vs vs1 is is1 : List Nat} {f f1 : DM (List Dt)} {h h1 : Dt → Sta → Option Sta} {ft ft1 : DM Bool} {fe : DM Dt} (hi : TIok K wi f) (hg : TGok K g is h) (ht : TTok K tt ft) (hi1 : TIok K wi1 f1) (hg1 : TGok K g1 is1 h1) (ht1 : TTok K tt1 ft1)
    (he : TEok K te fe) (hv : ∀ j ∈ is, j ∈ vs) (hv1 : ∀ j ∈ is1, j ∈ vs1) {β : Addr} {P : Hp} {σ : L2.St} {H G : Hp} {s s' : Sta} {d : Dt} (R : Rel K β P σ H G s) (e : mComp2 vs vs1 f h ft f1 h1 ft1 fe s = some (d, s')) {Q : VK}
    (fin : ∀ (ys : List Dt) (bgF : List Dt) (s1 : Sta), d = .lst ys → s' = { s1 with bag := bgF } → ∀ (H1 G1 : Hp) (D : Addr) (acc : List V) (H2 G2 : Hp) (sl0 : List (Option Slo)), Ext G G1 → Rel K β P σ H1 G1 s1 → H1 D = none → Rel K β (upd (shut β H1 G1) D (.lst acc)) (wipe σ vs) H2 G2 ⟨sl0, bgF⟩ → Ext G1 G2 → IsL K β G2 ys acc → Q (.ref D) H2) :
    tLc2 wi g tt wi1 g1 tt1 te vs vs1 σ H Q := by
  unfold mComp2 at e
  obtain ⟨⟨l, s1⟩, e1, e⟩ := Option.bind_eq_some_iff.mp e
  dsimp only at e
  split at e
  case isFalse => cases e
  rename_i hlen
  obtain ⟨⟨ys, bgF⟩, e2, e⟩ := Option.bind_eq_some_iff.mp e
  cases e
  have fin := fin ys bgF s1 rfl rfl
  refine hi β P σ H G s l s1 R e1 _ fun J H1 G1 Gd Y x1 R1 wk hG hY => ?_
  intro D hD
  have hn : ∀ (i : Nat) (x : Slo), (wipeS (s1.sl.map datOnly) vs)[i]? = some (some x) → ∃ d, x = .dat d := fun i x z => by
    obtain ⟨_, d', e3, _⟩ := hid_get z
    exact ⟨d', e3⟩
  have R0 := rel_hide R1 hD vs
  generalize hsl : wipeS (s1.sl.map datOnly) vs = sl0 at hn R0 e2
  obtain ⟨M, hM⟩ : ∃ M : Nat, M = 1000 := ⟨_, rfl⟩
  let inv : Nat → Hp → Prop := fun i H2 => ∃ G2 bg acc ds rs, Ext G1 G2 ∧ Rel K β (upd (shut β H1 G1) D (.lst acc)) (wipe σ vs) H2 G2 ⟨sl0, bg⟩ ∧ IsL K β G2 ds acc ∧ acc.length ≤ i * M ∧
    compD2 sl0 vs1 h ft f1 h1 ft1 fe (l.drop i) bg = some (rs, bgF) ∧ ds ++ rs = ys
  refine ⟨fun i m H2 => m = l.length - i ∧ i ≤ l.length ∧ inv i H2, ⟨l.length, rfl, Nat.zero_le _, G1, s1.bag, [], [], ys, Ext.refl G1, R0, isl_nil.mpr rfl, Nat.zero_le _, e2, rfl⟩, ?_⟩
  rintro i m H2 ⟨rfl, hi', G2, bg, acc, ds, rs, x2, R2, ia, la, e3, e4⟩
  have gd := hG H2 G2 x2 R2.gh
  by_cases hge : ¬ i < l.length
  · have e : i = l.length := by omega
    subst e
    rw [List.drop_length] at e3
    cases e3
    rw [List.append_nil] at e4
    subst e4
    exact .inl ⟨wk.stops H2 gd, fin H1 G1 D acc H2 G2 sl0 x1 R1 hD R2 x2 ia⟩
  have hlt : i < l.length := Classical.not_not.mp hge
  refine .inr ⟨wk.goes i H2 hlt gd, inv (i + 1), fun H' p' => ⟨l.length - (i + 1), by omega, rfl, hlt, p'⟩, fun x H3 y => ?_⟩
  have hd : l[i]? = some l[i] := List.getElem?_eq_getElem hlt
  obtain ⟨G3, x3, R3, i3⟩ := hY i l[i] H2 x H3 _ _ G2 _ hd x2 R2 (wk.yields i H2 x H3 hlt gd y)
  rw [List.drop_eq_getElem_cons hlt] at e3
  unfold compD2 at e3
  obtain ⟨s3, e5, e3⟩ := Option.bind_eq_some_iff.mp e3
  obtain ⟨⟨b, s4⟩, e6, e3⟩ := Option.bind_eq_some_iff.mp e3
  refine hg β _ _ H3 G3 _ l[i] x s3 R3 i3 e5 _ fun σ4 H4 G4 x4 R4 c4 l4 => ⟨wipe_same l4 fun j hj => c4 j fun z => hj (hv j z), ?_⟩
  refine ht β _ _ H4 G4 s3 b s4 R4 e6 _ fun H5 G5 x5 R5 => ?_
  have y5 : Ext G2 G5 := (x3.trans x4).trans x5
  cases b with
  | false =>
    rw [if_neg Bool.false_ne_true] at e3 ⊢
    exact ⟨G5, s4.bag, acc, ds, rs, x2.trans y5, rel_skip R5 R2 y5 hn, IsL.mono y5 _ _ ia, Nat.le_trans la (Nat.mul_le_mul_right _ (Nat.le_succ i)), e3, e4⟩
  | true =>
    rw [if_pos rfl] at e3 ⊢
    obtain ⟨⟨l1, s5⟩, e7, e3⟩ := Option.bind_eq_some_iff.mp e3
    dsimp only at e3
    split at e3
    case isFalse => cases e3
    rename_i hlen1
    obtain ⟨⟨zs, bz⟩, e8, e3⟩ := Option.bind_eq_some_iff.mp e3
    obtain ⟨⟨ws, bw⟩, e9, e3⟩ := Option.bind_eq_some_iff.mp e3
    cases e3
    refine hi1 β _ σ4 H5 G5 s4 l1 s5 R5 e7 _ fun J1 H6 G6 Gd1 Y1 x6 R6 wk1 hG1 hY1 => ?_
    have R7 := rel_wipeD R6 vs1
    have hn1 : ∀ (i : Nat) (x : Slo), (wipeS (s5.sl.map datOnly) vs1)[i]? = some (some x) → ∃ d, x = .dat d := fun i x z => by
      obtain ⟨_, d', e3, _⟩ := hid_get z
      exact ⟨d', e3⟩
    generalize hsl1 : wipeS (s5.sl.map datOnly) vs1 = sl1 at hn1 R7 e8
    let inv1 : Nat → Hp → Prop := fun j H7 => ∃ G7 bg7 acc7 ds7 rs7, Ext G6 G7 ∧ Rel K β (upd (shut β H1 G1) D (.lst acc7)) (wipe σ4 vs1) H7 G7 ⟨sl1, bg7⟩ ∧ IsL K β G7 ds7 acc7 ∧ acc7.length ≤ i * M + j ∧
      compD sl1 h1 ft1 fe (l1.drop j) bg7 = some (rs7, bz) ∧ ds7 ++ rs7 = ds ++ zs
    refine ⟨fun j k H7 => k = l1.length - j ∧ j ≤ l1.length ∧ inv1 j H7, ⟨l1.length, rfl, Nat.zero_le _, G6, s5.bag, acc, ds, zs, Ext.refl G6, R7, IsL.mono (y5.trans x6) _ _ ia, la, e8, rfl⟩, ?_⟩
    rintro j k H7 ⟨rfl, hj, G7, bg7, acc7, ds7, rs7, x7, R8, i7, l7, f1, f2⟩
    have gd1 := hG1 H7 G7 x7 R8.gh
    by_cases hge1 : ¬ j < l1.length
    · have e : j = l1.length := by omega
      subst e
      rw [List.drop_length] at f1
      cases f1
      rw [List.append_nil] at f2
      have yy : Ext G2 G7 := (y5.trans x6).trans x7
      exact .inl ⟨wk1.stops H7 gd1, G7, _, acc7, ds7, ws, x2.trans yy, rel_skip R8 R2 yy hn, i7, Nat.le_trans l7 (by rw [Nat.succ_mul, hM]; exact Nat.add_le_add_left hlen1 _), e9, by rw [f2, ← e4, List.append_assoc]⟩
    have hlt1 : j < l1.length := Classical.not_not.mp hge1
    refine .inr ⟨wk1.goes j H7 hlt1 gd1, inv1 (j + 1), fun H' p' => ⟨l1.length - (j + 1), by omega, rfl, hlt1, p'⟩, fun x' H8 y' => ?_⟩
    have hd1 : l1[j]? = some l1[j] := List.getElem?_eq_getElem hlt1
    obtain ⟨G8, x8, R9, i8⟩ := hY1 j l1[j] H7 x' H8 _ _ G7 _ hd1 x7 R8 (wk1.yields j H7 x' H8 hlt1 gd1 y')
    rw [List.drop_eq_getElem_cons hlt1] at f1
    unfold compD at f1
    obtain ⟨s8, f3, f1⟩ := Option.bind_eq_some_iff.mp f1
    obtain ⟨⟨b1, s9⟩, f4, f1⟩ := Option.bind_eq_some_iff.mp f1
    refine hg1 β _ _ H8 G8 _ l1[j] x' s8 R9 i8 f3 _ fun σ9 H9 G9 x9 Ra ca la' => ⟨wipe_same la' fun j hj => ca j fun z => hj (hv1 j z), ?_⟩
    refine ht1 β _ _ H9 G9 s8 b1 s9 Ra f4 _ fun Ha Ga xa Rb => ?_
    have ya : Ext G7 Ga := (x8.trans x9).trans xa
    cases b1 with
    | false =>
      rw [if_neg Bool.false_ne_true] at f1 ⊢
      exact ⟨Ga, s9.bag, acc7, ds7, rs7, x7.trans ya, rel_skip Rb R8 ya hn1, IsL.mono ya _ _ i7, by omega, f1, f2⟩
    | true =>
      rw [if_pos rfl] at f1 ⊢
      obtain ⟨⟨dy, sb⟩, f5, f1⟩ := Option.bind_eq_some_iff.mp f1
      obtain ⟨⟨vz, bv⟩, f6, f1⟩ := Option.bind_eq_some_iff.mp f1
      cases f1
      refine he β _ _ Ha Ga s9 dy sb Rb f5 _ fun v Hb Gb xb Rc ic => ?_
      have xx : Ext G7 Gb := ya.trans xb
      have hb : acc7.length < sizeLine := by
        have z : 2 * 10 ^ 6 + 1 < sizeLine := by decide
        have a1 : i * M ≤ 10 ^ 6 := by
          rw [hM]
          exact Nat.le_trans (Nat.mul_le_mul_right 1000 (Nat.le_trans hi' hlen)) (by decide)
        have a2 : j ≤ 10 ^ 6 := Nat.le_trans hj (Nat.le_trans hlen1 (by decide))
        exact Nat.lt_of_le_of_lt (Nat.le_trans l7 (Nat.add_le_add a1 a2)) (Nat.lt_trans (by decide) z)
      refine ⟨acc7, (Rc.pr D _ upd_same).1, hb, Gb, sb.bag, acc7 ++ [v], ds7 ++ [dy], vz, x7.trans xx, rel_acc Rc R8 xx hn1 nx_lst, (IsL.mono xx _ _ i7).snoc ic, by rw [List.length_append]; show acc7.length + 1 ≤ _; omega, f6, ?_⟩
      rw [← f2]
      simp
theorem te_comp2 {K : PySem.W.Frag} {wi wi1 : TI} {g g1 : TG} {tt tt1 : TT} {te : TE} {vs vs1 is is1 : List Nat} {f f1 : DM (List Dt)} {h h1 : Dt → Sta → Option Sta} {ft ft1 : DM Bool} {fe : DM Dt} (hi : TIok K wi f) (hg : TGok K g is h) (ht : TTok K tt ft) (hi1 : TIok K wi1 f1) (hg1 : TGok K g1 is1 h1) (ht1 : TTok K tt1 ft1)
    (he : TEok K te fe) (hv : ∀ j ∈ is, j ∈ vs) (hv1 : ∀ j ∈ is1, j ∈ vs1) : TEok K (tLc2 wi g tt wi1 g1 tt1 te vs vs1) (mComp2 vs vs1 f h ft f1 h1 ft1 fe) := by
  intro β P σ H G s d s' R e Q q
  refine t2_core hi hg ht hi1 hg1 ht1 he hv hv1 R e fun ys bgF s1 ed es H1 G1 D acc H2 G2 sl0 x1 R1 hD R2 x2 ia => ?_
  subst ed es
  have qd := R2.pr D _ upd_same
  have xx : Ext G2 (upd G2 D (.lst acc)) := Ext.new qd.2
  exact q (.ref D) H2 _ ((x1.trans x2).trans xx) (rel_done R1 hD R2 x2) (is_lst.mpr ⟨D, acc, rfl, upd_same, IsL.mono xx _ _ ia⟩)
/-- the new list stands beside what never changes -/
theorem rel_doneF {K : PySem.W.Frag} {β : Addr} {P : Hp} {σ σ0 : L2.St} {H H0 G G0 : Hp} {s s0 : Sta} {D : Addr} {acc : List V} (R0 : Rel K β P σ H0 G0 s) (hD : H0 D = none) (R : Rel K β (upd (shut β H0 G0) D (.lst acc)) σ0 H G s0) (e : Ext G0 G) :
    Rel K β P σ H G { s with bag := s0.bag } := by
  have keep : ∀ p o, H0 p = some o → G0 p = none → p ≠ β → (∀ t ∈ Tabs.ts, t.1 ≠ p) → Nx p o → H p = some o ∧ G p = none := fun p o h1 h2 h3 h4 h5 => by
    have n : p ≠ D := ne_of_none h1 hD
    exact R.pr p o (by rw [upd_ne n]; exact shut_some h1 h2 h3 h4 h5)
  exact {
    len := R0.len
    gh := R.gh
    pr := fun p o h => by
      have h1 := R0.pr p o h
      exact keep p o h1.1 h1.2 (fun z => by subst z; rw [R0.pb] at h; cases h) (fun t ht z => by rw [← z, (R0.tabs t ht).2.2] at h; cases h) (R0.pt p o h)
    pb := R0.pb
    bag := R.bag
    dat := fun i d h => by
      obtain ⟨v, h1, h2⟩ := R0.dat i d h
      exact ⟨v, h1, IsD.mono e _ _ h2⟩
    own := fun i l h => by
      obtain ⟨p, vs, h1, h2, h3, h4, h5, h6⟩ := R0.own i l h
      have k := keep p _ h2 h3 h5 (fun t ht z => (R0.tabs t ht).1.neL h2 z) nx_lst
      exact ⟨p, vs, h1, k.1, k.2, h4, h5, IsL.mono e _ _ h6⟩
    dj := R0.dj
    obj := fun i c ks l h => by
      obtain ⟨p, C, dx, vs, h1, h0, h2, h3, h4, h5, h6⟩ := R0.obj i c ks l h
      have n : p ≠ β := fun z => by
        obtain ⟨us, b1, _⟩ := R0.bag
        rw [← z, h2] at b1
        cases b1
      have k := keep p _ h2 h3 n (fun t ht z => (R0.tabs t ht).1.neI h2 z) nx_ins
      exact ⟨p, C, dx, vs, h1, h0, k.1, k.2, h4, h5, IsL.mono e _ _ h6⟩
    oj := R0.oj
    fns := fun i l q h => (R0.fns i l q h).mono e
    tabs := fun y hy => ⟨(R.tabs y hy).1, (R.tabs y hy).2.1, (R0.tabs y hy).2.2⟩
    pt := R0.pt
    nt := R.nt }
omit [Me] in
/-- the reading of what makes a new list -/
def TEokF (K : PySem.W.Frag) (t : TE) (f : DM Dt) : Prop := ∀ (β : Addr) (P : Hp) (σ : L2.St) (H G : Hp) (s : Sta) (d : Dt) (s' : Sta), Rel K β P σ H G s → f s = some (d, s') →
  ∀ Q : VK, (∀ l p us H' G', d = .lst l → Ext G G' → Rel K β P σ H' G' s' → H' p = some (.lst us) → G' p = none → P p = none → p ≠ β → IsL K β G' l us → Q (.ref p) H') → t σ H Q
theorem te_comp2F {K : PySem.W.Frag} {wi wi1 : TI} {g g1 : TG} {tt tt1 : TT} {te : TE} {vs vs1 is is1 : List Nat} {f f1 : DM (List Dt)} {h h1 : Dt → Sta → Option Sta} {ft ft1 : DM Bool} {fe : DM Dt} (hi : TIok K wi f) (hg : TGok K g is h) (ht : TTok K tt ft) (hi1 : TIok K wi1 f1) (hg1 : TGok K g1 is1 h1) (ht1 : TTok K tt1 ft1)
    (he : TEok K te fe) (hv : ∀ j ∈ is, j ∈ vs) (hv1 : ∀ j ∈ is1, j ∈ vs1) : TEokF K (tLc2 wi g tt wi1 g1 tt1 te vs vs1) (mComp2 vs vs1 f h ft f1 h1 ft1 fe) := by
  intro β P σ H G s d s' R e Q q
  refine t2_core hi hg ht hi1 hg1 ht1 he hv hv1 R e fun ys bgF s1 ed es H1 G1 D acc H2 G2 sl0 x1 R1 hD R2 x2 ia => ?_
  subst ed es
  have qd := R2.pr D _ upd_same
  refine q ys D acc H2 G2 rfl (x1.trans x2) (rel_doneF R1 hD R2 x2) qd.1 qd.2 ?_ (fun z => ?_) ia
  · cases e : P D with
    | none => rfl
    | some o => have := (R1.pr D o e).1; rw [hD] at this; cases this
  · have q := R2.pb
    rw [← z, upd_same] at q
    cases q
omit [Me] in
def DEF (X : Cx) (e : Expr) (f : DM Dt) : Prop := ∃ t, PE X e t ∧ TEokF X.K t f
section
variable {X : Cx}
theorem de_comp2 {elt tg iter tg1 iter1 : Expr} {ifs ifs1 : List Expr} {scope : Scope} {own : List (Str × Nat)} {vs1 : List Nat} {pos : Pos} {is is1 : List Nat} {f f1 : DM (List Dt)} {h h1 : Dt → Sta → Option Sta} {ft ft1 : DM Bool} {fe : DM Dt} (hc : X.calm = true) (hN : X.N.Nodup) (hi : DI X tg iter f) (ok : BlkOk X.N X.env.scope scope own) (hw : ∀ i ∈ vs1, i ∈ own.map (·.2))
    (hb : ∀ (s : Shared) (H : Hp) (C : Addr) (cl : List (Str × Addr)) (fp : List Addr), let B := X.blk s H scope (compEnvC scope cl C X.env) fp
      DG B tg is h ∧ DTs B ifs ft ∧ PI B tg1 iter1 (tiOf X.K f1) ∧ DG B tg1 is1 h1 ∧ DTs B ifs1 ft1 ∧ DE B elt fe)
    (hv : ∀ j ∈ is, j ∈ own.map (·.2)) (hv1 : ∀ j ∈ is1, j ∈ vs1) (hs : ∀ x, foldedSetIterable iter X.env x = pure x := by intro _; rfl) (hs1 : ∀ env x, foldedSetIterable iter1 env x = pure x := by intro _ _; rfl) :
    DE X (.ListComp elt [⟨tg, iter, ifs, 0⟩, ⟨tg1, iter1, ifs1, 0⟩] scope pos) (mComp2 (own.map (·.2)) vs1 f h ft f1 h1 ft1 fe) := by
  obtain ⟨wi, p1, o1⟩ := hi
  exact ⟨_, pe_lc2 (g := gOf X.K is h) (tt := ttOf X.K ft) (g1 := gOf X.K is1 h1) (tt1 := ttOf X.K ft1) (te := tOf X.K fe) hc hN p1 ok hw (fun s H C cl fp => (hb s H C cl fp).1.pg) (fun s H C cl fp => (hb s H C cl fp).2.1) (fun s H C cl fp => (hb s H C cl fp).2.2.1) (fun s H C cl fp => (hb s H C cl fp).2.2.2.1.pg)
    (fun s H C cl fp => (hb s H C cl fp).2.2.2.2.1) (fun s H C cl fp => (hb s H C cl fp).2.2.2.2.2.pe) hs hs1, te_comp2 o1 gOf_ok ttOf_ok tiOf_ok gOf_ok ttOf_ok tOf_ok hv hv1⟩
theorem def_comp2 {elt tg iter tg1 iter1 : Expr} {ifs ifs1 : List Expr} {scope : Scope} {own : List (Str × Nat)} {vs1 : List Nat} {pos : Pos} {is is1 : List Nat} {f f1 : DM (List Dt)} {h h1 : Dt → Sta → Option Sta} {ft ft1 : DM Bool} {fe : DM Dt} (hc : X.calm = true) (hN : X.N.Nodup) (hi : DI X tg iter f) (ok : BlkOk X.N X.env.scope scope own) (hw : ∀ i ∈ vs1, i ∈ own.map (·.2))
    (hb : ∀ (s : Shared) (H : Hp) (C : Addr) (cl : List (Str × Addr)) (fp : List Addr), let B := X.blk s H scope (compEnvC scope cl C X.env) fp
      DG B tg is h ∧ DTs B ifs ft ∧ PI B tg1 iter1 (tiOf X.K f1) ∧ DG B tg1 is1 h1 ∧ DTs B ifs1 ft1 ∧ DE B elt fe)
    (hv : ∀ j ∈ is, j ∈ own.map (·.2)) (hv1 : ∀ j ∈ is1, j ∈ vs1) (hs : ∀ x, foldedSetIterable iter X.env x = pure x := by intro _; rfl) (hs1 : ∀ env x, foldedSetIterable iter1 env x = pure x := by intro _ _; rfl) :
    DEF X (.ListComp elt [⟨tg, iter, ifs, 0⟩, ⟨tg1, iter1, ifs1, 0⟩] scope pos) (mComp2 (own.map (·.2)) vs1 f h ft f1 h1 ft1 fe) := by
  obtain ⟨wi, p1, o1⟩ := hi
  exact ⟨_, pe_lc2 (g := gOf X.K is h) (tt := ttOf X.K ft) (g1 := gOf X.K is1 h1) (tt1 := ttOf X.K ft1) (te := tOf X.K fe) hc hN p1 ok hw (fun s H C cl fp => (hb s H C cl fp).1.pg) (fun s H C cl fp => (hb s H C cl fp).2.1) (fun s H C cl fp => (hb s H C cl fp).2.2.1) (fun s H C cl fp => (hb s H C cl fp).2.2.2.1.pg)
    (fun s H C cl fp => (hb s H C cl fp).2.2.2.2.1) (fun s H C cl fp => (hb s H C cl fp).2.2.2.2.2.pe) hs hs1, te_comp2F o1 gOf_ok ttOf_ok tiOf_ok gOf_ok ttOf_ok tOf_ok hv hv1⟩
end
end DL

set_option maxHeartbeats 4000000
/-! defs with a star parameter alone -/
namespace DL
open PySem PySem.Spec PyProof.Rows L2 GZ
variable [Tabs] [Me]
omit [Me] in
/-- whatever is handed is one tuple -/
def spSt (K : PySem.W.Frag) (F : FD) : Sp := fun vs H Q _ => ∃ (β : Addr) (P G : Hp) (ds bg : List Dt) (r : Dt) (bg' : List Dt), vs.length ≤ 1000 ∧ IsL K β G ds vs ∧ Rel K β P [] H G ⟨[], bg⟩ ∧ F [.tup ds] bg = some (r, bg') ∧
  ∀ v H' G', Ext G G' → Rel K β P [] H' G' ⟨[], bg'⟩ → IsD K β G' r v → Q v H'
omit [Me] in
def mAppSt (F : FD) (f : DM (List Dt)) : DM Dt := fun s => (f s).bind fun p => if p.1.length ≤ 1000 then (F [.tup p.1] p.2.bag).bind fun q => some (q.1, { p.2 with bag := q.2 }) else none
theorem bind_star0 {B : List Value → Sem (List (Str × Value))} {pv : Str} (h0 : B [] = (newTuple [] >>= fun t => pure [(pv, t)])) (h1 : ∀ r rs, B (r :: rs) = (newTuple (r :: rs) >>= fun t => pure [(pv, t)])) :
    ∀ rest : List Value, B rest = (newTuple rest >>= fun t => pure [(pv, t)])
  | [] => h0
  | r :: rs => h1 r rs
theorem _root_.L2.Fun.bindSt {K : PySem.W.Frag} {x qual pv : Str} {st : Stmt} {f : Addr} {fd : FuncData} (F : Fun K x qual st f fd)
    (h0 : ∀ (kV doc pm : Value) (an : Option Addr) (cdv ct : Value), bindArgs (PySem.W.fnOf x qual (defArgs st) (defBody st) (defScope st) .none kV doc pm an cdv ct) ⟨[], []⟩ = (newTuple [] >>= fun t => pure [(pv, t)]))
    (h1 : ∀ (kV doc pm : Value) (an : Option Addr) (cdv ct : Value) (r : Value) (rs : List Value), bindArgs (PySem.W.fnOf x qual (defArgs st) (defBody st) (defScope st) .none kV doc pm an cdv ct) ⟨r :: rs, []⟩ = (newTuple (r :: rs) >>= fun t => pure [(pv, t)])) :
    ∀ rest : List Value, bindArgs fd ⟨rest, []⟩ = (newTuple rest >>= fun t => pure [(pv, t)]) := by
  obtain ⟨oc, od, kV, doc, pm, an, cdv, ct, osl, rfl, lk, hcd⟩ := F.ex
  exact bind_star0 (h0 kV doc pm an cdv ct) (h1 kV doc pm an cdv ct)
section
variable {P : Program} {w : World} {K : PySem.W.Frag} {mg : Str → Option Value} {base : Heap}
theorem fn_okSt {x qual pv : Str} {st : Stmt} {f : Addr} {fd : FuncData} {N : List Str} {k : Nat} {g : DMs} (F : Fun K x qual st f fd) (S : FnScope N [pv] (defScope st))
    (hbind : ∀ rest : List Value, bindArgs fd ⟨rest, []⟩ = (newTuple rest >>= fun t => pure [(pv, t)]))
    (hb : ∀ (cdv : Value) (A : Around) (outer : List Env) (s : Shared) (H : Hp) (E : XK), Room k (A.deeper (envOfC qual (defScope st) s.heap.objs.size f cdv)) →
      DSs (cxOf CX0 P w K mg base N qual (defScope st) f cdv A outer s H E).nox (defBody st) g) : FnR P w K mg base CX0 (k + 1) f (spSt K (fnD N.length g)) := by
  obtain ⟨oc, od, kV, doc, pm, an, cdv, ct, osl, rfl, lk, hcd⟩ := F.ex
  have big := StX.fn_star (P := P) (w := w) (mg := mg) (base := base) (k := k) (CX := CX0) (ps := []) (pv := pv) (N := N) (sp := spD K 1 (fnD N.length g)) lk hcd S (fun _ _ _ _ _ _ _ _ _ _ _ z => z)
    (fun us rest hl => by
      obtain rfl : us = [] := List.length_eq_zero_iff.mp hl
      exact hbind rest)
    (fun A outer s H vs Q E hr h => by
      obtain ⟨β, PP, G, ds, bg, r, bg', hl, i, R, e, q⟩ := h
      obtain ⟨t, p, o⟩ := hb cdv A outer s H E hr
      refine ⟨t, p.nox, ?_⟩
      unfold fnD at e
      obtain ⟨⟨res, s'⟩, e1, e⟩ := Option.bind_eq_some_iff.mp e
      refine o β PP (L2.start N vs) H G _ res s' (rel_start i R) e1 _ ?_
      cases res with
      | nx =>
        cases e
        exact fun σ' H' G' x R' => q .non H' G' x R'.leave (is_non.mpr rfl)
      | rt d =>
        cases e
        exact fun v σ' H' G' x R' iv => q v H' G' x R'.leave iv
      | bk => cases e
      | ct => cases e)
  intro A outer s H us vs Q E hr e0 r h
  obtain ⟨β, PP, G, ds, bg, d, bg', hl, i, R, e, q⟩ := h
  refine big A outer s H us vs Q E hr e0 r ⟨[], vs, rfl, rfl, le_line hl, fun p hp => ?_⟩
  have xx : Ext G (upd G p (.tup vs)) := Ext.new (R.free hp)
  exact ⟨β, PP, upd G p (.tup vs), [.tup ds], bg, d, bg', rfl, isl_cons.mpr ⟨_, [], rfl, is_tup.mpr ⟨p, vs, rfl, .inl (.inl upd_same), IsL.mono xx _ _ i⟩, isl_nil.mpr rfl⟩, R.new hp, e,
    fun v H' G' x R' iv => q v H' G' (xx.trans x) R' iv⟩
end
section
variable {X : Cx} {k : Nat} {f : Addr} {sp : Sp} {F : FD} {x : Str} {e : Expr} {es : List Expr} {g : DM (List Dt)} {p pos : Pos} {t : TA}
theorem pe_callR (FF : FnR X.prog X.w X.K X.mg X.base CX0 k f sp) (hr : Room k X.A) (hk : PySem.W.keepIn X.K (.ref f) = true) (hg : Gl X x) (hm : X.mg x = some (.ref f)) (ha : PA X (e :: es) t) (hdb : (x == ("__debug__" : Str)) = false := by decide)
    (he : starEach (e :: es) X.env = (false, eval e X.env) :: starEach es X.env := by rfl) (hpl : (backTo pos (starEach es X.env)).any (·.1) = false := by rfl) :
    PE X (.Call (.Name x p) (e :: es) [] pos) (fun σ H Q => t σ H fun vs H1 => sp vs H1 Q E0) := by
  refine ⟨fun pins s σ H Q I h => wpAny_Call_Name_kw (ld_glob I hg hm ?_ hdb)⟩
  exact PySem.W.callWith_K (h₀ := X.base) I.ok.mod.kin hk (thn (ha.run pos pins s σ H _ I h) fun us s1 ⟨vs, H1, I1, r, q⟩ => ⟨I1.kIn, wpAny_call (run_fnR FF hr pass0 I1 r q)⟩) he hpl
theorem pe_callR0 (FF : FnR X.prog X.w X.K X.mg X.base CX0 k f sp) (hr : Room k X.A) (hk : PySem.W.keepIn X.K (.ref f) = true) (hg : Gl X x) (hm : X.mg x = some (.ref f)) (hdb : (x == ("__debug__" : Str)) = false := by decide) :
    PE X (.Call (.Name x p) [] [] pos) (fun σ H Q => sp [] H Q E0) := by
  refine ⟨fun pins s σ H Q I h => wpAny_Call_Name_kw (ld_glob I hg hm ?_ hdb)⟩
  exact PySem.W.callWith_K0 I.kIn hk (wpAny_call (run_fnR (us := []) FF hr pass0 I .nil h))
theorem te_appSt {K : PySem.W.Frag} (ho : TAok K t g) : TEok K (fun σ H Q => t σ H fun vs H1 => spSt K F vs H1 Q E0) (mAppSt F g) := by
  intro β P σ H G s d s' R e Q q
  unfold mAppSt at e
  obtain ⟨⟨x, s1⟩, e1, e⟩ := Option.bind_eq_some_iff.mp e
  dsimp only at e
  split at e
  case isFalse => cases e
  rename_i hl
  obtain ⟨⟨y, bg'⟩, e2, e⟩ := Option.bind_eq_some_iff.mp e
  cases e
  refine ho β P σ H G s x s1 R e1 _ fun vs H1 G1 x1 R1 i1 => ?_
  exact ⟨β, shut β H1 G1, G1, x, s1.bag, y, bg', by rw [i1.len]; exact hl, i1, R1.callee, e2, fun v H' G' x2 C i => q v H' G' (x1.trans x2) (R1.back x2 C) i⟩
theorem de_callSt (FF : FnR X.prog X.w X.K X.mg X.base CX0 k f (spSt X.K F)) (hr : Room k X.A) (hk : PySem.W.keepIn X.K (.ref f) = true) (hg : Gl X x) (hm : X.mg x = some (.ref f)) (ha : DA X (e :: es) g) (hdb : (x == ("__debug__" : Str)) = false := by decide)
    (he : starEach (e :: es) X.env = (false, eval e X.env) :: starEach es X.env := by rfl) (hpl : (backTo pos (starEach es X.env)).any (·.1) = false := by rfl) : DE X (.Call (.Name x p) (e :: es) [] pos) (mAppSt F g) := by
  obtain ⟨t, pa, o⟩ := ha
  exact ⟨_, pe_callR FF hr hk hg hm pa hdb he hpl, te_appSt o⟩
theorem de_callSt0 (FF : FnR X.prog X.w X.K X.mg X.base CX0 k f (spSt X.K F)) (hr : Room k X.A) (hk : PySem.W.keepIn X.K (.ref f) = true) (hg : Gl X x) (hm : X.mg x = some (.ref f)) (hdb : (x == ("__debug__" : Str)) = false := by decide) : DE X (.Call (.Name x p) [] [] pos) (mAppSt F mNil) :=
  ⟨_, pe_callR0 FF hr hk hg hm hdb, te_appSt (t := tNil) fun β P σ H G s b s' R e Q q => by cases e; exact q _ H G (Ext.refl G) R (isl_nil.mpr rfl)⟩
end
end DL

set_option maxHeartbeats 4000000
/-! a list that its name alone holds, lent to a test; cleared; made of what a generator hands out -/
namespace DL
open PySem PySem.Spec PyProof.Rows L2 GZ
variable [Tabs] [Me]
omit [Me] in
/-- a list of ints stands by that nobody reads -/
def Spare (P : Hp) : Prop := ∃ (γ : Addr) (ns : List Int), P γ = some (.lst (ns.map V.int))
omit [Me] in
def TSokP (K : PySem.W.Frag) (t : TS) (f : DMs) : Prop := ∀ (β : Addr) (P : Hp) (σ : L2.St) (H G : Hp) (s : Sta) (r : Res) (s' : Sta), Spare P → Rel K β P σ H G s → f s = some (r, s') → ∀ D : Ends, endOf K β P G D r s' → t D σ H
omit [Me] in
def TTokP (K : PySem.W.Frag) (t : TT) (f : DM Bool) : Prop := ∀ (β : Addr) (P : Hp) (σ : L2.St) (H G : Hp) (s : Sta) (b : Bool) (s' : Sta), Spare P → Rel K β P σ H G s → f s = some (b, s') →
  ∀ Q : Bool → Hp → Prop, (∀ H' G', Ext G G' → Rel K β P σ H' G' s' → Q b H') → t σ H Q
omit [Me] in
def DTP (X : Cx) (e : Expr) (f : DM Bool) : Prop := ∃ t, PT X e t ∧ TTokP X.K t f
omit [Me] in
def DSP (X : Cx) (st : Stmt) (f : DMs) : Prop := ∃ t, PS X st t ∧ TSokP X.K t f
omit [Me] in
def DSsP (X : Cx) (st : List Stmt) (f : DMs) : Prop := ∃ t, PSs X st t ∧ TSokP X.K t f
section
variable {X : Cx}
theorem dtp_of {e : Expr} {f : DM Bool} (h : DT X e f) : DTP X e f := by
  obtain ⟨t, p, o⟩ := h
  exact ⟨t, p, fun β P σ H G s b s' _ => o β P σ H G s b s'⟩
theorem dsp_of {st : Stmt} {f : DMs} (h : DS X st f) : DSP X st f := by
  obtain ⟨t, p, o⟩ := h
  exact ⟨t, p, fun β P σ H G s b s' _ => o β P σ H G s b s'⟩
theorem dssp_of {st : List Stmt} {f : DMs} (h : DSs X st f) : DSsP X st f := by
  obtain ⟨t, p, o⟩ := h
  exact ⟨t, p, fun β P σ H G s b s' _ => o β P σ H G s b s'⟩
theorem dssp_one {st : Stmt} {f : DMs} (h : DSP X st f) : DSsP X [st] f := by
  obtain ⟨t, p, o⟩ := h
  exact ⟨_, pss_one p, o⟩
theorem dssp_cons {st : Stmt} {rest : List Stmt} {f g : DMs} (h1 : DSP X st f) (h2 : DSsP X rest g) : DSsP X (st :: rest) (kSeq f g) := by
  obtain ⟨t, p, o⟩ := h1
  obtain ⟨u, p2, o2⟩ := h2
  refine ⟨_, pss_cons p p2, fun β P σ H G s r s' sp R e D h => ?_⟩
  unfold kSeq at e
  obtain ⟨⟨x, s1⟩, e1, e⟩ := Option.bind_eq_some_iff.mp e
  cases x with
  | nx =>
    refine o β P σ H G s .nx s1 sp R e1 _ ?_
    exact fun σ1 H1 G1 x1 R1 => o2 β P σ1 H1 G1 s1 r s' sp R1 e D (h.mono x1)
  | bk => cases e; exact o β P σ H G s .bk s1 sp R e1 _ h
  | ct => cases e; exact o β P σ H G s .ct s1 sp R e1 _ h
  | rt d => cases e; exact o β P σ H G s (.rt d) s1 sp R e1 _ h
theorem dsp_if {c : Expr} {a b : List Stmt} {fc : DM Bool} {f g : DMs} {pos : Pos} (hc : DTP X c fc) (ha : DSsP X a f) (hb : DSsP X b g) : DSP X (.If c a b pos) (kIf fc f g) := by
  obtain ⟨t, p, o⟩ := hc
  obtain ⟨t2, p2, o2⟩ := ha
  obtain ⟨t3, p3, o3⟩ := hb
  refine ⟨_, ps_if p p2 p3, fun β P σ H G s r s' sp R e D k => ?_⟩
  unfold kIf at e
  obtain ⟨⟨x, s1⟩, e1, e⟩ := Option.bind_eq_some_iff.mp e
  refine o β P σ H G s x s1 sp R e1 _ fun H1 G1 x1 R1 => ?_
  cases x with
  | true => rw [if_pos rfl] at e ⊢; exact o2 β P σ H1 G1 s1 r s' sp R1 e D (k.mono x1)
  | false => rw [if_neg Bool.false_ne_true] at e ⊢; exact o3 β P σ H1 G1 s1 r s' sp R1 e D (k.mono x1)
theorem dsp_for {tg iter : Expr} {body : List Stmt} {f : DM (List Dt)} {is : List Nat} {h : Dt → Sta → Option Sta} {b : DMs} {pos : Pos} (hp : PassesOwn (model X.prog X.w) X.A X.env X.xe) (hc : X.calm = true) (hi : DI X tg iter f) (hg : DG X tg is h) (hb : DSsP X body b)
    (hs : ∀ x, foldedSetIterable iter X.env x = pure x := by intro _; rfl) : DSP X (.For tg iter body [] pos) (kFor f h b) := by
  obtain ⟨wi, p1, o1⟩ := hi
  obtain ⟨g, p2, o2⟩ := hg
  obtain ⟨tb, p3, o3⟩ := hb
  refine ⟨_, ps_for hp hc p1 p2 p3 hs, fun β P σ H G s r s' sp R e D k => ?_⟩
  unfold kFor at e
  obtain ⟨⟨l, s1⟩, e1, e⟩ := Option.bind_eq_some_iff.mp e
  refine o1 β P σ H G s l s1 R e1 _ fun J H1 G1 Gd Y x1 R1 wk hG hY => ?_
  refine for_it wk (fun i σ2 H2 => ∃ G2 s2, Ext G1 G2 ∧ Rel X.K β P σ2 H2 G2 s2 ∧ loopD h b (l.drop i) s2 = some (r, s')) ⟨G1, s1, Ext.refl G1, R1, e⟩ (fun i σ2 H2 hi ⟨G2, s2, x2, R2, _⟩ => hG H2 G2 x2 R2.gh) ?_ ?_
  · rintro i x σ2 H2 H3 hi ⟨G2, s2, x2, R2, e2⟩ y
    have hd : l[i]? = some l[i] := List.getElem?_eq_getElem hi
    obtain ⟨G3, x3, R3, i3⟩ := hY i l[i] H2 x H3 P σ2 G2 s2 hd x2 R2 y
    rw [List.drop_eq_getElem_cons hi] at e2
    unfold loopD at e2
    obtain ⟨s3, e3, e2⟩ := Option.bind_eq_some_iff.mp e2
    obtain ⟨⟨res, s4⟩, e4, e2⟩ := Option.bind_eq_some_iff.mp e2
    refine o2 β P σ2 H3 G3 s2 l[i] x s3 R3 i3 e3 _ fun σ4 H4 G4 x4 R4 _ _ => ?_
    refine o3 β P σ4 H4 G4 s3 res s4 sp R4 e4 _ ?_
    cases res with
    | nx => exact fun σ5 H5 G5 x5 R5 => ⟨G5, s4, ((x2.trans x3).trans x4).trans x5, R5, e2⟩
    | ct => exact fun σ5 H5 G5 x5 R5 => ⟨G5, s4, ((x2.trans x3).trans x4).trans x5, R5, e2⟩
    | bk => cases e2; exact fun σ5 H5 G5 x5 R5 => k σ5 H5 G5 ((((x1.trans x2).trans x3).trans x4).trans x5) R5
    | rt d => cases e2; exact fun v σ5 H5 G5 x5 R5 i5 => k v σ5 H5 G5 ((((x1.trans x2).trans x3).trans x4).trans x5) R5 i5
  · rintro σ2 H2 ⟨G2, s2, x2, R2, e2⟩
    rw [List.drop_length] at e2
    cases e2
    exact k σ2 H2 G2 (x1.trans x2) R2
end

/-! ### lent -/
omit [Me] in
def plainOnly : Option Slo → Option Slo
  | some (.dat d) => if plain d = true then some (.dat d) else none
  | _ => none
omit [Me] in
/-- what the test may read: plain data, none of vs; the list at i as data -/
def lendS (i : Nat) (l : List Dt) (vs : List Nat) (sl : List (Option Slo)) : List (Option Slo) := (wipeS (sl.map plainOnly) vs).set i (some (.dat (.lst l)))
omit [Me] in
noncomputable def mLend (i : Nat) (vs : List Nat) (f : DM Bool) : DM Bool := fun s => match s.sl[i]? with
  | some (some (.own l)) => open Classical in if h : plains l = true ∧ ∃ b, ∀ bg, ∃ sl', f ⟨lendS i l vs s.sl, bg⟩ = some (b, ⟨sl', bg⟩) then some (Classical.choose h.2, s) else none
  | _ => none
theorem mLend_eq {i : Nat} {vs : List Nat} {f : DM Bool} {s : Sta} {l : List Dt} {b : Bool} {sl' : List (Option Slo)} (hi : s.sl[i]? = some (some (.own l))) (hp : plains l = true) (h : ∀ bg, f ⟨lendS i l vs s.sl, bg⟩ = some (b, ⟨sl', bg⟩)) : mLend i vs f s = some (b, s) := by
  have hh : plains l = true ∧ ∃ b, ∀ bg, ∃ sl', f ⟨lendS i l vs s.sl, bg⟩ = some (b, ⟨sl', bg⟩) := ⟨hp, b, fun bg => ⟨sl', h bg⟩⟩
  unfold mLend
  rw [hi]
  dsimp only
  rw [dif_pos hh]
  obtain ⟨z, hz⟩ := Classical.choose_spec hh.2 []
  rw [h []] at hz
  cases hz
  rfl
theorem lend_get {i j : Nat} {l : List Dt} {vs : List Nat} {sl : List (Option Slo)} {x : Slo} (h : (lendS i l vs sl)[j]? = some (some x)) : (j = i ∧ x = .dat (.lst l)) ∨ ∃ d, x = .dat d ∧ sl[j]? = some (some (.dat d)) ∧ plain d = true := by
  unfold lendS at h
  rw [get_set] at h
  split at h
  · rename_i c
    cases h
    exact .inl ⟨c.1.symm, rfl⟩
  · rw [wipeS_get] at h
    split at h
    · cases h
    · rw [List.getElem?_map] at h
      cases e : sl[j]? with
      | none => rw [e] at h; cases h
      | some y =>
        rw [e] at h
        match y, h with
        | some (.dat d), h =>
          have h : plainOnly (some (.dat d)) = some x := Option.some.inj h
          unfold plainOnly at h
          dsimp only at h
          split at h
          · rename_i c
            cases h
            exact .inr ⟨d, rfl, rfl, c⟩
          · cases h
        | some (.own _), h => cases h
        | some (.obj _ _ _), h => cases h
        | some (.fns _ _), h => cases h
        | none, h => cases h
section
variable {K : PySem.W.Frag} {β γ p : Addr} {P : Hp} {σ : L2.St} {H G : Hp} {s : Sta} {i : Nat} {l : List Dt} {us : List V} {ns : List Int}
theorem ints_det : ∀ {ns : List Int} {vs : List V}, IsL K β G (ns.map Dt.int) vs → vs = ns.map V.int
  | [], vs, h => isl_nil.mp h
  | n :: r, vs, h => by
    obtain ⟨v, us, rfl, h1, h2⟩ := isl_cons.mp h
    rw [is_int.mp h1, ints_det h2]
    rfl
theorem Rel.lend (R : Rel K β P σ H G s) (hT : Tabs.ts = []) (e1 : σ[i]? = some (some (.ref p))) (e2 : H p = some (.lst us)) (e3 : G p = none) (e4 : P p = none) (e6 : IsL K β G l us) (hpl : plains l = true) (hγ : P γ = some (.lst (ns.map V.int))) (vs : List Nat) :
    Rel K γ (shut γ H (upd G p (.lst us))) σ H (upd G p (.lst us)) ⟨lendS i l vs s.sl, ns.map Dt.int⟩ := by
  have xx : Ext G (upd G p (.lst us)) := Ext.new e3
  have gp : γ ≠ p := fun z => by rw [z, e4] at hγ; cases hγ
  obtain ⟨g1, g2⟩ := R.pr γ _ hγ
  have noO : ∀ {j : Nat} {x : Slo}, (lendS i l vs s.sl)[j]? = some (some x) → ∃ d, x = .dat d := fun h => by
    rcases lend_get h with ⟨_, e⟩ | ⟨d, e, _⟩
    · exact ⟨_, e⟩
    · exact ⟨d, e⟩
  exact {
    len := by
      show σ.length = (lendS i l vs s.sl).length
      unfold lendS
      rw [List.length_set, wipeS_len, List.length_map]
      exact R.len
    gh := fun a o e => by
      by_cases c : a = p
      · subst c; rw [upd_same] at e; cases e; exact e2
      · rw [upd_ne c] at e; exact R.gh a o e
    pr := fun a o e => by
      unfold shut at e
      split at e
      · rename_i q; exact ⟨e, q.1⟩
      · cases e
    pb := by unfold shut; rw [if_neg (fun q => q.2.1 rfl)]
    bag := ⟨_, g1, by rw [upd_ne gp]; exact g2, IsL.ints⟩
    dat := fun j d e => by
      rcases lend_get e with ⟨ej, ed⟩ | ⟨d', ed, h, hp⟩
      · subst ej
        cases ed
        exact ⟨_, e1, is_lst.mpr ⟨p, us, rfl, upd_same, plains_free _ _ hpl (IsL.mono xx _ _ e6)⟩⟩
      · cases ed
        obtain ⟨v, h1, h2⟩ := R.dat j d h
        exact ⟨v, h1, plain_free _ _ hp (IsD.mono xx _ _ h2)⟩
    own := fun j m e => by obtain ⟨_, z⟩ := noO e; cases z
    dj := fun j _ m _ _ e => by obtain ⟨_, z⟩ := noO e; cases z
    obj := fun j c ks m e => by obtain ⟨_, z⟩ := noO e; cases z
    oj := fun j _ c ks m _ _ _ e => by obtain ⟨_, z⟩ := noO e; cases z
    fns := fun j m q e => by obtain ⟨_, z⟩ := noO e; cases z
    tabs := fun q hq => by rw [hT] at hq; cases hq
    pt := fun a o h => shut_nx h
    nt := fun a ps h => by
      by_cases c : a = p
      · subst c; rw [upd_same] at h; cases h
      · rw [upd_ne c] at h; exact R.nt a ps h }
theorem Rel.unlend (R : Rel K β P σ H G s) (hT : Tabs.ts = []) (hi : s.sl[i]? = some (some (.own l))) (e1 : σ[i]? = some (some (.ref p))) (e2 : H p = some (.lst us)) (e3 : G p = none) (e4 : P p = none) (e5 : p ≠ β) (hγ : P γ = some (.lst (ns.map V.int)))
    {H' G' : Hp} {sl' : List (Option Slo)} (x : Ext (upd G p (.lst us)) G') (C : Rel K γ (shut γ H (upd G p (.lst us))) σ H' G' ⟨sl', ns.map Dt.int⟩) : Rel K β P σ H' G s := by
  have xx : Ext G (upd G p (.lst us)) := Ext.new e3
  have noT : ∀ {a : Addr}, ∀ t ∈ Tabs.ts, t.1 ≠ a := fun t ht => by rw [hT] at ht; cases ht
  have kp : ∀ a o, H a = some o → G a = none → a ≠ p → a ≠ γ → Nx a o → H' a = some o := fun a o h1 h2 h3 h4 h5 =>
    (C.pr a o (shut_some h1 (by rw [upd_ne h3]; exact h2) h4 noT h5)).1
  have nγ : ∀ {a : Addr}, P a = none → a ≠ γ := fun h z => by rw [z, hγ] at h; cases h
  exact {
    len := R.len
    gh := fun a o e => C.gh a o (x a o (xx a o e))
    pr := fun a o e => by
      obtain ⟨h1, h2⟩ := R.pr a o e
      refine ⟨?_, h2⟩
      by_cases c : a = γ
      · subst c
        rw [hγ] at e
        cases e
        obtain ⟨vs', q1, _, q3⟩ := C.bag
        rw [q1, ints_det q3]
      · exact kp a o h1 h2 (fun z => by rw [z, e4] at e; cases e) c (R.pt a o e)
    pb := R.pb
    bag := by
      obtain ⟨vs, h1, h2, h3⟩ := R.bag
      exact ⟨vs, kp β _ h1 h2 (Ne.symm e5) (nγ R.pb) nx_lst, h2, h3⟩
    dat := R.dat
    own := fun j m e => by
      obtain ⟨p', vs, h1, h2, h3, h4, h5, h6⟩ := R.own j m e
      by_cases c : p' = p
      · subst c
        rw [e2] at h2
        cases h2
        exact ⟨p', us, h1, C.gh _ _ (x _ _ upd_same), h3, h4, h5, h6⟩
      · exact ⟨p', vs, h1, kp p' _ h2 h3 c (nγ h4) nx_lst, h3, h4, h5, h6⟩
    dj := R.dj
    obj := fun j c ks m e => by
      obtain ⟨p', Ca, dx, vs, h1, h0, h2, h3, h4, h5, h6⟩ := R.obj j c ks m e
      have n : p' ≠ p := fun z => by rw [z, e2] at h2; cases h2
      exact ⟨p', Ca, dx, vs, h1, h0, kp p' _ h2 h3 n (nγ h4) nx_ins, h3, h4, h5, h6⟩
    oj := R.oj
    fns := R.fns
    tabs := fun q hq => by rw [hT] at hq; cases hq
    pt := R.pt
    nt := R.nt }
end
section
variable {X : Cx}
theorem dtp_lend {c : Expr} {f : DM Bool} (i : Nat) (vs : List Nat) (hT : Tabs.ts = []) (h : DT X c f) : DTP X c (mLend i vs f) := by
  obtain ⟨t, p, o⟩ := h
  refine ⟨t, p, fun β P σ H G s b s' sp R e Q q => ?_⟩
  obtain ⟨γ, ns, hγ⟩ := sp
  unfold mLend at e
  split at e
  · rename_i l hi
    split at e
    · rename_i hh
      cases e
      obtain ⟨p1, us, e1, e2, e3, e4, e5, e6⟩ := R.own i l hi
      obtain ⟨sl', hf⟩ := Classical.choose_spec hh.2 (ns.map Dt.int)
      refine o γ _ σ H _ _ _ _ (R.lend hT e1 e2 e3 e4 e6 hh.1 hγ vs) hf Q fun H' G' x C => ?_
      exact q H' G (Ext.refl G) (R.unlend hT hi e1 e2 e3 e4 e5 hγ x C)
    · cases e
  · cases e
omit [Me] in
def mClear (i : Nat) : DM Dt := fun s => match s.sl[i]? with
  | some (some (.own l)) => some (.non, { s with sl := s.sl.set i (some (.own [])) })
  | _ => none
theorem de_clear {o : Expr} {apos cpos : Pos} (i : Nat) (h : PE X o (tVar i)) (hbase : attributeBase o "clear" X.env (eval o X.env) = eval o X.env := by rfl) (hline : (apos.endLine == cpos.line) = true := by rfl) :
    DE X (.Call (.Attribute o "clear" apos) [] [] cpos) (mClear i) := ⟨_, pe_bm0 PySem.F.plainAttrs_list PySem.F.slot_list_clear PySem.F.type_list_clear (fun pins s σ H x vs v us Q I rx rv h => mt_clear pins s σ H x vs v us Q I rx rv h) h hbase hline, fun β P σ H G s d s' R e Q q => by
  unfold mClear at e
  split at e
  · rename_i l hi
    cases e
    obtain ⟨p, vs, e1, e2, e3, e4, e5, e6⟩ := R.own i l hi
    refine ⟨_, e1, .inl ⟨rfl, vs, .inl (.inl e2)⟩, p, vs, rfl, rfl, e2, ?_⟩
    exact q _ _ G (Ext.refl G) (R.putOwn hi e1 (isl_nil.mpr rfl)) (is_non.mpr rfl)
  · cases e⟩
omit [Me] in
def kOwnG (i : Nat) (F : FG) (f : DM (List Dt)) : DMs := fun s => (f s).bind fun p => (F p.1 p.2.bag).bind fun q => some (.nx, { sl := p.2.sl.set i (some (.own q.1)), bag := q.2 })
/-- x = list(g(..)), x being changed later on -/
theorem ds_ownListG {k : Nat} {f : Addr} {fd : FuncData} {ps : List Str} {n : Nat} {F : FG} {x y : Str} {e : Expr} {es : List Expr} {g : DM (List Dt)} {p p1 pos pos2 pos' posS : Pos} {i : Nat} (hN : X.N.Nodup) (hi : X.N[i]? = some y) (hx : Loc X.env.scope y)
    (FF : GFnZ X.prog X.w X.K X.mg X.base k f fd ps (spG X.K n F)) (hr : Room (k + 3) X.A) (hg : Gl X x) (hm : X.mg x = some (.ref f)) (hk : PySem.W.keepIn X.K (.ref f) = true) (hb : L2.Binds X.K fd ps [])
    (ha : DA X (e :: es) g) (hn : ∀ s ds s', g s = some (ds, s') → ds.length = n) (hgl : Gl X "list") (hml : X.mg "list" = none) (hdb : (x == ("__debug__" : Str)) = false := by decide)
    (he : starEach (e :: es) X.env = (false, eval e X.env) :: starEach es X.env := by rfl) (hpl : (backTo pos2 (starEach es X.env)).any (·.1) = false := by rfl)
    (he2 : starEach [.Call (.Name x p1) (e :: es) [] pos2] X.env = (false, eval (.Call (.Name x p1) (e :: es) [] pos2) X.env) :: starEach [] X.env := by rfl)
    (hs : swapsWith (.Call (.Name "list" p) [.Call (.Name x p1) (e :: es) [] pos2] [] pos) (some (.Name y pos')) posS.line X.env = pure false := by rfl) (hf : X.fn y = true ∨ X.env.scope.names.lookup y = some .local := by first | exact .inl rfl | exact .inr rfl | assumption) :
    DS X (.Assign [.Name y pos'] (.Call (.Name "list" p) [.Call (.Name x p1) (e :: es) [] pos2] [] pos) posS) (kOwnG i F g) := by
  obtain ⟨t, pa, ok⟩ := ha
  have pg := pgenz_call (p := p1) (pos' := pos2) FF (hr.mono (Nat.le_add_right _ _)) hg hm hk hb pa hdb he hpl
  refine ⟨_, ps_set hN hi hx (pe_listG (p := p) (pos := pos) pg.pgen ?_ (fun _ _ _ z => z.elim) hr hgl hml (by decide +kernel) (he := he2)) hs hf, fun β P σ H G s r s' R e D k => ?_⟩
  · intro pins σ H s u s' I hc
    obtain ⟨_, _, _, _, _, _, _, _, _, _, _, _, z⟩ := hc
    exact z.elim
  · unfold kOwnG at e
    obtain ⟨⟨x, s1⟩, e1, e⟩ := Option.bind_eq_some_iff.mp e
    obtain ⟨⟨y, bg'⟩, e2, e⟩ := Option.bind_eq_some_iff.mp e
    cases e
    refine ok β P σ H G s x s1 R e1 _ fun vs H1 G1 x1 R1 i1 => ?_
    rw [List.append_nil]
    refine ⟨β, shut β H1 G1, G1, x, s1.bag, y, bg', by rw [i1.len]; exact hn _ _ _ e1, i1, R1.callee, e2, fun out H' G' x2 C i p hp => ?_⟩
    exact k _ _ G' (x1.trans x2) ((R1.back x2 C).setOwn hp i)
end
end DL

set_option maxHeartbeats 4000000
/-! a def that returns a new list; g(..).append(None) -/
namespace DL
open PySem PySem.Spec PyProof.Rows L2 GZ
variable [Tabs] [Me]
omit [Me] in
def spF (K : PySem.W.Frag) (n : Nat) (F : FD) : Sp := fun vs H Q _ => ∃ (β : Addr) (P G : Hp) (ds bg l bg' : List Dt), vs.length = n ∧ IsL K β G ds vs ∧ Rel K β P [] H G ⟨[], bg⟩ ∧ F ds bg = some (.lst l, bg') ∧
  ∀ p us H' G', Ext G G' → Rel K β P [] H' G' ⟨[], bg'⟩ → H' p = some (.lst us) → G' p = none → P p = none → p ≠ β → IsL K β G' l us → Q (.ref p) H'
section
variable {P : Program} {w : World} {K : PySem.W.Frag} {mg : Str → Option Value} {base : Heap}
theorem fn_okF {x qual : Str} {st : Stmt} {f : Addr} {fd : FuncData} {N ps : List Str} {k n : Nat} {e : Expr} {pos : Pos} {g : DM Dt} (F : Fun K x qual st f fd) (S : FnScope N ps (defScope st)) (hbody : defBody st = [.Return (some e) pos]) (hn : ps.length = n := by rfl)
    (hb : ∀ (cdv : Value) (A : Around) (outer : List Env) (s : Shared) (H : Hp) (E : XK), Room k (A.deeper (envOfC qual (defScope st) s.heap.objs.size f cdv)) →
      DEF (cxOf CX0 P w K mg base N qual (defScope st) f cdv A outer s H E).nox e g) : FnOk P w K mg base CX0 (k + 1) f fd ps (spF K n (fnD N.length (kRet g))) := by
  refine F.ok S (fun vs H Q E h => ?_) (fun cdv A outer s H vs Q E hr h => ?_)
  · obtain ⟨β, P, G, ds, bg, r, bg', h, _⟩ := h
    rw [hn]; exact h
  · obtain ⟨β, PP, G, ds, bg, l, bg', hl, i, R, e, q⟩ := h
    obtain ⟨t, p, o⟩ := hb cdv A outer s H E hr
    rw [hbody]
    refine ⟨_, pss_one (ps_ret p), ?_⟩
    unfold fnD kRet at e
    obtain ⟨⟨res, s'⟩, e1, e⟩ := Option.bind_eq_some_iff.mp e
    obtain ⟨⟨d, s2⟩, e2, e1⟩ := Option.bind_eq_some_iff.mp e1
    cases e1
    cases e
    refine o β PP (L2.start N vs) H G _ _ s2 (rel_start i R) e2 _ fun l' p us H' G' ed x R' h1 h2 h3 h4 i' => ?_
    cases ed
    exact q p us H' G' x R'.leave h1 h2 h3 h4 i'
end
section
variable {K : PySem.W.Frag} {β p : Addr} {P : Hp} {σ : L2.St} {H H1 G G1 : Hp} {s : Sta} {us us' : List V} {bg : List Dt}
/-- a list that nobody knows is changed -/
theorem Rel.poke (R1 : Rel K β P σ H1 G1 s) (R : Rel K β P σ H G { s with bag := bg }) (h1 : H p = some (.lst us)) (h2 : G p = none) (h3 : shut β H1 G1 p = none) (h4 : p ≠ β) : Rel K β P σ (upd H p (.lst us')) G { s with bag := bg } where
  len := R.len
  gh := fun a o e => by rw [upd_ne (ne_of_none e h2)]; exact R.gh a o e
  pr := fun a o e => by
    have n : a ≠ p := fun z => by
      obtain ⟨q1, q2⟩ := R1.pr a o e
      have q := shut_some q1 q2 (fun z => by rw [z, R1.pb] at e; cases e) (fun t ht z => by rw [← z, (R1.tabs t ht).2.2] at e; cases e) (R1.pt a o e)
      rw [z, h3] at q
      cases q
    rw [upd_ne n]; exact R.pr a o e
  pb := R.pb
  bag := by
    obtain ⟨vs, q1, q2, q3⟩ := R.bag
    exact ⟨vs, by rw [upd_ne (Ne.symm h4)]; exact q1, q2, q3⟩
  dat := R.dat
  own := fun i l e => by
    obtain ⟨p0, vs0, a1, a2, a3, a4, a5, _⟩ := R1.own i l e
    obtain ⟨p', vs, b1, b2, b3, b4, b5, b6⟩ := R.own i l e
    have e0 : p0 = p' := by rw [a1] at b1; cases b1; rfl
    subst e0
    have n : p0 ≠ p := fun z => by
      have q := shut_some a2 a3 a5 (fun t ht z => (R1.tabs t ht).1.neL a2 z) nx_lst
      rw [z, h3] at q
      cases q
    exact ⟨p0, vs, b1, by rw [upd_ne n]; exact b2, b3, b4, b5, b6⟩
  dj := R.dj
  obj := fun i c ks l e => by
    obtain ⟨p', Ca, dx, vs, b1, b0, b2, b3⟩ := R.obj i c ks l e
    have n : p' ≠ p := fun z => by rw [z, h1] at b2; cases b2
    exact ⟨p', Ca, dx, vs, b1, b0, by rw [upd_ne n]; exact b2, b3⟩
  oj := R.oj
  fns := R.fns
  tabs := fun q hq => by
    obtain ⟨t, g, n⟩ := R.tabs q hq
    exact ⟨t.of (upd_ne (t.neL h1)) (Ext.refl G), g, n⟩
  pt := R.pt
  nt := R.nt
end
omit [Me] in
def kAppF (F : FD) (g : DM (List Dt)) : DMs := fun s => (g s).bind fun p => (F p.1 p.2.bag).bind fun q => match q.1 with
  | .lst l => if l.length < 100000 then some (.nx, { p.2 with bag := q.2 }) else none
  | _ => none
section
variable {X : Cx}
theorem ds_appF {k : Nat} {f : Addr} {fd : FuncData} {ps : List Str} {n : Nat} {F : FD} {x : Str} {e : Expr} {es : List Expr} {g : DM (List Dt)} {p pos2 apos cpos pos npos : Pos} {nk : Nat} (FF : FnOk X.prog X.w X.K X.mg X.base CX0 k f fd ps (spF X.K n F)) (hr : Room k X.A) (hg : Gl X x) (hm : X.mg x = some (.ref f)) (hk : PySem.W.keepIn X.K (.ref f) = true) (hb : Binds X.K fd ps [])
    (ha : DA X (e :: es) g) (hn : ∀ s ds s', g s = some (ds, s') → ds.length = n) (hdb : (x == ("__debug__" : Str)) = false := by decide) (he : starEach (e :: es) X.env = (false, eval e X.env) :: starEach es X.env := by rfl) (hpl : (backTo pos2 (starEach es X.env)).any (·.1) = false := by rfl)
    (hbase : attributeBase (.Call (.Name x p) (e :: es) [] pos2) "append" X.env (eval (.Call (.Name x p) (e :: es) [] pos2) X.env) = eval (.Call (.Name x p) (e :: es) [] pos2) X.env := by rfl)
    (hfew : ((backTo cpos (starEach [.Constant .none nk npos] X.env)).all (fun x => !x.1) && (backToKw cpos (keywordEach [] X.env)).all (fun x => x.1.isSome)
      && decide ([Expr.Constant .none nk npos].length + ([] : List Keyword).length + (if ([] : List Keyword).isEmpty then 0 else 1) < 30)) = true := by rfl)
    (hline : (apos.endLine == cpos.line) = true := by rfl) (hs : starEach [.Constant .none nk npos] X.env = (false, eval (.Constant .none nk npos) X.env) :: starEach [] X.env := by rfl) (hplain : (backTo cpos (starEach [] X.env)).any (·.1) = false := by rfl)
    (hsw : swapsWith (.Call (.Attribute (.Call (.Name x p) (e :: es) [] pos2) "append" apos) [.Constant .none nk npos] [] cpos) none pos.line X.env = pure false := by rfl) :
    DS X (.Expr (.Call (.Attribute (.Call (.Name x p) (e :: es) [] pos2) "append" apos) [.Constant .none nk npos] [] cpos) pos) (kAppF F g) := by
  obtain ⟨t, pa, ok⟩ := ha
  have pc : PE X (.Call (.Name x p) (e :: es) [] pos2) _ := pe_call FF hr hg hm hk hb .nil pass0 pa hdb he hpl
  refine ⟨_, ps_expr (pe_bm PySem.F.plainAttrs_list PySem.F.slot_list_append PySem.F.type_list_append mt_append pc (pa_cons pe_non pa_nil hs) hbase hfew hline hs hplain) hsw, fun β P σ H G s r s' R e D kk => ?_⟩
  unfold kAppF at e
  obtain ⟨⟨ds, s1⟩, e1, e⟩ := Option.bind_eq_some_iff.mp e
  obtain ⟨⟨d, bg'⟩, e2, e⟩ := Option.bind_eq_some_iff.mp e
  dsimp only at e
  split at e
  · rename_i l
    split at e
    · rename_i hlen
      cases e
      refine ok β P σ H G s ds s1 R e1 _ fun vs H1 G1 x1 R1 i1 => ?_
      rw [List.append_nil]
      refine ⟨β, shut β H1 G1, G1, ds, s1.bag, l, bg', by rw [i1.len]; exact hn _ _ _ e1, i1, R1.callee, e2, fun p us H' G' x2 C h1 h2 h3 h4 i => ?_⟩
      have R2 := R1.back x2 C
      refine ⟨.inl ⟨rfl, us, .inl (.inl h1)⟩, p, us, .non, rfl, rfl, h1, by rw [i.len]; exact Nat.lt_of_lt_of_le hlen (by decide), ?_⟩
      exact kk σ _ G' (x1.trans x2) (Rel.poke R1 R2 h1 h2 h3 h4)
    · cases e
  · cases e
end
/-! the law's start, a list of ints standing by -/
theorem law_rel8 {K : PySem.W.Frag} {β l z : Addr} {ns : List Int} {seed : Int} {H : Hp} {a : V} {n : Nat} (hT : Tabs.ts = []) (hn : β ≠ l) (zl : z ≠ l) (zb : z ≠ β) (hz : H z = some (.lst (ns.map V.int))) (hl : H l = some (.lst (ns.map V.int))) (hb : H β = some (.lst [.ref l, .int 0, .int 0, .int seed, .int 0])):
    Rel K β (upd (fun _ => none) z (.lst (ns.map V.int))) ([some a, some (.ref β)] ++ List.replicate n none) H (upd (fun _ => none) l (.lst (ns.map V.int))) ⟨[none, some (.dat .bag)] ++ List.replicate n none, bag0 ns seed⟩ where
  len := by simp
  gh := fun p o e => by
    by_cases c : p = l
    · subst c; rw [upd_same] at e; cases e; exact hl
    · rw [upd_ne c] at e; cases e
  pr := fun p o e => by
    by_cases c : p = z
    · subst c; rw [upd_same] at e; cases e; exact ⟨hz, by rw [upd_ne zl]⟩
    · rw [upd_ne c] at e; cases e
  pb := by rw [upd_ne (Ne.symm zb)]
  bag := ⟨_, hb, by rw [upd_ne hn], isl_cons.mpr ⟨_, _, rfl, is_lst.mpr ⟨l, _, rfl, upd_same, IsL.ints⟩, isl_cons.mpr ⟨_, _, rfl, is_int.mpr rfl, isl_cons.mpr ⟨_, _, rfl, is_int.mpr rfl, isl_cons.mpr ⟨_, _, rfl, is_int.mpr rfl, isl_cons.mpr ⟨_, _, rfl, is_int.mpr rfl, isl_nil.mpr rfl⟩⟩⟩⟩⟩⟩
  dat := fun i d e => by
    match i, e with
    | 0, e => cases e
    | 1, e => cases e; exact ⟨_, rfl, is_bag.mpr rfl⟩
    | i + 2, e =>
      simp only [List.cons_append, List.nil_append, List.getElem?_cons_succ, List.getElem?_replicate] at e
      split at e <;> cases e
  own := fun i d e => by
    match i, e with
    | 0, e => cases e
    | 1, e => cases e
    | i + 2, e =>
      simp only [List.cons_append, List.nil_append, List.getElem?_cons_succ, List.getElem?_replicate] at e
      split at e <;> cases e
  dj := fun i _ d _ _ e => by
    match i, e with
    | 0, e => cases e
    | 1, e => cases e
    | i + 2, e =>
      simp only [List.cons_append, List.nil_append, List.getElem?_cons_succ, List.getElem?_replicate] at e
      split at e <;> cases e
  obj := fun i c ks l e => by
    match i, e with
    | 0, e => cases e
    | 1, e => cases e
    | i + 2, e =>
      simp only [List.cons_append, List.nil_append, List.getElem?_cons_succ, List.getElem?_replicate] at e
      split at e <;> cases e
  oj := fun i _ c ks l _ _ _ e => by
    match i, e with
    | 0, e => cases e
    | 1, e => cases e
    | i + 2, e =>
      simp only [List.cons_append, List.nil_append, List.getElem?_cons_succ, List.getElem?_replicate] at e
      split at e <;> cases e
  fns := fun i l q e => by
    match i, e with
    | 0, e => cases e
    | 1, e => cases e
    | i + 2, e =>
      simp only [List.cons_append, List.nil_append, List.getElem?_cons_succ, List.getElem?_replicate] at e
      split at e <;> cases e
  tabs := fun q hq => by rw [hT] at hq; cases hq
  pt := fun p o h => by
    by_cases c : p = z
    · subst c; rw [upd_same] at h; cases h; exact nx_lst
    · rw [upd_ne c] at h; cases h
  nt := fun p ps e => by
    by_cases c : p = l
    · subst c; rw [upd_same] at e; cases e
    · rw [upd_ne c] at e; cases e
end DL

namespace DL
open PySem PySem.Spec PyProof.Rows L2
variable [Tabs] [Me]

def sLpull : FD := fnD 5 (kSeq (kAsg (m2 gAdd (mBagIx (mVar 0) (mC (.int 4))) (mC (.int 1))) (hBag (mVar 0) (mC (.int 4))))
    (kSeq (kIf (mAndB (mB (m2 gEq (mBagIx (mVar 0) (mC (.int 2))) (mC (.int 0)))) (mB (m2 oLt (mBagIx (mVar 0) (mC (.int 1))) (mCall gLen (mCons (mBagIx (mVar 0) (mC (.int 0))) mNil))))) (kSeq (kAsg (mTup (mCons (m2 gIx (mBagIx (mVar 0) (mC (.int 0))) (mBagIx (mVar 0) (mC (.int 1)))) (mCons (m2 gAdd (mBagIx (mVar 0) (mC (.int 1))) (mC (.int 1))) mNil))) (hTup 2 (hCons (hName 3) (hCons (hBag (mVar 0) (mC (.int 1))) hNil))))
    (kSeq (kIf (mB (m2 oGe (mVar 3) (m2 gPow (mC (.int 10)) (mC (.int 18))))) (kAsg (mVar 3) (hBag (mVar 0) (mC (.int 2)))) kSkip)
    (kAsg (m2 gMod (mCall gInt1 (mCons (m2 gAdd (m2 gAdd (m2 gMul (mBagIx (mVar 0) (mC (.int 3))) (mC (.int 38377))) (m2 gMul (m2 gMod (mCall gInt1 (mCons (mVar 3) mNil)) (mC (.int 2147483489))) (mC (.int 41143)))) (mC (.int 61))) mNil)) (mC (.int 2147483549))) (hBag (mVar 0) (mC (.int 3)))))) kSkip)
    (kSeq (kIf (mB (m2 oGt (mBagIx (mVar 0) (mC (.int 2))) (mC (.int 0)))) (kSeq (kAsg (mTup (mCons (m2 gMod (mCall gInt1 (mCons (mBagIx (mVar 0) (mC (.int 2))) mNil)) (mVar 1)) (mCons (m2 gDiv (mBagIx (mVar 0) (mC (.int 2))) (mVar 1)) mNil))) (hTup 2 (hCons (hName 4) (hCons (hBag (mVar 0) (mC (.int 2))) hNil))))
    (kRet (mVar 4))) kSkip)
    (kSeq (kAsg (mBagIx (mVar 0) (mC (.int 3))) (hName 2))
    (kSeq (kAsg (m2 gMod (mCall gInt1 (mCons (m2 gAdd (m2 gAdd (m2 gAdd (m2 gPow (mVar 2) (mC (.int 3))) (m2 gMul (mVar 2) (mC (.int 37813)))) (m2 gMul (mBagIx (mVar 0) (mC (.int 4))) (mC (.int 1299689)))) (mC (.int 65437))) mNil)) (mC (.int 2147483549))) (hBag (mVar 0) (mC (.int 3))))
    (kRet (m2 gMod (mCall gInt1 (mCons (m2 gAdd (m2 gDiv (mBagIx (mVar 0) (mC (.int 3))) (mC (.int 89))) (m2 gMul (m2 gMod (mCall gInt1 (mCons (mBagIx (mVar 0) (mC (.int 3))) mNil)) (mC (.int 7919))) (mC (.int 71)))) mNil)) (mVar 1))))))))
def sLany : FD := fnD 2 (kRet (m2 gIx (mVar 1) (mApp sLpull (mCons (mVar 0) (mCons (mCall gLen (mCons (mVar 1) mNil)) mNil)))))
def sLreserved : FD := fnD 0 (kRet (mLst (mCons (mC (.str "and")) (mCons (mC (.str "found")) (mCons (mC (.str "key")) (mCons (mC (.str "next")) (mCons (mC (.str "not")) (mCons (mC (.str "or")) (mCons (mC (.str "own")) (mCons (mC (.str "set")) (mCons (mC (.str "true")) (mCons (mC (.str "where")) mNil))))))))))))
def sLnew_names : FD := fnD 9 (kSeq (kAsg (mC (.str "abcdefghijklmnopqrstuvwxyz")) (hName 2))
    (kSeq (kAsg (mM1 gJoin (mC (.str "")) (mComp [7] (wRng1 (mCons (mApp sLpull (mCons (mVar 0) (mCons (mC (.int 5)) mNil))) mNil)) (hName 7) mYes (mApp sLany (mCons (mVar 0) (mCons (mVar 2) mNil))))) (hName 3))
    (kSeq (kAsg (mTup (mCons (mApp sLpull (mCons (mVar 0) (mCons (m2 gAdd (mCall gLen (mCons (mVar 3) mNil)) (mC (.int 1))) mNil))) (mCons (mApp sLpull (mCons (mVar 0) (mCons (mC (.int 26)) mNil))) mNil))) (hTup 2 (hCons (hName 5) (hCons (hName 6) hNil))))
    (kSeq (kAsg (mComp [7] (wRng1 (mCons (mVar 1) mNil)) (hName 7) mYes (m2 gAdd (m2 gAdd (mSl (mVar 3) mNoP (mPart (mVar 5))) (m2 gIx (mVar 2) (m2 gSub0 (m2 gAdd (mVar 6) (mVar 7)) (mC (.int 26))))) (mSl (mVar 3) (mPart (mVar 5)) mNoP))) (hName 4))
    (kRet (mComp [8] (wLst (mVar 4)) (hName 8) mYes (mIf (mB (m2 gIn (mVar 8) (mApp sLreserved mNil))) (m2 gAdd (mVar 8) (mC (.str "q"))) (mVar 8))))))))
def sLnear : FD := fnD 1 (kRet (mApp sLany (mCons (mVar 0) (mCons (mLst (mCons (mC (.int 0)) (mCons (mC (.int 1)) (mCons (mC (.int 1)) (mCons (mC (.int 2)) (mCons (mC (.int 3)) (mCons (m2 gSub0 (mC (.int 0)) (mC (.int 1))) (mCons (m2 gSub0 (mC (.int 0)) (mC (.int 2))) mNil)))))))) mNil))))
def sLlikeB (R : FD) : FD := fnD 5 (kSeq (kIf (mB (mIsi (fun d => isLst d || isTup d) (mVar 1))) (kSeq (kAsg (mAndV (m2 gEq (mIsi isLst (mVar 0)) (mIsi isLst (mVar 1))) (m2 gEq (mIsi isTup (mVar 0)) (mIsi isTup (mVar 1)))) (hName 2))
    (kRet (mAndV (mVar 2) (mAndV (m2 gEq (mCall gLen (mCons (mVar 0) mNil)) (mCall gLen (mCons (mVar 1) mNil))) (mCall gAll (mCons (mComp [3, 4] (wZip (mCons (mVar 0) (mCons (mVar 1) mNil))) (hTup 2 (hCons (hName 3) (hCons (hName 4) hNil))) mYes (mApp R (mCons (mVar 3) (mCons (mVar 4) mNil)))) mNil)))))) kSkip)
    (kSeq (kIf (mOrB (mB (m2 gIsN (mVar 0) (mC .non))) (mOrB (mB (m2 gIsN (mVar 1) (mC .non))) (mB (m2 gNe (mIsi isBl (mVar 0)) (mIsi isBl (mVar 1)))))) (kRet (mAndV (m2 gIsN (mVar 0) (mC .non)) (m2 gIsN (mVar 1) (mC .non)))) kSkip)
    (kRet (mAndV (m2 gEq (mIsi isInt (mVar 0)) (mIsi isInt (mVar 1))) (mAndV (m2 gEq (mIsi isStr (mVar 0)) (mIsi isStr (mVar 1))) (m2 gEq (mVar 0) (mVar 1)))))))
def sLlike : Nat → FD
  | 0 => fun _ _ => none
  | n + 1 => sLlikeB (sLlike n)
def s_BOUND : Dt := .int 1000000000000000000000000000000
def s_MOST_LETTERS : Dt := .int 6
def s_RESERVED : Dt := .tup [.str "and", .str "found", .str "key", .str "next", .str "not", .str "or", .str "own", .str "set", .str "true", .str "where"]
def sis_name : FD := fnD 2 (kSeq (kIf (mOrB (mNotB (mB (mIsi isStr (mVar 0)))) (mB (m2 gIn (mVar 0) (mC s_RESERVED)))) (kRet (mC (.bl false))) kSkip)
    (kRet (mAndV (mChain oLe oLe (mC (.int 1)) (mCall gLen (mCons (mVar 0) mNil)) (mC s_MOST_LETTERS)) (mCall gAll (mCons (mComp [1] (wStr (mVar 0)) (hName 1) mYes (mChain oLe oLe (mC (.str "a")) (mVar 1) (mC (.str "z")))) mNil)))))
def sis_column : FD := fnD 1 (kRet (mOrV (m2 gEq (mVar 0) (mC (.str "key"))) (mApp sis_name (mCons (mVar 0) mNil))))
def sis_whole : FD := fnD 1 (kRet (mAndV (mIsi isInt (mVar 0)) (mNotV (mIsi isBl (mVar 0)))))
def sis_bounded_ : FD := fnD 1 (kRet (mAndV (mApp sis_whole (mCons (mVar 0) mNil)) (mChain oLe oLe (mNeg (mC s_BOUND)) (mVar 0) (mC s_BOUND))))
def sis_single_ : FD := fnD 3 (kSeq (kIf (mNotB (mB (mIsi isTup (mVar 0)))) (kRet (mC (.bl false))) kSkip)
    (kSeq (kIf (mB (m2 gEq (mCall gLen (mCons (mVar 0) mNil)) (mC (.int 3)))) (kRet (mAndV (m2 gEq (m2 gIx (mVar 0) (mC (.int 0))) (mC (.str "field"))) (mAndV (mApp sis_name (mCons (m2 gIx (mVar 0) (mC (.int 1))) mNil)) (mApp sis_column (mCons (m2 gIx (mVar 0) (mC (.int 2))) mNil))))) kSkip)
    (kSeq (kIf (mB (m2 gNe (mCall gLen (mCons (mVar 0) mNil)) (mC (.int 2)))) (kRet (mC (.bl false))) kSkip)
    (kSeq (kAsg (mVar 0) (hTup 2 (hCons (hName 1) (hCons (hName 2) hNil))))
    (kSeq (kIf (mB (m2 gEq (mVar 1) (mC (.str "number")))) (kRet (mApp sis_bounded_ (mCons (mVar 2) mNil))) kSkip)
    (kSeq (kIf (mB (m2 gEq (mVar 1) (mC (.str "name")))) (kRet (mApp sis_name (mCons (mVar 2) mNil))) kSkip)
    (kRet (mAndV (m2 gIn (mVar 1) (mTup (mCons (mC (.str "own")) (mCons (mC (.str "next")) mNil)))) (mApp sis_column (mCons (mVar 2) mNil))))))))))
def sis_value : FD := fnD 1 (kSeq (kIf (mAndB (mB (mIsi isTup (mVar 0))) (mAndB (mB (m2 gEq (mCall gLen (mCons (mVar 0) mNil)) (mC (.int 3)))) (mB (m2 gEq (m2 gIx (mVar 0) (mC (.int 0))) (mC (.str "plus")))))) (kRet (mAndV (mApp sis_single_ (mCons (m2 gIx (mVar 0) (mC (.int 1))) mNil)) (mApp sis_bounded_ (mCons (m2 gIx (mVar 0) (mC (.int 2))) mNil)))) kSkip)
    (kRet (mApp sis_single_ (mCons (mVar 0) mNil))))
def sshifted : FD := fnD 4 (kSeq (kIf (mNotB (mB (mApp sis_value (mCons (mVar 0) mNil)))) (fun _ => none) kSkip)
    (kSeq (kPar 2 3 (mCons (mVar 0) (mCons (mVar 1) mNil)))
    (kSeq (kIf (mB (m2 gEq (m2 gIx (mVar 0) (mC (.int 0))) (mC (.str "plus")))) (kPar 2 3 (mCons (m2 gIx (mVar 0) (mC (.int 1))) (mCons (m2 gAdd (m2 gIx (mVar 0) (mC (.int 2))) (mVar 1)) mNil))) kSkip)
    (kSeq (kIf (mB (m2 gEq (m2 gIx (mVar 2) (mC (.int 0))) (mC (.str "number")))) (kRet (mTup (mCons (mC (.str "number")) (mCons (m2 gAdd (m2 gIx (mVar 2) (mC (.int 1))) (mVar 3)) mNil)))) kSkip)
    (kSeq (kIf (mB (m2 gEq (mVar 3) (mC (.int 0)))) (kRet (mVar 2)) kSkip)
    (kRet (mTup (mCons (mC (.str "plus")) (mCons (mVar 2) (mCons (mVar 3) mNil))))))))))
def BagOk (bg : List Dt) : Prop := ∃ (cells : List Int) (a b s c : Int), bg = [.lst (cells.map Dt.int), .int a, .int b, .int s, .int c] ∧ 0 ≤ a ∧ a ≤ cells.length ∧ 0 ≤ b ∧ 0 ≤ s ∧ s < 2147483549
theorem bag0_ok {ns : List Int} {seed : Int} (h0 : 0 ≤ seed) (h1 : seed < 2147483549) : BagOk (bag0 ns seed) := ⟨ns, 0, 0, seed, 0, rfl, by decide, by omega, by decide, h0, h1⟩
theorem eqII {a b : Int} : gEq (.int a) (.int b) = some (.bl (a == b)) := rfl
theorem kseq {f g : DMs} {s s1 : Sta} (h : f s = some (.nx, s1)) : kSeq f g s = g s1 := by unfold kSeq; rw [h]; rfl
theorem kif_t {c : DM Bool} {f g : DMs} {s s1 : Sta} (h : c s = some (true, s1)) : kIf c f g s = f s1 := by unfold kIf; rw [h]; rfl
theorem kif_f {c : DM Bool} {f g : DMs} {s s1 : Sta} (h : c s = some (false, s1)) : kIf c f g s = g s1 := by unfold kIf; rw [h]; rfl
theorem and_f {f g : DM Bool} {s s1 : Sta} (h : f s = some (false, s1)) : mAndB f g s = some (false, s1) := by unfold mAndB; rw [h]; rfl
theorem and_t {f g : DM Bool} {s s1 : Sta} (h : f s = some (true, s1)) : mAndB f g s = g s1 := by unfold mAndB; rw [h]; rfl
theorem or_t {f g : DM Bool} {s s1 : Sta} (h : f s = some (true, s1)) : mOrB f g s = some (true, s1) := by unfold mOrB; rw [h]; rfl
theorem or_f {f g : DM Bool} {s s1 : Sta} (h : f s = some (false, s1)) : mOrB f g s = g s1 := by unfold mOrB; rw [h]; rfl
theorem m2_eq {g : Dt → Dt → Option Dt} {f1 f2 : DM Dt} {s s1 s2 : Sta} {x y d : Dt} (h1 : f1 s = some (x, s1)) (h2 : f2 s1 = some (y, s2)) (h3 : g x y = some d) : m2 g f1 f2 s = some (d, s2) := by
  unfold m2; rw [h1, Option.bind_some, h2, Option.bind_some, h3]; rfl
theorem kasg {f : DM Dt} {h : Dt → Sta → Option Sta} {s s1 s2 : Sta} {d : Dt} (h1 : f s = some (d, s1)) (h2 : h d s1 = some s2) : kAsg f h s = some (.nx, s2) := by unfold kAsg; rw [h1, Option.bind_some, h2]; rfl
theorem mcons {f : DM Dt} {g : DM (List Dt)} {s s1 s2 : Sta} {x : Dt} {xs : List Dt} (h1 : f s = some (x, s1)) (h2 : g s1 = some (xs, s2)) : mCons f g s = some (x :: xs, s2) := by unfold mCons; rw [h1, Option.bind_some, h2]; rfl
theorem mtup {f : DM (List Dt)} {s s1 : Sta} {xs : List Dt} (h : f s = some (xs, s1)) (hl : xs.length ≤ 1000 := by simp) : mTup f s = some (.tup xs, s1) := by unfold mTup; rw [h, Option.bind_some, if_pos hl]
theorem mlst {f : DM (List Dt)} {s s1 : Sta} {xs : List Dt} (h : f s = some (xs, s1)) (hl : xs.length ≤ 1000 := by simp) : mLst f s = some (.lst xs, s1) := by unfold mLst; rw [h, Option.bind_some, if_pos hl]
theorem bMulR {i j : Int} (h : -18446744073709551616 < j) (h' : j < 18446744073709551616) : gMul (.int i) (.int j) = some (.int (i * j)) := by
  unfold gMul i2
  dsimp only
  rw [if_pos]
  unfold bMul
  rw [decide_eq_true h, decide_eq_true h']
  simp
theorem gModP {i j : Int} (h : 0 < j) : gMod (.int i) (.int j) = some (.int (i % j)) := by
  unfold gMod i2
  dsimp only
  rw [if_pos]
  unfold bMod
  simp [h]
theorem gDivP {i j : Int} (h : 0 < j) (h' : j < 1073741824) : gDiv (.int i) (.int j) = some (.int (i.fdiv j)) := by
  unfold gDiv i2
  dsimp only
  rw [if_pos]
  unfold bDiv
  simp [h, h']
theorem gPowP {i : Int} (h : i.natAbs < 2 ^ 64) : gPow (.int i) (.int 3) = some (.int (i ^ 3)) := by
  unfold gPow i2
  dsimp only
  rw [if_pos]
  · rfl
  unfold bPow
  simp [h]
/-- the number of a draw, where no digits are left -/
theorem pull_tail {cells : List Int} {a b s c n : Int} {x y : Option Slo} (hs : 0 ≤ s) (hs1 : s < 2147483549) (h0 : 0 < n) : ∃ r s' sl, (kSeq (kAsg (mBagIx (mVar 0) (mC (.int 3))) (hName 2))
    (kSeq (kAsg (m2 gMod (mCall gInt1 (mCons (m2 gAdd (m2 gAdd (m2 gAdd (m2 gPow (mVar 2) (mC (.int 3))) (m2 gMul (mVar 2) (mC (.int 37813)))) (m2 gMul (mBagIx (mVar 0) (mC (.int 4))) (mC (.int 1299689)))) (mC (.int 65437))) mNil)) (mC (.int 2147483549))) (hBag (mVar 0) (mC (.int 3))))
    (kRet (m2 gMod (mCall gInt1 (mCons (m2 gAdd (m2 gDiv (mBagIx (mVar 0) (mC (.int 3))) (mC (.int 89))) (m2 gMul (m2 gMod (mCall gInt1 (mCons (mBagIx (mVar 0) (mC (.int 3))) mNil)) (mC (.int 7919))) (mC (.int 71)))) mNil)) (mVar 1)))))
     ⟨[some (.dat .bag), some (.dat (.int n)), none, x, y], [.lst (cells.map Dt.int), .int a, .int b, .int s, .int c]⟩ = some (.rt (.int r), ⟨sl, [.lst (cells.map Dt.int), .int a, .int b, .int s', .int c]⟩) ∧ 0 ≤ r ∧ r < n ∧ 0 ≤ s' ∧ s' < 2147483549 := by
  have e1 : ∀ j : Int, 0 < j → ∀ i : Int, gMod (.int i) (.int j) = some (.int (i % j)) := fun j h i => gModP h
  refine ⟨(((s ^ 3 + s * 37813 + c * 1299689 + 65437) % 2147483549).fdiv 89 + (s ^ 3 + s * 37813 + c * 1299689 + 65437) % 2147483549 % 7919 * 71) % n, (s ^ 3 + s * 37813 + c * 1299689 + 65437) % 2147483549, [some (.dat .bag), some (.dat (.int n)), some (.dat (.int s)), x, y], ?_, Int.emod_nonneg _ (by omega), Int.emod_lt_of_pos _ h0, Int.emod_nonneg _ (by decide), Int.emod_lt_of_pos _ (by decide)⟩
  rw [kseq (s1 := ⟨[some (.dat .bag), some (.dat (.int n)), some (.dat (.int s)), x, y], [.lst (cells.map Dt.int), .int a, .int b, .int s, .int c]⟩) rfl]
  rw [kseq (s1 := ⟨[some (.dat .bag), some (.dat (.int n)), some (.dat (.int s)), x, y], [.lst (cells.map Dt.int), .int a, .int b, .int ((s ^ 3 + s * 37813 + c * 1299689 + 65437) % 2147483549), .int c]⟩) ?_]
  · generalize (s ^ 3 + s * 37813 + c * 1299689 + 65437) % 2147483549 = z
    have e2 : m2 gMod (mCall gInt1 (mCons (m2 gAdd (m2 gDiv (mBagIx (mVar 0) (mC (.int 3))) (mC (.int 89))) (m2 gMul (m2 gMod (mCall gInt1 (mCons (mBagIx (mVar 0) (mC (.int 3))) mNil)) (mC (.int 7919))) (mC (.int 71)))) mNil)) (mVar 1)
      ⟨[some (.dat .bag), some (.dat (.int n)), some (.dat (.int s)), x, y], [.lst (cells.map Dt.int), .int a, .int b, .int z, .int c]⟩ = some (.int ((z.fdiv 89 + z % 7919 * 71) % n), ⟨[some (.dat .bag), some (.dat (.int n)), some (.dat (.int s)), x, y], [.lst (cells.map Dt.int), .int a, .int b, .int z, .int c]⟩) := by
      refine m2_eq (s1 := ⟨[some (.dat .bag), some (.dat (.int n)), some (.dat (.int s)), x, y], [.lst (cells.map Dt.int), .int a, .int b, .int z, .int c]⟩) (x := .int (z.fdiv 89 + z % 7919 * 71)) (y := .int n) ?_ rfl (gModP h0)
      rfl
    unfold kRet
    rw [e2]
    rfl
  · refine kasg (s1 := ⟨[some (.dat .bag), some (.dat (.int n)), some (.dat (.int s)), x, y], [.lst (cells.map Dt.int), .int a, .int b, .int s, .int c]⟩) (d := .int ((s ^ 3 + s * 37813 + c * 1299689 + 65437) % 2147483549)) ?_ rfl
    refine m2_eq (s1 := ⟨[some (.dat .bag), some (.dat (.int n)), some (.dat (.int s)), x, y], [.lst (cells.map Dt.int), .int a, .int b, .int s, .int c]⟩) (x := .int (s ^ 3 + s * 37813 + c * 1299689 + 65437)) (y := .int 2147483549) ?_ rfl rfl
    have e3 : m2 gPow (mVar 2) (mC (.int 3)) ⟨[some (.dat .bag), some (.dat (.int n)), some (.dat (.int s)), x, y], [.lst (cells.map Dt.int), .int a, .int b, .int s, .int c]⟩ = some (.int (s ^ 3), ⟨[some (.dat .bag), some (.dat (.int n)), some (.dat (.int s)), x, y], [.lst (cells.map Dt.int), .int a, .int b, .int s, .int c]⟩) := m2_eq (s1 := ⟨[some (.dat .bag), some (.dat (.int n)), some (.dat (.int s)), x, y], [.lst (cells.map Dt.int), .int a, .int b, .int s, .int c]⟩) rfl rfl (gPowP (by omega))
    have e4 : m2 gMul (mVar 2) (mC (.int 37813)) ⟨[some (.dat .bag), some (.dat (.int n)), some (.dat (.int s)), x, y], [.lst (cells.map Dt.int), .int a, .int b, .int s, .int c]⟩ = some (.int (s * 37813), ⟨[some (.dat .bag), some (.dat (.int n)), some (.dat (.int s)), x, y], [.lst (cells.map Dt.int), .int a, .int b, .int s, .int c]⟩) := m2_eq (s1 := ⟨[some (.dat .bag), some (.dat (.int n)), some (.dat (.int s)), x, y], [.lst (cells.map Dt.int), .int a, .int b, .int s, .int c]⟩) rfl rfl (bMulR (by decide) (by decide))
    have e5 : m2 gMul (mBagIx (mVar 0) (mC (.int 4))) (mC (.int 1299689)) ⟨[some (.dat .bag), some (.dat (.int n)), some (.dat (.int s)), x, y], [.lst (cells.map Dt.int), .int a, .int b, .int s, .int c]⟩ = some (.int (c * 1299689), ⟨[some (.dat .bag), some (.dat (.int n)), some (.dat (.int s)), x, y], [.lst (cells.map Dt.int), .int a, .int b, .int s, .int c]⟩) := m2_eq (s1 := ⟨[some (.dat .bag), some (.dat (.int n)), some (.dat (.int s)), x, y], [.lst (cells.map Dt.int), .int a, .int b, .int s, .int c]⟩) (x := .int c) rfl rfl (bMulR (by decide) (by decide))
    have e6 := m2_eq (g := gAdd) (m2_eq (g := gAdd) (m2_eq (g := gAdd) e3 e4 rfl) e5 rfl) (f2 := mC (.int 65437)) rfl (d := .int (s ^ 3 + s * 37813 + c * 1299689 + 65437)) rfl
    unfold mCall mCons
    rw [e6]
    rfl

def pTail : DMs := (kSeq (kAsg (mBagIx (mVar 0) (mC (.int 3))) (hName 2))
    (kSeq (kAsg (m2 gMod (mCall gInt1 (mCons (m2 gAdd (m2 gAdd (m2 gAdd (m2 gPow (mVar 2) (mC (.int 3))) (m2 gMul (mVar 2) (mC (.int 37813)))) (m2 gMul (mBagIx (mVar 0) (mC (.int 4))) (mC (.int 1299689)))) (mC (.int 65437))) mNil)) (mC (.int 2147483549))) (hBag (mVar 0) (mC (.int 3))))
    (kRet (m2 gMod (mCall gInt1 (mCons (m2 gAdd (m2 gDiv (mBagIx (mVar 0) (mC (.int 3))) (mC (.int 89))) (m2 gMul (m2 gMod (mCall gInt1 (mCons (mBagIx (mVar 0) (mC (.int 3))) mNil)) (mC (.int 7919))) (mC (.int 71)))) mNil)) (mVar 1)))))
def pIf3 : DMs := (kIf (mB (m2 oGt (mBagIx (mVar 0) (mC (.int 2))) (mC (.int 0)))) (kSeq (kAsg (mTup (mCons (m2 gMod (mCall gInt1 (mCons (mBagIx (mVar 0) (mC (.int 2))) mNil)) (mVar 1)) (mCons (m2 gDiv (mBagIx (mVar 0) (mC (.int 2))) (mVar 1)) mNil))) (hTup 2 (hCons (hName 4) (hCons (hBag (mVar 0) (mC (.int 2))) hNil))))
    (kRet (mVar 4))) kSkip)
def pThen3 : DMs := (kSeq (kAsg (mTup (mCons (m2 gMod (mCall gInt1 (mCons (mBagIx (mVar 0) (mC (.int 2))) mNil)) (mVar 1)) (mCons (m2 gDiv (mBagIx (mVar 0) (mC (.int 2))) (mVar 1)) mNil))) (hTup 2 (hCons (hName 4) (hCons (hBag (mVar 0) (mC (.int 2))) hNil))))
    (kRet (mVar 4)))
def pC3 : DM Bool := (mB (m2 oGt (mBagIx (mVar 0) (mC (.int 2))) (mC (.int 0))))
def pIf2 : DMs := (kIf (mAndB (mB (m2 gEq (mBagIx (mVar 0) (mC (.int 2))) (mC (.int 0)))) (mB (m2 oLt (mBagIx (mVar 0) (mC (.int 1))) (mCall gLen (mCons (mBagIx (mVar 0) (mC (.int 0))) mNil))))) (kSeq (kAsg (mTup (mCons (m2 gIx (mBagIx (mVar 0) (mC (.int 0))) (mBagIx (mVar 0) (mC (.int 1)))) (mCons (m2 gAdd (mBagIx (mVar 0) (mC (.int 1))) (mC (.int 1))) mNil))) (hTup 2 (hCons (hName 3) (hCons (hBag (mVar 0) (mC (.int 1))) hNil))))
    (kSeq (kIf (mB (m2 oGe (mVar 3) (m2 gPow (mC (.int 10)) (mC (.int 18))))) (kAsg (mVar 3) (hBag (mVar 0) (mC (.int 2)))) kSkip)
    (kAsg (m2 gMod (mCall gInt1 (mCons (m2 gAdd (m2 gAdd (m2 gMul (mBagIx (mVar 0) (mC (.int 3))) (mC (.int 38377))) (m2 gMul (m2 gMod (mCall gInt1 (mCons (mVar 3) mNil)) (mC (.int 2147483489))) (mC (.int 41143)))) (mC (.int 61))) mNil)) (mC (.int 2147483549))) (hBag (mVar 0) (mC (.int 3)))))) kSkip)
def pThen2 : DMs := (kSeq (kAsg (mTup (mCons (m2 gIx (mBagIx (mVar 0) (mC (.int 0))) (mBagIx (mVar 0) (mC (.int 1)))) (mCons (m2 gAdd (mBagIx (mVar 0) (mC (.int 1))) (mC (.int 1))) mNil))) (hTup 2 (hCons (hName 3) (hCons (hBag (mVar 0) (mC (.int 1))) hNil))))
    (kSeq (kIf (mB (m2 oGe (mVar 3) (m2 gPow (mC (.int 10)) (mC (.int 18))))) (kAsg (mVar 3) (hBag (mVar 0) (mC (.int 2)))) kSkip)
    (kAsg (m2 gMod (mCall gInt1 (mCons (m2 gAdd (m2 gAdd (m2 gMul (mBagIx (mVar 0) (mC (.int 3))) (mC (.int 38377))) (m2 gMul (m2 gMod (mCall gInt1 (mCons (mVar 3) mNil)) (mC (.int 2147483489))) (mC (.int 41143)))) (mC (.int 61))) mNil)) (mC (.int 2147483549))) (hBag (mVar 0) (mC (.int 3))))))
def pC2a : DM Bool := (mB (m2 gEq (mBagIx (mVar 0) (mC (.int 2))) (mC (.int 0))))
def pC2b : DM Bool := (mB (m2 oLt (mBagIx (mVar 0) (mC (.int 1))) (mCall gLen (mCons (mBagIx (mVar 0) (mC (.int 0))) mNil))))
def pS1 : DMs := (kAsg (m2 gAdd (mBagIx (mVar 0) (mC (.int 4))) (mC (.int 1))) (hBag (mVar 0) (mC (.int 4))))
theorem pull_eq : sLpull = fnD 5 (kSeq pS1 (kSeq pIf2 (kSeq pIf3 pTail))) := rfl
abbrev pSt (n : Int) (x y : Option Slo) (cells : List Int) (a b s c : Int) : Sta := ⟨[some (.dat .bag), some (.dat (.int n)), none, x, y], [.lst (cells.map Dt.int), .int a, .int b, .int s, .int c]⟩
theorem pull_rest {cells : List Int} {a b s c n : Int} {x : Option Slo} (ha : 0 ≤ a) (hal : a ≤ cells.length) (hb : 0 ≤ b) (hs : 0 ≤ s) (hs1 : s < 2147483549) (h0 : 0 < n) (h1 : n < 1073741824) :
    ∃ r st, kSeq pIf3 pTail (pSt n x none cells a b s c) = some (.rt (.int r), st) ∧ 0 ≤ r ∧ r < n ∧ BagOk st.bag := by
  by_cases h : 0 < b
  · have e1 : pC3 (pSt n x none cells a b s c) = some (true, pSt n x none cells a b s c) := by
      show some (decide (0 < b), pSt n x none cells a b s c) = _
      rw [decide_eq_true h]
    have e2 : pThen3 (pSt n x none cells a b s c) = some (.rt (.int (b % n)), pSt n x (some (.dat (.int (b % n)))) cells a (b.fdiv n) s c) := by
      unfold pThen3
      refine (kseq (s1 := pSt n x (some (.dat (.int (b % n)))) cells a (b.fdiv n) s c) ?_).trans rfl
      refine kasg (s1 := pSt n x none cells a b s c) (d := .tup [.int (b % n), .int (b.fdiv n)]) ?_ rfl
      have e3 := gModP (i := b) h0
      have e4 := gDivP (i := b) h0 h1
      have e5 : m2 gMod (mCall gInt1 (mCons (mBagIx (mVar 0) (mC (.int 2))) mNil)) (mVar 1) (pSt n x none cells a b s c) = some (.int (b % n), pSt n x none cells a b s c) := m2_eq (s1 := pSt n x none cells a b s c) (x := .int b) (y := .int n) rfl rfl e3
      have e6 : m2 gDiv (mBagIx (mVar 0) (mC (.int 2))) (mVar 1) (pSt n x none cells a b s c) = some (.int (b.fdiv n), pSt n x none cells a b s c) := m2_eq (s1 := pSt n x none cells a b s c) (x := .int b) (y := .int n) rfl rfl e4
      exact mtup (mcons e5 (mcons e6 rfl)) (by simp)
    refine ⟨b % n, pSt n x (some (.dat (.int (b % n)))) cells a (b.fdiv n) s c, ?_, Int.emod_nonneg _ (by omega), Int.emod_lt_of_pos _ h0, ?_⟩
    · show kSeq (kIf pC3 pThen3 kSkip) pTail _ = _
      unfold kSeq
      rw [kif_t e1, e2]
      rfl
    · exact ⟨cells, a, b.fdiv n, s, c, rfl, ha, hal, Int.fdiv_nonneg hb (by omega), hs, hs1⟩
  · have e1 : pC3 (pSt n x none cells a b s c) = some (false, pSt n x none cells a b s c) := by
      show some (decide (0 < b), pSt n x none cells a b s c) = _
      rw [decide_eq_false h]
    obtain ⟨r, s', sl, e2, r0, r1, t0, t1⟩ := pull_tail (cells := cells) (a := a) (b := b) (c := c) (x := x) (y := none) hs hs1 h0
    refine ⟨r, ⟨sl, [.lst (cells.map Dt.int), .int a, .int b, .int s', .int c]⟩, ?_, r0, r1, ?_⟩
    · show kSeq (kIf pC3 pThen3 kSkip) pTail _ = _
      rw [kseq (f := kIf pC3 pThen3 kSkip) (s1 := pSt n x none cells a b s c) (by rw [kif_f e1]; rfl)]
      exact e2
    · exact ⟨cells, a, b, s', c, rfl, ha, hal, hb, t0, t1⟩
theorem ati_nat {l : List Dt} {a : Int} (h0 : 0 ≤ a) (h1 : a < l.length) : atI l a = l[a.toNat]? := by
  unfold atI ixN
  rw [if_pos h0, if_pos h1]
  rfl
theorem pull_ok {bg : List Dt} (h : BagOk bg) {n : Int} (h0 : 0 < n) (h1 : n < 1073741824) : ∃ r bg', sLpull [.bag, .int n] bg = some (.int r, bg') ∧ 0 ≤ r ∧ r < n ∧ BagOk bg' := by
  obtain ⟨cells, a, b, s, c, rfl, ha, hal, hb, hs, hs1⟩ := h
  have key : ∃ x a' b' s', pIf2 (pSt n none none cells a b s (c + 1)) = some (.nx, pSt n x none cells a' b' s' (c + 1)) ∧ 0 ≤ a' ∧ a' ≤ cells.length ∧ 0 ≤ b' ∧ 0 ≤ s' ∧ s' < 2147483549 := by
    have c1 : pC2a (pSt n none none cells a b s (c + 1)) = some (b == 0, pSt n none none cells a b s (c + 1)) := rfl
    have c2 : pC2b (pSt n none none cells a b s (c + 1)) = some (decide (a < (cells.map Dt.int).length), pSt n none none cells a b s (c + 1)) := rfl
    by_cases hz : b = 0
    · subst hz
      have c1' : pC2a (pSt n none none cells a 0 s (c + 1)) = some (true, pSt n none none cells a 0 s (c + 1)) := rfl
      by_cases hl : a < cells.length
      · have c3 : mAndB pC2a pC2b (pSt n none none cells a 0 s (c + 1)) = some (true, pSt n none none cells a 0 s (c + 1)) := by
          rw [and_t c1', c2, decide_eq_true (by simpa using hl)]
        have hj : a.toNat < cells.length := by omega
        have e4 : gIx (.lst (cells.map Dt.int)) (.int a) = some (.int cells[a.toNat]) := by
          show atI (cells.map Dt.int) a = _
          rw [ati_nat ha (by simpa using hl)]
          simp [hj]
        generalize cells[a.toNat] = z at e4
        have e5 : (kAsg (mTup (mCons (m2 gIx (mBagIx (mVar 0) (mC (.int 0))) (mBagIx (mVar 0) (mC (.int 1)))) (mCons (m2 gAdd (mBagIx (mVar 0) (mC (.int 1))) (mC (.int 1))) mNil))) (hTup 2 (hCons (hName 3) (hCons (hBag (mVar 0) (mC (.int 1))) hNil)))) (pSt n none none cells a 0 s (c + 1)) = some (.nx, pSt n (some (.dat (.int z))) none cells (a + 1) 0 s (c + 1)) := by
          refine kasg (s1 := pSt n none none cells a 0 s (c + 1)) (d := .tup [.int z, .int (a + 1)]) ?_ rfl
          exact mtup (mcons (m2_eq (s1 := pSt n none none cells a 0 s (c + 1)) (s2 := pSt n none none cells a 0 s (c + 1)) (x := .lst (cells.map Dt.int)) (y := .int a) rfl rfl e4) rfl) (by simp)
        have key2 : ∃ b', (kIf (mB (m2 oGe (mVar 3) (m2 gPow (mC (.int 10)) (mC (.int 18))))) (kAsg (mVar 3) (hBag (mVar 0) (mC (.int 2)))) kSkip) (pSt n (some (.dat (.int z))) none cells (a + 1) 0 s (c + 1)) = some (.nx, pSt n (some (.dat (.int z))) none cells (a + 1) b' s (c + 1)) ∧ 0 ≤ b' := by
          by_cases hg : (1000000000000000000 : Int) ≤ z
          · refine ⟨z, ?_, by omega⟩
            rw [kif_t (s1 := pSt n (some (.dat (.int z))) none cells (a + 1) 0 s (c + 1))]
            · rfl
            · show some (decide ((1000000000000000000 : Int) ≤ z), _) = _
              rw [decide_eq_true hg]
          · refine ⟨0, ?_, by omega⟩
            rw [kif_f (s1 := pSt n (some (.dat (.int z))) none cells (a + 1) 0 s (c + 1))]
            · rfl
            · show some (decide ((1000000000000000000 : Int) ≤ z), _) = _
              rw [decide_eq_false hg]
        obtain ⟨b', e6, hb'⟩ := key2
        refine ⟨some (.dat (.int z)), a + 1, b', (s * 38377 + z % 2147483489 * 41143 + 61) % 2147483549, ?_, by omega, by omega, hb', Int.emod_nonneg _ (by decide), Int.emod_lt_of_pos _ (by decide)⟩
        show kIf (mAndB pC2a pC2b) pThen2 kSkip _ = _
        rw [kif_t c3]
        show kSeq _ (kSeq _ _) _ = _
        rw [kseq e5, kseq e6]
        rfl
      · refine ⟨none, a, 0, s, ?_, ha, hal, by decide, hs, hs1⟩
        have c3 : mAndB pC2a pC2b (pSt n none none cells a 0 s (c + 1)) = some (false, pSt n none none cells a 0 s (c + 1)) := by
          rw [and_t c1', c2, decide_eq_false (by simpa using hl)]
        show kIf (mAndB pC2a pC2b) pThen2 kSkip _ = _
        rw [kif_f c3]
        rfl
    · refine ⟨none, a, b, s, ?_, ha, hal, hb, hs, hs1⟩
      show kIf (mAndB pC2a pC2b) pThen2 kSkip _ = _
      rw [kif_f (and_f (by rw [c1, beq_eq_false_iff_ne.mpr hz]))]
      rfl
  obtain ⟨x, a', b', s', e1, k1, k2, k3, k4, k5⟩ := key
  obtain ⟨r, st, e2, r0, r1, hB⟩ := pull_rest (x := x) (c := c + 1) k1 k2 k3 k4 k5 h0 h1
  refine ⟨r, st.bag, ?_, r0, r1, hB⟩
  rw [pull_eq]
  have e0 : pS1 (pSt n none none cells a b s c) = some (.nx, pSt n none none cells a b s (c + 1)) := rfl
  show (kSeq pS1 (kSeq pIf2 (kSeq pIf3 pTail)) (pSt n none none cells a b s c)).bind _ = _
  rw [kseq e0, kseq e1, e2]
  rfl

theorem mapp {F : FD} {f : DM (List Dt)} {s s1 : Sta} {ds : List Dt} {d : Dt} {bg : List Dt} (h : f s = some (ds, s1)) (hF : F ds s1.bag = some (d, bg)) : mApp F f s = some (d, { s1 with bag := bg }) := by unfold mApp; rw [h, Option.bind_some, hF]; rfl
theorem kret {f : DM Dt} {s s1 : Sta} {d : Dt} (h : f s = some (d, s1)) : kRet f s = some (.rt d, s1) := by unfold kRet; rw [h]; rfl
theorem fnd {n : Nat} {f : DMs} {ds bg : List Dt} {d : Dt} {s1 : Sta} (h : f ⟨ds.map (fun d => some (.dat d)) ++ List.replicate (n - ds.length) none, bg⟩ = some (.rt d, s1)) : fnD n f ds bg = some (d, s1.bag) := by unfold fnD; rw [h]; rfl
theorem any_ok {bg : List Dt} (h : BagOk bg) {rows : List Dt} (h0 : 0 < rows.length) (h1 : rows.length < 1000000) : ∃ d bg', sLany [.bag, .lst rows] bg = some (d, bg') ∧ d ∈ rows ∧ BagOk bg' := by
  obtain ⟨r, bg', e, r0, r1, hb⟩ := pull_ok h (n := (rows.length : Nat)) (by omega) (by omega)
  have hj : r.toNat < rows.length := by omega
  refine ⟨rows[r.toNat], bg', ?_, List.getElem_mem hj, hb⟩
  refine fnd (s1 := ⟨[some (.dat .bag), some (.dat (.lst rows))], bg'⟩) (kret ?_)
  refine m2_eq (s1 := ⟨[some (.dat .bag), some (.dat (.lst rows))], bg⟩) (x := .lst rows) (y := .int r) rfl ?_ ?_
  · exact mapp (s1 := ⟨[some (.dat .bag), some (.dat (.lst rows))], bg⟩) (ds := [.bag, .int (rows.length : Nat)]) rfl e
  · show atI rows r = _
    rw [ati_nat r0 (by omega)]
    simp [hj]
theorem glen_str {z : Str} (h : z.length ≤ sizeLine) : gLen [.str z] = some (.int (z.length : Nat)) := by
  show (if z.length ≤ sizeLine then some (Dt.int (z.length : Nat)) else none) = _
  rw [if_pos h]
theorem gix_str {z : Str} {i : Int} {c : Nat} (h : z.length ≤ sizeLine) (e : atI z.cps.toList i = some c) : gIx (.str z) (.int i) = some (.str ⟨#[c]⟩) := by
  show (if z.length ≤ sizeLine then (atI z.cps.toList i).bind fun c => some (Dt.str ⟨#[c]⟩) else none) = _
  rw [if_pos h, e]
  rfl
theorem any_str {bg : List Dt} (h : BagOk bg) {z : Str} (h0 : 0 < z.length) (h1 : z.length < 1000000) : ∃ c bg', sLany [.bag, .str z] bg = some (.str ⟨#[c]⟩, bg') ∧ c ∈ z.cps.toList ∧ BagOk bg' := by
  obtain ⟨r, bg', e, r0, r1, hb⟩ := pull_ok h (n := (z.length : Nat)) (by omega) (by omega)
  have hl : z.cps.toList.length = z.length := by simp [Str.length]
  have hj : r.toNat < z.cps.toList.length := by omega
  refine ⟨z.cps.toList[r.toNat], bg', ?_, List.getElem_mem hj, hb⟩
  have hz : z.length ≤ sizeLine := Nat.le_trans (Nat.le_of_lt h1) (by decide)
  refine fnd (s1 := ⟨[some (.dat .bag), some (.dat (.str z))], bg'⟩) (kret ?_)
  refine m2_eq (s1 := ⟨[some (.dat .bag), some (.dat (.str z))], bg⟩) (x := .str z) (y := .int r) rfl ?_ ?_
  · refine mapp (s1 := ⟨[some (.dat .bag), some (.dat (.str z))], bg⟩) (ds := [.bag, .int (z.length : Nat)]) ?_ e
    refine mcons (s1 := ⟨[some (.dat .bag), some (.dat (.str z))], bg⟩) rfl (mcons (s1 := ⟨[some (.dat .bag), some (.dat (.str z))], bg⟩) ?_ rfl)
    unfold mCall
    show (gLen [.str z]).bind _ = _
    rw [glen_str hz]
    rfl
  · have : atI z.cps.toList r = some z.cps.toList[r.toNat] := by
      unfold atI ixN
      rw [if_pos r0, if_pos (by omega)]
      show z.cps.toList[r.toNat]? = _
      simp [hj]
    exact gix_str hz this
theorem near_ok {bg : List Dt} (h : BagOk bg) : ∃ i bg', sLnear [.bag] bg = some (.int i, bg') ∧ -2 ≤ i ∧ i ≤ 3 ∧ BagOk bg' := by
  obtain ⟨d, bg', e, hd, hb⟩ := any_ok h (rows := [.int 0, .int 1, .int 1, .int 2, .int 3, .int (0 - 1), .int (0 - 2)]) (by simp) (by simp)
  have hi : ∃ i, d = .int i ∧ -2 ≤ i ∧ i ≤ 3 := by
    simp only [List.mem_cons, List.not_mem_nil, or_false] at hd
    rcases hd with rfl | rfl | rfl | rfl | rfl | rfl | rfl <;> exact ⟨_, rfl, by decide, by decide⟩
  obtain ⟨i, rfl, i0, i1⟩ := hi
  refine ⟨i, bg', ?_, i0, i1, hb⟩
  refine fnd (s1 := ⟨[some (.dat .bag)], bg'⟩) (kret ?_)
  exact mapp (s1 := ⟨[some (.dat .bag)], bg⟩) (ds := [.bag, .lst [.int 0, .int 1, .int 1, .int 2, .int 3, .int (0 - 1), .int (0 - 2)]]) rfl e
/-! ### comprehensions -/
theorem comp_all {sl0 : List (Option Slo)} {h : Dt → Sta → Option Sta} {t : DM Bool} {e : DM Dt} (Pd Pr : Dt → Prop)
    (hstep : ∀ d bg, Pd d → BagOk bg → ∃ s1 s2 r s3, h d ⟨sl0, bg⟩ = some s1 ∧ t s1 = some (true, s2) ∧ e s2 = some (r, s3) ∧ Pr r ∧ BagOk s3.bag) :
    ∀ (l : List Dt) (bg : List Dt), (∀ d ∈ l, Pd d) → BagOk bg → ∃ rs bg', compD sl0 h t e l bg = some (rs, bg') ∧ rs.length = l.length ∧ (∀ r ∈ rs, Pr r) ∧ BagOk bg'
  | [], bg, _, hb => ⟨[], bg, rfl, rfl, by simp, hb⟩
  | d :: l, bg, hp, hb => by
    obtain ⟨s1, s2, r, s3, e1, e2, e3, hr, hb3⟩ := hstep d bg (hp d (List.mem_cons_self ..)) hb
    obtain ⟨rs, bg', e4, hl, hrs, hb'⟩ := comp_all Pd Pr hstep l s3.bag (fun z hz => hp z (List.mem_cons_of_mem _ hz)) hb3
    refine ⟨r :: rs, bg', ?_, by simp [hl], ?_, hb'⟩
    · unfold compD
      rw [e1, Option.bind_some, e2, Option.bind_some]
      dsimp only
      rw [if_pos rfl, e3, Option.bind_some, e4]
      rfl
    · intro z hz
      rcases List.mem_cons.mp hz with rfl | hz
      · exact hr
      · exact hrs z hz
theorem comp_map {sl0 : List (Option Slo)} {h : Dt → Sta → Option Sta} {t : DM Bool} {e : DM Dt} (g : Dt → Dt) {bg : List Dt} :
    ∀ (l : List Dt), (∀ d ∈ l, ∃ s1 s2 s3, h d ⟨sl0, bg⟩ = some s1 ∧ t s1 = some (true, s2) ∧ e s2 = some (g d, s3) ∧ s3.bag = bg) → compD sl0 h t e l bg = some (l.map g, bg)
  | [], _ => rfl
  | d :: l, hs => by
    obtain ⟨s1, s2, s3, e1, e2, e3, e4⟩ := hs d (List.mem_cons_self ..)
    unfold compD
    rw [e1, Option.bind_some, e2, Option.bind_some]
    dsimp only
    rw [if_pos rfl, e3, Option.bind_some]
    dsimp only
    rw [e4, comp_map g l fun z hz => hs z (List.mem_cons_of_mem _ hz)]
    rfl
theorem mcomp {is : List Nat} {f : DM (List Dt)} {h : Dt → Sta → Option Sta} {t : DM Bool} {e : DM Dt} {s s1 : Sta} {l rs bg' : List Dt} (h1 : f s = some (l, s1)) (hl : l.length ≤ 100000) (h2 : compD (wipeS (s1.sl.map datOnly) is) h t e l s1.bag = some (rs, bg')) :
    mComp is f h t e s = some (.lst rs, { s1 with bag := bg' }) := by
  unfold mComp
  rw [h1, Option.bind_some]
  dsimp only
  rw [if_pos hl, h2]
  rfl
/-! ### names -/
def letter (c : Nat) : Prop := 97 ≤ c ∧ c ≤ 122
def resv : List Str := ["and", "found", "key", "next", "not", "or", "own", "set", "true", "where"]
def Low (z : Str) : Prop := ∀ c ∈ z.cps.toList, letter c
structure NameOk (z : Str) : Prop where
  low : Low z
  pos : 1 ≤ z.length
  few : z.length ≤ 6
  free : z ∉ resv
theorem low_app {a b : Str} (ha : Low a) (hb : Low b) : Low (a ++ b) := by
  intro c hc
  have : (a ++ b).cps.toList = a.cps.toList ++ b.cps.toList := by show (a.cps ++ b.cps).toList = _; simp
  rw [this, List.mem_append] at hc
  exact hc.elim (ha c) (hb c)
theorem len_app {a b : Str} : (a ++ b).length = a.length + b.length := by show (a.cps ++ b.cps).size = _; simp [Str.length]
theorem low_nil : Low "" := fun c hc => by
  have e : ("" : Str).cps.toList = [] := rfl
  rw [e] at hc
  cases hc
theorem low_join {l : List Str} (h : ∀ z ∈ l, Low z) : Low (Str.join "" l) ∧ (Str.join "" l).length = (l.map (·.length)).sum := by
  induction l with
  | nil => exact ⟨low_nil, rfl⟩
  | cons a l ih =>
    obtain ⟨h1, h2⟩ := ih fun z hz => h z (List.mem_cons_of_mem _ hz)
    cases l with
    | nil =>
      exact ⟨h a (List.mem_cons_self ..), by show a.length = _; simp⟩
    | cons b l =>
      have e : Str.join "" (a :: b :: l) = a ++ "" ++ Str.join "" (b :: l) := rfl
      rw [e]
      refine ⟨low_app (low_app (h a (List.mem_cons_self ..)) low_nil) h1, ?_⟩
      have e2 : ((a :: b :: l).map (·.length)).sum = a.length + ((b :: l).map (·.length)).sum := by simp
      rw [len_app, len_app, h2, e2]
      show a.length + 0 + _ = _
      omega
theorem low_cut {z : Str} (h : Low z) (lo hi : Option Int) : Low (cutS z lo hi) := by
  intro c hc
  apply h c
  have hc' : c ∈ ((z.cps.toList.drop (HT.sIx z.length 0 lo)).take (HT.sIx z.length z.length hi - HT.sIx z.length 0 lo)) := by
    unfold cutS at hc; simpa using hc
  exact List.mem_of_mem_drop (List.mem_of_mem_take hc')
theorem len_cut {z : Str} {i : Nat} (h : i ≤ z.length) : (cutS z none (some (i : Nat))).length + (cutS z (some (i : Nat)) none).length = z.length := by
  have hz : z.cps.toList.length = z.length := by simp [Str.length]
  unfold cutS Str.length at *
  rw [HT.sIx_nat, HT.sIx_nat, HT.sIx_none, HT.sIx_none]
  simp
  omega

def lowB (z : Str) : Bool := z.cps.toList.all fun c => decide (97 ≤ c) && decide (c ≤ 122)
def nameB (z : Str) : Bool := lowB z && decide (1 ≤ z.length) && decide (z.length ≤ 6) && !resv.contains z
theorem lowB_iff {z : Str} : lowB z = true ↔ Low z := by
  unfold lowB Low letter
  rw [List.all_eq_true]
  constructor
  · intro h c hc
    have := h c hc
    rw [Bool.and_eq_true] at this
    exact ⟨of_decide_eq_true this.1, of_decide_eq_true this.2⟩
  · intro h c hc
    rw [Bool.and_eq_true]
    exact ⟨decide_eq_true (h c hc).1, decide_eq_true (h c hc).2⟩
theorem nameB_iff {z : Str} : nameB z = true ↔ NameOk z := by
  unfold nameB
  simp only [Bool.and_eq_true, lowB_iff, decide_eq_true_eq, Bool.not_eq_true', List.contains_eq_mem, decide_eq_false_iff_not]
  exact ⟨fun h => ⟨h.1.1.1, h.1.1.2, h.1.2, h.2⟩, fun h => ⟨⟨⟨h.low, h.pos⟩, h.few⟩, h.free⟩⟩
theorem resv_q : ∀ r ∈ resv, nameB (r ++ "q") = true := by decide +kernel
def abc : Str := "abcdefghijklmnopqrstuvwxyz"
theorem low_abc : Low abc := lowB_iff.mp (by decide +kernel)
theorem len_abc : abc.length = 26 := by decide +kernel
theorem txts_map : ∀ (ss : List Str), gJoin.txts (ss.map Dt.str) = some ss
  | [] => rfl
  | s :: r => by
    show (gJoin.txts (r.map Dt.str)).bind _ = _
    rw [txts_map r]
    rfl
theorem strs_of {Pz : Str → Prop} : ∀ {rs : List Dt}, (∀ r ∈ rs, ∃ z, r = .str z ∧ Pz z) → ∃ ss : List Str, rs = ss.map Dt.str ∧ ∀ z ∈ ss, Pz z
  | [], _ => ⟨[], rfl, by simp⟩
  | r :: rs, h => by
    obtain ⟨z, rfl, hz⟩ := h r (List.mem_cons_self ..)
    obtain ⟨ss, rfl, hs⟩ := strs_of (rs := rs) fun x hx => h x (List.mem_cons_of_mem _ hx)
    exact ⟨z :: ss, rfl, fun y hy => by rcases List.mem_cons.mp hy with rfl | hy; exact hz; exact hs y hy⟩
theorem in_resv (z : Str) : gIn (.str z) (.lst (resv.map Dt.str)) = some (.bl (resv.any fun r => r == z)) := by
  show (if (flatD (.str z) && (resv.map Dt.str).all flatD) = true then some (Dt.bl ((resv.map Dt.str).any fun d => sameD d (.str z))) else none) = _
  rw [if_pos (show (flatD (.str z) && (resv.map Dt.str).all flatD) = true from rfl), List.any_map]
  rfl
theorem rng_mem {lo : Int} {n : Nat} {d : Dt} (h : d ∈ rngD lo n) : ∃ i : Nat, i < n ∧ d = .int (lo + (i : Nat)) := by
  unfold rngD at h
  obtain ⟨i, hi, rfl⟩ := List.mem_map.mp h
  exact ⟨i, List.mem_range.mp hi, rfl⟩
theorem gadd_str {a b : Str} (h : a.length + b.length ≤ 1000) : gAdd (.str a) (.str b) = some (.str (a ++ b)) := by
  show (if a.length + b.length ≤ sizeLine then some (Dt.str (a ++ b)) else none) = _
  rw [if_pos (Nat.le_trans h (by decide))]
theorem gsl_str {z : Str} {lo hi : Option Int} (h : z.length ≤ 1000) : gSl (.str z) lo hi = some (.str (cutS z lo hi)) := by
  show (if z.length ≤ sizeLine then some (Dt.str (cutS z lo hi)) else none) = _
  rw [if_pos (Nat.le_trans h (by decide))]
theorem msl {f : DM Dt} {g h : DM (Option Int)} {s s1 s2 s3 : Sta} {x d : Dt} {lo hi : Option Int} (h1 : f s = some (x, s1)) (h2 : g s1 = some (lo, s2)) (h3 : h s2 = some (hi, s3)) (h4 : gSl x lo hi = some d) : mSl f g h s = some (d, s3) := by
  unfold mSl
  rw [h1, Option.bind_some, h2, Option.bind_some, h3, Option.bind_some]
  dsimp only
  rw [h4]
  rfl
theorem mrng1 {f : DM (List Dt)} {s s1 : Sta} {j : Int} (h : f s = some ([.int j], s1)) (h0 : 0 ≤ j) (h1 : j < 1000000) : wRng1 f s = some (rngD 0 j.toNat, s1) := by
  unfold wRng1
  rw [h, Option.bind_some]
  dsimp only
  rw [if_pos]
  unfold bRng
  rw [decide_eq_true (by omega), decide_eq_true (by omega)]
  rfl
theorem rng_len {lo : Int} {n : Nat} : (rngD lo n).length = n := by simp [rngD]
theorem mm1 {g : Str → Dt → Option Dt} {f1 f2 : DM Dt} {s s1 s2 : Sta} {a : Str} {y d : Dt} (h1 : f1 s = some (.str a, s1)) (h2 : f2 s1 = some (y, s2)) (h3 : g a y = some d) : mM1 g f1 f2 s = some (d, s2) := by
  unfold mM1
  rw [h1, Option.bind_some]
  dsimp only
  rw [h2, Option.bind_some, h3]
  rfl
theorem gjoin_ok {ss : List Str} (h : (ss.map (·.length)).sum ≤ 1000) : gJoin "" (.lst (ss.map Dt.str)) = some (.str (Str.join "" ss)) := by
  show (gJoin.txts (ss.map Dt.str)).bind _ = _
  rw [txts_map, Option.bind_some, if_pos]
  · rw [TL.join_eq]
  · have e : ("" : Str).length = 0 := rfl
    rw [e]
    omega
theorem sum_ones : ∀ {ss : List Str}, (∀ z ∈ ss, z.length = 1) → (ss.map (·.length)).sum = ss.length
  | [], _ => rfl
  | s :: r, h => by
    rw [List.map_cons, List.sum_cons, h s (List.mem_cons_self ..), sum_ones fun z hz => h z (List.mem_cons_of_mem _ hz), List.length_cons]
    omega
theorem new_names {bg : List Dt} (h : BagOk bg) {m : Nat} (h0 : m ≤ 26) : ∃ (ns : List Str) (bg' : List Dt), sLnew_names [.bag, .int m] bg = some (.lst (ns.map Dt.str), bg') ∧ ns.length = m ∧ (∀ z ∈ ns, NameOk z) ∧ BagOk bg' := by
  obtain ⟨r, bg1, e1, r0, r1, hb1⟩ := pull_ok h (n := 5) (by decide) (by decide)
  -- the stem
  obtain ⟨rs, bg2, e2, l2, p2, hb2⟩ := comp_all (sl0 := [some (.dat .bag), some (.dat (.int m)), some (.dat (.str abc)), none, none, none, none, none, none]) (h := hName 7) (t := mYes) (e := mApp sLany (mCons (mVar 0) (mCons (mVar 2) mNil))) (fun _ => True) (fun d => ∃ z, d = .str z ∧ (Low z ∧ z.length = 1)) (fun d bg _ hb => by
    obtain ⟨c, bg', e, hc, hb'⟩ := any_str hb (z := abc) (by rw [len_abc]; decide) (by rw [len_abc]; decide)
    refine ⟨_, _, .str ⟨#[c]⟩, ⟨[some (.dat .bag), some (.dat (.int m)), some (.dat (.str abc)), none, none, none, none, some (.dat d), none], bg'⟩, rfl, rfl, ?_, ⟨_, rfl, fun k hk => ?_, rfl⟩, hb'⟩
    · exact mapp (s1 := ⟨[some (.dat .bag), some (.dat (.int m)), some (.dat (.str abc)), none, none, none, none, some (.dat d), none], bg⟩) rfl e
    · have : k = c := by simpa using hk
      rw [this]
      exact low_abc c hc) (rngD 0 r.toNat) bg1 (fun _ _ => trivial) hb1
  rw [rng_len] at l2
  obtain ⟨ss, rfl, hss⟩ := strs_of p2
  rw [List.length_map] at l2
  have hj := low_join (l := ss) fun z hz => (hss z hz).1
  rw [sum_ones fun z hz => (hss z hz).2, l2] at hj
  have hjn := gjoin_ok (ss := ss) (by rw [sum_ones fun z hz => (hss z hz).2, l2]; omega)
  generalize Str.join "" ss = stem at hj hjn
  obtain ⟨hlow, hlen⟩ := hj
  have hlen4 : stem.length ≤ 4 := by omega
  obtain ⟨at_, bg3, e3, a0, a1, hb3⟩ := pull_ok hb2 (n := (stem.length : Nat) + 1) (by omega) (by omega)
  obtain ⟨fi, bg4, e4, f0, f1, hb4⟩ := pull_ok hb3 (n := 26) (by decide) (by decide)
  obtain ⟨i, rfl⟩ : ∃ i : Nat, at_ = (i : Int) := ⟨at_.toNat, by omega⟩
  have hi : i ≤ stem.length := by omega
  -- the rows
  obtain ⟨rs4, bg5, e5, l5, p5, hb5⟩ := comp_all (sl0 := [some (.dat .bag), some (.dat (.int m)), some (.dat (.str abc)), some (.dat (.str stem)), none, some (.dat (.int (i : Nat))), some (.dat (.int fi)), none, none]) (h := hName 7) (t := mYes)
    (e := m2 gAdd (m2 gAdd (mSl (mVar 3) mNoP (mPart (mVar 5))) (m2 gIx (mVar 2) (m2 gSub0 (m2 gAdd (mVar 6) (mVar 7)) (mC (.int 26))))) (mSl (mVar 3) (mPart (mVar 5)) mNoP))
    (fun d => ∃ k : Nat, k < m ∧ d = .int (0 + (k : Nat))) (fun d => ∃ z, d = .str z ∧ (Low z ∧ 1 ≤ z.length ∧ z.length ≤ 5)) (fun d bg hd hb => by
    obtain ⟨k, hk, rfl⟩ := hd
    have hc : ∃ c, atI abc.cps.toList (fi + (0 + (k : Nat)) - 26) = some c ∧ c ∈ abc.cps.toList := by
      have hl : abc.cps.toList.length = 26 := by rw [← len_abc]; simp [Str.length]
      have hx : ∃ j, ixN abc.cps.toList.length (fi + (0 + (k : Nat)) - 26) = some j ∧ j < 26 := by
        rw [hl]
        unfold ixN
        by_cases c0 : 0 ≤ fi + (0 + (k : Nat)) - 26
        · rw [if_pos c0, if_pos (by omega)]
          exact ⟨_, rfl, by omega⟩
        · rw [if_neg c0, if_pos (by omega)]
          exact ⟨_, rfl, by omega⟩
      obtain ⟨j, ej, hj⟩ := hx
      refine ⟨abc.cps.toList[j]'(by omega), ?_, List.getElem_mem _⟩
      unfold atI
      rw [ej]
      show abc.cps.toList[j]? = _
      simp [hl, hj]
    obtain ⟨c, ec, hc⟩ := hc
    have hcut := len_cut (z := stem) hi
    have lc : (⟨#[c]⟩ : Str).length = 1 := rfl
    let s7 : Sta := ⟨[some (.dat .bag), some (.dat (.int m)), some (.dat (.str abc)), some (.dat (.str stem)), none, some (.dat (.int (i : Nat))), some (.dat (.int fi)), some (.dat (.int (0 + (k : Nat)))), none], bg⟩
    refine ⟨s7, s7, .str (cutS stem none (some (i : Nat)) ++ ⟨#[c]⟩ ++ cutS stem (some (i : Nat)) none), s7, rfl, rfl, ?_, ⟨_, rfl, ?_, ?_, ?_⟩, hb⟩
    · refine m2_eq (s1 := s7) (x := .str (cutS stem none (some (i : Nat)) ++ ⟨#[c]⟩)) (y := .str (cutS stem (some (i : Nat)) none)) ?_ ?_ ?_
      · refine m2_eq (s1 := s7) (x := .str (cutS stem none (some (i : Nat)))) (y := .str ⟨#[c]⟩) ?_ ?_ ?_
        · exact msl (s1 := s7) (s2 := s7) (x := .str stem) rfl rfl rfl (gsl_str (by omega))
        · exact m2_eq (s1 := s7) (x := .str abc) (y := .int (fi + (0 + (k : Nat)) - 26)) rfl rfl (gix_str (by rw [len_abc]; decide) ec)
        · exact gadd_str (by rw [lc]; omega)
      · exact msl (s1 := s7) (s2 := s7) (x := .str stem) rfl rfl rfl (gsl_str (by omega))
      · exact gadd_str (by rw [len_app, lc]; omega)
    · refine low_app (low_app (low_cut hlow _ _) fun y hy => ?_) (low_cut hlow _ _)
      have : y = c := by simpa using hy
      rw [this]
      exact low_abc c hc
    · rw [len_app, len_app, lc]; omega
    · rw [len_app, len_app, lc]; omega) (rngD 0 m) bg4 (fun d hd => rng_mem hd) hb4
  rw [rng_len] at l5
  obtain ⟨rows, rfl, hrows⟩ := strs_of p5
  rw [List.length_map] at l5
  -- no reserved ones
  obtain ⟨rs6, bg6, e6, l6, p6, hb6⟩ := comp_all (sl0 := [some (.dat .bag), some (.dat (.int m)), some (.dat (.str abc)), some (.dat (.str stem)), some (.dat (.lst (rows.map Dt.str))), some (.dat (.int (i : Nat))), some (.dat (.int fi)), none, none]) (h := hName 8) (t := mYes)
    (e := mIf (mB (m2 gIn (mVar 8) (mApp sLreserved mNil))) (m2 gAdd (mVar 8) (mC (.str "q"))) (mVar 8))
    (fun d => ∃ z, d = .str z ∧ (Low z ∧ 1 ≤ z.length ∧ z.length ≤ 5)) (fun d => ∃ z, d = .str z ∧ NameOk z) (fun d bg hd hb => by
    obtain ⟨z, rfl, hz, z1, z5⟩ := hd
    let s8 : Sta := ⟨[some (.dat .bag), some (.dat (.int m)), some (.dat (.str abc)), some (.dat (.str stem)), some (.dat (.lst (rows.map Dt.str))), some (.dat (.int (i : Nat))), some (.dat (.int fi)), none, some (.dat (.str z))], bg⟩
    have hin : mB (m2 gIn (mVar 8) (mApp sLreserved mNil)) s8 = some (resv.any (fun r => r == z), s8) := by
      unfold mB
      rw [m2_eq (s1 := s8) (s2 := s8) (x := .str z) (y := .lst (resv.map Dt.str)) rfl rfl (in_resv z)]
      rfl
    by_cases hr : z ∈ resv
    · have hx : resv.any (fun r => r == z) = true := List.any_eq_true.mpr ⟨z, hr, by simp⟩
      refine ⟨s8, s8, .str (z ++ "q"), s8, rfl, rfl, ?_, ⟨_, rfl, nameB_iff.mp (resv_q z hr)⟩, hb⟩
      unfold mIf
      rw [hin, hx]
      show m2 gAdd (mVar 8) (mC (.str "q")) s8 = _
      exact m2_eq (s1 := s8) (s2 := s8) (x := .str z) (y := .str "q") rfl rfl (gadd_str (by show z.length + 1 ≤ 1000; omega))
    · have hx : resv.any (fun r => r == z) = false := by
        rw [List.any_eq_false]
        intro r hr' e
        rw [beq_iff_eq] at e
        subst e
        exact hr hr'
      refine ⟨s8, s8, .str z, s8, rfl, rfl, ?_, ⟨_, rfl, ⟨hz, z1, by omega, hr⟩⟩, hb⟩
      unfold mIf
      rw [hin, hx]
      rfl) (rows.map Dt.str) bg5 (fun d hd => by
        obtain ⟨z, hz, rfl⟩ := List.mem_map.mp hd
        exact ⟨z, rfl, hrows z hz⟩) hb5
  rw [List.length_map, l5] at l6
  obtain ⟨ns, rfl, hns⟩ := strs_of p6
  rw [List.length_map] at l6
  refine ⟨ns, bg6, ?_, l6, hns, hb6⟩
  unfold sLnew_names
  let t1 : Sta := ⟨[some (.dat .bag), some (.dat (.int m)), some (.dat (.str abc)), none, none, none, none, none, none], bg⟩
  let t2 : Sta := ⟨[some (.dat .bag), some (.dat (.int m)), some (.dat (.str abc)), some (.dat (.str stem)), none, none, none, none, none], bg2⟩
  let t3 : Sta := ⟨[some (.dat .bag), some (.dat (.int m)), some (.dat (.str abc)), some (.dat (.str stem)), none, some (.dat (.int (i : Nat))), some (.dat (.int fi)), none, none], bg4⟩
  let t4 : Sta := ⟨[some (.dat .bag), some (.dat (.int m)), some (.dat (.str abc)), some (.dat (.str stem)), some (.dat (.lst (rows.map Dt.str))), some (.dat (.int (i : Nat))), some (.dat (.int fi)), none, none], bg5⟩
  refine fnd (s1 := { t4 with bag := bg6 }) ?_
  show kSeq _ _ ⟨[some (.dat .bag), some (.dat (.int m)), none, none, none, none, none, none, none], bg⟩ = _
  rw [kseq (s1 := t1) rfl]
  rw [kseq (s1 := t2)]
  · rw [kseq (s1 := t3)]
    · rw [kseq (s1 := t4)]
      · exact kret (mcomp (s1 := t4) rfl (by rw [List.length_map, l5]; omega) e6)
      · refine kasg (s1 := { t3 with bag := bg5 }) (d := .lst (rows.map Dt.str)) ?_ rfl
        refine mcomp (s1 := t3) (l := rngD 0 m) ?_ (by rw [rng_len]; omega) e5
        exact mrng1 (j := (m : Nat)) rfl (by omega) (by omega)
    · refine kasg (s1 := { t2 with bag := bg4 }) (d := .tup [.int (i : Nat), .int fi]) ?_ rfl
      refine mtup (mcons (s1 := { t2 with bag := bg3 }) ?_ (mcons (s1 := { t2 with bag := bg4 }) ?_ rfl))
      · refine mapp (s1 := t2) (ds := [.bag, .int ((stem.length : Nat) + 1)]) ?_ e3
        refine mcons (s1 := t2) rfl (mcons (s1 := t2) ?_ rfl)
        refine m2_eq (s1 := t2) (x := .int (stem.length : Nat)) (y := .int 1) ?_ rfl rfl
        unfold mCall
        show (gLen [.str stem]).bind _ = _
        rw [glen_str (Nat.le_trans hlen4 (by decide))]
        rfl
      · exact mapp (s1 := { t2 with bag := bg3 }) (ds := [.bag, .int 26]) rfl e4
  · refine kasg (s1 := { t1 with bag := bg2 }) (d := .str stem) ?_ rfl
    refine mm1 (s1 := t1) (y := .lst (ss.map Dt.str)) rfl ?_ hjn
    refine mcomp (s1 := { t1 with bag := bg1 }) (l := rngD 0 r.toNat) ?_ (by rw [rng_len]; omega) e2
    refine mrng1 ?_ r0 (by omega)
    exact mcons (s1 := { t1 with bag := bg1 }) (mapp (s1 := t1) (ds := [.bag, .int 5]) rfl e1) rfl

/-! ### like: the same thing is like itself -/
def okD : Nat → Dt → Bool
  | 0, _ => false
  | _, .bag => false
  | _, .dic _ _ => false
  | _, .ins _ _ _ => false
  | _, .err _ _ _ => false
  | n + 1, .tup l => decide (l.length ≤ 1000) && l.all (okD n)
  | n + 1, .lst l => decide (l.length ≤ 1000) && l.all (okD n)
  | _ + 1, .str z => z.cps.all (· < 0x110000)
  | _ + 1, _ => true
theorem zip_self {l : List Dt} {d : Dt} (h : d ∈ zipD l l) : ∃ x, x ∈ l ∧ d = .tup [x, x] := by
  obtain ⟨i, hi, e⟩ := List.getElem_of_mem h
  have e' : (zipD l l)[i]? = some d := by rw [← e]; exact List.getElem?_eq_getElem hi
  obtain ⟨x, y, h1, h2, rfl⟩ := zip_get l l i d e'
  rw [h1] at h2
  cases h2
  exact ⟨x, List.mem_of_getElem? h1, rfl⟩
theorem bools_true : ∀ (l : List Dt), bools (l.map fun _ => .bl true) = some (l.map fun _ => true)
  | [] => rfl
  | d :: l => by
    show (bools (l.map fun _ => .bl true)).bind _ = _
    rw [bools_true l]
    rfl
theorem all_true : ∀ (l : List Dt), ((l.map fun _ => true).all id) = true
  | [] => rfl
  | d :: l => by
    show (id true && (l.map fun _ => true).all id) = true
    rw [all_true l]
    rfl
theorem gall_true (l : List Dt) : gAll [.lst (l.map fun _ => .bl true)] = some (.bl true) := by
  show (bools (l.map fun _ => .bl true)).bind _ = _
  rw [bools_true, Option.bind_some, all_true]
theorem like_seq {R : FD} {l : List Dt} {d : Dt} {bg : List Dt} (hd : d = .lst l ∨ d = .tup l) (hl : l.length ≤ 1000) (hR : ∀ x ∈ l, R [x, x] bg = some (.bl true, bg)) : sLlikeB R [d, d] bg = some (.bl true, bg) := by
  let s2 : Sta := ⟨[some (.dat d), some (.dat d), some (.dat (.bl true)), none, none], bg⟩
  have hlen : gLen [d] = some (.int (l.length : Nat)) := by rcases hd with rfl | rfl <;> rfl
  have e1 : m2 gEq (mCall gLen (mCons (mVar 0) mNil)) (mCall gLen (mCons (mVar 1) mNil)) s2 = some (.bl true, s2) := by
    refine m2_eq (s1 := s2) (x := .int (l.length : Nat)) (y := .int (l.length : Nat)) ?_ ?_ ?_
    · unfold mCall; show (gLen [d]).bind _ = _; rw [hlen]; rfl
    · unfold mCall; show (gLen [d]).bind _ = _; rw [hlen]; rfl
    · rw [eqII, beq_self_eq_true]
  have e2 : mComp [3, 4] (wZip (mCons (mVar 0) (mCons (mVar 1) mNil))) (hTup 2 (hCons (hName 3) (hCons (hName 4) hNil))) mYes (mApp R (mCons (mVar 3) (mCons (mVar 4) mNil))) s2 = some (.lst ((zipD l l).map fun _ => .bl true), s2) := by
    refine mcomp (s1 := s2) (l := zipD l l) ?_ (by rw [zip_len]; omega) (comp_map (fun _ => .bl true) _ fun z hz => ?_)
    · unfold wZip
      rcases hd with rfl | rfl <;> rfl
    · obtain ⟨x, hx, rfl⟩ := zip_self hz
      let s3 : Sta := ⟨[some (.dat d), some (.dat d), some (.dat (.bl true)), some (.dat x), some (.dat x)], bg⟩
      exact ⟨s3, s3, s3, rfl, rfl, mapp (s1 := s3) (ds := [x, x]) rfl (hR x hx), rfl⟩
  have e3 : mAndV (mVar 2) (mAndV (m2 gEq (mCall gLen (mCons (mVar 0) mNil)) (mCall gLen (mCons (mVar 1) mNil))) (mCall gAll (mCons (mComp [3, 4] (wZip (mCons (mVar 0) (mCons (mVar 1) mNil))) (hTup 2 (hCons (hName 3) (hCons (hName 4) hNil))) mYes (mApp R (mCons (mVar 3) (mCons (mVar 4) mNil)))) mNil))) s2 = some (.bl true, s2) := by
    show mAndV (m2 gEq (mCall gLen (mCons (mVar 0) mNil)) (mCall gLen (mCons (mVar 1) mNil))) _ s2 = _
    unfold mAndV
    rw [e1, Option.bind_some]
    show mCall gAll _ s2 = _
    unfold mCall
    rw [mcons (s1 := s2) (s2 := s2) e2 rfl, Option.bind_some]
    show (gAll [.lst ((zipD l l).map fun _ => .bl true)]).bind _ = _
    rw [gall_true]
    rfl
  unfold sLlikeB
  refine fnd (s1 := s2) ?_
  have e4 := kret e3
  rcases hd with rfl | rfl
  · unfold kSeq
    rw [kif_t (s1 := ⟨[some (.dat (.lst l)), some (.dat (.lst l)), none, none, none], bg⟩) rfl]
    show (kSeq _ _ _).bind _ = _
    rw [kseq (s1 := s2) rfl, e4]
    rfl
  · unfold kSeq
    rw [kif_t (s1 := ⟨[some (.dat (.tup l)), some (.dat (.tup l)), none, none, none], bg⟩) rfl]
    show (kSeq _ _ _).bind _ = _
    rw [kseq (s1 := s2) rfl, e4]
    rfl
abbrev cpOk (z : Str) : Bool := z.cps.all (· < 0x110000)
theorem cp_low {z : Str} (h : Low z) : cpOk z = true := by
  unfold cpOk
  rw [← Array.all_toList, List.all_eq_true]
  intro c hc
  have := h c hc
  unfold letter at this
  exact decide_eq_true (by omega)
theorem eqOk_str {a : Str} (h : cpOk a = true) : eqOk (.str a) = true := by
  show (true && (PyData.canLay0 (.str a) && decide (PyData.depth (.str a) ≤ 64))) = true
  have e : PyData.canLay0 (.str a) = true := h
  rw [e]
  rfl
theorem eqSS {a b : Str} (ha : cpOk a = true) (hb : cpOk b = true) : gEq (.str a) (.str b) = some (.bl (a == b)) := by
  unfold gEq
  rw [eqOk_str ha, eqOk_str hb]
  rfl
theorem like_non {R : FD} (bg : List Dt) : sLlikeB R [.non, .non] bg = some (.bl true, bg) := by
  let s : Sta := ⟨[some (.dat .non), some (.dat .non), none, none, none], bg⟩
  unfold sLlikeB
  refine fnd (s1 := s) ?_
  show kSeq _ _ s = _
  rw [kseq (s1 := s) (by rw [kif_f (s1 := s) rfl]; rfl)]
  unfold kSeq
  rw [kif_t (s1 := s) (or_t rfl)]
  rfl
theorem like_scal {R : FD} (d : Dt) (bg : List Dt) (h1 : isLst d = false) (h2 : isTup d = false) (h3 : isNon d = false) (h4 : gEq (.bl (isInt d)) (.bl (isInt d)) = some (.bl true)) (h5 : gEq (.bl (isStr d)) (.bl (isStr d)) = some (.bl true)) (h6 : gEq d d = some (.bl true)) :
    sLlikeB R [d, d] bg = some (.bl true, bg) := by
  let s : Sta := ⟨[some (.dat d), some (.dat d), none, none, none], bg⟩
  have e1 : mB (mIsi (fun d => isLst d || isTup d) (mVar 1)) s = some (false, s) := by
    show some (isLst d || isTup d, s) = _
    rw [h1, h2]; rfl
  have e2 : mOrB (mB (m2 gIsN (mVar 0) (mC .non))) (mOrB (mB (m2 gIsN (mVar 1) (mC .non))) (mB (m2 gNe (mIsi isBl (mVar 0)) (mIsi isBl (mVar 1))))) s = some (false, s) := by
    rw [or_f (s1 := s), or_f (s1 := s)]
    · show mB (m2 gNe (mIsi isBl (mVar 0)) (mIsi isBl (mVar 1))) s = _
      unfold mB
      rw [m2_eq (s1 := s) (s2 := s) (x := .bl (isBl d)) (y := .bl (isBl d)) (d := .bl false) rfl rfl (by cases isBl d <;> rfl)]
      rfl
    · show some (isNon d, s) = _
      rw [h3]
    · show some (isNon d, s) = _
      rw [h3]
  unfold sLlikeB
  refine fnd (s1 := s) ?_
  show kSeq _ _ s = _
  rw [kseq (s1 := s) (by rw [kif_f e1]; rfl), kseq (s1 := s) (by rw [kif_f e2]; rfl)]
  refine kret ?_
  unfold mAndV
  rw [m2_eq (s1 := s) (s2 := s) (x := .bl (isInt d)) (y := .bl (isInt d)) rfl rfl h4, Option.bind_some]
  dsimp only
  rw [m2_eq (s1 := s) (s2 := s) (x := .bl (isStr d)) (y := .bl (isStr d)) rfl rfl h5, Option.bind_some]
  dsimp only
  exact m2_eq (s1 := s) (s2 := s) (x := d) (y := d) rfl rfl h6
theorem like_refl : ∀ (n : Nat) (d : Dt) (bg : List Dt), okD n d = true → sLlike n [d, d] bg = some (.bl true, bg)
  | 0, _, _, h => by cases h
  | n + 1, d, bg, h => by
    cases d with
    | bag => cases h
    | dic ks l => cases h
    | ins c ks l => cases h
    | err c ks l => cases h
    | tup l =>
      unfold okD at h
      rw [Bool.and_eq_true] at h
      exact like_seq (.inr rfl) (of_decide_eq_true h.1) fun x hx => like_refl n x bg (List.all_eq_true.mp h.2 x hx)
    | lst l =>
      unfold okD at h
      rw [Bool.and_eq_true] at h
      exact like_seq (.inl rfl) (of_decide_eq_true h.1) fun x hx => like_refl n x bg (List.all_eq_true.mp h.2 x hx)
    | non => exact like_non bg
    | bl b => exact like_scal (.bl b) bg rfl rfl rfl rfl rfl (by cases b <;> rfl)
    | int i => exact like_scal (.int i) bg rfl rfl rfl rfl rfl (by rw [eqII, beq_self_eq_true])
    | str z =>
      have hz : cpOk z = true := by unfold okD at h; exact h
      exact like_scal (.str z) bg rfl rfl rfl rfl rfl (by rw [eqSS hz hz, beq_self_eq_true])

/-! ### is_name, is_column, is_value, shifted -/
theorem tag {a b : Str} (ha : cpOk a = true) (hb : cpOk b = true) {r : Bool} (e : (a == b) = r) : gEq (.str a) (.str b) = some (.bl r) := by rw [eqSS ha hb, e]
theorem tagN {a b : Str} (ha : cpOk a = true) (hb : cpOk b = true) {r : Bool} (e : (a == b) = r) : gNe (.str a) (.str b) = some (.bl !r) := by
  unfold gNe
  rw [eqOk_str ha, eqOk_str hb]
  show some (Dt.bl !(a == b)) = _
  rw [e]
theorem mBt {f : DM Dt} {s s1 : Sta} {b : Bool} (h : f s = some (.bl b, s1)) : mB f s = some (b, s1) := by unfold mB; rw [h]; rfl
theorem andV_t {f g : DM Dt} {s s1 : Sta} (h : f s = some (.bl true, s1)) : mAndV f g s = g s1 := by unfold mAndV; rw [h]; rfl
theorem andV_f {f g : DM Dt} {s s1 : Sta} (h : f s = some (.bl false, s1)) : mAndV f g s = some (.bl false, s1) := by unfold mAndV; rw [h]; rfl
theorem orV_t {f g : DM Dt} {s s1 : Sta} (h : f s = some (.bl true, s1)) : mOrV f g s = some (.bl true, s1) := by unfold mOrV; rw [h]; rfl
theorem orV_f {f g : DM Dt} {s s1 : Sta} (h : f s = some (.bl false, s1)) : mOrV f g s = g s1 := by unfold mOrV; rw [h]; rfl
theorem mcall {g : List Dt → Option Dt} {f : DM (List Dt)} {s s1 : Sta} {l : List Dt} {d : Dt} (h : f s = some (l, s1)) (e : g l = some d) : mCall g f s = some (d, s1) := by unfold mCall; rw [h, Option.bind_some, e]; rfl
theorem mchain_t {g g' : Dt → Dt → Option Dt} {f1 f2 f3 : DM Dt} {s s1 s2 s3 : Sta} {x y z d : Dt} (h1 : f1 s = some (x, s1)) (h2 : f2 s1 = some (y, s2)) (h3 : g x y = some (.bl true)) (h4 : f3 s2 = some (z, s3)) (h5 : g' y z = some d) : mChain g g' f1 f2 f3 s = some (d, s3) := by
  unfold mChain; rw [h1, Option.bind_some, h2, Option.bind_some]; dsimp only; rw [h3, Option.bind_some]; dsimp only; rw [h4, Option.bind_some]; dsimp only; rw [h5]; rfl
theorem mchain_f {g g' : Dt → Dt → Option Dt} {f1 f2 f3 : DM Dt} {s s1 s2 : Sta} {x y : Dt} (h1 : f1 s = some (x, s1)) (h2 : f2 s1 = some (y, s2)) (h3 : g x y = some (.bl false)) : mChain g g' f1 f2 f3 s = some (.bl false, s2) := by
  unfold mChain; rw [h1, Option.bind_some, h2, Option.bind_some]; dsimp only; rw [h3]; rfl
theorem bools_map (f : Dt → Bool) : ∀ (l : List Dt), bools (l.map fun d => .bl (f d)) = some (l.map f)
  | [] => rfl
  | d :: l => by
    show (bools (l.map fun d => .bl (f d))).bind _ = _
    rw [bools_map f l]
    rfl
theorem gall_map (f : Dt → Bool) (l : List Dt) : gAll [.lst (l.map fun d => .bl (f d))] = some (.bl (l.all f)) := by
  show (bools (l.map fun d => .bl (f d))).bind _ = _
  rw [bools_map, Option.bind_some, List.all_map]
  rfl
def letB : Dt → Bool
  | .str z => !(strLt z "a") && !(strLt "z" z)
  | _ => false
theorem lt1 (a b : Nat) : ([a] < [b]) ↔ a < b := by
  constructor
  · intro h
    cases h with
    | rel h => exact h
    | cons h => cases h
  · intro h
    exact List.Lex.rel h
theorem letB_c (c : Nat) : letB (.str ⟨#[c]⟩) = (decide (97 ≤ c) && decide (c ≤ 122)) := by
  have ea : ("a" : Str).cps.toList = [97] := by decide +kernel
  have ez : ("z" : Str).cps.toList = [122] := by decide +kernel
  show (!(decide ((⟨#[c]⟩ : Str).cps.toList < ("a" : Str).cps.toList)) && !(decide (("z" : Str).cps.toList < (⟨#[c]⟩ : Str).cps.toList))) = _
  rw [ea, ez]
  show (!(decide ([c] < [97])) && !(decide ([122] < [c]))) = _
  have h1 : decide ([c] < [97]) = decide (c < 97) := decide_eq_decide.mpr (lt1 c 97)
  have h2 : decide ([122] < [c]) = decide (122 < c) := decide_eq_decide.mpr (lt1 122 c)
  rw [h1, h2]
  by_cases a : c < 97
  · have : ¬ 97 ≤ c := by omega
    simp [a, this]
  · by_cases b : 122 < c
    · have : ¬ c ≤ 122 := by omega
      simp [b, this]
    · have h3 : 97 ≤ c := by omega
      have h4 : c ≤ 122 := by omega
      simp [a, b, h3, h4]
theorem resv_tup (z : Str) : gIn (.str z) s_RESERVED = some (.bl (resv.contains z)) := by
  show (if (flatD (.str z) && (resv.map Dt.str).all flatD) = true then some (Dt.bl ((resv.map Dt.str).any fun d => sameD d (.str z))) else none) = _
  rw [if_pos (show (flatD (.str z) && (resv.map Dt.str).all flatD) = true from rfl), List.any_map]
  show some (Dt.bl (resv.any fun r => r == z)) = _
  congr 2
  rw [List.contains_eq_any_beq]
  congr 1
  funext r
  exact Bool.beq_comm
theorem is_name_str (z : Str) (bg : List Dt) (hz : z.length ≤ 100000) : sis_name [.str z] bg = some (.bl (nameB z), bg) := by
  let s : Sta := ⟨[some (.dat (.str z)), none], bg⟩
  have hl : gLen [.str z] = some (.int (z.length : Nat)) := glen_str (Nat.le_trans hz (by decide))
  have ein : mOrB (mNotB (mB (mIsi isStr (mVar 0)))) (mB (m2 gIn (mVar 0) (mC s_RESERVED))) s = some (resv.contains z, s) := by
    rw [or_f (s1 := s) rfl]
    exact mBt (m2_eq (s1 := s) (s2 := s) (x := .str z) (y := s_RESERVED) rfl rfl (resv_tup z))
  have elen : mCall gLen (mCons (mVar 0) mNil) s = some (.int (z.length : Nat), s) := mcall (s1 := s) (l := [.str z]) rfl hl
  have ecomp : mCall gAll (mCons (mComp [1] (wStr (mVar 0)) (hName 1) mYes (mChain oLe oLe (mC (.str "a")) (mVar 1) (mC (.str "z")))) mNil) s = some (.bl (lowB z), s) := by
    have e : mComp [1] (wStr (mVar 0)) (hName 1) mYes (mChain oLe oLe (mC (.str "a")) (mVar 1) (mC (.str "z"))) s = some (.lst ((z.cps.toList.map fun c => Dt.str ⟨#[c]⟩).map fun d => .bl (letB d)), s) := by
      refine mcomp (s1 := s) (l := z.cps.toList.map fun c => Dt.str ⟨#[c]⟩) rfl (by rw [List.length_map]; simpa [Str.length] using hz) (comp_map (fun d => .bl (letB d)) _ fun d hd => ?_)
      obtain ⟨c, hc, rfl⟩ := List.mem_map.mp hd
      let s' : Sta := ⟨[some (.dat (.str z)), some (.dat (.str ⟨#[c]⟩))], bg⟩
      refine ⟨s', s', s', rfl, rfl, ?_, rfl⟩
      by_cases h : strLt ⟨#[c]⟩ "a" = true
      · have e1 : letB (.str ⟨#[c]⟩) = false := by show (!strLt ⟨#[c]⟩ "a" && !strLt "z" ⟨#[c]⟩) = _; rw [h]; rfl
        rw [e1]
        exact mchain_f (s1 := s') (s2 := s') (x := .str "a") (y := .str ⟨#[c]⟩) rfl rfl (by show some (Dt.bl !(strLt ⟨#[c]⟩ "a")) = _; rw [h]; rfl)
      · rw [Bool.not_eq_true] at h
        have e1 : letB (.str ⟨#[c]⟩) = !(strLt "z" ⟨#[c]⟩) := by show (!strLt ⟨#[c]⟩ "a" && !strLt "z" ⟨#[c]⟩) = _; rw [h]; rfl
        rw [e1]
        exact mchain_t (s1 := s') (s2 := s') (s3 := s') (x := .str "a") (y := .str ⟨#[c]⟩) (z := .str "z") rfl rfl (by show some (Dt.bl !(strLt ⟨#[c]⟩ "a")) = _; rw [h]; rfl) rfl rfl
    refine mcall (mcons e rfl) ?_
    rw [gall_map, List.all_map]
    congr 2
    unfold lowB
    congr 1
    funext c
    exact letB_c c
  unfold sis_name
  refine fnd (s1 := s) ?_
  show kSeq _ _ s = _
  by_cases hr : resv.contains z = true
  · have en : nameB z = false := by unfold nameB; rw [hr]; simp
    rw [hr] at ein
    unfold kSeq
    rw [kif_t ein, en]
    rfl
  · rw [Bool.not_eq_true] at hr
    rw [hr] at ein
    rw [kseq (s1 := s) (by rw [kif_f ein]; rfl)]
    refine kret ?_
    by_cases h1 : 1 ≤ z.length
    · by_cases h6 : z.length ≤ 6
      · have en : nameB z = lowB z := by unfold nameB; rw [hr]; simp [h1, h6]
        rw [en, andV_t (s1 := s)]
        · exact ecomp
        · exact mchain_t (s1 := s) (s2 := s) (s3 := s) (x := .int 1) (y := .int (z.length : Nat)) (z := .int 6) rfl elen (by show some (Dt.bl (decide ((1 : Int) ≤ (z.length : Nat)))) = _; rw [decide_eq_true (by omega)]) rfl (by show some (Dt.bl (decide (((z.length : Nat) : Int) ≤ 6))) = _; rw [decide_eq_true (by omega)])
      · have en : nameB z = false := by unfold nameB; simp [h6]
        rw [en]
        refine andV_f ?_
        exact mchain_t (s1 := s) (s2 := s) (s3 := s) (x := .int 1) (y := .int (z.length : Nat)) (z := .int 6) rfl elen (by show some (Dt.bl (decide ((1 : Int) ≤ (z.length : Nat)))) = _; rw [decide_eq_true (by omega)]) rfl (by show some (Dt.bl (decide (((z.length : Nat) : Int) ≤ 6))) = _; rw [decide_eq_false (by omega)])
    · have en : nameB z = false := by unfold nameB; simp [h1]
      rw [en]
      refine andV_f ?_
      exact mchain_f (s1 := s) (s2 := s) (x := .int 1) (y := .int (z.length : Nat)) rfl elen (by show some (Dt.bl (decide ((1 : Int) ≤ (z.length : Nat)))) = _; rw [decide_eq_false (by omega)])

def ColOk (c : Str) : Prop := c = "key" ∨ NameOk c
theorem name_len {z : Str} (h : NameOk z) : z.length ≤ 100000 := Nat.le_trans h.few (by decide)
theorem is_name_ok {z : Str} (h : NameOk z) (bg : List Dt) : sis_name [.str z] bg = some (.bl true, bg) := by
  rw [is_name_str z bg (name_len h), nameB_iff.mpr h]
theorem is_column_ok {z : Str} (h : ColOk z) (bg : List Dt) : sis_column [.str z] bg = some (.bl true, bg) := by
  let s : Sta := ⟨[some (.dat (.str z))], bg⟩
  unfold sis_column
  refine fnd (s1 := s) (kret ?_)
  rcases h with rfl | h
  · exact orV_t (m2_eq (s1 := s) (s2 := s) (x := .str "key") (y := .str "key") rfl rfl (tag (by decide +kernel) (by decide +kernel) (by decide +kernel)))
  · by_cases e : (z == "key") = true
    · exact orV_t (m2_eq (s1 := s) (s2 := s) (x := .str z) (y := .str "key") rfl rfl (tag (cp_low h.low) (by decide +kernel) e))
    · rw [Bool.not_eq_true] at e
      rw [orV_f (m2_eq (s1 := s) (s2 := s) (x := .str z) (y := .str "key") rfl rfl (tag (cp_low h.low) (by decide +kernel) e))]
      exact mapp (s1 := s) (ds := [.str z]) rfl (is_name_ok h bg)
def big : Int := 1000000000000000000000000000000
def Bnd (i : Int) : Prop := -big ≤ i ∧ i ≤ big
theorem is_bounded_ok {i : Int} (h : Bnd i) (bg : List Dt) : sis_bounded_ [.int i] bg = some (.bl true, bg) := by
  let s : Sta := ⟨[some (.dat (.int i))], bg⟩
  unfold sis_bounded_
  refine fnd (s1 := s) (kret ?_)
  rw [andV_t (s1 := s) (mapp (s1 := s) (ds := [.int i]) rfl (bg := bg) (d := .bl true) rfl)]
  refine mchain_t (s1 := s) (s2 := s) (s3 := s) (x := .int (-big)) (y := .int i) (z := .int big) rfl rfl ?_ rfl ?_
  · show some (Dt.bl (decide (-big ≤ i))) = _; rw [decide_eq_true h.1]
  · show some (Dt.bl (decide (i ≤ big))) = _; rw [decide_eq_true h.2]
inductive Sg where
  | number (i : Int) | name (n : Str) | field (n c : Str) | own (c : Str) | next (c : Str)
def Sg.d : Sg → Dt
  | .number i => .tup [.str "number", .int i]
  | .name n => .tup [.str "name", .str n]
  | .field n c => .tup [.str "field", .str n, .str c]
  | .own c => .tup [.str "own", .str c]
  | .next c => .tup [.str "next", .str c]
def Sg.Ok : Sg → Prop
  | .number i => Bnd i
  | .name n => NameOk n
  | .field n c => NameOk n ∧ ColOk c
  | .own c => ColOk c
  | .next c => ColOk c
theorem single2 {a : Str} {b : Dt} {bg : List Dt} (ha : cpOk a = true) {k : Nat} (hk : k = 0 ∧ (a == "number") = true ∧ sis_bounded_ [b] bg = some (.bl true, bg) ∨ k = 1 ∧ (a == "number") = false ∧ (a == "name") = true ∧ sis_name [b] bg = some (.bl true, bg) ∨
    k = 2 ∧ (a == "number") = false ∧ (a == "name") = false ∧ gIn (.str a) (.tup [.str "own", .str "next"]) = some (.bl true) ∧ sis_column [b] bg = some (.bl true, bg)) : sis_single_ [.tup [.str a, b]] bg = some (.bl true, bg) := by
  let s : Sta := ⟨[some (.dat (.tup [.str a, b])), some (.dat (.str a)), some (.dat b)], bg⟩
  let s0 : Sta := ⟨[some (.dat (.tup [.str a, b])), none, none], bg⟩
  unfold sis_single_
  refine fnd (s1 := s) ?_
  show kSeq _ _ s0 = _
  rw [kseq (s1 := s0) rfl, kseq (s1 := s0) rfl, kseq (s1 := s0) rfl, kseq (s1 := s) rfl]
  have t1 : ∀ r, (a == "number") = r → mB (m2 gEq (mVar 1) (mC (.str "number"))) s = some (r, s) := fun r h => mBt (m2_eq (s1 := s) (s2 := s) (x := .str a) (y := .str "number") rfl rfl (tag ha (by decide +kernel) h))
  have t2 : ∀ r, (a == "name") = r → mB (m2 gEq (mVar 1) (mC (.str "name"))) s = some (r, s) := fun r h => mBt (m2_eq (s1 := s) (s2 := s) (x := .str a) (y := .str "name") rfl rfl (tag ha (by decide +kernel) h))
  rcases hk with ⟨_, h1, h2⟩ | ⟨_, h1, h2, h3⟩ | ⟨_, h1, h2, h3, h4⟩
  · unfold kSeq
    rw [kif_t (t1 _ h1), kret (mapp (s1 := s) (ds := [b]) rfl h2)]
    rfl
  · rw [kseq (s1 := s) (by rw [kif_f (t1 _ h1)]; rfl)]
    unfold kSeq
    rw [kif_t (t2 _ h2), kret (mapp (s1 := s) (ds := [b]) rfl h3)]
    rfl
  · rw [kseq (s1 := s) (by rw [kif_f (t1 _ h1)]; rfl), kseq (s1 := s) (by rw [kif_f (t2 _ h2)]; rfl)]
    refine kret ?_
    rw [andV_t (s1 := s) (m2_eq (s1 := s) (s2 := s) (x := .str a) (y := .tup [.str "own", .str "next"]) rfl rfl h3)]
    exact mapp (s1 := s) (ds := [b]) rfl h4
theorem single_ok {v : Sg} (h : v.Ok) (bg : List Dt) : sis_single_ [v.d] bg = some (.bl true, bg) := by
  cases v with
  | number i => exact single2 (by decide +kernel) (.inl ⟨rfl, by decide +kernel, is_bounded_ok h bg⟩)
  | name n => exact single2 (by decide +kernel) (.inr (.inl ⟨rfl, by decide +kernel, by decide +kernel, is_name_ok h bg⟩))
  | own c => exact single2 (by decide +kernel) (.inr (.inr ⟨rfl, by decide +kernel, by decide +kernel, congrArg (fun b => some (Dt.bl b)) (by decide +kernel : ([Dt.str "own", Dt.str "next"].any fun d => sameD d (.str "own")) = true), is_column_ok h bg⟩))
  | next c => exact single2 (by decide +kernel) (.inr (.inr ⟨rfl, by decide +kernel, by decide +kernel, congrArg (fun b => some (Dt.bl b)) (by decide +kernel : ([Dt.str "own", Dt.str "next"].any fun d => sameD d (.str "next")) = true), is_column_ok h bg⟩))
  | field n c =>
    let s : Sta := ⟨[some (.dat (.tup [.str "field", .str n, .str c])), none, none], bg⟩
    unfold sis_single_
    refine fnd (s1 := s) ?_
    show kSeq _ _ s = _
    rw [kseq (s1 := s) rfl]
    unfold kSeq
    rw [kif_t (s1 := s) rfl, kret (s1 := s) (d := .bl true)]
    · rfl
    · rw [andV_t (s1 := s) (m2_eq (s1 := s) (s2 := s) (x := .str "field") (y := .str "field") rfl rfl (tag (by decide +kernel) (by decide +kernel) (by decide +kernel)))]
      rw [andV_t (s1 := s) (mapp (s1 := s) (ds := [.str n]) rfl (is_name_ok h.1 bg))]
      exact mapp (s1 := s) (ds := [.str c]) rfl (is_column_ok h.2 bg)
def vald (v : Sg) : Option Int → Dt
  | none => v.d
  | some m => .tup [.str "plus", v.d, .int m]
theorem value_ok {v : Sg} (h : v.Ok) {o : Option Int} (ho : ∀ m, o = some m → Bnd m) (bg : List Dt) : sis_value [vald v o] bg = some (.bl true, bg) := by
  let s : Sta := ⟨[some (.dat (vald v o))], bg⟩
  have tg : ∀ (a : Str) (r : Bool), cpOk a = true → (a == "plus") = r → gEq (.str a) (.str "plus") = some (.bl r) := fun a r h e => tag h (by decide +kernel) e
  unfold sis_value
  refine fnd (s1 := s) ?_
  cases o with
  | some m =>
    have hm := ho m rfl
    show kSeq _ _ s = _
    unfold kSeq
    rw [kif_t (s1 := s)]
    · rw [kret (s1 := s) (d := .bl true)]
      · rfl
      · rw [andV_t (s1 := s) (mapp (s1 := s) (ds := [v.d]) rfl (single_ok h bg))]
        exact mapp (s1 := s) (ds := [.int m]) rfl (is_bounded_ok hm bg)
    · rw [and_t (s1 := s) rfl, and_t (s1 := s) rfl]
      exact mBt (m2_eq (s1 := s) (s2 := s) (x := .str "plus") (y := .str "plus") rfl rfl (tg _ _ (by decide +kernel) (by decide +kernel)))
  | none =>
    have hc : mAndB (mB (mIsi isTup (mVar 0))) (mAndB (mB (m2 gEq (mCall gLen (mCons (mVar 0) mNil)) (mC (.int 3)))) (mB (m2 gEq (m2 gIx (mVar 0) (mC (.int 0))) (mC (.str "plus"))))) s = some (false, s) := by
      cases v with
      | field n c =>
        rw [and_t (s1 := s) rfl, and_t (s1 := s) rfl]
        exact mBt (m2_eq (s1 := s) (s2 := s) (x := .str "field") (y := .str "plus") rfl rfl (tg _ _ (by decide +kernel) (by decide +kernel)))
      | number i => rw [and_t (s1 := s) rfl]; exact and_f rfl
      | name n => rw [and_t (s1 := s) rfl]; exact and_f rfl
      | own n => rw [and_t (s1 := s) rfl]; exact and_f rfl
      | next n => rw [and_t (s1 := s) rfl]; exact and_f rfl
    show kSeq _ _ s = some (Res.rt (.bl true), s)
    rw [kseq (s1 := s) (by rw [kif_f hc]; rfl)]
    exact kret (mapp (s1 := s) (ds := [v.d]) rfl (single_ok h bg))
def Sg.shift : Sg → Int → Dt
  | .number i, k => .tup [.str "number", .int (i + k)]
  | v, k => if k = 0 then v.d else .tup [.str "plus", v.d, .int k]
theorem shift_tail {v : Sg} {x y : Dt} {a : Int} {bg : List Dt} : ∃ st, (kSeq (kIf (mB (m2 gEq (m2 gIx (mVar 2) (mC (.int 0))) (mC (.str "number")))) (kRet (mTup (mCons (mC (.str "number")) (mCons (m2 gAdd (m2 gIx (mVar 2) (mC (.int 1))) (mVar 3)) mNil)))) kSkip)
    (kSeq (kIf (mB (m2 gEq (mVar 3) (mC (.int 0)))) (kRet (mVar 2)) kSkip)
    (kRet (mTup (mCons (mC (.str "plus")) (mCons (mVar 2) (mCons (mVar 3) mNil)))))))
    ⟨[some (.dat x), some (.dat y), some (.dat v.d), some (.dat (.int a))], bg⟩ = some (.rt (v.shift a), st) ∧ st.bag = bg := by
  let s : Sta := ⟨[some (.dat x), some (.dat y), some (.dat v.d), some (.dat (.int a))], bg⟩
  have tg : ∀ (t : Str) (r : Bool), gIx v.d (.int 0) = some (.str t) → cpOk t = true → (t == "number") = r → mB (m2 gEq (m2 gIx (mVar 2) (mC (.int 0))) (mC (.str "number"))) s = some (r, s) := fun t r h1 h2 h3 =>
    mBt (m2_eq (s1 := s) (s2 := s) (x := .str t) (y := .str "number") (m2_eq (s1 := s) (s2 := s) (x := v.d) (y := .int 0) rfl rfl h1) rfl (tag h2 (by decide +kernel) h3))
  have rest : (∀ k, v.shift k = if k = 0 then v.d else .tup [.str "plus", v.d, .int k]) → mB (m2 gEq (m2 gIx (mVar 2) (mC (.int 0))) (mC (.str "number"))) s = some (false, s) → ∃ st, (kSeq (kIf (mB (m2 gEq (m2 gIx (mVar 2) (mC (.int 0))) (mC (.str "number")))) (kRet (mTup (mCons (mC (.str "number")) (mCons (m2 gAdd (m2 gIx (mVar 2) (mC (.int 1))) (mVar 3)) mNil)))) kSkip)
    (kSeq (kIf (mB (m2 gEq (mVar 3) (mC (.int 0)))) (kRet (mVar 2)) kSkip)
    (kRet (mTup (mCons (mC (.str "plus")) (mCons (mVar 2) (mCons (mVar 3) mNil))))))) s = some (.rt (v.shift a), st) ∧ st.bag = bg := fun hs h => by
    refine ⟨s, ?_, rfl⟩
    rw [kseq (s1 := s) (by rw [kif_f h]; rfl), hs]
    have e0 : mB (m2 gEq (mVar 3) (mC (.int 0))) s = some (a == 0, s) := rfl
    by_cases ha : a = 0
    · rw [if_pos ha]
      unfold kSeq
      rw [kif_t (s1 := s) (by rw [e0, ha]; rfl)]
      rfl
    · rw [if_neg ha]
      rw [kseq (s1 := s) (by rw [kif_f (s1 := s) (by rw [e0, beq_eq_false_iff_ne.mpr ha])]; rfl)]
      exact kret (mtup (mcons (s1 := s) rfl (mcons (s1 := s) rfl (mcons (s1 := s) rfl rfl))))
  cases v with
  | number i =>
    refine ⟨s, ?_, rfl⟩
    show kSeq _ _ s = _
    unfold kSeq
    rw [kif_t (tg _ _ rfl (by decide +kernel) (by decide +kernel)), kret (s1 := s) (d := .tup [.str "number", .int (i + a)])]
    · rfl
    · exact mtup (mcons (s1 := s) rfl (mcons (s1 := s) rfl rfl))
  | name n => exact rest (fun _ => rfl) (tg _ _ rfl (by decide +kernel) (by decide +kernel))
  | field n c => exact rest (fun _ => rfl) (tg _ _ rfl (by decide +kernel) (by decide +kernel))
  | own c => exact rest (fun _ => rfl) (tg _ _ rfl (by decide +kernel) (by decide +kernel))
  | next c => exact rest (fun _ => rfl) (tg _ _ rfl (by decide +kernel) (by decide +kernel))
theorem shifted_ok {v : Sg} (h : v.Ok) {o : Option Int} (ho : ∀ m, o = some m → Bnd m) (k : Int) (bg : List Dt) : sshifted [vald v o, .int k] bg = some (v.shift (o.getD 0 + k), bg) := by
  let s0 : Sta := ⟨[some (.dat (vald v o)), some (.dat (.int k)), none, none], bg⟩
  let s1 : Sta := ⟨[some (.dat (vald v o)), some (.dat (.int k)), some (.dat (vald v o)), some (.dat (.int k))], bg⟩
  have tg : ∀ (t : Str) (r : Bool), gIx (vald v o) (.int 0) = some (.str t) → cpOk t = true → (t == "plus") = r → mB (m2 gEq (m2 gIx (mVar 0) (mC (.int 0))) (mC (.str "plus"))) s1 = some (r, s1) := fun t r h1 h2 h3 =>
    mBt (m2_eq (s1 := s1) (s2 := s1) (x := .str t) (y := .str "plus") (m2_eq (s1 := s1) (s2 := s1) (x := vald v o) (y := .int 0) rfl rfl h1) rfl (tag h2 (by decide +kernel) h3))
  have e1 : mNotB (mB (mApp sis_value (mCons (mVar 0) mNil))) s0 = some (false, s0) := by
    unfold mNotB
    rw [mBt (mapp (s1 := s0) (ds := [vald v o]) rfl (value_ok h ho bg))]
    rfl
  have go : ∀ st, (kSeq (kIf (mNotB (mB (mApp sis_value (mCons (mVar 0) mNil)))) (fun _ => none) kSkip)
    (kSeq (kPar 2 3 (mCons (mVar 0) (mCons (mVar 1) mNil)))
    (kSeq (kIf (mB (m2 gEq (m2 gIx (mVar 0) (mC (.int 0))) (mC (.str "plus")))) (kPar 2 3 (mCons (m2 gIx (mVar 0) (mC (.int 1))) (mCons (m2 gAdd (m2 gIx (mVar 0) (mC (.int 2))) (mVar 1)) mNil))) kSkip)
    (kSeq (kIf (mB (m2 gEq (m2 gIx (mVar 2) (mC (.int 0))) (mC (.str "number")))) (kRet (mTup (mCons (mC (.str "number")) (mCons (m2 gAdd (m2 gIx (mVar 2) (mC (.int 1))) (mVar 3)) mNil)))) kSkip)
    (kSeq (kIf (mB (m2 gEq (mVar 3) (mC (.int 0)))) (kRet (mVar 2)) kSkip)
    (kRet (mTup (mCons (mC (.str "plus")) (mCons (mVar 2) (mCons (mVar 3) mNil))))))))))  s0 = some (.rt (v.shift (o.getD 0 + k)), st) → st.bag = bg → sshifted [vald v o, .int k] bg = some (v.shift (o.getD 0 + k), bg) := fun st h1 h2 => by
    unfold sshifted
    have h3 := fnd (n := 4) (ds := [vald v o, .int k]) (bg := bg) h1
    rw [h2] at h3
    exact h3
  have e2 : kPar 2 3 (mCons (mVar 0) (mCons (mVar 1) mNil)) s0 = some (.nx, s1) := rfl
  cases o with
  | some m =>
    obtain ⟨st, e5, e6⟩ := shift_tail (v := v) (x := vald v (some m)) (y := .int k) (a := m + k) (bg := bg)
    refine go st ?_ e6
    rw [kseq (s1 := s0) (by rw [kif_f e1]; rfl), kseq e2, kseq (s1 := ⟨[some (.dat (vald v (some m))), some (.dat (.int k)), some (.dat v.d), some (.dat (.int (m + k)))], bg⟩) (by rw [kif_t (tg _ _ rfl (by decide +kernel) (by decide +kernel))]; rfl)]
    exact e5
  | none =>
    obtain ⟨st, e5, e6⟩ := shift_tail (v := v) (x := v.d) (y := .int k) (a := 0 + k) (bg := bg)
    refine go st ?_ e6
    have e7 : mB (m2 gEq (m2 gIx (mVar 0) (mC (.int 0))) (mC (.str "plus"))) s1 = some (false, s1) := by
      cases v <;> exact tg _ _ rfl (by decide +kernel) (by decide +kernel)
    rw [kseq (s1 := s0) (by rw [kif_f e1]; rfl), kseq e2, kseq (s1 := s1) (by rw [kif_f e7]; rfl)]
    have : (0 : Int) + k = k := Int.zero_add k
    rw [this] at e5
    show _ = some (Res.rt (v.shift (0 + k)), st)
    rw [this]
    exact e5

theorem loop_inv {h : Dt → Sta → Option Sta} {b : DMs} (I : Sta → Prop) (hs : ∀ d s, I s → ∃ s1 r s2, h d s = some s1 ∧ b s1 = some (r, s2) ∧ (r = .nx ∨ r = .ct) ∧ I s2) : ∀ (l : List Dt) (s : Sta), I s → ∃ s', loopD h b l s = some (.nx, s') ∧ I s'
  | [], s, hi => ⟨s, rfl, hi⟩
  | d :: l, s, hi => by
    obtain ⟨s1, r, s2, e1, e2, hr, h2⟩ := hs d s hi
    obtain ⟨s', e3, h3⟩ := loop_inv I hs l s2 h2
    refine ⟨s', ?_, h3⟩
    unfold loopD
    rw [e1, Option.bind_some, e2, Option.bind_some]
    rcases hr with rfl | rfl <;> exact e3
theorem okD_d {v : Sg} (h : v.Ok) (n : Nat) : okD (n + 2) v.d = true := by
  have hn : ∀ {z : Str}, NameOk z → okD (n + 1) (.str z) = true := fun h => cp_low h.low
  have hc : ∀ {z : Str}, ColOk z → okD (n + 1) (.str z) = true := fun h => by
    rcases h with rfl | h
    · show cpOk "key" = true; decide +kernel
    · exact hn h
  have tg : ∀ {z : Str}, cpOk z = true → okD (n + 1) (.str z) = true := fun h => h
  cases v with
  | number i => show ((decide (2 ≤ 1000)) && (okD (n + 1) (.str "number") && (true && true))) = true; rw [tg (by decide +kernel)]; rfl
  | name z => show ((decide (2 ≤ 1000)) && (okD (n + 1) (.str "name") && (okD (n + 1) (.str z) && true))) = true; rw [tg (by decide +kernel), hn h]; rfl
  | own z => show ((decide (2 ≤ 1000)) && (okD (n + 1) (.str "own") && (okD (n + 1) (.str z) && true))) = true; rw [tg (by decide +kernel), hc h]; rfl
  | next z => show ((decide (2 ≤ 1000)) && (okD (n + 1) (.str "next") && (okD (n + 1) (.str z) && true))) = true; rw [tg (by decide +kernel), hc h]; rfl
  | field z c => show ((decide (3 ≤ 1000)) && (okD (n + 1) (.str "field") && (okD (n + 1) (.str z) && (okD (n + 1) (.str c) && true)))) = true; rw [tg (by decide +kernel), hn h.1, hc h.2]; rfl
theorem okD_plus {v : Sg} (h : v.Ok) (m : Int) (n : Nat) : okD (n + 3) (.tup [.str "plus", v.d, .int m]) = true := by
  show ((decide (3 ≤ 1000)) && (okD (n + 2) (.str "plus") && (okD (n + 2) v.d && (true && true)))) = true
  rw [okD_d h, show okD (n + 2) (.str "plus") = true from (by show cpOk "plus" = true; decide +kernel)]
  rfl
theorem okD_vald {v : Sg} (h : v.Ok) (o : Option Int) (n : Nat) : okD (n + 3) (vald v o) = true := by
  cases o with
  | none => exact okD_d h (n + 1)
  | some m => exact okD_plus h m n
theorem shift_val {v : Sg} (h : v.Ok) (k : Int) (hb : ∀ i, v = .number i → Bnd (i + k)) : ∃ (w : Sg) (o : Option Int), v.shift k = vald w o ∧ w.Ok ∧ (∀ m, o = some m → m = k) ∧ ∀ j, w.shift (o.getD 0 + j) = v.shift (k + j) := by
  have go : (∀ k, v.shift k = if k = 0 then v.d else .tup [.str "plus", v.d, .int k]) → ∃ (w : Sg) (o : Option Int), v.shift k = vald w o ∧ w.Ok ∧ (∀ m, o = some m → m = k) ∧ ∀ j, w.shift (o.getD 0 + j) = v.shift (k + j) := fun hs => by
    by_cases hk : k = 0
    · subst hk
      exact ⟨v, none, by rw [hs]; rfl, h, (fun m e => by cases e), fun j => rfl⟩
    · exact ⟨v, some k, by rw [hs, if_neg hk]; rfl, h, (fun m e => by cases e; rfl), fun j => rfl⟩
  cases v with
  | number i => exact ⟨.number (i + k), none, rfl, hb i rfl, (fun m e => by cases e), fun j => by show Dt.tup [_, .int (i + k + (0 + j))] = Dt.tup [_, .int (i + (k + j))]; rw [Int.zero_add, Int.add_assoc]⟩
  | name n => exact go fun _ => rfl
  | field n c => exact go fun _ => rfl
  | own c => exact go fun _ => rfl
  | next c => exact go fun _ => rfl
theorem okD_shift {v : Sg} (h : v.Ok) (k : Int) (n : Nat) : okD (n + 3) (v.shift k) = true := by
  have go : (∀ k, v.shift k = if k = 0 then v.d else .tup [.str "plus", v.d, .int k]) → okD (n + 3) (v.shift k) = true := fun hs => by
    rw [hs]
    by_cases hk : k = 0
    · rw [if_pos hk]; exact okD_d h (n + 1)
    · rw [if_neg hk]; exact okD_plus h k n
  cases v with
  | number i => show ((decide (2 ≤ 1000)) && (okD (n + 2) (.str "number") && (true && true))) = true; rw [show okD (n + 2) (.str "number") = true from (by show cpOk "number" = true; decide +kernel)]; rfl
  | name n => exact go fun _ => rfl
  | field n c => exact go fun _ => rfl
  | own c => exact go fun _ => rfl
  | next c => exact go fun _ => rfl
theorem mlst2 {f : DM (List Dt)} {s s1 : Sta} {xs : List Dt} (h : f s = some (xs, s1)) (hl : xs.length ≤ 1000) : mLst f s = some (.lst xs, s1) := mlst h hl
theorem mappK {pm : List Nat} {F : FD} {f : DM (List Dt)} {s s1 : Sta} {ds es : List Dt} {d : Dt} {bg : List Dt} (h : f s = some (ds, s1)) (he : (pm.filterMap fun i => ds[i]?) = es) (hF : F es s1.bag = some (d, bg)) : mAppK pm F f s = some (d, { s1 with bag := bg }) := by
  unfold mAppK; rw [h, Option.bind_some]; dsimp only; rw [he, hF]; rfl
theorem kfor_rng {h : Dt → Sta → Option Sta} {b : DMs} {n : Int} {s s' : Sta} (h0 : 0 ≤ n) (h1 : n < 1000000) (e : loopD h b (rngD 0 n.toNat) s = some (.nx, s')) : kFor (wRng1 (mCons (mC (.int n)) mNil)) h b s = some (.nx, s') := by
  unfold kFor
  rw [mrng1 (s1 := s) (j := n) rfl h0 h1, Option.bind_some]
  exact e
end DL

namespace DL
open PySem PySem.Spec PyProof.Rows L2
variable [Tabs] [Me]
def s_MOST_DIGITS : Dt := .int 31
def ssingle_text_ : FD := fnD 1 (kSeq (kIf (mB (m2 gIn (m2 gIx (mVar 0) (mC (.int 0))) (mTup (mCons (mC (.str "number")) (mCons (mC (.str "name")) mNil))))) (kRet (mCall gStr (mCons (m2 gIx (mVar 0) (mC (.int 1))) mNil))) kSkip)
    (kSeq (kIf (mB (m2 gEq (m2 gIx (mVar 0) (mC (.int 0))) (mC (.str "field")))) (kRet (mJoined [(mFmt (m2 gIx (mVar 0) (mC (.int 1)))), (mC (.str ".")), (mFmt (m2 gIx (mVar 0) (mC (.int 2))))])) kSkip)
    (kRet (mJoined [(mFmt (m2 gIx (mVar 0) (mC (.int 0)))), (mC (.str ".")), (mFmt (m2 gIx (mVar 0) (mC (.int 1))))]))))
def svalue_text : FD := fnD 2 (kSeq (kIf (mNotB (mB (mApp sis_value (mCons (mVar 0) mNil)))) (fun _ => none) kSkip)
    (kSeq (kIf (mB (m2 gNe (m2 gIx (mVar 0) (mC (.int 0))) (mC (.str "plus")))) (kRet (mApp ssingle_text_ (mCons (mVar 0) mNil))) kSkip)
    (kSeq (kAsg (mIf (mB (m2 oLt (m2 gIx (mVar 0) (mC (.int 2))) (mC (.int 0)))) (mC (.str "-")) (mC (.str "+"))) (hName 1))
    (kRet (mJoined [(mFmt (mApp ssingle_text_ (mCons (m2 gIx (mVar 0) (mC (.int 1))) mNil))), (mC (.str " ")), (mFmt (mVar 1)), (mC (.str " ")), (mFmt (mCall gAbs (mCons (m2 gIx (mVar 0) (mC (.int 2))) mNil)))])))))
def sread_signed_ : FD := fnD 5 (kSeq (kIf (mOrB (mNotB (mB (mChain oLe oLe (mC (.int 1)) (mCall gLen (mCons (mVar 1) mNil)) (mVar 2)))) (mB (mCall gAny (mCons (mComp [4] (wStr (mVar 1)) (hName 4) mYes (mNotV (mChain oLe oLe (mC (.str "0")) (mVar 4) (mC (.str "9"))))) mNil)))) (kRet (mC .non)) kSkip)
    (kSeq (kAsg (mCall gIntS (mCons (mVar 1) mNil)) (hName 3))
    (kSeq (kIf (mOrB (mB (m2 gNe (mCall gStr (mCons (mVar 3) mNil)) (mVar 1))) (mOrB (mB (m2 gNin (mVar 0) (mTup (mCons (mC (.str "+")) (mCons (mC (.str "-")) mNil))))) (mAndB (mB (m2 gEq (mVar 0) (mC (.str "-")))) (mB (m2 gEq (mVar 3) (mC (.int 0))))))) (kRet (mC .non)) kSkip)
    (kRet (mIf (mB (m2 gEq (mVar 0) (mC (.str "-")))) (mNeg (mVar 3)) (mVar 3))))))
def sread_integer : FD := fnD 2 (kSeq (kIf (mB (mM1 gStarts (mVar 0) (mC (.str "-")))) (kRet (mApp sread_signed_ (mCons (mC (.str "-")) (mCons (mSl (mVar 0) (mPart (mC (.int 1))) mNoP) (mCons (mVar 1) mNil))))) kSkip)
    (kRet (mApp sread_signed_ (mCons (mC (.str "+")) (mCons (mVar 0) (mCons (mVar 1) mNil))))))
def sread_single_ : FD := fnD 4 (kSeq (kAsg (mM1 gPartition (mVar 0) (mC (.str "."))) (hTup 3 (hCons (hName 1) (hCons (hName 2) (hCons (hName 3) hNil)))))
    (kSeq (kIf (mB (m2 gIn (mVar 1) (mTup (mCons (mC (.str "own")) (mCons (mC (.str "next")) mNil))))) (kRet (mTup (mCons (mVar 1) (mCons (mVar 3) mNil)))) kSkip)
    (kSeq (kIf (mTru (mVar 2)) (kRet (mTup (mCons (mC (.str "field")) (mCons (mVar 1) (mCons (mVar 3) mNil))))) kSkip)
    (kSeq (kIf (mB (mApp sis_name (mCons (mVar 0) mNil))) (kRet (mTup (mCons (mC (.str "name")) (mCons (mVar 0) mNil)))) kSkip)
    (kRet (mTup (mCons (mC (.str "number")) (mCons (mApp sread_integer (mCons (mVar 0) (mCons (mC s_MOST_DIGITS) mNil))) mNil))))))))
def sread_value : FD := fnD 3 (kSeq (kIf (mNotB (mB (mIsi isStr (mVar 0)))) (fun _ => none) kSkip)
    (kSeq (kAsg (mM1 gSplit (mVar 0) (mC (.str " "))) (hName 1))
    (kSeq (kAsg (mApp sread_single_ (mCons (m2 gIx (mVar 1) (mC (.int 0))) mNil)) (hName 2))
    (kSeq (kIf (mB (m2 gEq (mCall gLen (mCons (mVar 1) mNil)) (mC (.int 3)))) (kAsg (mTup (mCons (mC (.str "plus")) (mCons (mVar 2) (mCons (mApp sread_signed_ (mCons (m2 gIx (mVar 1) (mC (.int 1))) (mCons (m2 gIx (mVar 1) (mC (.int 2))) (mCons (mC s_MOST_DIGITS) mNil)))) mNil)))) (hName 2)) kSkip)
    (kSeq (kIf (mOrB (mB (m2 gNin (mCall gLen (mCons (mVar 1) mNil)) (mTup (mCons (mC (.int 1)) (mCons (mC (.int 3)) mNil))))) (mNotB (mB (mApp sis_value (mCons (mVar 2) mNil))))) (fun _ => none) kSkip)
    (kRet (mVar 2)))))))
def sLis_name : FD := fnD 2 (kSeq (kIf (mOrB (mNotB (mB (mIsi isStr (mVar 0)))) (mOrB (mNotB (mB (mChain oLe oLe (mC (.int 1)) (mCall gLen (mCons (mVar 0) mNil)) (mC (.int 6))))) (mB (m2 gIn (mVar 0) (mApp sLreserved mNil))))) (kRet (mC (.bl false))) kSkip)
    (kRet (mCall gAll (mCons (mComp [1] (wStr (mVar 0)) (hName 1) mYes (m2 gIn (mVar 1) (mC (.str "abcdefghijklmnopqrstuvwxyz")))) mNil))))
def sLfar : FD := fnD 2 (kSeq (kAsg (mApp sLpull (mCons (mVar 0) (mCons (m2 gPow (mC (.int 10)) (mC (.int 9))) mNil))) (hName 1))
    (kRet (mApp sLany (mCons (mVar 0) (mCons (mLst (mCons (mC (.int 0)) (mCons (mC (.int 1)) (mCons (m2 gSub0 (mC (.int 0)) (mC (.int 1))) (mCons (mC (.int 2)) (mCons (m2 gSub0 (mC (.int 5)) (mApp sLpull (mCons (mVar 0) (mCons (mC (.int 11)) mNil)))) (mCons (m2 gSub0 (mVar 1) (m2 gPow (mC (.int 10)) (mC (.int 8)))) (mCons (m2 gSub0 (m2 gPow (mC (.int 10)) (mC (.int 30))) (mVar 1)) (mCons (m2 gSub0 (mVar 1) (m2 gPow (mC (.int 10)) (mC (.int 30)))) mNil))))))))) mNil)))))
def sLvalue_textB (R : FD) : FD := fnD 2 (kSeq (kIf (mB (m2 gEq (m2 gIx (mVar 0) (mC (.int 0))) (mC (.str "plus")))) (kSeq (kAsg (m2 gIx (mVar 0) (mC (.int 2))) (hName 1))
    (kRet (m2 gAdd (mApp R (mCons (m2 gIx (mVar 0) (mC (.int 1))) mNil)) (mIf (mB (m2 oLt (mVar 1) (mC (.int 0)))) (m2 gAdd (mC (.str " - ")) (mCall gStr (mCons (m2 gSub0 (mC (.int 0)) (mVar 1)) mNil))) (m2 gAdd (mC (.str " + ")) (mCall gStr (mCons (mVar 1) mNil))))))) kSkip)
    (kSeq (kIf (mB (m2 gEq (m2 gIx (mVar 0) (mC (.int 0))) (mC (.str "field")))) (kRet (m2 gAdd (m2 gAdd (m2 gIx (mVar 0) (mC (.int 1))) (mC (.str "."))) (m2 gIx (mVar 0) (mC (.int 2))))) kSkip)
    (kSeq (kIf (mB (m2 gIn (m2 gIx (mVar 0) (mC (.int 0))) (mTup (mCons (mC (.str "own")) (mCons (mC (.str "next")) mNil))))) (kRet (m2 gAdd (m2 gAdd (m2 gIx (mVar 0) (mC (.int 0))) (mC (.str "."))) (m2 gIx (mVar 0) (mC (.int 1))))) kSkip)
    (kRet (mCall gStr (mCons (m2 gIx (mVar 0) (mC (.int 1))) mNil))))))
def sLvalue_text : Nat → FD
  | 0 => fun _ _ => none
  | n + 1 => sLvalue_textB (sLvalue_text n)
def sLsome_string : FD := fnD 4 (kSeq (kIf (mB (m2 gEq (mApp sLpull (mCons (mVar 0) (mCons (mC (.int 4)) mNil))) (mC (.int 0)))) (kRet (m2 gAdd (mApp sLany (mCons (mVar 0) (mCons (mApp sLreserved mNil) mNil))) (mApp sLany (mCons (mVar 0) (mCons (mLst (mCons (mC (.str "")) (mCons (mC (.str "")) (mCons (mC (.str "a")) mNil)))) mNil))))) kSkip)
    (kSeq (kAsg (mM1 gJoin (mC (.str "")) (mComp [3] (wRng1 (mCons (mApp sLpull (mCons (mVar 0) (mCons (mC (.int 9)) mNil))) mNil)) (hName 3) mYes (mApp sLany (mCons (mVar 0) (mCons (mC (.str "abcdefghijklmnopqrstuvwxyz")) mNil))))) (hName 1))
    (kSeq (kAsg (mApp sLpull (mCons (mVar 0) (mCons (m2 gAdd (mCall gLen (mCons (mVar 1) mNil)) (mC (.int 1))) mNil))) (hName 2))
    (kRet (m2 gAdd (m2 gAdd (mSl (mVar 1) mNoP (mPart (mVar 2))) (mApp sLany (mCons (mVar 0) (mCons (mLst (mCons (mC (.str "")) (mCons (mC (.str "")) (mCons (mC (.str "")) (mCons (mC (.str "A")) (mCons (mC (.str "1")) (mCons (mC (.str " ")) (mCons (mC (.str ".")) (mCons (mC (.str "_")) (mCons (mC (.str "\n")) mNil)))))))))) mNil)))) (mSl (mVar 1) (mPart (mVar 2)) mNoP))))))
def sLall_values : FD := fnD 5 (kSeq (kAsg (mApp sLany (mCons (mVar 0) (mCons (mLst (mCons (m2 gIx (mVar 1) (mC (.int 0))) (mCons (mC (.str "key")) mNil))) mNil))) (hName 2))
    (kSeq (kAsg (mLst (mCons (mTup (mCons (mC (.str "number")) (mCons (mApp sLfar (mCons (mVar 0) mNil)) mNil))) (mCons (mTup (mCons (mC (.str "name")) (mCons (m2 gIx (mVar 1) (mC (.int 1))) mNil))) (mCons (mTup (mCons (mC (.str "field")) (mCons (m2 gIx (mVar 1) (mC (.int 2))) (mCons (mVar 2) mNil)))) (mCons (mTup (mCons (mC (.str "own")) (mCons (mVar 2) mNil))) (mCons (mTup (mCons (mC (.str "next")) (mCons (mVar 2) mNil))) mNil)))))) (hName 3))
    (kRet (m2 gAdd (mVar 3) (mComp [4] (wLst (mVar 3)) (hName 4) mYes (mTup (mCons (mC (.str "plus")) (mCons (mVar 4) (mCons (mApp sLfar (mCons (mVar 0) mNil)) mNil)))))))))
open TL
/-! ### whole numbers as texts -/
abbrev itxt (i : Int) : Str := Str.ofString (toString i)
theorem itxt_nat (n : Nat) : tl (itxt (n : Nat)) = numL n := tl_num n
theorem itxt_neg (m : Nat) : tl (itxt (Int.negSucc m)) = 45 :: numL (m + 1) := by
  have e : toString (Int.negSucc m) = "-" ++ toString ((m + 1 : Nat) : Int) := rfl
  show (Str.ofString (toString (Int.negSucc m))).cps.toList = _
  rw [e, PyProof.Rows.signs_ofString, String.toList_append, List.map_append, ← PyProof.Rows.signs_ofString (toString ((m + 1 : Nat) : Int))]
  rw [show (Str.ofString (toString ((m + 1 : Nat) : Int))).cps.toList = numL (m + 1) from tl_num (m + 1)]
  rfl
theorem log_ok {i : Int} (h : Bnd i) : i.natAbs.log2 < 1920 := by
  by_cases h0 : i.natAbs = 0
  · rw [h0]; decide
  · rw [Nat.log2_lt h0]
    have h1 : i.natAbs ≤ 1000000000000000000000000000000 := by unfold Bnd big at h; omega
    exact Nat.lt_of_le_of_lt h1 (by decide)
theorem num_len {n : Nat} (h : n ≤ 1000000000000000000000000000000) : (itxt (n : Nat)).length ≤ 31 := by
  rw [len_tl, itxt_nat]
  exact numL_len (by decide) (Nat.lt_of_le_of_lt h (by decide))
theorem num_pos (n : Nat) : 1 ≤ (itxt (n : Nat)).length := by
  rw [len_tl, itxt_nat]
  have := numL_ne n
  cases e : numL n with
  | nil => exact absurd e this
  | cons _ _ => simp
theorem cp_tl {z : Str} (h : ∀ c ∈ tl z, c < 1114112) : cpOk z = true := by
  unfold cpOk
  rw [← Array.all_toList, List.all_eq_true]
  intro c hc
  exact decide_eq_true (h c hc)
theorem num_cp (n : Nat) : cpOk (itxt (n : Nat)) = true := cp_tl fun c hc => by
  rw [itxt_nat] at hc
  have := numL_digits n c hc
  omega
theorem gany_map (f : Dt → Bool) (l : List Dt) : gAny [.lst (l.map fun d => .bl (f d))] = some (.bl (l.any f)) := by
  show (bools (l.map fun d => .bl (f d))).bind _ = _
  rw [bools_map, Option.bind_some, List.any_map]
  rfl
def digB : Dt → Bool
  | .str z => !(strLt z "0") && !(strLt "9" z)
  | _ => false
theorem digB_c (c : Nat) : digB (.str ⟨#[c]⟩) = (decide (48 ≤ c) && decide (c ≤ 57)) := by
  have ea : ("0" : Str).cps.toList = [48] := by decide +kernel
  have ez : ("9" : Str).cps.toList = [57] := by decide +kernel
  show (!(decide ((⟨#[c]⟩ : Str).cps.toList < ("0" : Str).cps.toList)) && !(decide (("9" : Str).cps.toList < (⟨#[c]⟩ : Str).cps.toList))) = _
  rw [ea, ez]
  show (!(decide ([c] < [48])) && !(decide ([57] < [c]))) = _
  have h1 : decide ([c] < [48]) = decide (c < 48) := decide_eq_decide.mpr (lt1 c 48)
  have h2 : decide ([57] < [c]) = decide (57 < c) := decide_eq_decide.mpr (lt1 57 c)
  rw [h1, h2]
  by_cases a : c < 48
  · have : ¬ 48 ≤ c := by omega
    simp [a, this]
  · by_cases b : 57 < c
    · have : ¬ c ≤ 57 := by omega
      simp [b, this]
    · have h3 : 48 ≤ c := by omega
      have h4 : c ≤ 57 := by omega
      simp [a, b, h3, h4]
theorem mNotB_eq {f : DM Bool} {s s1 : Sta} {b : Bool} (h : f s = some (b, s1)) : mNotB f s = some (!b, s1) := by unfold mNotB; rw [h]; rfl
theorem mNotV_eq {f : DM Dt} {s s1 : Sta} {b : Bool} (h : f s = some (.bl b, s1)) : mNotV f s = some (.bl !b, s1) := by unfold mNotV; rw [h]; rfl
theorem read_signed {sg : Str} {neg : Bool} {n : Nat} (hn : n ≤ 1000000000000000000000000000000) (hin : gNin (.str sg) (.tup [.str "+", .str "-"]) = some (.bl false)) (heq : gEq (.str sg) (.str "-") = some (.bl neg)) (h0 : neg = true → 0 < n) (bg : List Dt) :
    sread_signed_ [.str sg, .str (itxt (n : Nat)), .int 31] bg = some (.int (if neg = true then -(n : Int) else n), bg) := by
  let s0 : Sta := ⟨[some (.dat (.str sg)), some (.dat (.str (itxt (n : Nat)))), some (.dat (.int 31)), none, none], bg⟩
  let s1 : Sta := ⟨[some (.dat (.str sg)), some (.dat (.str (itxt (n : Nat)))), some (.dat (.int 31)), some (.dat (.int (n : Nat))), none], bg⟩
  have hl := num_len hn
  have hp := num_pos n
  have elen : mCall gLen (mCons (mVar 1) mNil) s0 = some (.int ((itxt (n : Nat)).length : Nat), s0) := mcall (s1 := s0) (l := [.str (itxt (n : Nat))]) rfl (glen_str (Nat.le_trans hl (by decide)))
  have ech : mChain oLe oLe (mC (.int 1)) (mCall gLen (mCons (mVar 1) mNil)) (mVar 2) s0 = some (.bl true, s0) :=
    mchain_t (s1 := s0) (s2 := s0) (s3 := s0) (x := .int 1) (y := .int ((itxt (n : Nat)).length : Nat)) (z := .int 31) rfl elen (by show some (Dt.bl (decide ((1 : Int) ≤ _))) = _; rw [decide_eq_true (by omega)]) rfl (by show some (Dt.bl (decide (_ ≤ (31 : Int)))) = _; rw [decide_eq_true (by omega)])
  have ecomp : mComp [4] (wStr (mVar 1)) (hName 4) mYes (mNotV (mChain oLe oLe (mC (.str "0")) (mVar 4) (mC (.str "9")))) s0 = some (.lst (((itxt (n : Nat)).cps.toList.map fun c => Dt.str ⟨#[c]⟩).map fun d => .bl (!(digB d))), s0) := by
    refine mcomp (s1 := s0) (l := (itxt (n : Nat)).cps.toList.map fun c => Dt.str ⟨#[c]⟩) rfl (by rw [List.length_map]; have e : (itxt (n : Nat)).cps.toList.length = (itxt (n : Nat)).length := by simp [Str.length]
                                                                                                  omega) (comp_map (fun d => .bl (!(digB d))) _ fun d hd => ?_)
    obtain ⟨c, hc, rfl⟩ := List.mem_map.mp hd
    let s' : Sta := ⟨[some (.dat (.str sg)), some (.dat (.str (itxt (n : Nat)))), some (.dat (.int 31)), none, some (.dat (.str ⟨#[c]⟩))], bg⟩
    refine ⟨s', s', s', rfl, rfl, mNotV_eq ?_, rfl⟩
    by_cases h : strLt ⟨#[c]⟩ "0" = true
    · have e1 : digB (.str ⟨#[c]⟩) = false := by show (!strLt ⟨#[c]⟩ "0" && !strLt "9" ⟨#[c]⟩) = _; rw [h]; rfl
      rw [e1]
      exact mchain_f (s1 := s') (s2 := s') (x := .str "0") (y := .str ⟨#[c]⟩) rfl rfl (by show some (Dt.bl !(strLt ⟨#[c]⟩ "0")) = _; rw [h]; rfl)
    · rw [Bool.not_eq_true] at h
      have e1 : digB (.str ⟨#[c]⟩) = !(strLt "9" ⟨#[c]⟩) := by show (!strLt ⟨#[c]⟩ "0" && !strLt "9" ⟨#[c]⟩) = _; rw [h]; rfl
      rw [e1]
      exact mchain_t (s1 := s') (s2 := s') (s3 := s') (x := .str "0") (y := .str ⟨#[c]⟩) (z := .str "9") rfl rfl (by show some (Dt.bl !(strLt ⟨#[c]⟩ "0")) = _; rw [h]; rfl) rfl rfl
  have eany : mCall gAny (mCons (mComp [4] (wStr (mVar 1)) (hName 4) mYes (mNotV (mChain oLe oLe (mC (.str "0")) (mVar 4) (mC (.str "9"))))) mNil) s0 = some (.bl false, s0) := by
    refine mcall (mcons ecomp rfl) ?_
    rw [gany_map, List.any_map]
    have : (itxt (n : Nat)).cps.toList.any ((fun d => !(digB d)) ∘ fun c => Dt.str ⟨#[c]⟩) = false := by
      rw [List.any_eq_false]
      intro c hc
      have hd := numL_digits n c (by rw [← itxt_nat]; exact hc)
      show ¬ (!(digB (.str ⟨#[c]⟩))) = true
      rw [digB_c]
      have h3 : 48 ≤ c := by omega
      have h4 : c ≤ 57 := by omega
      simp [h3, h4]
    rw [this]
  have ec1 : mOrB (mNotB (mB (mChain oLe oLe (mC (.int 1)) (mCall gLen (mCons (mVar 1) mNil)) (mVar 2)))) (mB (mCall gAny (mCons (mComp [4] (wStr (mVar 1)) (hName 4) mYes (mNotV (mChain oLe oLe (mC (.str "0")) (mVar 4) (mC (.str "9"))))) mNil))) s0 = some (false, s0) := by
    rw [or_f (mNotB_eq (mBt ech))]
    exact mBt eany
  have eint : mCall gIntS (mCons (mVar 1) mNil) s0 = some (.int (n : Nat), s0) := by
    refine mcall (s1 := s0) (l := [.str (itxt (n : Nat))]) rfl ?_
    show (if (itxt (n : Nat)).length ≤ 640 then (PySem.intText? (itxt (n : Nat))).bind fun n => some (Dt.int n) else none) = _
    rw [if_pos (by omega), int_num (by rw [← itxt_nat, ← len_tl]; omega)]
    rfl
  have estr : mCall gStr (mCons (mVar 3) mNil) s1 = some (.str (itxt (n : Nat)), s1) := by
    refine mcall (s1 := s1) (l := [.int (n : Nat)]) rfl ?_
    show (if ((n : Nat) : Int).natAbs.log2 < 1920 then some (Dt.str (toString ((n : Nat) : Int))) else none) = _
    rw [if_pos (log_ok (by unfold Bnd big; omega))]
  have ec2 : mOrB (mB (m2 gNe (mCall gStr (mCons (mVar 3) mNil)) (mVar 1))) (mOrB (mB (m2 gNin (mVar 0) (mTup (mCons (mC (.str "+")) (mCons (mC (.str "-")) mNil))))) (mAndB (mB (m2 gEq (mVar 0) (mC (.str "-")))) (mB (m2 gEq (mVar 3) (mC (.int 0)))))) s1 = some (false, s1) := by
    rw [or_f (mBt (m2_eq (s1 := s1) (s2 := s1) (x := .str (itxt (n : Nat))) (y := .str (itxt (n : Nat))) (d := .bl false) estr rfl (tagN (num_cp n) (num_cp n) (r := true) (by simp))))]
    rw [or_f (mBt (m2_eq (s1 := s1) (s2 := s1) (x := .str sg) (y := .tup [.str "+", .str "-"]) rfl rfl hin))]
    cases neg with
    | false => exact and_f (mBt (m2_eq (s1 := s1) (s2 := s1) (x := .str sg) (y := .str "-") rfl rfl heq))
    | true =>
      rw [and_t (mBt (m2_eq (s1 := s1) (s2 := s1) (x := .str sg) (y := .str "-") rfl rfl heq))]
      show some (((n : Nat) : Int) == 0, s1) = _
      have := h0 rfl
      rw [beq_eq_false_iff_ne.mpr (by omega)]
  unfold sread_signed_
  refine fnd (s1 := s1) ?_
  show kSeq _ _ s0 = _
  rw [kseq (s1 := s0) (by rw [kif_f ec1]; rfl), kseq (s1 := s1) (kasg eint rfl), kseq (s1 := s1) (by rw [kif_f ec2]; rfl)]
  refine kret ?_
  unfold mIf
  rw [mBt (m2_eq (s1 := s1) (s2 := s1) (x := .str sg) (y := .str "-") rfl rfl heq)]
  cases neg <;> rfl
theorem plus_in : gNin (.str "+") (.tup [.str "+", .str "-"]) = some (.bl false) := congrArg (fun b => some (Dt.bl b)) (by decide +kernel : (!([Dt.str "+", Dt.str "-"].any fun d => sameD d (.str "+"))) = false)
theorem minus_in : gNin (.str "-") (.tup [.str "+", .str "-"]) = some (.bl false) := congrArg (fun b => some (Dt.bl b)) (by decide +kernel : (!([Dt.str "+", Dt.str "-"].any fun d => sameD d (.str "-"))) = false)
theorem plus_eq : gEq (.str "+") (.str "-") = some (.bl false) := tag (by decide +kernel) (by decide +kernel) (by decide +kernel)
theorem minus_eq : gEq (.str "-") (.str "-") = some (.bl true) := tag (by decide +kernel) (by decide +kernel) (by decide +kernel)

/-! ### the texts of values -/
theorem tl_empty : tl Str.empty = [] := rfl
theorem empty_app (n : Str) : Str.empty ++ n = n := ext_tl (by rw [tl_append, tl_empty, List.nil_append])
theorem dash : ("-" : Str) = ⟨#[45]⟩ := by decide +kernel
theorem tl_dot : tl "." = [46] := by decide +kernel
theorem tl_sp : tl " " = [32] := by decide +kernel
theorem tl_own : tl "own" = [111, 119, 110] := by decide +kernel
theorem tl_next : tl "next" = [110, 101, 120, 116] := by decide +kernel
theorem starts_dash (w : Str) : Txt.startswith w "-" = decide ((tl w)[0]? = some 45) := by
  rw [dash, Bool.eq_iff_iff, decide_eq_true_eq]
  unfold Txt.startswith
  rw [Bool.and_eq_true, decide_eq_true_eq]
  exact PySem.StrLaws.subAt_one w 45 0
def sgText : Sg → Str
  | .number i => itxt i
  | .name n => n
  | .field n c => n ++ "." ++ c
  | .own c => "own" ++ "." ++ c
  | .next c => "next" ++ "." ++ c
def valText (v : Sg) : Option Int → Str
  | none => sgText v
  | some m => sgText v ++ (if m < 0 then " - " ++ itxt (0 - m) else " + " ++ itxt m)
theorem col_low {c : Str} (h : ColOk c) : Low c := by
  rcases h with rfl | h
  · exact lowB_iff.mp (by decide +kernel)
  · exact h.low
theorem col_len {c : Str} (h : ColOk c) : 1 ≤ c.length ∧ c.length ≤ 6 := by
  rcases h with rfl | h
  · exact ⟨by decide +kernel, by decide +kernel⟩
  · exact ⟨h.pos, h.few⟩
theorem itxt_len {i : Int} (h : Bnd i) : (itxt i).length ≤ 32 := by
  unfold Bnd big at h
  cases i with
  | ofNat n => exact Nat.le_trans (num_len (n := n) (by have e : Int.ofNat n = (n : Int) := rfl; omega)) (by decide)
  | negSucc m =>
    have h1 := num_len (n := m + 1) (by omega)
    rw [len_tl, itxt_nat] at h1
    rw [len_tl, itxt_neg, List.length_cons]
    omega
theorem itxt_mem {i : Int} {c : Nat} (h : c ∈ tl (itxt i)) : c = 45 ∨ 48 ≤ c ∧ c ≤ 57 := by
  cases i with
  | ofNat n => exact .inr (numL_digits n c (by rw [← itxt_nat]; exact h))
  | negSucc m =>
    rw [itxt_neg] at h
    rcases List.mem_cons.mp h with h | h
    · exact .inl h
    · exact .inr (numL_digits _ c h)
theorem itxt_cp (i : Int) : cpOk (itxt i) = true := cp_tl fun c hc => by
  have := itxt_mem hc
  omega
theorem app_cp {a b : Str} (ha : cpOk a = true) (hb : cpOk b = true) : cpOk (a ++ b) = true := by
  refine cp_tl fun c hc => ?_
  rw [tl_append, List.mem_append] at hc
  unfold cpOk at ha hb
  rw [← Array.all_toList, List.all_eq_true] at ha hb
  rcases hc with h | h
  · exact of_decide_eq_true (ha c h)
  · exact of_decide_eq_true (hb c h)
theorem sgText_len {v : Sg} (h : v.Ok) : 1 ≤ (sgText v).length ∧ (sgText v).length ≤ 40 := by
  have hd : ("." : Str).length = 1 := by decide +kernel
  have ho : ("own" : Str).length = 3 := by decide +kernel
  have hx : ("next" : Str).length = 4 := by decide +kernel
  cases v with
  | number i =>
    refine ⟨?_, Nat.le_trans (itxt_len h) (by decide)⟩
    cases i with
    | ofNat n => exact num_pos n
    | negSucc m => show 1 ≤ (itxt (Int.negSucc m)).length; rw [len_tl, itxt_neg]; simp
  | name n => exact ⟨h.pos, Nat.le_trans h.few (by decide)⟩
  | field n c =>
    have h1 := h.1.few
    have h2 := col_len h.2
    show 1 ≤ (n ++ "." ++ c).length ∧ (n ++ "." ++ c).length ≤ 40
    rw [len_app, len_app, hd]; omega
  | own c =>
    have h2 := col_len h
    show 1 ≤ ("own" ++ "." ++ c).length ∧ ("own" ++ "." ++ c : Str).length ≤ 40
    rw [len_app, len_app, hd, ho]; omega
  | next c =>
    have h2 := col_len h
    show 1 ≤ ("next" ++ "." ++ c).length ∧ ("next" ++ "." ++ c : Str).length ≤ 40
    rw [len_app, len_app, hd, hx]; omega
theorem sgText_cp {v : Sg} (h : v.Ok) : cpOk (sgText v) = true := by
  have hd : cpOk "." = true := by decide +kernel
  cases v with
  | number i => exact itxt_cp i
  | name n => exact cp_low h.low
  | field n c => exact app_cp (app_cp (cp_low h.1.low) hd) (cp_low (col_low h.2))
  | own c => exact app_cp (app_cp (by decide +kernel) hd) (cp_low (col_low h))
  | next c => exact app_cp (app_cp (by decide +kernel) hd) (cp_low (col_low h))
theorem line_of {n : Nat} (h : n ≤ 1000) : n ≤ sizeLine := Nat.le_trans h (by decide)
theorem mjs {f : DM Dt} {fs : List (DM Dt)} {acc y out : Str} {s s1 s' : Sta} (h : f s = some (.str y, s1)) (hl : (acc ++ y).length ≤ sizeLine) (e : mJs fs (acc ++ y) s1 = some (out, s')) : mJs (f :: fs) acc s = some (out, s') := by
  unfold mJs
  rw [h, Option.bind_some]
  dsimp only
  rw [if_pos hl]
  exact e
theorem mfmt_s {f : DM Dt} {s s1 : Sta} {y : Str} (h : f s = some (.str y, s1)) (hl : y.length ≤ sizeLine) : mFmt f s = some (.str y, s1) := by
  unfold mFmt
  rw [h, Option.bind_some]
  dsimp only
  rw [if_pos hl]
theorem mfmt_i {f : DM Dt} {s s1 : Sta} {i : Int} (h : f s = some (.int i, s1)) (hl : i.natAbs.log2 < 1920) : mFmt f s = some (.str (itxt i), s1) := by
  unfold mFmt
  rw [h, Option.bind_some]
  dsimp only
  rw [if_pos hl]
theorem mjoined {fs : List (DM Dt)} {s s' : Sta} {out : Str} (e : mJs fs Str.empty s = some (out, s')) : mJoined fs s = some (.str out, s') := by
  unfold mJoined
  rw [e]
  rfl
theorem joined3 {f1 f3 : DM Dt} {a b : Str} {s : Sta} (h1 : f1 s = some (.str a, s)) (h3 : f3 s = some (.str b, s)) (ha : a.length ≤ 40) (hb : b.length ≤ 40) : mJoined [mFmt f1, mC (.str "."), mFmt f3] s = some (.str (a ++ "." ++ b), s) := by
  have hd : ("." : Str).length = 1 := by decide +kernel
  refine mjoined ?_
  refine mjs (s1 := s) (mfmt_s h1 (line_of (by omega))) (by rw [empty_app]; exact line_of (by omega)) ?_
  rw [empty_app]
  refine mjs (s1 := s) rfl (by rw [len_app, hd]; exact line_of (by omega)) ?_
  refine mjs (s1 := s) (mfmt_s h3 (line_of (by omega))) (by rw [len_app, len_app, hd]; exact line_of (by omega)) ?_
  rfl
theorem gin2 {a x y : Str} {r : Bool} (h : (x == a || (y == a || false)) = r) : gIn (.str a) (.tup [.str x, .str y]) = some (.bl r) := congrArg (fun b => some (Dt.bl b)) h
theorem gstr_i {i : Int} (h : Bnd i) : gStr [.int i] = some (.str (itxt i)) := by
  show (if i.natAbs.log2 < 1920 then some (Dt.str (toString i)) else none) = _
  rw [if_pos (log_ok h)]
theorem single_text {v : Sg} (h : v.Ok) (bg : List Dt) : ssingle_text_ [v.d] bg = some (.str (sgText v), bg) := by
  let s : Sta := ⟨[some (.dat v.d)], bg⟩
  have tin : ∀ (t : Str) (r : Bool), gIx v.d (.int 0) = some (.str t) → (("number" : Str) == t || (("name" : Str) == t || false)) = r → mB (m2 gIn (m2 gIx (mVar 0) (mC (.int 0))) (mTup (mCons (mC (.str "number")) (mCons (mC (.str "name")) mNil)))) s = some (r, s) := fun t r h1 h2 =>
    mBt (m2_eq (s1 := s) (s2 := s) (x := .str t) (y := .tup [.str "number", .str "name"]) (m2_eq (s1 := s) (s2 := s) (x := v.d) (y := .int 0) rfl rfl h1) rfl (gin2 h2))
  have tf : ∀ (t : Str) (r : Bool), gIx v.d (.int 0) = some (.str t) → cpOk t = true → (t == "field") = r → mB (m2 gEq (m2 gIx (mVar 0) (mC (.int 0))) (mC (.str "field"))) s = some (r, s) := fun t r h1 h2 h3 =>
    mBt (m2_eq (s1 := s) (s2 := s) (x := .str t) (y := .str "field") (m2_eq (s1 := s) (s2 := s) (x := v.d) (y := .int 0) rfl rfl h1) rfl (tag h2 (by decide +kernel) h3))
  unfold ssingle_text_
  refine fnd (s1 := s) ?_
  show kSeq _ _ s = _
  cases v with
  | number i =>
    unfold kSeq
    rw [kif_t (tin _ _ rfl (by decide +kernel)), kret (mcall (s1 := s) (l := [.int i]) rfl (gstr_i h))]
    rfl
  | name n =>
    unfold kSeq
    rw [kif_t (tin _ _ rfl (by decide +kernel)), kret (mcall (s1 := s) (l := [.str n]) (d := .str n) rfl rfl)]
    rfl
  | field n c =>
    rw [kseq (s1 := s) (by rw [kif_f (tin _ _ rfl (by decide +kernel))]; rfl)]
    unfold kSeq
    rw [kif_t (tf _ _ rfl (by decide +kernel) (by decide +kernel)), kret (joined3 (s := s) (a := n) (b := c) rfl rfl (Nat.le_trans h.1.few (by decide)) (Nat.le_trans (col_len h.2).2 (by decide)))]
    rfl
  | own c =>
    rw [kseq (s1 := s) (by rw [kif_f (tin _ _ rfl (by decide +kernel))]; rfl), kseq (s1 := s) (by rw [kif_f (tf _ _ rfl (by decide +kernel) (by decide +kernel))]; rfl)]
    exact kret (joined3 (s := s) (a := "own") (b := c) rfl rfl (by decide +kernel) (Nat.le_trans (col_len h).2 (by decide)))
  | next c =>
    rw [kseq (s1 := s) (by rw [kif_f (tin _ _ rfl (by decide +kernel))]; rfl), kseq (s1 := s) (by rw [kif_f (tf _ _ rfl (by decide +kernel) (by decide +kernel))]; rfl)]
    exact kret (joined3 (s := s) (a := "next") (b := c) rfl rfl (by decide +kernel) (Nat.le_trans (col_len h).2 (by decide)))
theorem valText_plus {A : Str} {m : Int} : A ++ (if m < 0 then " - " ++ itxt (0 - m) else " + " ++ itxt m) = A ++ " " ++ (if m < 0 then ("-" : Str) else ("+" : Str)) ++ " " ++ itxt (if m < 0 then -m else m) := by
  have e1 : tl " - " = [32, 45, 32] := by decide +kernel
  have e2 : tl " + " = [32, 43, 32] := by decide +kernel
  have e3 : tl "-" = [45] := by decide +kernel
  have e4 : tl "+" = [43] := by decide +kernel
  apply ext_tl
  by_cases h : m < 0
  · rw [if_pos h, if_pos h, if_pos h, Int.zero_sub]
    simp only [tl_append, e1, e3, tl_sp, List.append_assoc]
    rfl
  · rw [if_neg h, if_neg h, if_neg h]
    simp only [tl_append, e2, e4, tl_sp, List.append_assoc]
    rfl
theorem value_text {v : Sg} (h : v.Ok) {o : Option Int} (ho : ∀ m, o = some m → Bnd m) (bg : List Dt) : svalue_text [vald v o] bg = some (.str (valText v o), bg) := by
  let s0 : Sta := ⟨[some (.dat (vald v o)), none], bg⟩
  have e1 : mNotB (mB (mApp sis_value (mCons (mVar 0) mNil))) s0 = some (false, s0) := mNotB_eq (mBt (mapp (s1 := s0) (ds := [vald v o]) rfl (value_ok h ho bg)))
  have tf : ∀ (t : Str) (r : Bool), gIx (vald v o) (.int 0) = some (.str t) → cpOk t = true → (t == "plus") = r → mB (m2 gNe (m2 gIx (mVar 0) (mC (.int 0))) (mC (.str "plus"))) s0 = some (!r, s0) := fun t r h1 h2 h3 =>
    mBt (m2_eq (s1 := s0) (s2 := s0) (x := .str t) (y := .str "plus") (m2_eq (s1 := s0) (s2 := s0) (x := vald v o) (y := .int 0) rfl rfl h1) rfl (tagN h2 (by decide +kernel) h3))
  unfold svalue_text
  cases o with
  | none =>
    refine fnd (s1 := s0) ?_
    show kSeq _ _ s0 = _
    rw [kseq (s1 := s0) (by rw [kif_f e1]; rfl)]
    have e2 : mB (m2 gNe (m2 gIx (mVar 0) (mC (.int 0))) (mC (.str "plus"))) s0 = some (true, s0) := by
      cases v <;> exact tf _ false rfl (by decide +kernel) (by decide +kernel)
    unfold kSeq
    rw [kif_t e2, kret (mapp (s1 := s0) (ds := [v.d]) rfl (single_text h bg))]
    rfl
  | some m =>
    have hm := ho m rfl
    let s1 : Sta := ⟨[some (.dat (vald v (some m))), some (.dat (.str (if m < 0 then "-" else "+")))], bg⟩
    refine fnd (s1 := s1) ?_
    show kSeq _ _ s0 = _
    rw [kseq (s1 := s0) (by rw [kif_f e1]; rfl), kseq (s1 := s0) (by rw [kif_f (tf _ true rfl (by decide +kernel) (by decide +kernel))]; rfl), kseq (s1 := s1)]
    · refine kret ?_
      have hA := sgText_len h
      have hs : (if m < 0 then "-" else "+" : Str).length = 1 := by by_cases c : m < 0 <;> simp only [c, if_true, if_false] <;> decide +kernel
      have hb : Bnd (if m < 0 then -m else m) := by unfold Bnd big at hm ⊢; split <;> omega
      have hn := itxt_len hb
      have h1 : (" " : Str).length = 1 := by decide +kernel
      show mJoined _ s1 = some (.str (sgText v ++ (if m < 0 then " - " ++ itxt (0 - m) else " + " ++ itxt m)), s1)
      rw [valText_plus]
      refine mjoined ?_
      refine mjs (s1 := s1) (mfmt_s (mapp (s1 := s1) (ds := [v.d]) rfl (single_text h bg)) (line_of (by omega))) (by rw [empty_app]; exact line_of (by omega)) ?_
      rw [empty_app]
      refine mjs (s1 := s1) rfl (by rw [len_app, h1]; exact line_of (by omega)) ?_
      refine mjs (s1 := s1) (mfmt_s (y := if m < 0 then "-" else "+") rfl (line_of (by omega))) (by rw [len_app, len_app, h1, hs]; exact line_of (by omega)) ?_
      refine mjs (s1 := s1) rfl (by rw [len_app, len_app, len_app, h1, hs]; exact line_of (by omega)) ?_
      refine mjs (s1 := s1) (mfmt_i (mcall (s1 := s1) (l := [.int m]) rfl rfl) (log_ok hb)) (by rw [len_app, len_app, len_app, len_app, h1, hs]; exact line_of (by omega)) ?_
      rfl
    · refine kasg (s1 := s0) (d := .str (if m < 0 then "-" else "+")) ?_ rfl
      unfold mIf
      have e3 : mB (m2 oLt (m2 gIx (mVar 0) (mC (.int 2))) (mC (.int 0))) s0 = some (decide (m < 0), s0) := rfl
      rw [e3]
      by_cases c : m < 0
      · rw [decide_eq_true c, if_pos c]; rfl
      · rw [decide_eq_false c, if_neg c]; rfl

theorem gadd_l {a b : Str} (h : a.length + b.length ≤ 1000) : gAdd (.str a) (.str b) = some (.str (a ++ b)) := gadd_str h
theorem law_single {v : Sg} (h : v.Ok) (R : FD) (bg : List Dt) : sLvalue_textB R [v.d] bg = some (.str (sgText v), bg) := by
  let s : Sta := ⟨[some (.dat v.d), none], bg⟩
  have hd : ("." : Str).length = 1 := by decide +kernel
  have tp : ∀ (t : Str) (r : Bool), gIx v.d (.int 0) = some (.str t) → cpOk t = true → (t == "plus") = r → mB (m2 gEq (m2 gIx (mVar 0) (mC (.int 0))) (mC (.str "plus"))) s = some (r, s) := fun t r h1 h2 h3 =>
    mBt (m2_eq (s1 := s) (s2 := s) (x := .str t) (y := .str "plus") (m2_eq (s1 := s) (s2 := s) (x := v.d) (y := .int 0) rfl rfl h1) rfl (tag h2 (by decide +kernel) h3))
  have tf : ∀ (t : Str) (r : Bool), gIx v.d (.int 0) = some (.str t) → cpOk t = true → (t == "field") = r → mB (m2 gEq (m2 gIx (mVar 0) (mC (.int 0))) (mC (.str "field"))) s = some (r, s) := fun t r h1 h2 h3 =>
    mBt (m2_eq (s1 := s) (s2 := s) (x := .str t) (y := .str "field") (m2_eq (s1 := s) (s2 := s) (x := v.d) (y := .int 0) rfl rfl h1) rfl (tag h2 (by decide +kernel) h3))
  have tin : ∀ (t : Str) (r : Bool), gIx v.d (.int 0) = some (.str t) → (("own" : Str) == t || (("next" : Str) == t || false)) = r → mB (m2 gIn (m2 gIx (mVar 0) (mC (.int 0))) (mTup (mCons (mC (.str "own")) (mCons (mC (.str "next")) mNil)))) s = some (r, s) := fun t r h1 h2 =>
    mBt (m2_eq (s1 := s) (s2 := s) (x := .str t) (y := .tup [.str "own", .str "next"]) (m2_eq (s1 := s) (s2 := s) (x := v.d) (y := .int 0) rfl rfl h1) rfl (gin2 h2))
  unfold sLvalue_textB
  refine fnd (s1 := s) ?_
  show kSeq _ _ s = _
  have e0 : mB (m2 gEq (m2 gIx (mVar 0) (mC (.int 0))) (mC (.str "plus"))) s = some (false, s) := by
    cases v <;> exact tp _ false rfl (by decide +kernel) (by decide +kernel)
  rw [kseq (s1 := s) (by rw [kif_f e0]; rfl)]
  cases v with
  | number i =>
    rw [kseq (s1 := s) (by rw [kif_f (tf _ false rfl (by decide +kernel) (by decide +kernel))]; rfl), kseq (s1 := s) (by rw [kif_f (tin _ false rfl (by decide +kernel))]; rfl)]
    exact kret (mcall (s1 := s) (l := [.int i]) rfl (gstr_i h))
  | name n =>
    rw [kseq (s1 := s) (by rw [kif_f (tf _ false rfl (by decide +kernel) (by decide +kernel))]; rfl), kseq (s1 := s) (by rw [kif_f (tin _ false rfl (by decide +kernel))]; rfl)]
    exact kret (mcall (s1 := s) (l := [.str n]) (d := .str n) rfl rfl)
  | field n c =>
    unfold kSeq
    rw [kif_t (tf _ true rfl (by decide +kernel) (by decide +kernel)), kret (d := .str (n ++ "." ++ c)) (s1 := s)]
    · rfl
    · have h1 := h.1.few
      have h2 := (col_len h.2).2
      refine m2_eq (s1 := s) (s2 := s) (x := .str (n ++ ".")) (y := .str c) (m2_eq (s1 := s) (s2 := s) (x := .str n) (y := .str ".") rfl rfl (gadd_l (by omega))) rfl (gadd_l (by rw [len_app]; omega))
  | own c =>
    rw [kseq (s1 := s) (by rw [kif_f (tf _ false rfl (by decide +kernel) (by decide +kernel))]; rfl)]
    unfold kSeq
    rw [kif_t (tin _ true rfl (by decide +kernel)), kret (d := .str ("own" ++ "." ++ c)) (s1 := s)]
    · rfl
    · have h2 := (col_len h).2
      have ho : ("own" : Str).length = 3 := by decide +kernel
      refine m2_eq (s1 := s) (s2 := s) (x := .str ("own" ++ ".")) (y := .str c) (m2_eq (s1 := s) (s2 := s) (x := .str "own") (y := .str ".") rfl rfl (gadd_l (by omega))) rfl (gadd_l (by rw [len_app]; omega))
  | next c =>
    rw [kseq (s1 := s) (by rw [kif_f (tf _ false rfl (by decide +kernel) (by decide +kernel))]; rfl)]
    unfold kSeq
    rw [kif_t (tin _ true rfl (by decide +kernel)), kret (d := .str ("next" ++ "." ++ c)) (s1 := s)]
    · rfl
    · have h2 := (col_len h).2
      have ho : ("next" : Str).length = 4 := by decide +kernel
      refine m2_eq (s1 := s) (s2 := s) (x := .str ("next" ++ ".")) (y := .str c) (m2_eq (s1 := s) (s2 := s) (x := .str "next") (y := .str ".") rfl rfl (gadd_l (by omega))) rfl (gadd_l (by rw [len_app]; omega))
theorem law_text {v : Sg} (h : v.Ok) {o : Option Int} (ho : ∀ m, o = some m → Bnd m) (bg : List Dt) : sLvalue_text 3 [vald v o] bg = some (.str (valText v o), bg) := by
  cases o with
  | none => exact law_single h _ bg
  | some m =>
    have hm := ho m rfl
    let s0 : Sta := ⟨[some (.dat (vald v (some m))), none], bg⟩
    let s1 : Sta := ⟨[some (.dat (vald v (some m))), some (.dat (.int m))], bg⟩
    show sLvalue_textB (sLvalue_text 2) _ bg = _
    unfold sLvalue_textB
    refine fnd (s1 := s1) ?_
    show kSeq _ _ s0 = _
    unfold kSeq
    rw [kif_t (s1 := s0) (mBt (m2_eq (s1 := s0) (s2 := s0) (x := .str "plus") (y := .str "plus") rfl rfl (tag (by decide +kernel) (by decide +kernel) (by decide +kernel))))]
    show (kSeq _ _ s0).bind _ = _
    rw [kseq (s1 := s1) rfl, kret (s1 := s1) (d := .str (valText v (some m)))]
    · rfl
    · have hA := sgText_len h
      have h1 : (" - " : Str).length = 3 := by decide +kernel
      have h2 : (" + " : Str).length = 3 := by decide +kernel
      have eA : mApp (sLvalue_text 2) (mCons (m2 gIx (mVar 0) (mC (.int 1))) mNil) s1 = some (.str (sgText v), s1) := mapp (s1 := s1) (ds := [v.d]) rfl (law_single h (sLvalue_text 1) bg)
      have e3 : mB (m2 oLt (mVar 1) (mC (.int 0))) s1 = some (decide (m < 0), s1) := rfl
      by_cases c : m < 0
      · have hb : Bnd (0 - m) := by unfold Bnd big at hm ⊢; omega
        have hn := itxt_len hb
        show m2 gAdd _ _ s1 = some (.str (sgText v ++ (if m < 0 then " - " ++ itxt (0 - m) else " + " ++ itxt m)), s1)
        rw [if_pos c]
        refine m2_eq (s1 := s1) (s2 := s1) (x := .str (sgText v)) (y := .str (" - " ++ itxt (0 - m))) eA ?_ (gadd_l (by rw [len_app]; omega))
        unfold mIf
        rw [e3, decide_eq_true c]
        show m2 gAdd (mC (.str " - ")) (mCall gStr (mCons (m2 gSub0 (mC (.int 0)) (mVar 1)) mNil)) s1 = _
        exact m2_eq (s1 := s1) (s2 := s1) (x := .str " - ") (y := .str (itxt (0 - m))) rfl (mcall (s1 := s1) (l := [.int (0 - m)]) rfl (gstr_i hb)) (gadd_l (by omega))
      · have hn := itxt_len hm
        show m2 gAdd _ _ s1 = some (.str (sgText v ++ (if m < 0 then " - " ++ itxt (0 - m) else " + " ++ itxt m)), s1)
        rw [if_neg c]
        refine m2_eq (s1 := s1) (s2 := s1) (x := .str (sgText v)) (y := .str (" + " ++ itxt m)) eA ?_ (gadd_l (by rw [len_app]; omega))
        unfold mIf
        rw [e3, decide_eq_false c]
        show m2 gAdd (mC (.str " + ")) (mCall gStr (mCons (mVar 1) mNil)) s1 = _
        exact m2_eq (s1 := s1) (s2 := s1) (x := .str " + ") (y := .str (itxt m)) rfl (mcall (s1 := s1) (l := [.int m]) rfl (gstr_i hm)) (gadd_l (by omega))
/-! ### reading -/
theorem low_free {z : Str} (h : Low z) {c : Nat} (hc : c < 97) : c ∉ tl z := fun hm => by
  have := h c hm
  unfold letter at this
  omega
theorem ne_own {w : Str} (h : 111 ∉ tl w) : (("own" : Str) == w) = false := by
  rw [beq_eq_false_iff_ne]
  intro e
  apply h
  rw [← e, tl_own]
  simp
theorem ne_next {w : Str} (h : 120 ∉ tl w) : (("next" : Str) == w) = false := by
  rw [beq_eq_false_iff_ne]
  intro e
  apply h
  rw [← e, tl_next]
  simp
theorem free_name {n : Str} (h : NameOk n) : (("own" : Str) == n || (("next" : Str) == n || false)) = false := by
  have e1 : (("own" : Str) == n) = false := by
    rw [beq_eq_false_iff_ne]; intro e; apply h.free; rw [← e]; simp [resv]
  have e2 : (("next" : Str) == n) = false := by
    rw [beq_eq_false_iff_ne]; intro e; apply h.free; rw [← e]; simp [resv]
  rw [e1, e2]; rfl
theorem nameB_num (i : Int) : nameB (itxt i) = false := by
  have h : lowB (itxt i) = false := by
    rw [Bool.eq_false_iff]
    intro h
    have hl := lowB_iff.mp h
    have hne : tl (itxt i) ≠ [] := by
      cases i with
      | ofNat n => rw [show tl (itxt (Int.ofNat n)) = numL n from itxt_nat n]; exact numL_ne n
      | negSucc m => rw [itxt_neg]; simp
    obtain ⟨c, hc⟩ := List.exists_mem_of_ne_nil _ hne
    have h1 := hl c hc
    have h2 := itxt_mem hc
    unfold letter at h1
    omega
  unfold nameB
  rw [h]
  rfl
theorem part_some {a b : Str} (h : 46 ∉ tl a) (hl : (a ++ "." ++ b).length ≤ 1000) : gPartition (a ++ "." ++ b) (.str ".") = some (.tup [.str a, .str ".", .str b]) := by
  show (if (("." : Str).length == 0) = false ∧ (a ++ "." ++ b).length ≤ sizeLine then some (Dt.tup [.str (Txt.partition (a ++ "." ++ b) ".").1, .str (Txt.partition (a ++ "." ++ b) ".").2.1, .str (Txt.partition (a ++ "." ++ b) ".").2.2]) else none) = _
  rw [if_pos ⟨by decide +kernel, line_of hl⟩, partition_app tl_dot h]
theorem part_none {a : Str} (h : 46 ∉ tl a) (hl : a.length ≤ 1000) : gPartition a (.str ".") = some (.tup [.str a, .str Str.empty, .str Str.empty]) := by
  show (if (("." : Str).length == 0) = false ∧ a.length ≤ sizeLine then some (Dt.tup [.str (Txt.partition a ".").1, .str (Txt.partition a ".").2.1, .str (Txt.partition a ".").2.2]) else none) = _
  rw [if_pos ⟨by decide +kernel, line_of hl⟩, partition_none tl_dot h]
theorem cut1 {m : Nat} : cutS (itxt (Int.negSucc m)) (some 1) none = itxt ((m + 1 : Nat) : Int) := by
  apply ext_tl
  have hlen : (itxt (Int.negSucc m)).cps.toList = 45 :: numL (m + 1) := itxt_neg m
  have hn : (itxt (Int.negSucc m)).length = (numL (m + 1)).length + 1 := by rw [len_tl, itxt_neg]; rfl
  show ((((itxt (Int.negSucc m)).cps.toList.drop (HT.sIx (itxt (Int.negSucc m)).length 0 (some ((1 : Nat) : Int)))).take _).toArray).toList = tl (itxt ((m + 1 : Nat) : Int))
  rw [hlen, HT.sIx_nat, HT.sIx_none, hn, itxt_nat]
  have e : min 1 ((numL (m + 1)).length + 1) = 1 := by omega
  have e3 : HT.sIx ((numL (m + 1)).length + 1) 0 (some 1) = 1 := by
    rw [show (some (1 : Int)) = some ((1 : Nat) : Int) from rfl, HT.sIx_nat]; omega
  rw [e]
  show List.take _ (numL (m + 1)) = numL (m + 1)
  exact List.take_of_length_le (by rw [e3]; omega)
theorem read_integer {i : Int} (h : Bnd i) (bg : List Dt) : sread_integer [.str (itxt i), .int 31] bg = some (.int i, bg) := by
  let s : Sta := ⟨[some (.dat (.str (itxt i))), some (.dat (.int 31))], bg⟩
  have tst : mB (mM1 gStarts (mVar 0) (mC (.str "-"))) s = some (decide ((tl (itxt i))[0]? = some 45), s) := by
    refine mBt (mm1 (s1 := s) (s2 := s) (a := itxt i) (y := .str "-") rfl rfl ?_)
    show some (Dt.bl (Txt.startswith (itxt i) "-")) = _
    rw [starts_dash]
  have hb : -big ≤ i ∧ i ≤ big := h
  unfold big at hb
  unfold sread_integer
  refine fnd (s1 := s) ?_
  show kSeq _ _ s = _
  cases i with
  | ofNat n =>
    have e0 : ¬ (tl (itxt (Int.ofNat n)))[0]? = some 45 := fun e => by
      have hm := List.mem_of_getElem? e
      have := numL_digits n 45 (by rw [← itxt_nat]; exact hm)
      omega
    rw [decide_eq_false e0] at tst
    rw [kseq (s1 := s) (by rw [kif_f tst]; rfl)]
    exact kret (mapp (s1 := s) (ds := [.str "+", .str (itxt (n : Nat)), .int 31]) rfl (read_signed (n := n) (neg := false) (by have e : Int.ofNat n = (n : Int) := rfl; omega) plus_in plus_eq (fun e => by cases e) bg))
  | negSucc m =>
    have e0 : (tl (itxt (Int.negSucc m)))[0]? = some 45 := by rw [itxt_neg]; rfl
    rw [decide_eq_true e0] at tst
    unfold kSeq
    rw [kif_t tst, kret (s1 := s) (d := .int (Int.negSucc m))]
    · rfl
    · refine mapp (s1 := s) (ds := [.str "-", .str (itxt ((m + 1 : Nat) : Int)), .int 31]) ?_ (read_signed (n := m + 1) (neg := true) (by omega) minus_in minus_eq (fun _ => by omega) bg)
      refine mcons (s1 := s) rfl (mcons (s1 := s) (msl (s1 := s) (s2 := s) (s3 := s) (x := .str (itxt (Int.negSucc m))) (lo := some 1) (hi := none) rfl rfl rfl ?_) rfl)
      rw [gsl_str (by have := itxt_len h; omega), cut1]
theorem read_single {v : Sg} (h : v.Ok) (bg : List Dt) : sread_single_ [.str (sgText v)] bg = some (v.d, bg) := by
  have hlen := sgText_len h
  let st (a b c : Str) : Sta := ⟨[some (.dat (.str (sgText v))), some (.dat (.str a)), some (.dat (.str b)), some (.dat (.str c))], bg⟩
  have start : ∀ a b c, gPartition (sgText v) (.str ".") = some (.tup [.str a, .str b, .str c]) → kAsg (mM1 gPartition (mVar 0) (mC (.str "."))) (hTup 3 (hCons (hName 1) (hCons (hName 2) (hCons (hName 3) hNil)))) ⟨[some (.dat (.str (sgText v))), none, none, none], bg⟩ = some (.nx, st a b c) := fun a b c e =>
    kasg (s1 := ⟨[some (.dat (.str (sgText v))), none, none, none], bg⟩) (mm1 (s1 := ⟨[some (.dat (.str (sgText v))), none, none, none], bg⟩) (s2 := ⟨[some (.dat (.str (sgText v))), none, none, none], bg⟩) (a := sgText v) (y := .str ".") rfl rfl e) rfl
  have tin : ∀ a b c r, (("own" : Str) == a || (("next" : Str) == a || false)) = r → mB (m2 gIn (mVar 1) (mTup (mCons (mC (.str "own")) (mCons (mC (.str "next")) mNil)))) (st a b c) = some (r, st a b c) := fun a b c r e =>
    mBt (m2_eq (s1 := st a b c) (s2 := st a b c) (x := .str a) (y := .tup [.str "own", .str "next"]) rfl rfl (gin2 e))
  have tno : ∀ a c, mTru (mVar 2) (st a Str.empty c) = some (false, st a Str.empty c) := fun a c => rfl
  have tyes : ∀ a c, mTru (mVar 2) (st a "." c) = some (true, st a "." c) := fun a c => by
    have e : mVar 2 (st a "." c) = some (.str ".", st a "." c) := rfl
    unfold mTru
    rw [e, Option.bind_some]
    have : truD (.str ".") = some true := by
      show (if ("." : Str).length ≤ sizeLine then some ((("." : Str).length : Int) != 0) else none) = _
      rw [if_pos (line_of (by decide +kernel))]
      decide +kernel
    show (truD (.str ".")).bind _ = _
    rw [this]
    rfl
  have tname : ∀ a c, mB (mApp sis_name (mCons (mVar 0) mNil)) (st a Str.empty c) = some (nameB (sgText v), st a Str.empty c) := fun a c =>
    mBt (mapp (s1 := st a Str.empty c) (ds := [.str (sgText v)]) rfl (is_name_str _ bg (by omega)))
  unfold sread_single_
  cases v with
  | number i =>
    have h46 : 46 ∉ tl (itxt i) := fun hm => by have := itxt_mem hm; omega
    have h111 : 111 ∉ tl (itxt i) := fun hm => by have := itxt_mem hm; omega
    have h120 : 120 ∉ tl (itxt i) := fun hm => by have := itxt_mem hm; omega
    have hin : (("own" : Str) == itxt i || (("next" : Str) == itxt i || false)) = false := by rw [ne_own h111, ne_next h120]; rfl
    refine fnd (s1 := st (itxt i) Str.empty Str.empty) ?_
    show kSeq _ _ ⟨[some (.dat (.str (sgText (Sg.number i)))), none, none, none], bg⟩ = _
    rw [kseq (start (itxt i) Str.empty Str.empty (part_none h46 (by have := itxt_len h; exact Nat.le_trans this (by decide)))), kseq (s1 := st (itxt i) Str.empty Str.empty) (by rw [kif_f (tin _ _ _ _ hin)]; rfl), kseq (s1 := st (itxt i) Str.empty Str.empty) (by rw [kif_f (tno _ _)]; rfl), kseq (s1 := st (itxt i) Str.empty Str.empty) (by rw [kif_f (by rw [tname]; show some (nameB (itxt i), _) = some (false, _); rw [nameB_num])]; rfl)]
    refine kret (mtup (mcons (s1 := st (itxt i) Str.empty Str.empty) rfl (mcons (s1 := st (itxt i) Str.empty Str.empty) (x := .int i) ?_ rfl)))
    exact mapp (s1 := st (itxt i) Str.empty Str.empty) (ds := [.str (itxt i), .int 31]) rfl (read_integer h bg)
  | name n =>
    refine fnd (s1 := st n Str.empty Str.empty) ?_
    show kSeq _ _ ⟨[some (.dat (.str (sgText (Sg.name n)))), none, none, none], bg⟩ = _
    rw [kseq (start n Str.empty Str.empty (part_none (low_free h.low (by decide)) (Nat.le_trans h.few (by decide)))), kseq (s1 := st n Str.empty Str.empty) (by rw [kif_f (tin _ _ _ _ (free_name h))]; rfl), kseq (s1 := st n Str.empty Str.empty) (by rw [kif_f (tno _ _)]; rfl)]
    unfold kSeq
    rw [kif_t (by rw [tname]; show some (nameB n, _) = some (true, _); rw [nameB_iff.mpr h]), kret (s1 := st n Str.empty Str.empty) (d := (Sg.name n).d)]
    · rfl
    · exact mtup (mcons (s1 := st n Str.empty Str.empty) rfl (mcons (s1 := st n Str.empty Str.empty) rfl rfl))
  | field n c =>
    refine fnd (s1 := st n "." c) ?_
    show kSeq _ _ ⟨[some (.dat (.str (sgText (Sg.field n c)))), none, none, none], bg⟩ = _
    rw [kseq (start n "." c (part_some (low_free h.1.low (by decide)) (Nat.le_trans hlen.2 (by decide)))), kseq (s1 := st n "." c) (by rw [kif_f (tin _ _ _ _ (free_name h.1))]; rfl)]
    unfold kSeq
    rw [kif_t (tyes _ _), kret (s1 := st n "." c) (d := (Sg.field n c).d)]
    · rfl
    · exact mtup (mcons (s1 := st n "." c) rfl (mcons (s1 := st n "." c) rfl (mcons (s1 := st n "." c) rfl rfl)))
  | own c =>
    refine fnd (s1 := st "own" "." c) ?_
    show kSeq _ _ ⟨[some (.dat (.str (sgText (Sg.own c)))), none, none, none], bg⟩ = _
    rw [kseq (start "own" "." c (part_some (by rw [tl_own]; decide) (Nat.le_trans hlen.2 (by decide))))]
    unfold kSeq
    rw [kif_t (tin _ _ _ true (by decide +kernel)), kret (s1 := st "own" "." c) (d := (Sg.own c).d)]
    · rfl
    · exact mtup (mcons (s1 := st "own" "." c) rfl (mcons (s1 := st "own" "." c) rfl rfl))
  | next c =>
    refine fnd (s1 := st "next" "." c) ?_
    show kSeq _ _ ⟨[some (.dat (.str (sgText (Sg.next c)))), none, none, none], bg⟩ = _
    rw [kseq (start "next" "." c (part_some (by rw [tl_next]; decide) (Nat.le_trans hlen.2 (by decide))))]
    unfold kSeq
    rw [kif_t (tin _ _ _ true (by decide +kernel)), kret (s1 := st "next" "." c) (d := (Sg.next c).d)]
    · rfl
    · exact mtup (mcons (s1 := st "next" "." c) rfl (mcons (s1 := st "next" "." c) rfl rfl))

theorem itxt_sp {i : Int} : 32 ∉ tl (itxt i) := fun h => by have := itxt_mem h; omega
theorem sg_sp {v : Sg} (h : v.Ok) : 32 ∉ tl (sgText v) := by
  have hd : 32 ∉ tl "." := by rw [tl_dot]; decide
  have app : ∀ {a b : Str}, 32 ∉ tl a → 32 ∉ tl b → 32 ∉ tl (a ++ b) := fun ha hb hm => by
    rw [tl_append, List.mem_append] at hm
    exact hm.elim ha hb
  cases v with
  | number i => exact itxt_sp
  | name n => exact low_free h.low (by decide)
  | field n c => exact app (app (low_free h.1.low (by decide)) hd) (low_free (col_low h.2) (by decide))
  | own c => exact app (app (by rw [tl_own]; decide) hd) (low_free (col_low h) (by decide))
  | next c => exact app (app (by rw [tl_next]; decide) hd) (low_free (col_low h) (by decide))
def valParts (v : Sg) : Option Int → List Str
  | none => [sgText v]
  | some m => [sgText v, if m < 0 then ("-" : Str) else ("+" : Str), itxt ((m.natAbs : Nat) : Int)]
theorem abs_eq (m : Int) : (if m < 0 then -m else m) = ((m.natAbs : Nat) : Int) := by split <;> omega
theorem val_join (v : Sg) (o : Option Int) : valText v o = Txt.join " " (valParts v o) := by
  rw [join_eq]
  cases o with
  | none => rfl
  | some m =>
    show sgText v ++ (if m < 0 then " - " ++ itxt (0 - m) else " + " ++ itxt m) = sgText v ++ " " ++ ((if m < 0 then ("-" : Str) else ("+" : Str)) ++ " " ++ itxt ((m.natAbs : Nat) : Int))
    rw [valText_plus, abs_eq]
    apply ext_tl
    simp only [tl_append, List.append_assoc]
theorem val_split {v : Sg} (h : v.Ok) (o : Option Int) : Txt.split (valText v o) " " = valParts v o := by
  rw [val_join]
  refine split_join tl_sp (by decide +kernel) ?_ fun p hp => ?_
  · cases o <;> simp [valParts]
  · cases o with
    | none => rw [show valParts v none = [sgText v] from rfl, List.mem_singleton] at hp; rw [hp]; exact sg_sp h
    | some m =>
      simp only [valParts, List.mem_cons, List.not_mem_nil, or_false] at hp
      rcases hp with rfl | rfl | rfl
      · exact sg_sp h
      · by_cases c : m < 0
        · rw [if_pos c]; decide +kernel
        · rw [if_neg c]; decide +kernel
      · exact itxt_sp
theorem valText_len {v : Sg} (h : v.Ok) {o : Option Int} (ho : ∀ m, o = some m → Bnd m) : (valText v o).length ≤ 100 := by
  have hA := (sgText_len h).2
  cases o with
  | none => exact Nat.le_trans hA (by decide)
  | some m =>
    have hm := ho m rfl
    have h1 : (" - " : Str).length = 3 := by decide +kernel
    have h2 : (" + " : Str).length = 3 := by decide +kernel
    show (sgText v ++ (if m < 0 then " - " ++ itxt (0 - m) else " + " ++ itxt m)).length ≤ 100
    by_cases c : m < 0
    · have hn := itxt_len (i := 0 - m) (by unfold Bnd big at hm ⊢; omega)
      rw [if_pos c, len_app, len_app]; omega
    · have hn := itxt_len hm
      rw [if_neg c, len_app, len_app]; omega
theorem valText_cp {v : Sg} (h : v.Ok) (o : Option Int) : cpOk (valText v o) = true := by
  cases o with
  | none => exact sgText_cp h
  | some m =>
    show cpOk (sgText v ++ (if m < 0 then " - " ++ itxt (0 - m) else " + " ++ itxt m)) = true
    by_cases c : m < 0
    · rw [if_pos c]; exact app_cp (sgText_cp h) (app_cp (by decide +kernel) (itxt_cp _))
    · rw [if_neg c]; exact app_cp (sgText_cp h) (app_cp (by decide +kernel) (itxt_cp _))
theorem read_value {v : Sg} (h : v.Ok) {o : Option Int} (ho : ∀ m, o = some m → Bnd m) (bg : List Dt) : sread_value [.str (valText v o)] bg = some (vald v o, bg) := by
  have hlen := valText_len h ho
  let ws : List Dt := (valParts v o).map Dt.str
  let s0 : Sta := ⟨[some (.dat (.str (valText v o))), none, none], bg⟩
  let s1 : Sta := ⟨[some (.dat (.str (valText v o))), some (.dat (.lst ws)), none], bg⟩
  let s2 : Sta := ⟨[some (.dat (.str (valText v o))), some (.dat (.lst ws)), some (.dat v.d)], bg⟩
  let s3 : Sta := ⟨[some (.dat (.str (valText v o))), some (.dat (.lst ws)), some (.dat (vald v o))], bg⟩
  have esp : mM1 gSplit (mVar 0) (mC (.str " ")) s0 = some (.lst ws, s0) := by
    refine mm1 (s1 := s0) (s2 := s0) (a := valText v o) (y := .str " ") rfl rfl ?_
    show (if ((" " : Str).length == 0) = false ∧ (valText v o).length + 2 ≤ sizeLine then some (Dt.lst ((Txt.split (valText v o) " ").map Dt.str)) else none) = _
    rw [if_pos ⟨by decide +kernel, line_of (by omega)⟩, val_split h o]
  have e0 : gIx (.lst ws) (.int 0) = some (.str (sgText v)) := by
    show gIx (.lst ((valParts v o).map Dt.str)) (.int 0) = _
    cases o <;> rfl
  have ers : mApp sread_single_ (mCons (m2 gIx (mVar 1) (mC (.int 0))) mNil) s1 = some (v.d, s1) :=
    mapp (s1 := s1) (ds := [.str (sgText v)]) (mcons (s1 := s1) (m2_eq (s1 := s1) (s2 := s1) (x := .lst ws) (y := .int 0) rfl rfl e0) rfl) (read_single h bg)
  have e4 : kIf (mB (m2 gEq (mCall gLen (mCons (mVar 1) mNil)) (mC (.int 3)))) (kAsg (mTup (mCons (mC (.str "plus")) (mCons (mVar 2) (mCons (mApp sread_signed_ (mCons (m2 gIx (mVar 1) (mC (.int 1))) (mCons (m2 gIx (mVar 1) (mC (.int 2))) (mCons (mC s_MOST_DIGITS) mNil)))) mNil)))) (hName 2)) kSkip s2 = some (.nx, s3) := by
    cases o with
    | none => rw [kif_f (s1 := s2) rfl]; rfl
    | some m =>
      rw [kif_t (s1 := s2) rfl]
      refine kasg (s1 := s2) (d := vald v (some m)) ?_ rfl
      have hm := ho m rfl
      have hn : m.natAbs ≤ 1000000000000000000000000000000 := by unfold Bnd big at hm; omega
      refine mtup (mcons (s1 := s2) rfl (mcons (s1 := s2) rfl (mcons (s1 := s2) (x := .int m) ?_ rfl)))
      refine mapp (s1 := s2) (ds := [.str (if m < 0 then ("-" : Str) else ("+" : Str)), .str (itxt ((m.natAbs : Nat) : Int)), .int 31]) rfl ?_
      by_cases c : m < 0
      · rw [if_pos c]
        rw [read_signed (n := m.natAbs) (neg := true) hn minus_in minus_eq (fun _ => by omega) bg]
        have : (if true = true then -((m.natAbs : Nat) : Int) else ((m.natAbs : Nat) : Int)) = m := by rw [if_pos rfl]; omega
        rw [this]
      · rw [if_neg c]
        rw [read_signed (n := m.natAbs) (neg := false) hn plus_in plus_eq (fun e => by cases e) bg]
        have : (if false = true then -((m.natAbs : Nat) : Int) else ((m.natAbs : Nat) : Int)) = m := by rw [if_neg Bool.false_ne_true]; omega
        rw [this]
  have e5 : mOrB (mB (m2 gNin (mCall gLen (mCons (mVar 1) mNil)) (mTup (mCons (mC (.int 1)) (mCons (mC (.int 3)) mNil))))) (mNotB (mB (mApp sis_value (mCons (mVar 2) mNil)))) s3 = some (false, s3) := by
    rw [or_f (s1 := s3)]
    · exact mNotB_eq (mBt (mapp (s1 := s3) (ds := [vald v o]) rfl (value_ok h ho bg)))
    · cases o <;> rfl
  unfold sread_value
  refine fnd (s1 := s3) ?_
  show kSeq _ _ s0 = _
  rw [kseq (s1 := s0) (by rw [kif_f (s1 := s0) rfl]; rfl), kseq (s1 := s1) (kasg esp rfl), kseq (s1 := s2) (kasg ers rfl), kseq e4, kseq (s1 := s3) (by rw [kif_f e5]; rfl)]
  rfl
/-! ### what the law draws -/
theorem far_ok {bg : List Dt} (h : BagOk bg) : ∃ i bg', sLfar [.bag] bg = some (.int i, bg') ∧ Bnd i ∧ BagOk bg' := by
  obtain ⟨r, bg1, e1, r0, r1, hb1⟩ := pull_ok h (n := 1000000000) (by decide) (by decide)
  obtain ⟨q, bg2, e2, q0, q1, hb2⟩ := pull_ok hb1 (n := 11) (by decide) (by decide)
  let rows : List Dt := [.int 0, .int 1, .int (0 - 1), .int 2, .int (5 - q), .int (r - 10 ^ 8), .int (10 ^ 30 - r), .int (r - 10 ^ 30)]
  obtain ⟨d, bg3, e3, hd, hb3⟩ := any_ok hb2 (rows := rows) (by simp [rows]) (by simp [rows])
  have hi : ∃ i, d = .int i ∧ Bnd i := by
    simp only [rows, List.mem_cons, List.not_mem_nil, or_false] at hd
    unfold Bnd big
    rcases hd with rfl | rfl | rfl | rfl | rfl | rfl | rfl | rfl <;> exact ⟨_, rfl, by omega, by omega⟩
  obtain ⟨i, rfl, hi⟩ := hi
  refine ⟨i, bg3, ?_, hi, hb3⟩
  let s0 : Sta := ⟨[some (.dat .bag), none], bg⟩
  let s1 : Sta := ⟨[some (.dat .bag), some (.dat (.int r))], bg1⟩
  let s2 : Sta := ⟨[some (.dat .bag), some (.dat (.int r))], bg2⟩
  unfold sLfar
  refine fnd (s1 := { s2 with bag := bg3 }) ?_
  show kSeq _ _ s0 = _
  rw [kseq (s1 := s1) (kasg (s1 := { s0 with bag := bg1 }) (mapp (s1 := s0) (ds := [.bag, .int 1000000000]) rfl e1) rfl)]
  refine kret (mapp (s1 := s2) (ds := [.bag, .lst rows]) ?_ e3)
  refine mcons (s1 := s1) rfl (mcons (s1 := s2) (mlst (mcons (s1 := s1) rfl (mcons (s1 := s1) rfl (mcons (s1 := s1) rfl (mcons (s1 := s1) rfl (mcons (s1 := s2) (x := .int (5 - q)) ?_ (mcons (s1 := s2) rfl (mcons (s1 := s2) rfl (mcons (s1 := s2) rfl rfl)))))))) (by simp [rows])) rfl)
  exact m2_eq (s1 := s1) (s2 := s2) (x := .int 5) (y := .int q) rfl (mapp (s1 := s1) (ds := [.bag, .int 11]) rfl e2) rfl

theorem in_one (c : Nat) (z : Str) : gIn (.str ⟨#[c]⟩) (.str z) = some (.bl (decide (c ∈ z.cps.toList))) := by
  show some (Dt.bl (inS ⟨#[c]⟩ z)) = _
  unfold inS
  rw [PySem.StrLaws.found_one]
theorem abc_mem (c : Nat) : decide (c ∈ abc.cps.toList) = (decide (97 ≤ c) && decide (c ≤ 122)) := by
  have e : abc.cps.toList = [97, 98, 99, 100, 101, 102, 103, 104, 105, 106, 107, 108, 109, 110, 111, 112, 113, 114, 115, 116, 117, 118, 119, 120, 121, 122] := by decide +kernel
  rw [e, Bool.eq_iff_iff, Bool.and_eq_true, decide_eq_true_eq, decide_eq_true_eq, decide_eq_true_eq]
  simp only [List.mem_cons, List.not_mem_nil, or_false]
  omega
theorem law_is_name (z : Str) (bg : List Dt) (hz : z.length ≤ 100000) : sLis_name [.str z] bg = some (.bl (nameB z), bg) := by
  let s : Sta := ⟨[some (.dat (.str z)), none], bg⟩
  have hl : gLen [.str z] = some (.int (z.length : Nat)) := glen_str (Nat.le_trans hz (by decide))
  have elen : mCall gLen (mCons (mVar 0) mNil) s = some (.int (z.length : Nat), s) := mcall (s1 := s) (l := [.str z]) rfl hl
  have ech : mChain oLe oLe (mC (.int 1)) (mCall gLen (mCons (mVar 0) mNil)) (mC (.int 6)) s = some (.bl (decide (1 ≤ z.length) && decide (z.length ≤ 6)), s) := by
    by_cases h1 : 1 ≤ z.length
    · rw [decide_eq_true h1, Bool.true_and]
      refine mchain_t (s1 := s) (s2 := s) (s3 := s) (x := .int 1) (y := .int (z.length : Nat)) (z := .int 6) rfl elen (by show some (Dt.bl (decide ((1 : Int) ≤ (z.length : Nat)))) = _; rw [decide_eq_true (by omega)]) rfl ?_
      show some (Dt.bl (decide (((z.length : Nat) : Int) ≤ 6))) = _
      congr 2
      exact decide_eq_decide.mpr (by omega)
    · rw [decide_eq_false h1, Bool.false_and]
      exact mchain_f (s1 := s) (s2 := s) (x := .int 1) (y := .int (z.length : Nat)) rfl elen (by show some (Dt.bl (decide ((1 : Int) ≤ (z.length : Nat)))) = _; rw [decide_eq_false (by omega)])
  have ein : mB (m2 gIn (mVar 0) (mApp sLreserved mNil)) s = some (resv.contains z, s) := by
    refine mBt (m2_eq (s1 := s) (s2 := s) (x := .str z) (y := .lst (resv.map Dt.str)) rfl rfl ?_)
    rw [in_resv]
    congr 2
    rw [List.contains_eq_any_beq]
    congr 1
    funext r
    exact Bool.beq_comm
  have ecomp : mCall gAll (mCons (mComp [1] (wStr (mVar 0)) (hName 1) mYes (m2 gIn (mVar 1) (mC (.str "abcdefghijklmnopqrstuvwxyz")))) mNil) s = some (.bl (lowB z), s) := by
    have e : mComp [1] (wStr (mVar 0)) (hName 1) mYes (m2 gIn (mVar 1) (mC (.str "abcdefghijklmnopqrstuvwxyz"))) s = some (.lst ((z.cps.toList.map fun c => Dt.str ⟨#[c]⟩).map fun d => .bl (letB d)), s) := by
      refine mcomp (s1 := s) (l := z.cps.toList.map fun c => Dt.str ⟨#[c]⟩) rfl (by rw [List.length_map]; simpa [Str.length] using hz) (comp_map (fun d => .bl (letB d)) _ fun d hd => ?_)
      obtain ⟨c, hc, rfl⟩ := List.mem_map.mp hd
      let s' : Sta := ⟨[some (.dat (.str z)), some (.dat (.str ⟨#[c]⟩))], bg⟩
      refine ⟨s', s', s', rfl, rfl, m2_eq (s1 := s') (s2 := s') (x := .str ⟨#[c]⟩) (y := .str abc) rfl rfl ?_, rfl⟩
      rw [in_one, abc_mem, letB_c]
    refine mcall (mcons e rfl) ?_
    rw [gall_map, List.all_map]
    congr 2
    unfold lowB
    congr 1
    funext c
    exact letB_c c
  unfold sLis_name
  refine fnd (s1 := s) ?_
  show kSeq _ _ s = _
  have ec : mOrB (mNotB (mB (mIsi isStr (mVar 0)))) (mOrB (mNotB (mB (mChain oLe oLe (mC (.int 1)) (mCall gLen (mCons (mVar 0) mNil)) (mC (.int 6))))) (mB (m2 gIn (mVar 0) (mApp sLreserved mNil)))) s = some (!(decide (1 ≤ z.length) && decide (z.length ≤ 6)) || resv.contains z, s) := by
    rw [or_f (s1 := s) rfl]
    cases hb : decide (1 ≤ z.length) && decide (z.length ≤ 6) with
    | false => rw [hb] at ech; exact or_t (mNotB_eq (mBt ech))
    | true => rw [hb] at ech; rw [or_f (mNotB_eq (mBt ech))]; exact ein
  cases hb : !(decide (1 ≤ z.length) && decide (z.length ≤ 6)) || resv.contains z with
  | true =>
    rw [hb] at ec
    have en : nameB z = false := by
      unfold nameB
      rw [Bool.or_eq_true] at hb
      rcases hb with hb | hb
      · rw [Bool.not_eq_true'] at hb; rw [Bool.and_assoc (lowB z), hb]; simp
      · rw [hb]; simp
    unfold kSeq
    rw [kif_t ec, en]
    rfl
  | false =>
    rw [hb] at ec
    have en : nameB z = lowB z := by
      rw [Bool.or_eq_false_iff] at hb
      unfold nameB
      have h1 := hb.1
      rw [Bool.not_eq_false'] at h1
      rw [Bool.and_assoc (lowB z), h1, hb.2]; simp
    rw [kseq (s1 := s) (by rw [kif_f ec]; rfl), en]
    exact kret ecomp
theorem not_name {d : Dt} (h : isStr d = false) (bg : List Dt) : sis_name [d] bg = some (.bl false, bg) := by
  let s : Sta := ⟨[some (.dat d), none], bg⟩
  unfold sis_name
  refine fnd (s1 := s) ?_
  show kSeq _ _ s = _
  unfold kSeq
  rw [kif_t (s1 := s) (or_t (mNotB_eq (b := false) (mBt (show mIsi isStr (mVar 0) s = some (.bl false, s) by show some (Dt.bl (isStr d), s) = _; rw [h]))))]
  rfl
theorem not_value {d : Dt} (h : isTup d = false) (bg : List Dt) : sis_value [d] bg = some (.bl false, bg) := by
  let s : Sta := ⟨[some (.dat d)], bg⟩
  have ht : mB (mIsi isTup (mVar 0)) s = some (false, s) := by show some (isTup d, s) = _; rw [h]
  have h2 : sis_single_ [d] bg = some (.bl false, bg) := by
    let t : Sta := ⟨[some (.dat d), none, none], bg⟩
    have ht2 : mB (mIsi isTup (mVar 0)) t = some (false, t) := by show some (isTup d, t) = _; rw [h]
    unfold sis_single_
    refine fnd (s1 := t) ?_
    show kSeq _ _ t = _
    unfold kSeq
    rw [kif_t (mNotB_eq ht2)]
    rfl
  unfold sis_value
  refine fnd (s1 := s) ?_
  show kSeq _ _ s = _
  rw [kseq (s1 := s) (by rw [kif_f (and_f ht)]; rfl)]
  exact kret (mapp (s1 := s) (ds := [d]) rfl h2)
theorem some_string {bg : List Dt} (h : BagOk bg) : ∃ z bg', sLsome_string [.bag] bg = some (.str z, bg') ∧ z.length ≤ 1000 ∧ cpOk z = true ∧ BagOk bg' := by
  obtain ⟨r, bg1, e1, r0, r1, hb1⟩ := pull_ok h (n := 4) (by decide) (by decide)
  let s0 : Sta := ⟨[some (.dat .bag), none, none, none], bg⟩
  let s1 : Sta := ⟨[some (.dat .bag), none, none, none], bg1⟩
  have ec : mB (m2 gEq (mApp sLpull (mCons (mVar 0) (mCons (mC (.int 4)) mNil))) (mC (.int 0))) s0 = some (r == 0, s1) :=
    mBt (m2_eq (s1 := s1) (s2 := s1) (x := .int r) (y := .int 0) (mapp (s1 := s0) (ds := [.bag, .int 4]) rfl e1) rfl eqII)
  have resLen : ∀ z ∈ resv, z.length ≤ 10 := by decide +kernel
  have resCp : ∀ z ∈ resv, cpOk z = true := by decide +kernel
  by_cases hz : r = 0
  · obtain ⟨d, bg2, e2, hd, hb2⟩ := any_ok hb1 (rows := resv.map Dt.str) (by decide) (by decide)
    obtain ⟨d', bg3, e3, hd', hb3⟩ := any_ok hb2 (rows := [.str "", .str "", .str "a"]) (by simp) (by simp)
    obtain ⟨z, hz1, rfl⟩ := List.mem_map.mp hd
    have hz2 : ∃ y : Str, d' = .str y ∧ y.length ≤ 10 ∧ cpOk y = true := by
      simp only [List.mem_cons, List.not_mem_nil, or_false] at hd'
      rcases hd' with rfl | rfl | rfl <;> exact ⟨_, rfl, by decide +kernel, by decide +kernel⟩
    obtain ⟨y, rfl, hy1, hy2⟩ := hz2
    have hl := resLen z hz1
    refine ⟨z ++ y, bg3, ?_, by rw [len_app]; omega, app_cp (resCp z hz1) hy2, hb3⟩
    unfold sLsome_string
    refine fnd (s1 := { s0 with bag := bg3 }) ?_
    show kSeq _ _ s0 = _
    unfold kSeq
    rw [kif_t (s1 := s1) (by rw [ec, hz]; rfl), kret (s1 := { s0 with bag := bg3 }) (d := .str (z ++ y))]
    · rfl
    · exact m2_eq (s1 := { s0 with bag := bg2 }) (s2 := { s0 with bag := bg3 }) (x := .str z) (y := .str y) (mapp (s1 := s1) (ds := [.bag, .lst (resv.map Dt.str)]) rfl e2) (mapp (s1 := { s0 with bag := bg2 }) (ds := [.bag, .lst [.str "", .str "", .str "a"]]) rfl e3) (gadd_l (by omega))
  · obtain ⟨q, bg2, e2, q0, q1, hb2⟩ := pull_ok hb1 (n := 9) (by decide) (by decide)
    obtain ⟨rs, bg3, e3, l3, p3, hb3⟩ := comp_all (sl0 := [some (.dat .bag), none, none, none]) (h := hName 3) (t := mYes) (e := mApp sLany (mCons (mVar 0) (mCons (mC (.str "abcdefghijklmnopqrstuvwxyz")) mNil))) (fun _ => True) (fun d => ∃ z, d = .str z ∧ (Low z ∧ z.length = 1)) (fun d bg _ hb => by
      obtain ⟨c, bg', e, hc, hb'⟩ := any_str hb (z := abc) (by rw [len_abc]; decide) (by rw [len_abc]; decide)
      refine ⟨_, _, .str ⟨#[c]⟩, ⟨[some (.dat .bag), none, none, some (.dat d)], bg'⟩, rfl, rfl, ?_, ⟨_, rfl, fun k hk => ?_, rfl⟩, hb'⟩
      · exact mapp (s1 := ⟨[some (.dat .bag), none, none, some (.dat d)], bg⟩) rfl e
      · have : k = c := by simpa using hk
        rw [this]
        exact low_abc c hc) (rngD 0 q.toNat) bg2 (fun _ _ => trivial) hb2
    rw [rng_len] at l3
    obtain ⟨ss, rfl, hss⟩ := strs_of p3
    rw [List.length_map] at l3
    have hj := low_join (l := ss) fun z hz => (hss z hz).1
    rw [sum_ones fun z hz => (hss z hz).2, l3] at hj
    have hjn := gjoin_ok (ss := ss) (by rw [sum_ones fun z hz => (hss z hz).2, l3]; omega)
    generalize Str.join "" ss = stem at hj hjn
    obtain ⟨hlow, hlen⟩ := hj
    obtain ⟨at_, bg4, e4, a0, a1, hb4⟩ := pull_ok hb3 (n := (stem.length : Nat) + 1) (by omega) (by omega)
    obtain ⟨i, rfl⟩ : ∃ i : Nat, at_ = (i : Int) := ⟨at_.toNat, by omega⟩
    have hi : i ≤ stem.length := by omega
    obtain ⟨d, bg5, e5, hd, hb5⟩ := any_ok hb4 (rows := [.str "", .str "", .str "", .str "A", .str "1", .str " ", .str ".", .str "_", .str "\n"]) (by simp) (by simp)
    have hz2 : ∃ y : Str, d = .str y ∧ y.length ≤ 10 ∧ cpOk y = true := by
      simp only [List.mem_cons, List.not_mem_nil, or_false] at hd
      rcases hd with rfl | rfl | rfl | rfl | rfl | rfl | rfl | rfl | rfl <;> exact ⟨_, rfl, by decide +kernel, by decide +kernel⟩
    obtain ⟨y, rfl, hy1, hy2⟩ := hz2
    have hcut := len_cut (z := stem) hi
    let t2 : Sta := ⟨[some (.dat .bag), some (.dat (.str stem)), none, none], bg3⟩
    let t3 : Sta := ⟨[some (.dat .bag), some (.dat (.str stem)), some (.dat (.int (i : Nat))), none], bg4⟩
    refine ⟨cutS stem none (some (i : Nat)) ++ y ++ cutS stem (some (i : Nat)) none, bg5, ?_, by rw [len_app, len_app]; omega, app_cp (app_cp (cp_low (low_cut hlow _ _)) hy2) (cp_low (low_cut hlow _ _)), hb5⟩
    unfold sLsome_string
    refine fnd (s1 := { t3 with bag := bg5 }) ?_
    show kSeq _ _ s0 = _
    rw [kseq (s1 := s1) (by rw [kif_f (s1 := s1) (by rw [ec, beq_eq_false_iff_ne.mpr hz])]; rfl), kseq (s1 := t2), kseq (s1 := t3)]
    · refine kret (m2_eq (s1 := { t3 with bag := bg5 }) (s2 := { t3 with bag := bg5 }) (x := .str (cutS stem none (some (i : Nat)) ++ y)) (y := .str (cutS stem (some (i : Nat)) none)) (m2_eq (s1 := t3) (s2 := { t3 with bag := bg5 }) (x := .str (cutS stem none (some (i : Nat)))) (y := .str y) ?_ ?_ (gadd_l (by omega))) ?_ (gadd_l (by rw [len_app]; omega)))
      · exact msl (s1 := t3) (s2 := t3) (s3 := t3) (x := .str stem) rfl rfl rfl (gsl_str (by omega))
      · exact mapp (s1 := t3) (ds := [.bag, .lst [.str "", .str "", .str "", .str "A", .str "1", .str " ", .str ".", .str "_", .str "\n"]]) rfl e5
      · exact msl (s1 := { t3 with bag := bg5 }) (s2 := { t3 with bag := bg5 }) (s3 := { t3 with bag := bg5 }) (x := .str stem) rfl rfl rfl (gsl_str (by omega))
    · refine kasg (s1 := { t2 with bag := bg4 }) (d := .int (i : Nat)) (mapp (s1 := t2) (ds := [.bag, .int ((stem.length : Nat) + 1)]) ?_ e4) rfl
      refine mcons (s1 := t2) rfl (mcons (s1 := t2) (m2_eq (s1 := t2) (s2 := t2) (x := .int (stem.length : Nat)) (y := .int 1) (mcall (s1 := t2) (l := [.str stem]) rfl (glen_str (line_of (by omega)))) rfl rfl) rfl)
    · refine kasg (s1 := { s1 with bag := bg3 }) (d := .str stem) ?_ rfl
      refine mm1 (s1 := s1) (s2 := { s1 with bag := bg3 }) (a := "") (y := .lst (ss.map Dt.str)) rfl ?_ hjn
      refine mcomp (s1 := { s1 with bag := bg2 }) (l := rngD 0 q.toNat) ?_ (by rw [rng_len]; omega) e3
      refine mrng1 ?_ q0 (by omega)
      exact mcons (s1 := { s1 with bag := bg2 }) (mapp (s1 := s1) (ds := [.bag, .int 9]) rfl e2) rfl

theorem vals_of {rs : List Dt} (h : ∀ r ∈ rs, ∃ (v : Sg) (m : Int), r = vald v (some m) ∧ v.Ok ∧ Bnd m) : ∃ vs : List (Sg × Option Int), rs = vs.map (fun (p : Sg × Option Int) => vald p.1 p.2) ∧ ∀ p ∈ vs, p.1.Ok ∧ ∀ m, p.2 = some m → Bnd m := by
  induction rs with
  | nil => exact ⟨[], rfl, by simp⟩
  | cons r rs ih =>
    obtain ⟨v, m, rfl, hv, hm⟩ := h r (List.mem_cons_self ..)
    obtain ⟨vs, rfl, hs⟩ := ih fun x hx => h x (List.mem_cons_of_mem _ hx)
    refine ⟨(v, some m) :: vs, rfl, fun p hp => ?_⟩
    rcases List.mem_cons.mp hp with rfl | hp
    · exact ⟨hv, fun j e => by cases e; exact hm⟩
    · exact hs p hp
theorem all_values {bg : List Dt} (h : BagOk bg) {n0 n1 n2 : Str} (h0 : NameOk n0) (h1 : NameOk n1) (h2 : NameOk n2) : ∃ (vs : List (Sg × Option Int)) (bg' : List Dt), sLall_values [.bag, .lst [.str n0, .str n1, .str n2]] bg = some (.lst (vs.map fun (p : Sg × Option Int) => vald p.1 p.2), bg') ∧
    (∀ p ∈ vs, p.1.Ok ∧ ∀ m, p.2 = some m → Bnd m) ∧ BagOk bg' := by
  obtain ⟨d, bg1, e1, hd, hb1⟩ := any_ok h (rows := [.str n0, .str "key"]) (by simp) (by simp)
  have hc : ∃ c, d = .str c ∧ ColOk c := by
    simp only [List.mem_cons, List.not_mem_nil, or_false] at hd
    rcases hd with rfl | rfl
    · exact ⟨_, rfl, .inr h0⟩
    · exact ⟨_, rfl, .inl rfl⟩
  obtain ⟨c, rfl, hc⟩ := hc
  obtain ⟨i, bg2, e2, hi, hb2⟩ := far_ok hb1
  let gs : List Sg := [.number i, .name n1, .field n2 c, .own c, .next c]
  have hgs : ∀ v ∈ gs, v.Ok := fun v hv => by
    simp only [gs, List.mem_cons, List.not_mem_nil, or_false] at hv
    rcases hv with rfl | rfl | rfl | rfl | rfl
    · exact hi
    · exact h1
    · exact ⟨h2, hc⟩
    · exact hc
    · exact hc
  let names : Dt := .lst [.str n0, .str n1, .str n2]
  let s0 : Sta := ⟨[some (.dat .bag), some (.dat names), none, none, none], bg⟩
  let s1 : Sta := ⟨[some (.dat .bag), some (.dat names), some (.dat (.str c)), none, none], bg1⟩
  let s2 : Sta := ⟨[some (.dat .bag), some (.dat names), some (.dat (.str c)), some (.dat (.lst (gs.map Sg.d))), none], bg2⟩
  obtain ⟨rs, bg3, e3, l3, p3, hb3⟩ := comp_all (sl0 := [some (.dat .bag), some (.dat names), some (.dat (.str c)), some (.dat (.lst (gs.map Sg.d))), none]) (h := hName 4) (t := mYes) (e := mTup (mCons (mC (.str "plus")) (mCons (mVar 4) (mCons (mApp sLfar (mCons (mVar 0) mNil)) mNil))))
    (fun d => ∃ v : Sg, v.Ok ∧ d = v.d) (fun r => ∃ (v : Sg) (m : Int), r = vald v (some m) ∧ v.Ok ∧ Bnd m) (fun d bg hd hb => by
      obtain ⟨v, hv, rfl⟩ := hd
      obtain ⟨m, bg', e, hm, hb'⟩ := far_ok hb
      let t : Sta := ⟨[some (.dat .bag), some (.dat names), some (.dat (.str c)), some (.dat (.lst (gs.map Sg.d))), some (.dat v.d)], bg⟩
      refine ⟨t, t, vald v (some m), { t with bag := bg' }, rfl, rfl, ?_, ⟨v, m, rfl, hv, hm⟩, hb'⟩
      exact mtup (mcons (s1 := t) rfl (mcons (s1 := t) rfl (mcons (s1 := { t with bag := bg' }) (mapp (s1 := t) (ds := [.bag]) rfl e) rfl)))) (gs.map Sg.d) bg2 (fun d hd => by
      obtain ⟨v, hv, rfl⟩ := List.mem_map.mp hd
      exact ⟨v, hgs v hv, rfl⟩) hb2
  obtain ⟨vs, rfl, hvs⟩ := vals_of p3
  have l5 : (vs.map fun (p : Sg × Option Int) => vald p.1 p.2).length = 5 := l3
  refine ⟨gs.map (fun v => (v, none)) ++ vs, bg3, ?_, fun p hp => ?_, hb3⟩
  · have em : (gs.map (fun v => ((v, none) : Sg × Option Int)) ++ vs).map (fun (p : Sg × Option Int) => vald p.1 p.2) = gs.map Sg.d ++ vs.map fun (p : Sg × Option Int) => vald p.1 p.2 := by
      rw [List.map_append, List.map_map]; rfl
    rw [em]
    unfold sLall_values
    refine fnd (s1 := { s2 with bag := bg3 }) ?_
    show kSeq _ _ s0 = _
    rw [kseq (s1 := s1), kseq (s1 := s2)]
    · refine kret (m2_eq (s1 := s2) (s2 := { s2 with bag := bg3 }) (x := .lst (gs.map Sg.d)) (y := .lst (vs.map fun (p : Sg × Option Int) => vald p.1 p.2)) rfl (mcomp (s1 := s2) (l := gs.map Sg.d) rfl (by simp [gs]) e3) ?_)
      show (if (gs.map Sg.d).length + (vs.map fun (p : Sg × Option Int) => vald p.1 p.2).length ≤ sizeLine then some (Dt.lst (gs.map Sg.d ++ vs.map fun (p : Sg × Option Int) => vald p.1 p.2)) else none) = _
      rw [if_pos (line_of (by rw [l5]; simp [gs]))]
    · refine kasg (s1 := { s1 with bag := bg2 }) (d := .lst (gs.map Sg.d)) (mlst (mcons (s1 := { s1 with bag := bg2 }) (x := (Sg.number i).d) (mtup (mcons (s1 := s1) rfl (mcons (s1 := { s1 with bag := bg2 }) (x := .int i) (mapp (s1 := s1) (ds := [.bag]) rfl e2) rfl))) rfl) (by simp [gs])) rfl
    · refine kasg (s1 := { s0 with bag := bg1 }) (d := .str c) (mapp (s1 := s0) (ds := [.bag, .lst [.str n0, .str "key"]]) rfl e1) rfl
  · rcases List.mem_append.mp hp with hp | hp
    · obtain ⟨v, hv, rfl⟩ := List.mem_map.mp hp
      exact ⟨hgs v hv, fun m e => by cases e⟩
    · exact hvs p hp
theorem loop_mem {h : Dt → Sta → Option Sta} {b : DMs} (Pd : Dt → Prop) (I : Sta → Prop) (hs : ∀ d s, Pd d → I s → ∃ s1 r s2, h d s = some s1 ∧ b s1 = some (r, s2) ∧ (r = .nx ∨ r = .ct) ∧ I s2) : ∀ (l : List Dt) (s : Sta), (∀ d ∈ l, Pd d) → I s → ∃ s', loopD h b l s = some (.nx, s') ∧ I s'
  | [], s, _, hi => ⟨s, rfl, hi⟩
  | d :: l, s, hp, hi => by
    obtain ⟨s1, r, s2, e1, e2, hr, h2⟩ := hs d s (hp d (List.mem_cons_self ..)) hi
    obtain ⟨s', e3, h3⟩ := loop_mem Pd I hs l s2 (fun z hz => hp z (List.mem_cons_of_mem _ hz)) h2
    refine ⟨s', ?_, h3⟩
    unfold loopD
    rw [e1, Option.bind_some, e2, Option.bind_some]
    rcases hr with rfl | rfl <;> exact e3
theorem kfor_lst {f : DM Dt} {h : Dt → Sta → Option Sta} {b : DMs} {s s1 s' : Sta} {l : List Dt} {r : Res} (h1 : f s = some (.lst l, s1)) (e : loopD h b l s1 = some (r, s')) : kFor (wLst f) h b s = some (r, s') := by
  unfold kFor wLst
  rw [h1]
  exact e
theorem list_of_val (v : Sg) (o : Option Int) : ∃ l, gListOf [vald v o] = some (.lst l) := by
  cases o with
  | some m => exact ⟨_, rfl⟩
  | none => cases v <;> exact ⟨_, rfl⟩
theorem val_str (v : Sg) (o : Option Int) : isStr (vald v o) = false := by
  cases o with
  | some m => rfl
  | none => cases v <;> rfl
end DL

namespace DL
open PySem PySem.Spec PyProof.Rows L2
variable [Tabs] [Me]
open TL
/-! ### conditions as data, their texts and words -/
inductive Cp where
  | le | lt | eq
def Cp.form : Cp → Str
  | .le => "atmost"
  | .lt => "below"
  | .eq => "same"
def Cp.sign : Cp → Str
  | .le => "<="
  | .lt => "<"
  | .eq => "="
inductive Cn where
  | tru | cmp (k : Cp) (v : Sg) (o : Option Int) (w : Sg) (p : Option Int) | fnd (r : Str) | nt (c : Cn) | bin (k : Bool) (a b : Cn)
def bw : Bool → Str
  | true => "and"
  | false => "or"
def Cn.d : Cn → Dt
  | .tru => .tup [.str "true"]
  | .cmp k v o w p => .tup [.str k.form, vald v o, vald w p]
  | .fnd r => .tup [.str "found", .str r]
  | .nt c => .tup [.str "not", c.d]
  | .bin k a b => .tup [.str (bw k), a.d, b.d]
def Cn.Ok : Cn → Prop
  | .tru => True
  | .cmp _ v o w p => v.Ok ∧ (∀ m, o = some m → Bnd m) ∧ w.Ok ∧ ∀ m, p = some m → Bnd m
  | .fnd r => NameOk r
  | .nt c => c.Ok
  | .bin _ a b => a.Ok ∧ b.Ok
def Cn.dep : Cn → Nat
  | .nt c => c.dep + 1
  | .bin _ a b => max a.dep b.dep + 1
  | _ => 1
def Cn.size : Cn → Nat
  | .nt c => c.size + 1
  | .bin _ a b => a.size + b.size + 1
  | _ => 1
def Cn.text : Cn → Str
  | .tru => "true"
  | .cmp k v o w p => valText v o ++ " " ++ k.sign ++ " " ++ valText w p
  | .fnd r => "found " ++ r
  | .nt c => "not " ++ c.text
  | .bin k a b => "(" ++ a.text ++ " " ++ bw k ++ " " ++ b.text ++ ")"
def Cn.toks : Cn → List Str
  | .tru => [("true" : Str)]
  | .cmp k v o w p => valParts v o ++ (k.sign :: valParts w p)
  | .fnd r => [("found" : Str), r]
  | .nt c => ("not" : Str) :: c.toks
  | .bin k a b => ("(" : Str) :: (a.toks ++ (bw k :: (b.toks ++ [(")" : Str)])))
theorem parts_ne (v : Sg) (o : Option Int) : valParts v o ≠ [] := by cases o <;> simp [valParts]
theorem toks_ne : ∀ c : Cn, c.toks ≠ []
  | .tru => by simp [Cn.toks]
  | .cmp k v o w p => by simp [Cn.toks]
  | .fnd r => by simp [Cn.toks]
  | .nt c => by simp [Cn.toks]
  | .bin k a b => by simp [Cn.toks]
theorem size_dep : ∀ c : Cn, c.size + 1 ≤ 2 ^ c.dep
  | .tru => by simp [Cn.size, Cn.dep]
  | .cmp .. => by simp [Cn.size, Cn.dep]
  | .fnd _ => by simp [Cn.size, Cn.dep]
  | .nt c => by
    have h := size_dep c
    show c.size + 1 + 1 ≤ 2 ^ (c.dep + 1)
    rw [Nat.pow_succ]
    have : 1 ≤ c.size + 1 := by omega
    omega
  | .bin _ a b => by
    have h1 := size_dep a
    have h2 := size_dep b
    have e1 : 2 ^ a.dep ≤ 2 ^ (max a.dep b.dep) := Nat.pow_le_pow_right (by decide) (Nat.le_max_left _ _)
    have e2 : 2 ^ b.dep ≤ 2 ^ (max a.dep b.dep) := Nat.pow_le_pow_right (by decide) (Nat.le_max_right _ _)
    show a.size + b.size + 1 + 1 ≤ 2 ^ (max a.dep b.dep + 1)
    rw [Nat.pow_succ]
    omega
theorem sgText_tl {v : Sg} (h : v.Ok) {c : Nat} (hc : c ∈ tl (sgText v)) : c = 45 ∨ c = 46 ∨ (48 ≤ c ∧ c ≤ 57) ∨ (97 ≤ c ∧ c ≤ 122) := by
  have low : ∀ {z : Str}, Low z → c ∈ tl z → 97 ≤ c ∧ c ≤ 122 := fun h m => h c m
  have dotted : ∀ {a b : Str}, Low a → Low b → c ∈ tl (a ++ "." ++ b) → c = 45 ∨ c = 46 ∨ (48 ≤ c ∧ c ≤ 57) ∨ (97 ≤ c ∧ c ≤ 122) := fun {a b} ha hb m => by
    rw [tl_append, tl_append, tl_dot] at m
    simp only [List.mem_append, List.mem_singleton] at m
    rcases m with (m | m) | m
    · exact .inr (.inr (.inr (low ha m)))
    · exact .inr (.inl m)
    · exact .inr (.inr (.inr (low hb m)))
  cases v with
  | number i =>
    rcases itxt_mem (i := i) hc with z | z
    · exact .inl z
    · exact .inr (.inr (.inl z))
  | name n => exact .inr (.inr (.inr (low (show NameOk n from h).low hc)))
  | field n c' => exact dotted h.1.low (col_low h.2) hc
  | own c' => exact dotted (lowB_iff.mp (by decide +kernel)) (col_low h) hc
  | next c' => exact dotted (lowB_iff.mp (by decide +kernel)) (col_low h) hc
theorem sign_tl (k : Cp) {c : Nat} (hc : c ∈ tl k.sign) : c = 60 ∨ c = 61 := by
  cases k
  · have : tl Cp.le.sign = [60, 61] := by decide +kernel
    rw [this] at hc; simp at hc; omega
  · have : tl Cp.lt.sign = [60] := by decide +kernel
    rw [this] at hc; simp at hc; omega
  · have : tl Cp.eq.sign = [61] := by decide +kernel
    rw [this] at hc; simp at hc; omega
theorem bw_tl (k : Bool) {c : Nat} (hc : c ∈ tl (bw k)) : 97 ≤ c ∧ c ≤ 122 := by
  cases k
  · exact (lowB_iff.mp (by decide +kernel) : Low "or") c hc
  · exact (lowB_iff.mp (by decide +kernel) : Low "and") c hc
/-- what a sign of a value's words is -/
def okc (c : Nat) : Prop := c = 43 ∨ c = 45 ∨ c = 46 ∨ (48 ≤ c ∧ c ≤ 57) ∨ (97 ≤ c ∧ c ≤ 122)
theorem part_tl {v : Sg} (h : v.Ok) (o : Option Int) {z : Str} (hz : z ∈ valParts v o) {c : Nat} (hc : c ∈ tl z) : okc c := by
  have s0 : ∀ {c}, c ∈ tl (sgText v) → okc c := fun {c} m => by
    rcases sgText_tl h m with z | z | z | z
    · exact .inr (.inl z)
    · exact .inr (.inr (.inl z))
    · exact .inr (.inr (.inr (.inl z)))
    · exact .inr (.inr (.inr (.inr z)))
  cases o with
  | none =>
    rw [show valParts v none = [sgText v] from rfl, List.mem_singleton] at hz
    rw [hz] at hc
    exact s0 hc
  | some m =>
    simp only [valParts, List.mem_cons, List.not_mem_nil, or_false] at hz
    rcases hz with rfl | rfl | rfl
    · exact s0 hc
    · by_cases k : m < 0
      · rw [if_pos k, show tl "-" = [45] by decide +kernel, List.mem_singleton] at hc
        exact .inr (.inl hc)
      · rw [if_neg k, show tl "+" = [43] by decide +kernel, List.mem_singleton] at hc
        exact .inl hc
    · rcases itxt_mem hc with z | z
      · exact .inr (.inl z)
      · exact .inr (.inr (.inr (.inl z)))
theorem toks_sp : ∀ {c : Cn}, c.Ok → ∀ z ∈ c.toks, 32 ∉ tl z
  | .tru, _, z, hz => by
    rw [show Cn.tru.toks = [("true" : Str)] from rfl, List.mem_singleton] at hz
    rw [hz]; decide +kernel
  | .cmp k v o w p, h, z, hz => by
    rcases List.mem_append.mp hz with hz | hz
    · intro hc; have := part_tl h.1 o hz hc; unfold okc at this; omega
    · rcases List.mem_cons.mp hz with rfl | hz
      · intro hc; have := sign_tl k hc; omega
      · intro hc; have := part_tl h.2.2.1 p hz hc; unfold okc at this; omega
  | .fnd r, h, z, hz => by
    simp only [Cn.toks, List.mem_cons, List.not_mem_nil, or_false] at hz
    rcases hz with rfl | rfl
    · decide +kernel
    · exact low_free (show NameOk z from h).low (by decide)
  | .nt c, h, z, hz => by
    rcases List.mem_cons.mp hz with rfl | hz
    · decide +kernel
    · exact toks_sp (c := c) h z hz
  | .bin k a b, h, z, hz => by
    rcases List.mem_cons.mp hz with rfl | hz
    · decide +kernel
    rcases List.mem_append.mp hz with hz | hz
    · exact toks_sp (c := a) h.1 z hz
    rcases List.mem_cons.mp hz with rfl | hz
    · intro hc; have := bw_tl k hc; omega
    rcases List.mem_append.mp hz with hz | hz
    · exact toks_sp (c := b) h.2 z hz
    · rw [List.mem_singleton] at hz; rw [hz]; decide +kernel
theorem toks_cp : ∀ {c : Cn}, c.Ok → ∀ z ∈ c.toks, cpOk z = true
  | .tru, _, z, hz => by
    rw [show Cn.tru.toks = [("true" : Str)] from rfl, List.mem_singleton] at hz
    rw [hz]; decide +kernel
  | .cmp k v o w p, h, z, hz => by
    rcases List.mem_append.mp hz with hz | hz
    · exact cp_tl fun c hc => by have := part_tl h.1 o hz hc; unfold okc at this; omega
    · rcases List.mem_cons.mp hz with rfl | hz
      · exact cp_tl fun c hc => by have := sign_tl k hc; omega
      · exact cp_tl fun c hc => by have := part_tl h.2.2.1 p hz hc; unfold okc at this; omega
  | .fnd r, h, z, hz => by
    simp only [Cn.toks, List.mem_cons, List.not_mem_nil, or_false] at hz
    rcases hz with rfl | rfl
    · decide +kernel
    · exact cp_low (show NameOk z from h).low
  | .nt c, h, z, hz => by
    rcases List.mem_cons.mp hz with rfl | hz
    · decide +kernel
    · exact toks_cp (c := c) h z hz
  | .bin k a b, h, z, hz => by
    rcases List.mem_cons.mp hz with rfl | hz
    · decide +kernel
    rcases List.mem_append.mp hz with hz | hz
    · exact toks_cp (c := a) h.1 z hz
    rcases List.mem_cons.mp hz with rfl | hz
    · cases k <;> decide +kernel
    rcases List.mem_append.mp hz with hz | hz
    · exact toks_cp (c := b) h.2 z hz
    · rw [List.mem_singleton] at hz; rw [hz]; decide +kernel
/-! the two replaces, and split -/
def r1 (c : Nat) : List Nat := if c = 40 then [40, 32] else [c]
def r2 (c : Nat) : List Nat := if c = 41 then [32, 41] else [c]
theorem replL_one {a : Nat} {z : List Nat} : ∀ l : List Nat, PySem.StrLaws.replL [a] z l = l.flatMap fun c => if c = a then z else [c]
  | [] => by rw [PySem.StrLaws.replL_nil]; rfl
  | c :: r => by
    rw [List.flatMap_cons]
    by_cases h : c = a
    · subst h
      rw [PySem.StrLaws.replL_hit (by simp) (by simp), if_pos rfl]
      show z ++ PySem.StrLaws.replL [c] z r = _
      rw [replL_one r]
    · rw [PySem.StrLaws.replL_miss (by simp [h]), if_neg h, replL_one r]
      rfl
def rr (c : Nat) : List Nat := if c = 40 then [40, 32] else if c = 41 then [32, 41] else [c]
def rep2 (x : Str) : Str := Txt.replace (Txt.replace x "(" "( ") ")" " )"
theorem tl_rep2 (x : Str) : tl (rep2 x) = (tl x).flatMap rr := by
  unfold rep2
  have e1 : tl (Txt.replace x "(" "( ") = (tl x).flatMap fun c => if c = 40 then [40, 32] else [c] := by
    have := PySem.StrLaws.replace_list (x := x) (y := "(") (z := "( ") (by decide +kernel)
    rw [show ("(" : Str).cps.toList = [40] by decide +kernel, show ("( " : Str).cps.toList = [40, 32] by decide +kernel, replL_one] at this
    exact this
  have e2 : ∀ y : Str, tl (Txt.replace y ")" " )") = (tl y).flatMap fun c => if c = 41 then [32, 41] else [c] := fun y => by
    have := PySem.StrLaws.replace_list (x := y) (y := ")") (z := " )") (by decide +kernel)
    rw [show (")" : Str).cps.toList = [41] by decide +kernel, show (" )" : Str).cps.toList = [32, 41] by decide +kernel, replL_one] at this
    exact this
  rw [e2, e1, List.flatMap_assoc]
  congr 1
  funext c
  unfold rr
  by_cases h : c = 40
  · subst h; rfl
  · rw [if_neg h, if_neg h]
    by_cases h2 : c = 41
    · subst h2; rfl
    · rw [if_neg h2]; simp [h2]
theorem flat_id {l : List Nat} (h : ∀ c ∈ l, c ≠ 40 ∧ c ≠ 41) : l.flatMap rr = l := by
  induction l with
  | nil => rfl
  | cons c r ih =>
    rw [List.flatMap_cons, ih fun x hx => h x (List.mem_cons_of_mem _ hx)]
    obtain ⟨h1, h2⟩ := h c (List.mem_cons_self ..)
    unfold rr
    rw [if_neg h1, if_neg h2]
    rfl
theorem joinL_cons {S p : List Nat} {r : List (List Nat)} (h : r ≠ []) : joinL S (p :: r) = p ++ (S ++ joinL S r) := by
  cases r with
  | nil => exact absurd rfl h
  | cons q r => rfl
theorem joinL_app {S : List Nat} : ∀ {l m : List (List Nat)}, l ≠ [] → m ≠ [] → joinL S (l ++ m) = joinL S l ++ (S ++ joinL S m)
  | [], _, h, _ => absurd rfl h
  | [p], m, _, hm => by
    show joinL S (p :: m) = p ++ _
    exact joinL_cons hm
  | p :: q :: r, m, _, hm => by
    show joinL S (p :: (q :: r ++ m)) = joinL S (p :: q :: r) ++ _
    rw [joinL_cons (by simp), joinL_app (l := q :: r) (by simp) hm, joinL_cons (p := p) (r := q :: r) (by simp)]
    simp only [List.append_assoc]
theorem mapne {l : List Str} (h : l ≠ []) : l.map tl ≠ [] := fun e => h (List.map_eq_nil_iff.mp e)
theorem parts_join (v : Sg) (o : Option Int) : joinL [32] ((valParts v o).map tl) = tl (valText v o) := by
  rw [val_join, join_eq, tl_join, tl_sp]
theorem val_free {v : Sg} (h : v.Ok) (o : Option Int) : ∀ c ∈ tl (valText v o), c ≠ 40 ∧ c ≠ 41 := by
  rw [← parts_join]
  intro c hc
  have gen : ∀ (l : List (List Nat)), (∀ p ∈ l, ∀ c ∈ p, c ≠ 40 ∧ c ≠ 41) → ∀ c ∈ joinL [32] l, c ≠ 40 ∧ c ≠ 41 := by
    intro l
    induction l with
    | nil => intro _ c hc; cases hc
    | cons p r ih =>
      intro hp c hc
      cases r with
      | nil => exact hp p (List.mem_cons_self ..) c hc
      | cons q r =>
        rw [joinL_cons (by simp)] at hc
        rcases List.mem_append.mp hc with hc | hc
        · exact hp p (List.mem_cons_self ..) c hc
        rcases List.mem_append.mp hc with hc | hc
        · rw [List.mem_singleton] at hc; omega
        · exact ih (fun p hp' => hp p (List.mem_cons_of_mem _ hp')) c hc
  refine gen _ (fun p hp c hc => ?_) c hc
  obtain ⟨z, hz, rfl⟩ := List.mem_map.mp hp
  have := part_tl h o hz hc
  unfold okc at this
  omega
theorem words_of : ∀ {c : Cn}, c.Ok → (tl c.text).flatMap rr = joinL [32] (c.toks.map tl)
  | .tru, _ => by decide +kernel
  | .cmp k v o w p, h => by
    show (tl (valText v o ++ " " ++ k.sign ++ " " ++ valText w p)).flatMap rr = joinL [32] ((valParts v o ++ (k.sign :: valParts w p)).map tl)
    rw [List.map_append, List.map_cons, joinL_app (mapne (parts_ne v o)) (by simp), joinL_cons (mapne (parts_ne w p)), parts_join, parts_join]
    simp only [tl_append, tl_sp, List.flatMap_append]
    rw [flat_id (val_free h.1 o), flat_id (val_free h.2.2.1 p), flat_id (l := tl k.sign) (fun c hc => by have := sign_tl k hc; omega), flat_id (l := [32]) (by simp)]
    simp only [List.append_assoc]
  | .fnd r, h => by
    show (tl ("found " ++ r)).flatMap rr = joinL [32] [tl "found", tl r]
    rw [tl_append, List.flatMap_append, flat_id (l := tl r) (fun c hc => by have := (show NameOk r from h).low c hc; unfold letter at this; omega)]
    rw [show (tl "found ").flatMap rr = tl "found" ++ [32] by decide +kernel, List.append_assoc]
    rfl
  | .nt c, h => by
    show (tl ("not " ++ c.text)).flatMap rr = joinL [32] (tl "not" :: c.toks.map tl)
    rw [tl_append, List.flatMap_append, words_of (c := c) h, joinL_cons (mapne (toks_ne c)), show (tl "not ").flatMap rr = tl "not" ++ [32] by decide +kernel, List.append_assoc]
  | .bin k a b, h => by
    show (tl ("(" ++ a.text ++ " " ++ bw k ++ " " ++ b.text ++ ")")).flatMap rr = joinL [32] (tl "(" :: (a.toks ++ (bw k :: (b.toks ++ [(")" : Str)]))).map tl)
    have n1 := mapne (toks_ne a)
    have n2 := mapne (toks_ne b)
    simp only [List.map_append, List.map_cons, List.map_nil]
    rw [joinL_cons (p := tl "(") (by simp), joinL_app n1 (by simp), joinL_cons (p := tl (bw k)) (by simp), joinL_app n2 (by simp)]
    simp only [tl_append, List.flatMap_append]
    rw [words_of (c := a) h.1, words_of (c := b) h.2, flat_id (l := tl (bw k)) (fun c hc => by have := bw_tl k hc; omega), show (tl "(").flatMap rr = tl "(" ++ [32] by decide +kernel, show (tl ")").flatMap rr = [32] ++ tl ")" by decide +kernel, show (tl " ").flatMap rr = [32] by decide +kernel]
    show _ = _
    simp only [List.append_assoc, joinL]
theorem split_text {c : Cn} (h : c.Ok) : Txt.split (rep2 c.text) " " = c.toks := by
  have e : rep2 c.text = Txt.join " " c.toks := ext_tl (by rw [tl_rep2, words_of h, join_eq, tl_join, tl_sp])
  rw [e]
  exact split_join tl_sp (by decide +kernel) (toks_ne c) (toks_sp h)
theorem rep_len (x : Str) : (rep2 x).length ≤ 2 * x.length ∧ (Txt.replace x "(" "( ").length ≤ 2 * x.length := by
  have gen : ∀ (f : Nat → List Nat) (l : List Nat), (∀ c, (f c).length ≤ 2) → (l.flatMap f).length ≤ 2 * l.length := fun f l hf => by
    induction l with
    | nil => simp
    | cons c r ih =>
      rw [List.flatMap_cons, List.length_append, List.length_cons]
      have := hf c
      omega
  refine ⟨?_, ?_⟩
  · rw [len_tl, len_tl, tl_rep2]
    exact gen rr _ fun c => by unfold rr; split <;> (try split) <;> simp
  · have := PySem.StrLaws.replace_list (x := x) (y := "(") (z := "( ") (by decide +kernel)
    rw [show ("(" : Str).cps.toList = [40] by decide +kernel, show ("( " : Str).cps.toList = [40, 32] by decide +kernel, replL_one] at this
    rw [len_tl, len_tl]
    show (Txt.replace x "(" "( ").cps.toList.length ≤ _
    rw [this]
    exact gen _ _ fun c => by split <;> simp
theorem text_len : ∀ {c : Cn}, c.Ok → 1 ≤ c.text.length ∧ c.text.length + 20 ≤ 300 * 2 ^ c.dep
  | .tru, _ => by
    have : (Cn.tru).text.length = 4 := by decide +kernel
    rw [this]; simp [Cn.dep]
  | .cmp k v o w p, h => by
    have h1 := valText_len h.1 h.2.1
    have h2 := valText_len h.2.2.1 h.2.2.2
    show 1 ≤ (valText v o ++ " " ++ k.sign ++ " " ++ valText w p).length ∧ (valText v o ++ " " ++ k.sign ++ " " ++ valText w p).length + 20 ≤ 300 * 2 ^ 1
    simp only [len_app]
    have e1 : (" " : Str).length = 1 := by decide +kernel
    have e2 : k.sign.length ≤ 2 := by cases k <;> decide +kernel
    omega
  | .fnd r, h => by
    have h1 := (show NameOk r from h).few
    show 1 ≤ ("found " ++ r).length ∧ ("found " ++ r).length + 20 ≤ 300 * 2 ^ 1
    simp only [len_app]
    have e1 : ("found " : Str).length = 6 := by decide +kernel
    omega
  | .nt c, h => by
    have ih := text_len (c := c) h
    show 1 ≤ ("not " ++ c.text).length ∧ ("not " ++ c.text).length + 20 ≤ 300 * 2 ^ (c.dep + 1)
    simp only [len_app]
    have e1 : ("not " : Str).length = 4 := by decide +kernel
    rw [Nat.pow_succ]
    omega
  | .bin k a b, h => by
    have h1 := text_len (c := a) h.1
    have h2 := text_len (c := b) h.2
    have e1 : 2 ^ a.dep ≤ 2 ^ (max a.dep b.dep) := Nat.pow_le_pow_right (by decide) (Nat.le_max_left _ _)
    have e2 : 2 ^ b.dep ≤ 2 ^ (max a.dep b.dep) := Nat.pow_le_pow_right (by decide) (Nat.le_max_right _ _)
    show 1 ≤ ("(" ++ a.text ++ " " ++ bw k ++ " " ++ b.text ++ ")").length ∧ ("(" ++ a.text ++ " " ++ bw k ++ " " ++ b.text ++ ")").length + 20 ≤ 300 * 2 ^ (max a.dep b.dep + 1)
    simp only [len_app]
    have e3 : ("(" : Str).length = 1 := by decide +kernel
    have e4 : (" " : Str).length = 1 := by decide +kernel
    have e5 : (")" : Str).length = 1 := by decide +kernel
    have e6 : (bw k).length ≤ 3 := by cases k <;> decide +kernel
    rw [Nat.pow_succ]
    omega
theorem text_cp : ∀ {c : Cn}, c.Ok → cpOk c.text = true
  | .tru, _ => by decide +kernel
  | .cmp k v o w p, h => app_cp (app_cp (app_cp (app_cp (valText_cp h.1 o) (by decide +kernel)) (by cases k <;> decide +kernel)) (by decide +kernel)) (valText_cp h.2.2.1 p)
  | .fnd r, h => app_cp (by decide +kernel) (cp_low (show NameOk r from h).low)
  | .nt c, h => app_cp (by decide +kernel) (text_cp (c := c) h)
  | .bin k a b, h => app_cp (app_cp (app_cp (app_cp (app_cp (app_cp (by decide +kernel) (text_cp (c := a) h.1)) (by decide +kernel)) (by cases k <;> decide +kernel)) (by decide +kernel)) (text_cp (c := b) h.2)) (by decide +kernel)
theorem okD_cn : ∀ {c : Cn}, c.Ok → ∀ n : Nat, okD (c.dep + 3 + n) c.d = true
  | .tru, _, n => by
    show okD (1 + 3 + n) (.tup [.str "true"]) = true
    rw [show 1 + 3 + n = (n + 3) + 1 by omega]
    show ((decide (1 ≤ 1000)) && (cpOk "true" && true)) = true
    decide +kernel
  | .cmp k v o w p, h, n => by
    show okD (1 + 3 + n) (.tup [.str k.form, vald v o, vald w p]) = true
    rw [show 1 + 3 + n = (n + 3) + 1 by omega]
    show ((decide (3 ≤ 1000)) && (cpOk k.form && (okD (n + 3) (vald v o) && (okD (n + 3) (vald w p) && true)))) = true
    rw [okD_vald h.1, okD_vald h.2.2.1]
    have e : (true && (cpOk k.form && (true && (true && true)))) = true := by clear h; cases k <;> decide +kernel
    exact e
  | .fnd r, h, n => by
    show okD (1 + 3 + n) (.tup [.str "found", .str r]) = true
    rw [show 1 + 3 + n = (n + 3) + 1 by omega]
    show ((decide (2 ≤ 1000)) && (cpOk "found" && (cpOk r && true))) = true
    rw [cp_low (show NameOk r from h).low]
    exact (by decide +kernel : (true && (cpOk "found" && (true && true))) = true)
  | .nt c, h, n => by
    show okD (c.dep + 1 + 3 + n) (.tup [.str "not", c.d]) = true
    rw [show c.dep + 1 + 3 + n = (c.dep + 2 + n) + 1 + 1 by omega]
    show ((decide (2 ≤ 1000)) && (cpOk "not" && (okD (c.dep + 2 + n + 1) c.d && true))) = true
    rw [show c.dep + 2 + n + 1 = c.dep + 3 + n by omega, okD_cn (c := c) h n]
    exact (by decide +kernel : (true && (cpOk "not" && (true && true))) = true)
  | .bin k a b, h, n => by
    show okD (max a.dep b.dep + 1 + 3 + n) (.tup [.str (bw k), a.d, b.d]) = true
    rw [show max a.dep b.dep + 1 + 3 + n = (max a.dep b.dep + 2 + n) + 1 + 1 by omega]
    show ((decide (3 ≤ 1000)) && (cpOk (bw k) && (okD (max a.dep b.dep + 2 + n + 1) a.d && (okD (max a.dep b.dep + 2 + n + 1) b.d && true)))) = true
    have e1 : max a.dep b.dep + 2 + n + 1 = a.dep + 3 + (max a.dep b.dep - a.dep + n) := by have := Nat.le_max_left a.dep b.dep; omega
    have e2 : max a.dep b.dep + 2 + n + 1 = b.dep + 3 + (max a.dep b.dep - b.dep + n) := by have := Nat.le_max_right a.dep b.dep; omega
    have h1 : okD (max a.dep b.dep + 2 + n + 1) a.d = true := by rw [e1]; exact okD_cn (c := a) h.1 _
    have h2 : okD (max a.dep b.dep + 2 + n + 1) b.d = true := by rw [e2]; exact okD_cn (c := b) h.2 _
    rw [h1, h2]
    have e : ∀ k : Bool, (true && (cpOk (bw k) && (true && (true && true)))) = true := by decide +kernel
    exact e k
def s_SIGNS : List (Str × Str) := [("atmost", "<="), ("below", "<"), ("same", "=")]
def s_FORMS : List (Str × Str) := [("<=", "atmost"), ("<", "below"), ("=", "same")]
def s_DEEPEST : Dt := .int 6
def sis_condition_itself_ : FD := fnD 2 (kSeq (kIf (mOrB (mNotB (mB (mIsi isTup (mVar 0)))) (mB (m2 gNin (mCall gLen (mCons (mVar 0) mNil)) (mTup (mCons (mC (.int 1)) (mCons (mC (.int 2)) (mCons (mC (.int 3)) mNil))))))) (kRet (mC (.bl false))) kSkip)
    (kSeq (kAsg (m2 gIx (mVar 0) (mC (.int 0))) (hName 1))
    (kSeq (kIf (mB (m2 gEq (mCall gLen (mCons (mVar 0) mNil)) (mC (.int 1)))) (kRet (m2 gEq (mVar 1) (mC (.str "true")))) kSkip)
    (kSeq (kIf (mB (m2 gEq (mCall gLen (mCons (mVar 0) mNil)) (mC (.int 2)))) (kRet (mOrV (m2 gEq (mVar 1) (mC (.str "not"))) (mAndV (m2 gEq (mVar 1) (mC (.str "found"))) (mApp sis_name (mCons (m2 gIx (mVar 0) (mC (.int 1))) mNil))))) kSkip)
    (kSeq (kIf (mAndB (mB (mIsi isStr (mVar 1))) (mB (mKIn s_SIGNS (mVar 1)))) (kRet (mAndV (mApp sis_value (mCons (m2 gIx (mVar 0) (mC (.int 1))) mNil)) (mApp sis_value (mCons (m2 gIx (mVar 0) (mC (.int 2))) mNil)))) kSkip)
    (kRet (m2 gIn (mVar 1) (mTup (mCons (mC (.str "and")) (mCons (mC (.str "or")) mNil))))))))))
def splaces_ : FD := fnD 1 (kSeq (kIf (mB (m2 gIn (m2 gIx (mVar 0) (mC (.int 0))) (mTup (mCons (mC (.str "not")) (mCons (mC (.str "and")) (mCons (mC (.str "or")) mNil)))))) (kRet (m2 gRgL (mC (.int 1)) (mCall gLen (mCons (mVar 0) mNil)))) kSkip)
    (kRet (mLst mNil)))
def schecked_parts_ : FD := fnD 6 (kSeq (kOwn 1 mNil)
    (kSeq (kOwn 2 (mCons (mTup (mCons (mTup mNil) (mCons (mVar 0) mNil))) mNil))
    (kSeq (whileD (mTruOwn 2) (kSeq (kAsg (mPop 2) (hTup 2 (hCons (hName 3) (hCons (hName 4) hNil))))
    (kSeq (kIf (mOrB (mB (m2 oGe (mCall gLen (mCons (mVar 3) mNil)) (mC s_DEEPEST))) (mNotB (mB (mApp sis_condition_itself_ (mCons (mVar 4) mNil))))) (fun _ => none) kSkip)
    (kSeq (kDrop (mAppend 1 (mTup (mCons (mVar 3) (mCons (mVar 4) mNil)))))
    (kDrop (mExtend 2 (mComp [5] (wRev (mApp splaces_ (mCons (mVar 4) mNil))) (hName 5) mYes (mTup (mCons (mTup (mStar (mVar 3) (mCons (mVar 5) mNil))) (mCons (m2 gIx (mVar 4) (mVar 5)) mNil))))))))) 200)
    (kRet (mMove 1)))))
def stext_B (R : FD) : FD := fnD 2 (kSeq (kAsg (m2 gIx (mVar 0) (mC (.int 0))) (hName 1))
    (kSeq (kIf (mB (m2 gEq (mVar 1) (mC (.str "true")))) (kRet (mC (.str "true"))) kSkip)
    (kSeq (kIf (mB (m2 gEq (mVar 1) (mC (.str "found")))) (kRet (mJoined [(mC (.str "found ")), (mFmt (m2 gIx (mVar 0) (mC (.int 1))))])) kSkip)
    (kSeq (kIf (mB (m2 gEq (mVar 1) (mC (.str "not")))) (kRet (mJoined [(mC (.str "not ")), (mFmt (mApp R (mCons (m2 gIx (mVar 0) (mC (.int 1))) mNil)))])) kSkip)
    (kSeq (kIf (mB (mKIn s_SIGNS (mVar 1))) (kRet (mJoined [(mFmt (mApp svalue_text (mCons (m2 gIx (mVar 0) (mC (.int 1))) mNil))), (mC (.str " ")), (mFmt (mKIx s_SIGNS (mVar 1))), (mC (.str " ")), (mFmt (mApp svalue_text (mCons (m2 gIx (mVar 0) (mC (.int 2))) mNil)))])) kSkip)
    (kRet (mJoined [(mC (.str "(")), (mFmt (mApp R (mCons (m2 gIx (mVar 0) (mC (.int 1))) mNil))), (mC (.str " ")), (mFmt (mVar 1)), (mC (.str " ")), (mFmt (mApp R (mCons (m2 gIx (mVar 0) (mC (.int 2))) mNil))), (mC (.str ")"))])))))))
def stext_ : Nat → FD
  | 0 => fun _ _ => none
  | n + 1 => stext_B (stext_ n)
def scondition_text : FD := fnD 1 (kSeq (kDrop (mApp schecked_parts_ (mCons (mVar 0) mNil)))
    (kRet (mApp (stext_ 8) (mCons (mVar 0) mNil))))
def sword_ : FD := fnD 2 (kRet (mIf (mB (m2 oLt (mVar 1) (mCall gLen (mCons (mVar 0) mNil)))) (m2 gIx (mVar 0) (mVar 1)) (mC (.str ""))))
def sread_operand_ : FD := fnD 3 (kSeq (kAsg (mIf (mB (m2 gIn (mApp sword_ (mCons (mVar 0) (mCons (m2 gAdd (mVar 1) (mC (.int 1))) mNil))) (mTup (mCons (mC (.str "+")) (mCons (mC (.str "-")) mNil))))) (mC (.int 3)) (mC (.int 1))) (hName 2))
    (kRet (mTup (mCons (mApp sread_value (mCons (mM1 gJoin (mC (.str " ")) (mSl (mVar 0) (mPart (mVar 1)) (mPart (m2 gAdd (mVar 1) (mVar 2))))) mNil)) (mCons (m2 gAdd (mVar 1) (mVar 2)) mNil)))))
def sread_comparison_ : FD := fnD 7 (kSeq (kAsg (mApp sread_operand_ (mCons (mVar 0) (mCons (mVar 1) mNil))) (hTup 2 (hCons (hName 3) (hCons (hName 4) hNil))))
    (kSeq (kAsg (mApp sword_ (mCons (mVar 0) (mCons (mVar 4) mNil))) (hName 2))
    (kSeq (kIf (mB (mKNin s_FORMS (mVar 2))) (fun _ => none) kSkip)
    (kSeq (kAsg (mApp sread_operand_ (mCons (mVar 0) (mCons (m2 gAdd (mVar 4) (mC (.int 1))) mNil))) (hTup 2 (hCons (hName 5) (hCons (hName 6) hNil))))
    (kRet (mTup (mCons (mTup (mCons (mKIx s_FORMS (mVar 2)) (mCons (mVar 3) (mCons (mVar 5) mNil)))) (mCons (mVar 6) mNil))))))))
def sread_found_ : FD := fnD 3 (kSeq (kAsg (mApp sword_ (mCons (mVar 0) (mCons (mVar 1) mNil))) (hName 2))
    (kSeq (kIf (mNotB (mB (mApp sis_name (mCons (mVar 2) mNil)))) (fun _ => none) kSkip)
    (kRet (mTup (mCons (mTup (mCons (mC (.str "found")) (mCons (mVar 2) mNil))) (mCons (m2 gAdd (mVar 1) (mC (.int 1))) mNil))))))
def sread_joined_B (R : FD) : FD := fnD 8 (kSeq (kAsg (mApp R (mCons (mVar 0) (mCons (mVar 1) (mCons (mVar 2) mNil)))) (hTup 2 (hCons (hName 4) (hCons (hName 5) hNil))))
    (kSeq (kAsg (mApp sword_ (mCons (mVar 0) (mCons (mVar 5) mNil))) (hName 3))
    (kSeq (kIf (mB (m2 gNin (mVar 3) (mTup (mCons (mC (.str "and")) (mCons (mC (.str "or")) mNil))))) (fun _ => none) kSkip)
    (kSeq (kAsg (mApp R (mCons (mVar 0) (mCons (m2 gAdd (mVar 5) (mC (.int 1))) (mCons (mVar 2) mNil)))) (hTup 2 (hCons (hName 6) (hCons (hName 7) hNil))))
    (kSeq (kIf (mB (m2 gNe (mApp sword_ (mCons (mVar 0) (mCons (mVar 7) mNil))) (mC (.str ")")))) (fun _ => none) kSkip)
    (kRet (mTup (mCons (mTup (mCons (mVar 3) (mCons (mVar 4) (mCons (mVar 6) mNil)))) (mCons (m2 gAdd (mVar 7) (mC (.int 1))) mNil)))))))))
def sread_part_B (R : FD) : FD := fnD 6 (kSeq (kIf (mB (m2 oGt (mVar 2) (mC s_DEEPEST))) (fun _ => none) kSkip)
    (kSeq (kAsg (mApp sword_ (mCons (mVar 0) (mCons (mVar 1) mNil))) (hName 3))
    (kSeq (kIf (mB (m2 gEq (mVar 3) (mC (.str "true")))) (kRet (mTup (mCons (mTup (mCons (mC (.str "true")) mNil)) (mCons (m2 gAdd (mVar 1) (mC (.int 1))) mNil)))) kSkip)
    (kSeq (kIf (mB (m2 gEq (mVar 3) (mC (.str "found")))) (kRet (mApp sread_found_ (mCons (mVar 0) (mCons (m2 gAdd (mVar 1) (mC (.int 1))) mNil)))) kSkip)
    (kSeq (kIf (mB (m2 gEq (mVar 3) (mC (.str "not")))) (kSeq (kAsg (mApp R (mCons (mVar 0) (mCons (m2 gAdd (mVar 1) (mC (.int 1))) (mCons (m2 gAdd (mVar 2) (mC (.int 1))) mNil)))) (hTup 2 (hCons (hName 4) (hCons (hName 5) hNil))))
    (kRet (mTup (mCons (mTup (mCons (mC (.str "not")) (mCons (mVar 4) mNil))) (mCons (mVar 5) mNil))))) kSkip)
    (kSeq (kIf (mB (m2 gEq (mVar 3) (mC (.str "(")))) (kRet (mApp (sread_joined_B R) (mCons (mVar 0) (mCons (m2 gAdd (mVar 1) (mC (.int 1))) (mCons (m2 gAdd (mVar 2) (mC (.int 1))) mNil))))) kSkip)
    (kRet (mApp sread_comparison_ (mCons (mVar 0) (mCons (mVar 1) mNil))))))))))
def sread_part_ : Nat → FD
  | 0 => fun _ _ => none
  | n + 1 => sread_part_B (sread_part_ n)
def sread_condition : FD := fnD 4 (kSeq (kIf (mNotB (mB (mIsi isStr (mVar 0)))) (fun _ => none) kSkip)
    (kSeq (kAsg (mM1 gSplit (mRepC ")" " )" (mRepC "(" "( " (mVar 0))) (mC (.str " "))) (hName 1))
    (kSeq (kAsg (mApp (sread_part_ 8) (mCons (mVar 1) (mCons (mC (.int 0)) (mCons (mC (.int 1)) mNil)))) (hTup 2 (hCons (hName 2) (hCons (hName 3) hNil))))
    (kSeq (kIf (mB (m2 gNe (mVar 3) (mCall gLen (mCons (mVar 1) mNil)))) (fun _ => none) kSkip)
    (kRet (mVar 2))))))
def sLcondition_textB (R : FD) : FD := fnD 3 (kSeq (kAsg (m2 gIx (mVar 0) (mC (.int 0))) (hName 1))
    (kSeq (kIf (mB (m2 gIn (mVar 1) (mTup (mCons (mC (.str "and")) (mCons (mC (.str "or")) mNil))))) (kRet (m2 gAdd (m2 gAdd (m2 gAdd (m2 gAdd (m2 gAdd (m2 gAdd (mC (.str "(")) (mApp R (mCons (m2 gIx (mVar 0) (mC (.int 1))) mNil))) (mC (.str " "))) (mVar 1)) (mC (.str " "))) (mApp R (mCons (m2 gIx (mVar 0) (mC (.int 2))) mNil))) (mC (.str ")")))) kSkip)
    (kSeq (kIf (mB (m2 gEq (mVar 1) (mC (.str "not")))) (kRet (m2 gAdd (mC (.str "not ")) (mApp R (mCons (m2 gIx (mVar 0) (mC (.int 1))) mNil)))) kSkip)
    (kSeq (kIf (mB (m2 gEq (mVar 1) (mC (.str "found")))) (kRet (m2 gAdd (mC (.str "found ")) (m2 gIx (mVar 0) (mC (.int 1))))) kSkip)
    (kSeq (kAsg (mC (dicS [("atmost", " <= "), ("below", " < "), ("same", " = ")])) (hName 2))
    (kRet (mIf (mB (m2 gEq (mVar 1) (mC (.str "true")))) (mC (.str "true")) (m2 gAdd (m2 gAdd (mApp (sLvalue_text 3) (mCons (m2 gIx (mVar 0) (mC (.int 1))) mNil)) (m2 gDget (mVar 2) (mVar 1))) (mApp (sLvalue_text 3) (mCons (m2 gIx (mVar 0) (mC (.int 2))) mNil))))))))))
def sLcondition_text : Nat → FD
  | 0 => fun _ _ => none
  | n + 1 => sLcondition_textB (sLcondition_text n)
def sLsome_value : FD := fnD 3 (kSeq (kAsg (mApp sLany (mCons (mVar 0) (mCons (m2 gAdd (mVar 1) (mLst (mCons (mTup (mCons (mC (.str "number")) (mCons (mApp sLnear (mCons (mVar 0) mNil)) mNil))) mNil))) mNil))) (hName 2))
    (kRet (mIf (mB (m2 gEq (mApp sLpull (mCons (mVar 0) (mCons (mC (.int 3)) mNil))) (mC (.int 0)))) (mTup (mCons (mC (.str "plus")) (mCons (mVar 2) (mCons (mApp sLnear (mCons (mVar 0) mNil)) mNil)))) (mVar 2))))
def sLsome_compared : FD := fnD 3 (kSeq (kAsg (mIf (mB (m2 gNe (mVar 1) (mLst mNil))) (mApp sLany (mCons (mVar 0) (mCons (mVar 1) mNil))) (mTup (mCons (mC (.str "number")) (mCons (mApp sLnear (mCons (mVar 0) mNil)) mNil)))) (hName 2))
    (kSeq (kIf (mB (m2 gEq (mApp sLpull (mCons (mVar 0) (mCons (mC (.int 4)) mNil))) (mC (.int 0)))) (kAsg (mTup (mCons (mC (.str "plus")) (mCons (mVar 2) (mCons (mApp sLnear (mCons (mVar 0) mNil)) mNil)))) (hName 2)) kSkip)
    (kRet (mTup (mCons (mApp sLany (mCons (mVar 0) (mCons (mLst (mCons (mC (.str "atmost")) (mCons (mC (.str "below")) (mCons (mC (.str "below")) (mCons (mC (.str "same")) mNil))))) mNil))) (mCons (mVar 2) (mCons (mApp sLsome_value (mCons (mVar 0) (mCons (mVar 1) mNil))) mNil)))))))
def sLsome_conditionB (R : FD) : FD := fnD 5 (kSeq (kAsg (mIf (mB (m2 oGt (mVar 2) (mC (.int 0)))) (mApp sLpull (mCons (mVar 0) (mCons (mC (.int 7)) mNil))) (mApp sLpull (mCons (mVar 0) (mCons (mC (.int 3)) mNil)))) (hName 3))
    (kSeq (kIf (mB (m2 oLt (mVar 3) (mC (.int 1)))) (kRet (mTup (mCons (mC (.str "true")) mNil))) kSkip)
    (kSeq (kIf (mB (m2 oLt (mVar 3) (mC (.int 4)))) (kRet (mApp sLsome_compared (mCons (mVar 0) (mCons (mVar 1) mNil)))) kSkip)
    (kSeq (kIf (mB (m2 gEq (mVar 3) (mC (.int 4)))) (kRet (mTup (mCons (mC (.str "not")) (mCons (mApp R (mCons (mVar 0) (mCons (mVar 1) (mCons (m2 gSub0 (mVar 2) (mC (.int 1))) mNil)))) mNil)))) kSkip)
    (kSeq (kAsg (mIf (mB (m2 gEq (mVar 3) (mC (.int 5)))) (mC (.str "and")) (mC (.str "or"))) (hName 4))
    (kRet (mTup (mCons (mVar 4) (mCons (mApp R (mCons (mVar 0) (mCons (mVar 1) (mCons (m2 gSub0 (mVar 2) (mC (.int 1))) mNil)))) (mCons (mApp R (mCons (mVar 0) (mCons (mVar 1) (mCons (m2 gSub0 (mVar 2) (mC (.int 1))) mNil)))) mNil))))))))))
def sLsome_condition : Nat → FD
  | 0 => fun _ _ => none
  | n + 1 => sLsome_conditionB (sLsome_condition n)
/-! ### texts, as the functions make them -/
theorem ginN {a x y : Str} {r : Bool} (h : (!(x == a || (y == a || false))) = r) : gNin (.str a) (.tup [.str x, .str y]) = some (.bl r) := congrArg (fun b => some (Dt.bl b)) h
theorem line_big {n : Nat} (h : n ≤ 1000000) : n ≤ sizeLine := Nat.le_trans h (by decide)
theorem gaddS {a b : Str} (h : a.length + b.length ≤ 1000000) : gAdd (.str a) (.str b) = some (.str (a ++ b)) := by
  show (if a.length + b.length ≤ sizeLine then some (Dt.str (a ++ b)) else none) = _
  rw [if_pos (line_big h)]
theorem mif_t {c : DM Bool} {f g : DM Dt} {s s1 : Sta} (h : c s = some (true, s1)) : mIf c f g s = f s1 := by unfold mIf; rw [h]; rfl
theorem mif_f {c : DM Bool} {f g : DM Dt} {s s1 : Sta} (h : c s = some (false, s1)) : mIf c f g s = g s1 := by unfold mIf; rw [h]; rfl
theorem kskip (s : Sta) : kSkip s = some (.nx, s) := rfl
/-- an if whose test is false: it goes on -/
theorem kifs {c : DM Bool} {f : DMs} {g : DMs} {s : Sta} (h : c s = some (false, s)) : kSeq (kIf c f kSkip) g s = g s := by rw [kseq (s1 := s) (by rw [kif_f h]; rfl)]
theorem kifr {c : DM Bool} {f : DM Dt} {g : DMs} {s s1 s2 : Sta} {d : Dt} (h : c s = some (true, s1)) (e : f s1 = some (d, s2)) : kSeq (kIf c (kRet f) kSkip) g s = some (.rt d, s2) := by
  unfold kSeq
  rw [kif_t h, kret e]
  rfl
theorem dep_pow {c : Cn} {n : Nat} (h : c.dep ≤ n) (hn : n ≤ 8) : 300 * 2 ^ c.dep ≤ 76800 := by
  have : 2 ^ c.dep ≤ 2 ^ 8 := Nat.pow_le_pow_right (by decide) (Nat.le_trans h hn)
  omega
theorem len6 : (" " : Str).length = 1 ∧ ("(" : Str).length = 1 ∧ (")" : Str).length = 1 ∧ ("not " : Str).length = 4 ∧ ("found " : Str).length = 6 := by decide +kernel
theorem bw_len (k : Bool) : (bw k).length ≤ 3 := by cases k <;> decide +kernel
def Cp.mid : Cp → Str
  | .le => " <= "
  | .lt => " < "
  | .eq => " = "
theorem mid_len (k : Cp) : k.mid.length ≤ 4 := by cases k <;> decide +kernel
theorem mid_eq (k : Cp) : (" " : Str) ++ k.sign ++ " " = k.mid := by cases k <;> decide +kernel
theorem look_hit {k : Key} {ks : List Key} {d : Dt} {l : List Dt} : lookD (k :: ks) (d :: l) k = some d := by unfold lookD; rw [if_pos rfl]
theorem look_miss {k x : Key} {ks : List Key} {d : Dt} {l : List Dt} (h : k ≠ x) : lookD (k :: ks) (d :: l) x = lookD ks l x := by
  show (if k = x then some d else lookD ks l x) = _
  rw [if_neg h]
theorem str_ne {a b : Str} (h : (a == b) = false) : (Sum.inr a : Key) ≠ Sum.inr b := fun z => by
  cases z
  rw [beq_self_eq_true] at h
  cases h
theorem dget_mid (k : Cp) : gDget (dicS [("atmost", " <= "), ("below", " < "), ("same", " = ")]) (.str k.form) = some (.str k.mid) := by
  cases k
  · have e : lookD [(.inr "atmost" : Key), .inr "below", .inr "same"] [.str " <= ", .str " < ", .str " = "] (.inr "atmost" : Key) = some (.str " <= ") := look_hit
    exact e
  · have e : lookD [(.inr "atmost" : Key), .inr "below", .inr "same"] [.str " <= ", .str " < ", .str " = "] (.inr "below" : Key) = some (.str " < ") := by
      rw [look_miss (str_ne (by decide +kernel)), look_hit]
    exact e
  · have e : lookD [(.inr "atmost" : Key), .inr "below", .inr "same"] [.str " <= ", .str " < ", .str " = "] (.inr "same" : Key) = some (.str " = ") := by
      rw [look_miss (str_ne (by decide +kernel)), look_miss (str_ne (by decide +kernel)), look_hit]
    exact e
theorem law_cond_text : ∀ (n : Nat) {c : Cn}, c.Ok → c.dep ≤ n → n ≤ 8 → ∀ bg, sLcondition_text n [c.d] bg = some (.str c.text, bg)
  | 0, c, _, hd, _, _ => by cases c <;> simp [Cn.dep] at hd
  | n + 1, c, h, hd, hn, bg => by
    show sLcondition_textB (sLcondition_text n) [c.d] bg = _
    obtain ⟨l1, l2, l3, l4, l5⟩ := len6
    unfold sLcondition_textB
    cases c with
    | tru =>
      let t : Sta := ⟨[some (.dat Cn.tru.d), some (.dat (.str "true")), none], bg⟩
      let u : Sta := ⟨[some (.dat Cn.tru.d), some (.dat (.str "true")), some (.dat (dicS [("atmost", " <= "), ("below", " < "), ("same", " = ")]))], bg⟩
      refine fnd (s1 := u) ?_
      rw [kseq (s1 := t) rfl, kifs (s := t) (mBt (m2_eq (s1 := t) (s2 := t) (x := .str "true") (y := .tup [.str "and", .str "or"]) rfl rfl (gin2 (by decide +kernel))))]
      rw [kifs (s := t) (mBt (m2_eq (s1 := t) (s2 := t) (x := .str "true") (y := .str "not") rfl rfl (tag (by decide +kernel) (by decide +kernel) (by decide +kernel))))]
      rw [kifs (s := t) (mBt (m2_eq (s1 := t) (s2 := t) (x := .str "true") (y := .str "found") rfl rfl (tag (by decide +kernel) (by decide +kernel) (by decide +kernel))))]
      rw [kseq (s1 := u) rfl]
      refine kret ?_
      rw [mif_t (s1 := u) (mBt (m2_eq (s1 := u) (s2 := u) (x := .str "true") (y := .str "true") rfl rfl (tag (by decide +kernel) (by decide +kernel) (by decide +kernel))))]
      rfl
    | fnd r =>
      let t : Sta := ⟨[some (.dat (Cn.fnd r).d), some (.dat (.str "found")), none], bg⟩
      refine fnd (s1 := t) ?_
      have hr : r.length ≤ 6 := (show NameOk r from h).few
      rw [kseq (s1 := t) rfl, kifs (s := t) (mBt (m2_eq (s1 := t) (s2 := t) (x := .str "found") (y := .tup [.str "and", .str "or"]) rfl rfl (gin2 (by decide +kernel))))]
      rw [kifs (s := t) (mBt (m2_eq (s1 := t) (s2 := t) (x := .str "found") (y := .str "not") rfl rfl (tag (by decide +kernel) (by decide +kernel) (by decide +kernel))))]
      exact kifr (s1 := t) (s2 := t) (mBt (m2_eq (s1 := t) (s2 := t) (x := .str "found") (y := .str "found") rfl rfl (tag (by decide +kernel) (by decide +kernel) (by decide +kernel)))) (m2_eq (s1 := t) (s2 := t) (x := .str "found ") (y := .str r) rfl rfl (gaddS (by omega)))
    | nt c =>
      let t : Sta := ⟨[some (.dat (Cn.nt c).d), some (.dat (.str "not")), none], bg⟩
      refine fnd (s1 := t) ?_
      have hd' : c.dep ≤ n := by have : (Cn.nt c).dep = c.dep + 1 := rfl; omega
      have hl := text_len (c := c) h
      have hp := dep_pow hd' (by omega)
      rw [kseq (s1 := t) rfl, kifs (s := t) (mBt (m2_eq (s1 := t) (s2 := t) (x := .str "not") (y := .tup [.str "and", .str "or"]) rfl rfl (gin2 (by decide +kernel))))]
      exact kifr (s1 := t) (s2 := t) (mBt (m2_eq (s1 := t) (s2 := t) (x := .str "not") (y := .str "not") rfl rfl (tag (by decide +kernel) (by decide +kernel) (by decide +kernel)))) (m2_eq (s1 := t) (s2 := t) (x := .str "not ") (y := .str c.text) rfl (mapp (s1 := t) (ds := [c.d]) rfl (law_cond_text n (c := c) h hd' (by omega) bg)) (gaddS (by omega)))
    | bin k a b =>
      let t : Sta := ⟨[some (.dat (Cn.bin k a b).d), some (.dat (.str (bw k))), none], bg⟩
      refine fnd (s1 := t) ?_
      have e0 : (Cn.bin k a b).dep = max a.dep b.dep + 1 := rfl
      have q1 := Nat.le_max_left a.dep b.dep
      have q2 := Nat.le_max_right a.dep b.dep
      have ha : a.dep ≤ n := by omega
      have hb : b.dep ≤ n := by omega
      have la := text_len (c := a) h.1
      have lb := text_len (c := b) h.2
      have pa := dep_pow ha (by omega)
      have pb := dep_pow hb (by omega)
      have lk := bw_len k
      rw [kseq (s1 := t) rfl]
      refine kifr (s1 := t) (s2 := t) (mBt (m2_eq (s1 := t) (s2 := t) (x := .str (bw k)) (y := .tup [.str "and", .str "or"]) rfl rfl (gin2 (by cases k <;> decide +kernel)))) ?_
      have ea : mApp (sLcondition_text n) (mCons (m2 gIx (mVar 0) (mC (.int 1))) mNil) t = some (.str a.text, t) := mapp (s1 := t) (ds := [a.d]) rfl (law_cond_text n (c := a) h.1 ha (by omega) bg)
      have eb : mApp (sLcondition_text n) (mCons (m2 gIx (mVar 0) (mC (.int 2))) mNil) t = some (.str b.text, t) := mapp (s1 := t) (ds := [b.d]) rfl (law_cond_text n (c := b) h.2 hb (by omega) bg)
      refine m2_eq (s1 := t) (s2 := t) (x := .str ("(" ++ a.text ++ " " ++ bw k ++ " " ++ b.text)) (y := .str ")") ?_ rfl (gaddS (by simp only [len_app]; omega))
      refine m2_eq (s1 := t) (s2 := t) (x := .str ("(" ++ a.text ++ " " ++ bw k ++ " ")) (y := .str b.text) ?_ eb (gaddS (by simp only [len_app]; omega))
      refine m2_eq (s1 := t) (s2 := t) (x := .str ("(" ++ a.text ++ " " ++ bw k)) (y := .str " ") ?_ rfl (gaddS (by simp only [len_app]; omega))
      refine m2_eq (s1 := t) (s2 := t) (x := .str ("(" ++ a.text ++ " ")) (y := .str (bw k)) ?_ rfl (gaddS (by simp only [len_app]; omega))
      refine m2_eq (s1 := t) (s2 := t) (x := .str ("(" ++ a.text)) (y := .str " ") ?_ rfl (gaddS (by simp only [len_app]; omega))
      exact m2_eq (s1 := t) (s2 := t) (x := .str "(") (y := .str a.text) rfl ea (gaddS (by omega))
    | cmp k v o w p =>
      let t : Sta := ⟨[some (.dat (Cn.cmp k v o w p).d), some (.dat (.str k.form)), none], bg⟩
      let u : Sta := ⟨[some (.dat (Cn.cmp k v o w p).d), some (.dat (.str k.form)), some (.dat (dicS [("atmost", " <= "), ("below", " < "), ("same", " = ")]))], bg⟩
      refine fnd (s1 := u) ?_
      have ck : cpOk k.form = true := by cases k <;> decide +kernel
      have h1 := valText_len h.1 h.2.1
      have h2 := valText_len h.2.2.1 h.2.2.2
      have h3 := mid_len k
      rw [kseq (s1 := t) rfl, kifs (s := t) (mBt (m2_eq (s1 := t) (s2 := t) (x := .str k.form) (y := .tup [.str "and", .str "or"]) rfl rfl (gin2 (by cases k <;> decide +kernel))))]
      rw [kifs (s := t) (mBt (m2_eq (s1 := t) (s2 := t) (x := .str k.form) (y := .str "not") rfl rfl (tag ck (by decide +kernel) (by cases k <;> decide +kernel))))]
      rw [kifs (s := t) (mBt (m2_eq (s1 := t) (s2 := t) (x := .str k.form) (y := .str "found") rfl rfl (tag ck (by decide +kernel) (by cases k <;> decide +kernel))))]
      rw [kseq (s1 := u) rfl]
      refine kret ?_
      rw [mif_f (s1 := u) (mBt (m2_eq (s1 := u) (s2 := u) (x := .str k.form) (y := .str "true") rfl rfl (tag ck (by decide +kernel) (by cases k <;> decide +kernel))))]
      have e : (Cn.cmp k v o w p).text = valText v o ++ k.mid ++ valText w p := by
        show valText v o ++ " " ++ k.sign ++ " " ++ valText w p = _
        rw [← mid_eq]
        apply ext_tl
        simp only [tl_append, List.append_assoc]
      rw [e]
      refine m2_eq (s1 := u) (s2 := u) (x := .str (valText v o ++ k.mid)) (y := .str (valText w p)) ?_ (mapp (s1 := u) (ds := [vald w p]) rfl (law_text h.2.2.1 h.2.2.2 bg)) (gaddS (by simp only [len_app]; omega))
      exact m2_eq (s1 := u) (s2 := u) (x := .str (valText v o)) (y := .str k.mid) (mapp (s1 := u) (ds := [vald v o]) rfl (law_text h.1 h.2.1 bg)) (m2_eq (s1 := u) (s2 := u) (x := dicS [("atmost", " <= "), ("below", " < "), ("same", " = ")]) (y := .str k.form) rfl rfl (dget_mid k)) (gaddS (by omega))
/-! f-strings of many parts -/
inductive Js (s : Sta) : List (DM Dt) → List Str → Prop
  | nil : Js s [] []
  | cons {f : DM Dt} {y : Str} {fs : List (DM Dt)} {ys : List Str} (h : f s = some (.str y, s)) (r : Js s fs ys) : Js s (f :: fs) (y :: ys)
theorem js_ok {s : Sta} : ∀ {fs : List (DM Dt)} {ys : List Str} (acc : Str), Js s fs ys → acc.length + (ys.map (·.length)).sum ≤ 1000000 → mJs fs acc s = some (ys.foldl (· ++ ·) acc, s)
  | _, _, acc, .nil, _ => rfl
  | _, _, acc, .cons (y := y) (ys := ys) h r, hl => by
    rw [List.map_cons, List.sum_cons] at hl
    have e : (acc ++ y).length = acc.length + y.length := len_app
    exact mjs h (line_big (by omega)) (js_ok (acc ++ y) r (by omega))
theorem joinedN {s : Sta} {fs : List (DM Dt)} {ys : List Str} (h : Js s fs ys) (hl : (ys.map (·.length)).sum ≤ 1000000) : mJoined fs s = some (.str (ys.foldl (· ++ ·) Str.empty), s) :=
  mjoined (js_ok Str.empty h (by have : Str.empty.length = 0 := rfl; omega))
theorem mfmtS {f : DM Dt} {s : Sta} {y : Str} (h : f s = some (.str y, s)) (hl : y.length ≤ 1000000) : mFmt f s = some (.str y, s) := mfmt_s h (line_big hl)
theorem tbl_get (k : Cp) : tblGet s_SIGNS k.form = some k.sign := by cases k <;> decide +kernel
theorem tbl_form (k : Cp) : tblGet s_FORMS k.sign = some k.form := by cases k <;> decide +kernel
theorem kin_t {s : Sta} {f : DM Dt} {z w : Str} {l : List (Str × Str)} (h : f s = some (.str z, s)) (e : tblGet l z = some w) : mKIn l f s = some (.bl true, s) := by
  unfold mKIn; rw [h]; show some (Dt.bl (tblGet l z).isSome, s) = _; rw [e]; rfl
theorem kin_f {s : Sta} {f : DM Dt} {z : Str} {l : List (Str × Str)} (h : f s = some (.str z, s)) (e : tblGet l z = none) : mKIn l f s = some (.bl false, s) := by
  unfold mKIn; rw [h]; show some (Dt.bl (tblGet l z).isSome, s) = _; rw [e]; rfl
theorem knin_t {s : Sta} {f : DM Dt} {z w : Str} {l : List (Str × Str)} (h : f s = some (.str z, s)) (e : tblGet l z = some w) : mKNin l f s = some (.bl false, s) := by
  unfold mKNin; rw [h]; show some (Dt.bl !(tblGet l z).isSome, s) = _; rw [e]; rfl
theorem kix {s : Sta} {f : DM Dt} {z w : Str} {l : List (Str × Str)} (h : f s = some (.str z, s)) (e : tblGet l z = some w) : mKIx l f s = some (.str w, s) := by
  unfold mKIx; rw [h]; show (tblGet l z).bind _ = _; rw [e]; rfl
theorem text_ok : ∀ (n : Nat) {c : Cn}, c.Ok → c.dep ≤ n → n ≤ 8 → ∀ bg, stext_ n [c.d] bg = some (.str c.text, bg)
  | 0, c, _, hd, _, _ => by cases c <;> simp [Cn.dep] at hd
  | n + 1, c, h, hd, hn, bg => by
    show stext_B (stext_ n) [c.d] bg = _
    obtain ⟨l1, l2, l3, l4, l5⟩ := len6
    unfold stext_B
    cases c with
    | tru =>
      let t : Sta := ⟨[some (.dat Cn.tru.d), some (.dat (.str "true"))], bg⟩
      refine fnd (s1 := t) ?_
      rw [kseq (s1 := t) rfl]
      exact kifr (s1 := t) (s2 := t) (mBt (m2_eq (s1 := t) (s2 := t) (x := .str "true") (y := .str "true") rfl rfl (tag (by decide +kernel) (by decide +kernel) (by decide +kernel)))) rfl
    | fnd r =>
      let t : Sta := ⟨[some (.dat (Cn.fnd r).d), some (.dat (.str "found"))], bg⟩
      refine fnd (s1 := t) ?_
      have hr : r.length ≤ 6 := (show NameOk r from h).few
      rw [kseq (s1 := t) rfl]
      rw [kifs (s := t) (mBt (m2_eq (s1 := t) (s2 := t) (x := .str "found") (y := .str "true") rfl rfl (tag (by decide +kernel) (by decide +kernel) (by decide +kernel))))]
      refine kifr (s1 := t) (s2 := t) (mBt (m2_eq (s1 := t) (s2 := t) (x := .str "found") (y := .str "found") rfl rfl (tag (by decide +kernel) (by decide +kernel) (by decide +kernel)))) ?_
      have e := joinedN (s := t) (fs := [(mC (.str "found ")), (mFmt (m2 gIx (mVar 0) (mC (.int 1))))]) (ys := ["found ", r]) (.cons rfl (.cons (mfmtS (f := m2 gIx (mVar 0) (mC (.int 1))) rfl (by omega)) .nil)) (by simp only [List.map_cons, List.map_nil, List.sum_cons, List.sum_nil]; omega)
      rw [e]
      show some (Dt.str (Str.empty ++ "found " ++ r), t) = some (Dt.str ("found " ++ r), t)
      rw [empty_app]
    | nt c =>
      let t : Sta := ⟨[some (.dat (Cn.nt c).d), some (.dat (.str "not"))], bg⟩
      refine fnd (s1 := t) ?_
      have hd' : c.dep ≤ n := by have : (Cn.nt c).dep = c.dep + 1 := rfl; omega
      have hl := text_len (c := c) h
      have hp := dep_pow hd' (by omega)
      rw [kseq (s1 := t) rfl]
      rw [kifs (s := t) (mBt (m2_eq (s1 := t) (s2 := t) (x := .str "not") (y := .str "true") rfl rfl (tag (by decide +kernel) (by decide +kernel) (by decide +kernel))))]
      rw [kifs (s := t) (mBt (m2_eq (s1 := t) (s2 := t) (x := .str "not") (y := .str "found") rfl rfl (tag (by decide +kernel) (by decide +kernel) (by decide +kernel))))]
      refine kifr (s1 := t) (s2 := t) (mBt (m2_eq (s1 := t) (s2 := t) (x := .str "not") (y := .str "not") rfl rfl (tag (by decide +kernel) (by decide +kernel) (by decide +kernel)))) ?_
      have ec : mApp (stext_ n) (mCons (m2 gIx (mVar 0) (mC (.int 1))) mNil) t = some (.str c.text, t) := mapp (s1 := t) (ds := [c.d]) rfl (text_ok n (c := c) h hd' (by omega) bg)
      have e := joinedN (s := t) (fs := [(mC (.str "not ")), (mFmt (mApp (stext_ n) (mCons (m2 gIx (mVar 0) (mC (.int 1))) mNil)))]) (ys := ["not ", c.text]) (.cons rfl (.cons (mfmtS ec (by omega)) .nil)) (by simp only [List.map_cons, List.map_nil, List.sum_cons, List.sum_nil]; omega)
      rw [e]
      show some (Dt.str (Str.empty ++ "not " ++ c.text), t) = some (Dt.str ("not " ++ c.text), t)
      rw [empty_app]
    | bin k a b =>
      let t : Sta := ⟨[some (.dat (Cn.bin k a b).d), some (.dat (.str (bw k)))], bg⟩
      refine fnd (s1 := t) ?_
      have e0 : (Cn.bin k a b).dep = max a.dep b.dep + 1 := rfl
      have q1 := Nat.le_max_left a.dep b.dep
      have q2 := Nat.le_max_right a.dep b.dep
      have ha : a.dep ≤ n := by omega
      have hb : b.dep ≤ n := by omega
      have la := text_len (c := a) h.1
      have lb := text_len (c := b) h.2
      have pa := dep_pow ha (by omega)
      have pb := dep_pow hb (by omega)
      have lk := bw_len k
      have ck : cpOk (bw k) = true := by cases k <;> decide +kernel
      rw [kseq (s1 := t) rfl]
      rw [kifs (s := t) (mBt (m2_eq (s1 := t) (s2 := t) (x := .str (bw k)) (y := .str "true") rfl rfl (tag ck (by decide +kernel) (by cases k <;> decide +kernel))))]
      rw [kifs (s := t) (mBt (m2_eq (s1 := t) (s2 := t) (x := .str (bw k)) (y := .str "found") rfl rfl (tag ck (by decide +kernel) (by cases k <;> decide +kernel))))]
      rw [kifs (s := t) (mBt (m2_eq (s1 := t) (s2 := t) (x := .str (bw k)) (y := .str "not") rfl rfl (tag ck (by decide +kernel) (by cases k <;> decide +kernel))))]
      rw [kifs (s := t) (mBt (kin_f (s := t) (z := bw k) rfl (by cases k <;> decide +kernel)))]
      refine kret ?_
      have ea : mApp (stext_ n) (mCons (m2 gIx (mVar 0) (mC (.int 1))) mNil) t = some (.str a.text, t) := mapp (s1 := t) (ds := [a.d]) rfl (text_ok n (c := a) h.1 ha (by omega) bg)
      have eb : mApp (stext_ n) (mCons (m2 gIx (mVar 0) (mC (.int 2))) mNil) t = some (.str b.text, t) := mapp (s1 := t) (ds := [b.d]) rfl (text_ok n (c := b) h.2 hb (by omega) bg)
      have e := joinedN (s := t) (ys := ["(", a.text, " ", bw k, " ", b.text, ")"]) (.cons (f := mC (.str "(")) rfl (.cons (mfmtS ea (by omega)) (.cons (f := mC (.str " ")) rfl (.cons (mfmtS (f := mVar 1) rfl (by omega)) (.cons (f := mC (.str " ")) rfl (.cons (mfmtS eb (by omega)) (.cons (f := mC (.str ")")) rfl .nil))))))) (by simp only [List.map_cons, List.map_nil, List.sum_cons, List.sum_nil]; omega)
      rw [e]
      show some (Dt.str (Str.empty ++ "(" ++ a.text ++ " " ++ bw k ++ " " ++ b.text ++ ")"), t) = some (Dt.str ("(" ++ a.text ++ " " ++ bw k ++ " " ++ b.text ++ ")"), t)
      rw [empty_app]
    | cmp k v o w p =>
      let t : Sta := ⟨[some (.dat (Cn.cmp k v o w p).d), some (.dat (.str k.form))], bg⟩
      refine fnd (s1 := t) ?_
      have ck : cpOk k.form = true := by cases k <;> decide +kernel
      have h1 := valText_len h.1 h.2.1
      have h2 := valText_len h.2.2.1 h.2.2.2
      have h3 : k.sign.length ≤ 2 := by cases k <;> decide +kernel
      rw [kseq (s1 := t) rfl]
      rw [kifs (s := t) (mBt (m2_eq (s1 := t) (s2 := t) (x := .str k.form) (y := .str "true") rfl rfl (tag ck (by decide +kernel) (by cases k <;> decide +kernel))))]
      rw [kifs (s := t) (mBt (m2_eq (s1 := t) (s2 := t) (x := .str k.form) (y := .str "found") rfl rfl (tag ck (by decide +kernel) (by cases k <;> decide +kernel))))]
      rw [kifs (s := t) (mBt (m2_eq (s1 := t) (s2 := t) (x := .str k.form) (y := .str "not") rfl rfl (tag ck (by decide +kernel) (by cases k <;> decide +kernel))))]
      refine kifr (s1 := t) (s2 := t) (mBt (kin_t (s := t) (z := k.form) rfl (tbl_get k))) ?_
      have ea : mApp svalue_text (mCons (m2 gIx (mVar 0) (mC (.int 1))) mNil) t = some (.str (valText v o), t) := mapp (s1 := t) (ds := [vald v o]) rfl (value_text h.1 h.2.1 bg)
      have eb : mApp svalue_text (mCons (m2 gIx (mVar 0) (mC (.int 2))) mNil) t = some (.str (valText w p), t) := mapp (s1 := t) (ds := [vald w p]) rfl (value_text h.2.2.1 h.2.2.2 bg)
      have ek : mKIx s_SIGNS (mVar 1) t = some (.str k.sign, t) := kix (z := k.form) rfl (tbl_get k)
      have e := joinedN (s := t) (ys := [valText v o, " ", k.sign, " ", valText w p]) (.cons (mfmtS ea (by omega)) (.cons (f := mC (.str " ")) rfl (.cons (mfmtS ek (by omega)) (.cons (f := mC (.str " ")) rfl (.cons (mfmtS eb (by omega)) .nil))))) (by simp only [List.map_cons, List.map_nil, List.sum_cons, List.sum_nil]; omega)
      rw [e]
      show some (Dt.str (Str.empty ++ valText v o ++ " " ++ k.sign ++ " " ++ valText w p), t) = some (Dt.str (valText v o ++ " " ++ k.sign ++ " " ++ valText w p), t)
      rw [empty_app]
end DL

namespace DL
open PySem PySem.Spec PyProof.Rows L2
variable [Tabs] [Me]
/-! ### the parts of a condition, checked -/
theorem gin3 {a x y z : Str} {r : Bool} (h : (x == a || (y == a || (z == a || false))) = r) : gIn (.str a) (.tup [.str x, .str y, .str z]) = some (.bl r) := congrArg (fun b => some (Dt.bl b)) h
theorem kifsO {c1 c2 : DM Bool} {f : DMs} {g : DMs} {s : Sta} (h1 : c1 s = some (false, s)) (h2 : c2 s = some (false, s)) : kSeq (kIf (mOrB c1 c2) f kSkip) g s = g s := kifs (by rw [or_f h1]; exact h2)
theorem n1 : gNin (.int 1) (.tup [.int 1, .int 2, .int 3]) = some (.bl false) := rfl
theorem n2 : gNin (.int 2) (.tup [.int 1, .int 2, .int 3]) = some (.bl false) := rfl
theorem n3 : gNin (.int 3) (.tup [.int 1, .int 2, .int 3]) = some (.bl false) := rfl
theorem e11 : gEq (.int 1) (.int 1) = some (.bl true) := rfl
theorem e21 : gEq (.int 2) (.int 1) = some (.bl false) := rfl
theorem e22 : gEq (.int 2) (.int 2) = some (.bl true) := rfl
theorem e31 : gEq (.int 3) (.int 1) = some (.bl false) := rfl
theorem e32 : gEq (.int 3) (.int 2) = some (.bl false) := rfl
theorem itself_ok {c : Cn} (h : c.Ok) (bg : List Dt) : sis_condition_itself_ [c.d] bg = some (.bl true, bg) := by
  unfold sis_condition_itself_
  cases c with
  | tru =>
    let t0 : Sta := ⟨[some (.dat Cn.tru.d), none], bg⟩
    let t : Sta := ⟨[some (.dat Cn.tru.d), some (.dat (.str "true"))], bg⟩
    refine fnd (s1 := t) ?_
    show kSeq _ _ t0 = _
    rw [kifsO (c1 := mNotB (mB (mIsi isTup (mVar 0)))) (s := t0) rfl (mBt (m2_eq (s1 := t0) (s2 := t0) (x := .int 1) (y := .tup [.int 1, .int 2, .int 3]) rfl rfl n1)), kseq (s1 := t) rfl]
    exact kifr (s1 := t) (s2 := t) (mBt (m2_eq (s1 := t) (s2 := t) (x := .int 1) (y := .int 1) rfl rfl e11)) (m2_eq (s1 := t) (s2 := t) (x := .str "true") (y := .str "true") rfl rfl (tag (by decide +kernel) (by decide +kernel) (by decide +kernel)))
  | fnd r =>
    let t0 : Sta := ⟨[some (.dat (Cn.fnd r).d), none], bg⟩
    let t : Sta := ⟨[some (.dat (Cn.fnd r).d), some (.dat (.str "found"))], bg⟩
    refine fnd (s1 := t) ?_
    show kSeq _ _ t0 = _
    rw [kifsO (c1 := mNotB (mB (mIsi isTup (mVar 0)))) (s := t0) rfl (mBt (m2_eq (s1 := t0) (s2 := t0) (x := .int 2) (y := .tup [.int 1, .int 2, .int 3]) rfl rfl n2)), kseq (s1 := t) rfl]
    rw [kifs (s := t) (mBt (m2_eq (s1 := t) (s2 := t) (x := .int 2) (y := .int 1) rfl rfl e21))]
    refine kifr (s1 := t) (s2 := t) (mBt (m2_eq (s1 := t) (s2 := t) (x := .int 2) (y := .int 2) rfl rfl e22)) ?_
    rw [orV_f (s1 := t) (m2_eq (s1 := t) (s2 := t) (x := .str "found") (y := .str "not") rfl rfl (tag (by decide +kernel) (by decide +kernel) (by decide +kernel)))]
    rw [andV_t (s1 := t) (m2_eq (s1 := t) (s2 := t) (x := .str "found") (y := .str "found") rfl rfl (tag (by decide +kernel) (by decide +kernel) (by decide +kernel)))]
    exact mapp (s1 := t) (ds := [.str r]) rfl (is_name_ok h bg)
  | nt d =>
    let t0 : Sta := ⟨[some (.dat (Cn.nt d).d), none], bg⟩
    let t : Sta := ⟨[some (.dat (Cn.nt d).d), some (.dat (.str "not"))], bg⟩
    refine fnd (s1 := t) ?_
    show kSeq _ _ t0 = _
    rw [kifsO (c1 := mNotB (mB (mIsi isTup (mVar 0)))) (s := t0) rfl (mBt (m2_eq (s1 := t0) (s2 := t0) (x := .int 2) (y := .tup [.int 1, .int 2, .int 3]) rfl rfl n2)), kseq (s1 := t) rfl]
    rw [kifs (s := t) (mBt (m2_eq (s1 := t) (s2 := t) (x := .int 2) (y := .int 1) rfl rfl e21))]
    exact kifr (s1 := t) (s2 := t) (mBt (m2_eq (s1 := t) (s2 := t) (x := .int 2) (y := .int 2) rfl rfl e22)) (orV_t (s1 := t) (m2_eq (s1 := t) (s2 := t) (x := .str "not") (y := .str "not") rfl rfl (tag (by decide +kernel) (by decide +kernel) (by decide +kernel))))
  | cmp k v o w p =>
    let t0 : Sta := ⟨[some (.dat (Cn.cmp k v o w p).d), none], bg⟩
    let t : Sta := ⟨[some (.dat (Cn.cmp k v o w p).d), some (.dat (.str k.form))], bg⟩
    refine fnd (s1 := t) ?_
    show kSeq _ _ t0 = _
    rw [kifsO (c1 := mNotB (mB (mIsi isTup (mVar 0)))) (s := t0) rfl (mBt (m2_eq (s1 := t0) (s2 := t0) (x := .int 3) (y := .tup [.int 1, .int 2, .int 3]) rfl rfl n3)), kseq (s1 := t) rfl]
    rw [kifs (s := t) (mBt (m2_eq (s1 := t) (s2 := t) (x := .int 3) (y := .int 1) rfl rfl e31))]
    rw [kifs (s := t) (mBt (m2_eq (s1 := t) (s2 := t) (x := .int 3) (y := .int 2) rfl rfl e32))]
    refine kifr (s1 := t) (s2 := t) (by rw [and_t (s1 := t) rfl]; exact mBt (kin_t (s := t) (z := k.form) rfl (tbl_get k))) ?_
    rw [andV_t (s1 := t) (mapp (s1 := t) (ds := [vald v o]) rfl (value_ok h.1 h.2.1 bg))]
    exact mapp (s1 := t) (ds := [vald w p]) rfl (value_ok h.2.2.1 h.2.2.2 bg)
  | bin k a b =>
    let t0 : Sta := ⟨[some (.dat (Cn.bin k a b).d), none], bg⟩
    let t : Sta := ⟨[some (.dat (Cn.bin k a b).d), some (.dat (.str (bw k)))], bg⟩
    refine fnd (s1 := t) ?_
    show kSeq _ _ t0 = _
    rw [kifsO (c1 := mNotB (mB (mIsi isTup (mVar 0)))) (s := t0) rfl (mBt (m2_eq (s1 := t0) (s2 := t0) (x := .int 3) (y := .tup [.int 1, .int 2, .int 3]) rfl rfl n3)), kseq (s1 := t) rfl]
    rw [kifs (s := t) (mBt (m2_eq (s1 := t) (s2 := t) (x := .int 3) (y := .int 1) rfl rfl e31))]
    rw [kifs (s := t) (mBt (m2_eq (s1 := t) (s2 := t) (x := .int 3) (y := .int 2) rfl rfl e32))]
    rw [kifs (c := mAndB (mB (mIsi isStr (mVar 1))) (mB (mKIn s_SIGNS (mVar 1)))) (s := t) (by rw [and_t (s1 := t) rfl]; exact mBt (kin_f (s := t) (z := bw k) rfl (by clear h; cases k <;> decide +kernel)))]
    exact kret (m2_eq (s1 := t) (s2 := t) (x := .str (bw k)) (y := .tup [.str "and", .str "or"]) rfl rfl (gin2 (by clear h; cases k <;> decide +kernel)))
def plc : Cn → List Dt
  | .nt _ => [.int 1]
  | .bin _ _ _ => [.int 1, .int 2]
  | _ => []
theorem places_ok (c : Cn) (bg : List Dt) : splaces_ [c.d] bg = some (.lst (plc c), bg) := by
  unfold splaces_
  let t : Sta := ⟨[some (.dat c.d)], bg⟩
  have no : ∀ {z : Str}, gIx c.d (.int 0) = some (.str z) → (("not" : Str) == z || (("and" : Str) == z || (("or" : Str) == z || false))) = false → fnD 1 (kSeq (kIf (mB (m2 gIn (m2 gIx (mVar 0) (mC (.int 0))) (mTup (mCons (mC (.str "not")) (mCons (mC (.str "and")) (mCons (mC (.str "or")) mNil)))))) (kRet (m2 gRgL (mC (.int 1)) (mCall gLen (mCons (mVar 0) mNil)))) kSkip)
    (kRet (mLst mNil))) [c.d] bg = some (.lst [], bg) := fun {z} e h => by
    refine fnd (s1 := t) ?_
    show kSeq _ _ t = _
    rw [kifs (s := t) (mBt (m2_eq (s1 := t) (s2 := t) (x := .str z) (y := .tup [.str "not", .str "and", .str "or"]) (m2_eq (s1 := t) (s2 := t) (x := c.d) (y := .int 0) rfl rfl e) rfl (gin3 h)))]
    rfl
  have yes : ∀ {z : Str} {n : Int} {l : List Dt}, gIx c.d (.int 0) = some (.str z) → (("not" : Str) == z || (("and" : Str) == z || (("or" : Str) == z || false))) = true → gLen [c.d] = some (.int n) → gRgL (.int 1) (.int n) = some (.lst l) → fnD 1 (kSeq (kIf (mB (m2 gIn (m2 gIx (mVar 0) (mC (.int 0))) (mTup (mCons (mC (.str "not")) (mCons (mC (.str "and")) (mCons (mC (.str "or")) mNil)))))) (kRet (m2 gRgL (mC (.int 1)) (mCall gLen (mCons (mVar 0) mNil)))) kSkip)
    (kRet (mLst mNil))) [c.d] bg = some (.lst l, bg) := fun {z n l} e h e2 e3 => by
    refine fnd (s1 := t) ?_
    exact kifr (s1 := t) (s2 := t) (mBt (m2_eq (s1 := t) (s2 := t) (x := .str z) (y := .tup [.str "not", .str "and", .str "or"]) (m2_eq (s1 := t) (s2 := t) (x := c.d) (y := .int 0) rfl rfl e) rfl (gin3 h))) (m2_eq (s1 := t) (s2 := t) (x := .int 1) (y := .int n) rfl (mcall (s1 := t) (l := [c.d]) rfl e2) e3)
  cases c with
  | tru => exact no (z := "true") rfl (by decide +kernel)
  | fnd r => exact no (z := "found") rfl (by decide +kernel)
  | cmp k v o w p => exact no (z := k.form) rfl (by cases k <;> decide +kernel)
  | nt d => exact yes (z := "not") (n := 2) rfl (by decide +kernel) rfl rfl
  | bin k a b => exact yes (z := bw k) (n := 3) rfl (by cases k <;> decide +kernel) rfl rfl
def enc (p : List Dt × Cn) : Dt := .tup [.tup p.1, p.2.d]
def kids (pth : List Dt) : Cn → List (List Dt × Cn)
  | .nt c => [(pth ++ [.int 1], c)]
  | .bin _ a b => [(pth ++ [.int 2], b), (pth ++ [.int 1], a)]
  | _ => []
def chkBody : DMs := (kSeq (kAsg (mPop 2) (hTup 2 (hCons (hName 3) (hCons (hName 4) hNil))))
    (kSeq (kIf (mOrB (mB (m2 oGe (mCall gLen (mCons (mVar 3) mNil)) (mC s_DEEPEST))) (mNotB (mB (mApp sis_condition_itself_ (mCons (mVar 4) mNil))))) (fun _ => none) kSkip)
    (kSeq (kDrop (mAppend 1 (mTup (mCons (mVar 3) (mCons (mVar 4) mNil)))))
    (kDrop (mExtend 2 (mComp [5] (wRev (mApp splaces_ (mCons (mVar 4) mNil))) (hName 5) mYes (mTup (mCons (mTup (mStar (mVar 3) (mCons (mVar 5) mNil))) (mCons (m2 gIx (mVar 4) (mVar 5)) mNil)))))))))
theorem kids_map (pth : List Dt) (c : Cn) : ((plc c).reverse.map fun d => Dt.tup [.tup (pth ++ [d]), (gIx c.d d).getD .non]) = (kids pth c).map enc := by
  cases c <;> rfl
theorem kdrop {f : DM Dt} {s s1 : Sta} {d : Dt} (h : f s = some (d, s1)) : kDrop f s = some (.nx, s1) := by unfold kDrop; rw [h]; rfl
theorem chk_step {c0 : Dt} {prs stk : List Dt} {pth : List Dt} {c : Cn} {x3 x4 x5 : Option Slo} {bg : List Dt} (h : c.Ok) (hd : pth.length + c.dep ≤ 6) (hp : prs.length ≤ 1000) (hs : stk.length ≤ 1000) :
    chkBody ⟨[some (.dat c0), some (.own prs), some (.own (stk ++ [enc (pth, c)])), x3, x4, x5], bg⟩ = some (.nx, ⟨[some (.dat c0), some (.own (prs ++ [enc (pth, c)])), some (.own (stk ++ (kids pth c).map enc)), some (.dat (.tup pth)), some (.dat c.d), x5], bg⟩) := by
  have h1 : 1 ≤ c.dep := by cases c <;> simp [Cn.dep]
  let s0 : Sta := ⟨[some (.dat c0), some (.own prs), some (.own (stk ++ [enc (pth, c)])), x3, x4, x5], bg⟩
  let s1 : Sta := ⟨[some (.dat c0), some (.own prs), some (.own stk), x3, x4, x5], bg⟩
  let s2 : Sta := ⟨[some (.dat c0), some (.own prs), some (.own stk), some (.dat (.tup pth)), some (.dat c.d), x5], bg⟩
  let s3 : Sta := ⟨[some (.dat c0), some (.own (prs ++ [enc (pth, c)])), some (.own stk), some (.dat (.tup pth)), some (.dat c.d), x5], bg⟩
  have e1 : mPop 2 s0 = some (enc (pth, c), s1) := by
    show ((stk ++ [enc (pth, c)])[(stk ++ [enc (pth, c)]).length - 1]?).bind _ = _
    have e : (stk ++ [enc (pth, c)])[(stk ++ [enc (pth, c)]).length - 1]? = some (enc (pth, c)) := by simp
    rw [e, Option.bind_some, List.dropLast_concat]
    rfl
  unfold chkBody
  rw [kseq (s1 := s2) (kasg (s1 := s1) (d := enc (pth, c)) e1 rfl)]
  have e2 : m2 oGe (mCall gLen (mCons (mVar 3) mNil)) (mC s_DEEPEST) s2 = some (.bl false, s2) := by
    refine m2_eq (s1 := s2) (s2 := s2) (x := .int (pth.length : Nat)) (y := .int 6) rfl rfl ?_
    show some (Dt.bl (decide ((6 : Int) ≤ (pth.length : Nat)))) = _
    rw [decide_eq_false (by omega)]
  rw [kifsO (s := s2) (mBt e2) (mNotB_eq (b := true) (mBt (mapp (s1 := s2) (ds := [c.d]) rfl (itself_ok h bg))))]
  have e3 : mAppend 1 (mTup (mCons (mVar 3) (mCons (mVar 4) mNil))) s2 = some (.non, s3) := by
    show (if prs.length < 100000 then _ else _) = _
    rw [if_pos (by omega)]
    rfl
  rw [kseq (s1 := s3) (kdrop e3)]
  let sl0 : List (Option Slo) := [some (.dat c0), none, none, some (.dat (.tup pth)), some (.dat c.d), none]
  have e4 : mComp [5] (wRev (mApp splaces_ (mCons (mVar 4) mNil))) (hName 5) mYes (mTup (mCons (mTup (mStar (mVar 3) (mCons (mVar 5) mNil))) (mCons (m2 gIx (mVar 4) (mVar 5)) mNil))) s3 = some (.lst ((kids pth c).map enc), s3) := by
    rw [← kids_map]
    have ep : wRev (mApp splaces_ (mCons (mVar 4) mNil)) s3 = some ((plc c).reverse, s3) := by
      unfold wRev
      rw [mapp (s1 := s3) (ds := [c.d]) rfl (places_ok c bg)]
      rfl
    refine mcomp (s1 := s3) (l := (plc c).reverse) ep (by cases c <;> simp [plc]) (comp_map (sl0 := sl0) (fun d => Dt.tup [.tup (pth ++ [d]), (gIx c.d d).getD .non]) _ fun d hd => ?_)
    let u : Sta := ⟨[some (.dat c0), none, none, some (.dat (.tup pth)), some (.dat c.d), some (.dat d)], bg⟩
    have eg : gIx c.d d = some ((gIx c.d d).getD .non) := by
      cases c with
      | nt e =>
        simp only [plc, List.reverse_cons, List.reverse_nil, List.nil_append, List.mem_singleton] at hd
        subst hd; rfl
      | bin k a b =>
        simp only [plc, List.reverse_cons, List.reverse_nil, List.nil_append, List.cons_append, List.mem_cons, List.not_mem_nil, or_false] at hd
        rcases hd with rfl | rfl <;> rfl
      | _ => simp [plc] at hd
    refine ⟨u, u, u, rfl, rfl, ?_, rfl⟩
    exact mtup (s1 := u) (mcons (s1 := u) (mtup (s1 := u) (xs := pth ++ [d]) rfl (by simp only [List.length_append, List.length_singleton]; omega)) (mcons (s1 := u) (m2_eq (s1 := u) (s2 := u) (x := c.d) (y := d) rfl rfl eg) rfl))
  refine kdrop (d := .non) ?_
  unfold mExtend
  rw [e4, Option.bind_some]
  have hk : (kids pth c).length ≤ 2 := by cases c <;> simp [kids]
  show (if stk.length + ((kids pth c).map enc).length ≤ 100000 then _ else _) = _
  rw [if_pos (by rw [List.length_map]; omega)]
  rfl
def sizes : List (List Dt × Cn) → Nat
  | [] => 0
  | p :: r => p.2.size + sizes r
theorem sizes_app : ∀ l m, sizes (l ++ m) = sizes l + sizes m
  | [], m => by simp [sizes]
  | p :: l, m => by show p.2.size + sizes (l ++ m) = p.2.size + sizes l + sizes m; rw [sizes_app l m]; omega
theorem size_pos (c : Cn) : 1 ≤ c.size := by cases c <;> simp [Cn.size]
theorem sizes_len : ∀ l : List (List Dt × Cn), l.length ≤ sizes l
  | [] => Nat.le_refl _
  | p :: l => by
    have h1 := sizes_len l
    have h2 := size_pos p.2
    show l.length + 1 ≤ p.2.size + sizes l
    omega
theorem kids_size (pth : List Dt) (c : Cn) : sizes (kids pth c) + 1 = c.size := by
  cases c <;> simp [kids, sizes, Cn.size] <;> omega
theorem chk_loop {c0 : Dt} {bg : List Dt} : ∀ (n : Nat) (stk : List (List Dt × Cn)) (prs : List Dt) (x3 x4 x5 : Option Slo), (∀ p ∈ stk, p.2.Ok ∧ p.1.length + p.2.dep ≤ 6) → sizes stk < n → prs.length + sizes stk ≤ 500 →
    ∃ prs' x3' x4' x5', whileD (mTruOwn 2) chkBody n ⟨[some (.dat c0), some (.own prs), some (.own (stk.map enc)), x3, x4, x5], bg⟩ = some (.nx, ⟨[some (.dat c0), some (.own prs'), some (.own []), x3', x4', x5'], bg⟩)
  | 0, _, _, _, _, _, _, h, _ => absurd h (Nat.not_lt_zero _)
  | n + 1, stk, prs, x3, x4, x5, hok, hn, hb => by
    by_cases hs : stk = []
    · subst hs
      exact ⟨prs, x3, x4, x5, rfl⟩
    · obtain ⟨r, p, rfl⟩ : ∃ r p, stk = r ++ [p] := ⟨stk.dropLast, stk.getLast hs, (List.dropLast_concat_getLast hs).symm⟩
      obtain ⟨pth, c⟩ := p
      rw [sizes_app] at hn hb
      have e1 : sizes [(pth, c)] = c.size := by simp [sizes]
      rw [e1] at hn hb
      have k1 := kids_size pth c
      have k2 := sizes_len r
      have k3 := size_pos c
      obtain ⟨ho, hd⟩ := hok (pth, c) (by simp)
      have hd : pth.length + c.dep ≤ 6 := hd
      have st := chk_step (c0 := c0) (prs := prs) (stk := r.map enc) (x3 := x3) (x4 := x4) (x5 := x5) (bg := bg) ho hd (by omega) (by rw [List.length_map]; omega)
      have em : r.map enc ++ (kids pth c).map enc = (r ++ kids pth c).map enc := by rw [List.map_append]
      rw [em] at st
      obtain ⟨prs', y3, y4, y5, e⟩ := chk_loop n (r ++ kids pth c) (prs ++ [enc (pth, c)]) (some (.dat (.tup pth))) (some (.dat c.d)) x5 (fun p hp => by
        rcases List.mem_append.mp hp with hp | hp
        · exact hok p (List.mem_append_left _ hp)
        · cases c with
          | nt d =>
            simp only [kids, List.mem_singleton] at hp
            subst hp
            refine ⟨ho, ?_⟩
            have : (Cn.nt d).dep = d.dep + 1 := rfl
            simp only [List.length_append, List.length_singleton]
            omega
          | bin k a b =>
            simp only [kids, List.mem_cons, List.not_mem_nil, or_false] at hp
            have : (Cn.bin k a b).dep = max a.dep b.dep + 1 := rfl
            have q1 := Nat.le_max_left a.dep b.dep
            have q2 := Nat.le_max_right a.dep b.dep
            rcases hp with rfl | rfl
            · refine ⟨ho.2, ?_⟩
              simp only [List.length_append, List.length_singleton]
              omega
            · refine ⟨ho.1, ?_⟩
              simp only [List.length_append, List.length_singleton]
              omega
          | _ => simp [kids] at hp) (by rw [sizes_app]; omega) (by rw [sizes_app, List.length_append, List.length_singleton]; omega)
      refine ⟨prs', y3, y4, y5, ?_⟩
      unfold whileD
      have et : mTruOwn 2 (⟨[some (.dat c0), some (.own prs), some (.own ((r ++ [(pth, c)]).map enc)), x3, x4, x5], bg⟩ : Sta) = some (true, ⟨[some (.dat c0), some (.own prs), some (.own ((r ++ [(pth, c)]).map enc)), x3, x4, x5], bg⟩) := by
        have : ((r ++ [(pth, c)]).map enc).isEmpty = false := by simp
        show some (!((r ++ [(pth, c)]).map enc).isEmpty, _) = _
        rw [this]
        rfl
      rw [et, Option.bind_some, if_pos rfl, List.map_append]
      show (chkBody ⟨[some (.dat c0), some (.own prs), some (.own (r.map enc ++ [enc (pth, c)])), x3, x4, x5], bg⟩).bind _ = _
      rw [st]
      exact e
theorem checked_ok {c : Cn} (h : c.Ok) (hd : c.dep ≤ 6) (bg : List Dt) : ∃ l, schecked_parts_ [c.d] bg = some (.lst l, bg) := by
  have hz := size_dep c
  have hp : 2 ^ c.dep ≤ 2 ^ 6 := Nat.pow_le_pow_right (by decide) hd
  obtain ⟨prs, y3, y4, y5, e⟩ := chk_loop (c0 := c.d) (bg := bg) 200 [([], c)] [] none none none (fun p hp => by
    rw [List.mem_singleton] at hp
    subst hp
    exact ⟨h, by simpa using hd⟩) (by simp only [sizes]; omega) (by simp only [sizes, List.length_nil]; omega)
  refine ⟨prs, ?_⟩
  unfold schecked_parts_
  refine fnd (s1 := ⟨[some (.dat c.d), some (.dat (.lst prs)), some (.own []), y3, y4, y5], bg⟩) ?_
  rw [kseq (s1 := ⟨[some (.dat c.d), some (.own []), none, none, none, none], bg⟩) rfl]
  rw [kseq (s1 := ⟨[some (.dat c.d), some (.own []), some (.own ([(([] : List Dt), c)].map enc)), none, none, none], bg⟩) rfl]
  unfold chkBody at e
  refine (kseq e).trans ?_
  exact kret rfl
theorem cond_text {c : Cn} (h : c.Ok) (hd : c.dep ≤ 6) (bg : List Dt) : scondition_text [c.d] bg = some (.str c.text, bg) := by
  unfold scondition_text
  let t : Sta := ⟨[some (.dat c.d)], bg⟩
  obtain ⟨l, e⟩ := checked_ok h hd bg
  refine fnd (s1 := t) ?_
  rw [kseq (s1 := t) (kdrop (mapp (s1 := t) (ds := [c.d]) rfl e))]
  exact kret (mapp (s1 := t) (ds := [c.d]) rfl (text_ok 8 h (by omega) (by decide) bg))
end DL

namespace DL
open PySem PySem.Spec PyProof.Rows L2
variable [Tabs] [Me]
open TL
/-! ### reading -/
def wd (ws : List Str) (i : Nat) : Str := (ws.drop i).head?.getD ""
theorem drop_one {ws : List Str} {i : Nat} {x : Str} {l : List Str} (h : ws.drop i = x :: l) : ws[i]? = some x ∧ ws.drop (i + 1) = l ∧ i < ws.length := by
  have hi : i < ws.length := by
    by_cases c : i < ws.length
    · exact c
    · rw [List.drop_eq_nil_of_le (by omega)] at h; cases h
  rw [List.drop_eq_getElem_cons hi] at h
  injection h with h1 h2
  exact ⟨by rw [List.getElem?_eq_getElem hi, h1], h2, hi⟩
theorem drop_app {ws : List Str} {i : Nat} {l m : List Str} (h : ws.drop i = l ++ m) : ws.drop (i + l.length) = m := by
  rw [← List.drop_drop, h, List.drop_left]
theorem wd_some {ws : List Str} {i : Nat} {x : Str} (h : ws[i]? = some x) : wd ws i = x := by
  have hi := (List.getElem?_eq_some_iff.mp h).1
  unfold wd
  rw [List.drop_eq_getElem_cons hi]
  rw [List.getElem?_eq_getElem hi] at h
  exact Option.some.inj h
theorem word_ok (ws : List Str) (i : Nat) (bg : List Dt) : sword_ [.lst (ws.map Dt.str), .int (i : Nat)] bg = some (.str (wd ws i), bg) := by
  unfold sword_
  let t : Sta := ⟨[some (.dat (.lst (ws.map Dt.str))), some (.dat (.int (i : Nat)))], bg⟩
  refine fnd (s1 := t) (kret ?_)
  show mIf _ _ _ t = _
  have e : m2 oLt (mVar 1) (mCall gLen (mCons (mVar 0) mNil)) t = some (.bl (decide ((i : Int) < ((ws.map Dt.str).length : Nat))), t) := m2_eq (s1 := t) (s2 := t) (x := .int (i : Nat)) (y := .int ((ws.map Dt.str).length : Nat)) rfl rfl rfl
  by_cases c : i < ws.length
  · rw [mif_t (s1 := t) (mBt (by rw [e, decide_eq_true (by rw [List.length_map]; omega)]))]
    refine m2_eq (s1 := t) (s2 := t) (x := .lst (ws.map Dt.str)) (y := .int (i : Nat)) rfl rfl ?_
    show atI (ws.map Dt.str) (i : Nat) = _
    rw [ati_nat (by omega) (by rw [List.length_map]; omega), Int.toNat_natCast, List.getElem?_map, List.getElem?_eq_getElem c, wd_some (List.getElem?_eq_getElem c)]
    rfl
  · rw [mif_f (s1 := t) (mBt (by rw [e, decide_eq_false (by rw [List.length_map]; omega)]))]
    unfold wd
    rw [List.drop_eq_nil_of_le (by omega)]
    rfl
/-- what may follow a value -/
def Fol (rest : List Str) : Prop := (("+" : Str) == rest.head?.getD "" || (("-" : Str) == rest.head?.getD "" || false)) = false
theorem six {n i d : Nat} (h : i ≤ n) : HT.sIx n d (some (i : Nat)) = i := by
  rw [HT.sIx_nat]
  omega
theorem cut_words {ws l m : List Str} {i : Nat} (h : ws.drop i = l ++ m) (hi : i ≤ ws.length) : cutD (ws.map Dt.str) (some (i : Nat)) (some ((i + l.length : Nat) : Int)) = l.map Dt.str := by
  have hl : i + l.length ≤ ws.length := by
    have := congrArg List.length h
    rw [List.length_drop, List.length_append] at this
    omega
  unfold cutD
  rw [six (by rw [List.length_map]; exact hl), six (by rw [List.length_map]; exact hi), ← List.map_drop, h, List.map_append, show i + l.length - i = l.length by omega]
  rw [List.take_append_of_le_length (by simp), List.take_of_length_le (by simp)]
theorem parts_len (v : Sg) (o : Option Int) : (valParts v o).length = 1 ∨ (valParts v o).length = 3 := by cases o <;> simp [valParts]
theorem gjoinS {ss : List Str} (h : (ss.map (·.length)).sum + ss.length ≤ 1000000) : gJoin " " (.lst (ss.map Dt.str)) = some (.str (Txt.join " " ss)) := by
  show (gJoin.txts (ss.map Dt.str)).bind _ = _
  rw [txts_map, Option.bind_some, if_pos]
  have e : (" " : Str).length = 1 := by decide +kernel
  rw [e]
  omega
theorem strJoin_len : ∀ ss : List Str, (ss.map (·.length)).sum ≤ (Str.join " " ss).length
  | [] => Nat.zero_le _
  | [z] => by simp [Str.join]
  | x :: z :: r => by
    have h := strJoin_len (z :: r)
    show x.length + ((z :: r).map (·.length)).sum ≤ (x ++ " " ++ Str.join " " (z :: r)).length
    rw [len_app, len_app]
    omega
theorem parts_sum {v : Sg} (h : v.Ok) {o : Option Int} (ho : ∀ m, o = some m → Bnd m) : ((valParts v o).map (·.length)).sum + (valParts v o).length ≤ 1000000 := by
  have h1 := strJoin_len (valParts v o)
  have h2 := valText_len h ho
  rw [val_join, join_eq] at h2
  rcases parts_len v o with h3 | h3 <;> omega
theorem operand_ok {ws rest : List Str} {i : Nat} {v : Sg} (h : v.Ok) {o : Option Int} (ho : ∀ m, o = some m → Bnd m) (hw : ws.drop i = valParts v o ++ rest) (hf : Fol rest) (bg : List Dt) :
    sread_operand_ [.lst (ws.map Dt.str), .int (i : Nat)] bg = some (.tup [vald v o, .int ((i + (valParts v o).length : Nat))], bg) := by
  unfold sread_operand_
  let W : Dt := .lst (ws.map Dt.str)
  let t : Sta := ⟨[some (.dat W), some (.dat (.int (i : Nat))), none], bg⟩
  let u : Sta := ⟨[some (.dat W), some (.dat (.int (i : Nat))), some (.dat (.int ((valParts v o).length : Nat)))], bg⟩
  have hi : i ≤ ws.length := by
    obtain ⟨x, l, e⟩ : ∃ x l, valParts v o = x :: l := by cases o <;> exact ⟨_, _, rfl⟩
    rw [e] at hw
    exact Nat.le_of_lt (drop_one hw).2.2
  have ew : mApp sword_ (mCons (mVar 0) (mCons (m2 gAdd (mVar 1) (mC (.int 1))) mNil)) t = some (.str (wd ws (i + 1)), t) := mapp (s1 := t) (ds := [W, .int ((i + 1 : Nat))]) rfl (word_ok ws (i + 1) bg)
  have eif : mIf (mB (m2 gIn (mApp sword_ (mCons (mVar 0) (mCons (m2 gAdd (mVar 1) (mC (.int 1))) mNil))) (mTup (mCons (mC (.str "+")) (mCons (mC (.str "-")) mNil))))) (mC (.int 3)) (mC (.int 1)) t = some (.int ((valParts v o).length : Nat), t) := by
    cases o with
    | none =>
      have e1 : wd ws (i + 1) = rest.head?.getD "" := by
        unfold wd
        have e := drop_app (l := valParts v none) hw
        rw [show i + (valParts v none).length = i + 1 from rfl] at e
        rw [e]
      rw [mif_f (s1 := t) (mBt (m2_eq (s1 := t) (s2 := t) (x := .str (wd ws (i + 1))) (y := .tup [.str "+", .str "-"]) ew rfl (gin2 (by rw [e1]; exact hf))))]
      rfl
    | some m =>
      have e1 : wd ws (i + 1) = if m < 0 then ("-" : Str) else ("+" : Str) := by
        obtain ⟨_, h2, _⟩ := drop_one (l := (if m < 0 then ("-" : Str) else ("+" : Str)) :: itxt ((m.natAbs : Nat) : Int) :: rest) hw
        exact wd_some (drop_one h2).1
      rw [mif_t (s1 := t) (mBt (m2_eq (s1 := t) (s2 := t) (x := .str (wd ws (i + 1))) (y := .tup [.str "+", .str "-"]) ew rfl (gin2 (by rw [e1]; split <;> decide +kernel))))]
      rfl
  refine fnd (s1 := u) ?_
  show kSeq _ _ t = _
  rw [kseq (s1 := u) (kasg (s1 := t) eif rfl)]
  refine kret (mtup (s1 := u) (mcons (s1 := u) (mapp (s1 := u) (ds := [.str (valText v o)]) (mcons (s1 := u) ?_ rfl) (read_value h ho bg)) (mcons (s1 := u) rfl rfl)))
  refine mm1 (s1 := u) (s2 := u) (a := " ") (y := .lst ((valParts v o).map Dt.str)) rfl ?_ ?_
  · exact msl (s1 := u) (s2 := u) (s3 := u) (x := W) (lo := some (i : Nat)) (hi := some ((i + (valParts v o).length : Nat) : Int)) rfl rfl rfl (by
      show some (Dt.lst (cutD (ws.map Dt.str) _ _)) = _
      rw [cut_words hw hi])
  · rw [gjoinS (parts_sum h ho), val_join]
theorem sign_cp (k : Cp) : cpOk k.sign = true := by cases k <;> decide +kernel
theorem sign_fol (k : Cp) (l : List Str) : Fol (k.sign :: l) := by
  show (("+" : Str) == k.sign || (("-" : Str) == k.sign || false)) = false
  cases k <;> decide +kernel
theorem comparison_ok {ws rest : List Str} {i : Nat} {k : Cp} {v w : Sg} {o p : Option Int} (h : (Cn.cmp k v o w p).Ok) (hw : ws.drop i = (Cn.cmp k v o w p).toks ++ rest) (hf : Fol rest) (bg : List Dt) :
    sread_comparison_ [.lst (ws.map Dt.str), .int (i : Nat)] bg = some (.tup [(Cn.cmp k v o w p).d, .int ((i + (Cn.cmp k v o w p).toks.length : Nat))], bg) := by
  unfold sread_comparison_
  let W : Dt := .lst (ws.map Dt.str)
  have hw1 : ws.drop i = valParts v o ++ (k.sign :: (valParts w p ++ rest)) := by
    rw [hw]
    show (valParts v o ++ (k.sign :: valParts w p)) ++ rest = _
    simp
  obtain ⟨g1, g2, _⟩ := drop_one (drop_app hw1)
  let j : Nat := i + (valParts v o).length
  let t0 : Sta := ⟨[some (.dat W), some (.dat (.int (i : Nat))), none, none, none, none, none], bg⟩
  let t1 : Sta := ⟨[some (.dat W), some (.dat (.int (i : Nat))), none, some (.dat (vald v o)), some (.dat (.int (j : Nat))), none, none], bg⟩
  let t2 : Sta := ⟨[some (.dat W), some (.dat (.int (i : Nat))), some (.dat (.str k.sign)), some (.dat (vald v o)), some (.dat (.int (j : Nat))), none, none], bg⟩
  let t3 : Sta := ⟨[some (.dat W), some (.dat (.int (i : Nat))), some (.dat (.str k.sign)), some (.dat (vald v o)), some (.dat (.int (j : Nat))), some (.dat (vald w p)), some (.dat (.int ((j + 1 + (valParts w p).length : Nat))))], bg⟩
  refine fnd (s1 := t3) ?_
  show kSeq _ _ t0 = _
  rw [kseq (s1 := t1) (kasg (s1 := t0) (mapp (s1 := t0) (ds := [W, .int (i : Nat)]) rfl (operand_ok h.1 h.2.1 hw1 (sign_fol k _) bg)) rfl)]
  have ew : mApp sword_ (mCons (mVar 0) (mCons (mVar 4) mNil)) t1 = some (.str k.sign, t1) := by
    rw [mapp (s1 := t1) (ds := [W, .int (j : Nat)]) rfl (word_ok ws j bg), wd_some g1]
  rw [kseq (s1 := t2) (kasg (s1 := t1) ew rfl)]
  rw [kifs (s := t2) (mBt (knin_t (s := t2) (z := k.sign) rfl (tbl_form k)))]
  rw [kseq (s1 := t3) (kasg (s1 := t2) (mapp (s1 := t2) (ds := [W, .int ((j + 1 : Nat))]) rfl (operand_ok h.2.2.1 h.2.2.2 g2 hf bg)) rfl)]
  have el : i + (Cn.cmp k v o w p).toks.length = j + 1 + (valParts w p).length := by
    show i + (valParts v o ++ (k.sign :: valParts w p)).length = _
    rw [List.length_append, List.length_cons]
    omega
  rw [el]
  exact kret (mtup (s1 := t3) (mcons (s1 := t3) (mtup (s1 := t3) (mcons (s1 := t3) (kix (z := k.sign) rfl (tbl_form k)) (mcons (s1 := t3) rfl (mcons (s1 := t3) rfl rfl)))) (mcons (s1 := t3) rfl rfl)))
theorem found_ok {ws rest : List Str} {i : Nat} {r : Str} (h : NameOk r) (hw : ws.drop i = r :: rest) (bg : List Dt) : sread_found_ [.lst (ws.map Dt.str), .int (i : Nat)] bg = some (.tup [(Cn.fnd r).d, .int ((i + 1 : Nat))], bg) := by
  unfold sread_found_
  let W : Dt := .lst (ws.map Dt.str)
  obtain ⟨g1, _, _⟩ := drop_one hw
  let t0 : Sta := ⟨[some (.dat W), some (.dat (.int (i : Nat))), none], bg⟩
  let t1 : Sta := ⟨[some (.dat W), some (.dat (.int (i : Nat))), some (.dat (.str r))], bg⟩
  refine fnd (s1 := t1) ?_
  show kSeq _ _ t0 = _
  have ew : mApp sword_ (mCons (mVar 0) (mCons (mVar 1) mNil)) t0 = some (.str r, t0) := by
    rw [mapp (s1 := t0) (ds := [W, .int (i : Nat)]) rfl (word_ok ws i bg), wd_some g1]
  rw [kseq (s1 := t1) (kasg (s1 := t0) ew rfl)]
  rw [kifs (s := t1) (mNotB_eq (b := true) (mBt (mapp (s1 := t1) (ds := [.str r]) rfl (is_name_ok h bg))))]
  rfl
theorem sg_ne {v : Sg} (h : v.Ok) {w : Str} (hw : nameB w = false) (hd : 46 ∉ tl w) (hc : ∀ c ∈ tl w, c = 40 ∨ 97 ≤ c) : (sgText v == w) = false := by
  refine beq_eq_false_iff_ne.mpr fun e => ?_
  have dot : ∀ {a b : Str}, 46 ∈ tl (a ++ "." ++ b) := fun {a b} => by
    rw [tl_append, tl_append, tl_dot]
    simp
  cases v with
  | number i =>
    have hl := (sgText_len h).1
    have hl' : 1 ≤ (tl (itxt i)).length := by rw [← len_tl]; exact hl
    obtain ⟨c, hcm⟩ : ∃ c, c ∈ tl (itxt i) := by
      cases q : tl (itxt i) with
      | nil => rw [q] at hl'; simp at hl'
      | cons c r => exact ⟨c, List.mem_cons_self ..⟩
    have h1 := itxt_mem hcm
    have h2 := hc c (by rw [← e]; exact hcm)
    omega
  | name n =>
    have : nameB n = true := nameB_iff.mpr h
    rw [show n = w from e, hw] at this
    cases this
  | field n c => exact hd (by rw [← e]; exact dot)
  | own c => exact hd (by rw [← e]; exact dot)
  | next c => exact hd (by rw [← e]; exact dot)
theorem ne_true {v : Sg} (h : v.Ok) : (sgText v == "true") = false := sg_ne h (by decide +kernel) (by decide +kernel) (by decide +kernel)
theorem ne_found {v : Sg} (h : v.Ok) : (sgText v == "found") = false := sg_ne h (by decide +kernel) (by decide +kernel) (by decide +kernel)
theorem ne_not {v : Sg} (h : v.Ok) : (sgText v == "not") = false := sg_ne h (by decide +kernel) (by decide +kernel) (by decide +kernel)
theorem ne_par {v : Sg} (h : v.Ok) : (sgText v == "(") = false := sg_ne h (by decide +kernel) (by decide +kernel) (by decide +kernel)
theorem dep_pos (c : Cn) : 1 ≤ c.dep := by cases c <;> simp [Cn.dep]
theorem bw_fol (k : Bool) (l : List Str) : Fol (bw k :: l) := by
  show (("+" : Str) == bw k || (("-" : Str) == bw k || false)) = false
  cases k <;> decide +kernel
theorem par_fol (l : List Str) : Fol ((")" : Str) :: l) := by
  show (("+" : Str) == ")" || (("-" : Str) == ")" || false)) = false
  decide +kernel
theorem joined_ok {R : FD} {ws rest : List Str} {i d : Nat} {k : Bool} {a b : Cn}
    (ha : ∀ bg, R [.lst (ws.map Dt.str), .int (i : Nat), .int (d : Nat)] bg = some (.tup [a.d, .int ((i + a.toks.length : Nat))], bg))
    (hb : ∀ bg, R [.lst (ws.map Dt.str), .int ((i + a.toks.length + 1 : Nat)), .int (d : Nat)] bg = some (.tup [b.d, .int ((i + a.toks.length + 1 + b.toks.length : Nat))], bg))
    (hw : ws.drop i = a.toks ++ (bw k :: (b.toks ++ ((")" : Str) :: rest)))) (bg : List Dt) :
    sread_joined_B R [.lst (ws.map Dt.str), .int (i : Nat), .int (d : Nat)] bg = some (.tup [(Cn.bin k a b).d, .int ((i + a.toks.length + 1 + b.toks.length + 1 : Nat))], bg) := by
  unfold sread_joined_B
  let W : Dt := .lst (ws.map Dt.str)
  obtain ⟨g1, g2, _⟩ := drop_one (drop_app hw)
  obtain ⟨g3, _, _⟩ := drop_one (drop_app g2)
  let j : Nat := i + a.toks.length
  let m : Nat := j + 1 + b.toks.length
  let t0 : Sta := ⟨[some (.dat W), some (.dat (.int (i : Nat))), some (.dat (.int (d : Nat))), none, none, none, none, none], bg⟩
  let t1 : Sta := ⟨[some (.dat W), some (.dat (.int (i : Nat))), some (.dat (.int (d : Nat))), none, some (.dat a.d), some (.dat (.int (j : Nat))), none, none], bg⟩
  let t2 : Sta := ⟨[some (.dat W), some (.dat (.int (i : Nat))), some (.dat (.int (d : Nat))), some (.dat (.str (bw k))), some (.dat a.d), some (.dat (.int (j : Nat))), none, none], bg⟩
  let t3 : Sta := ⟨[some (.dat W), some (.dat (.int (i : Nat))), some (.dat (.int (d : Nat))), some (.dat (.str (bw k))), some (.dat a.d), some (.dat (.int (j : Nat))), some (.dat b.d), some (.dat (.int (m : Nat)))], bg⟩
  refine fnd (s1 := t3) ?_
  show kSeq _ _ t0 = _
  rw [kseq (s1 := t1) (kasg (s1 := t0) (mapp (s1 := t0) (ds := [W, .int (i : Nat), .int (d : Nat)]) rfl (ha bg)) rfl)]
  have ew : mApp sword_ (mCons (mVar 0) (mCons (mVar 5) mNil)) t1 = some (.str (bw k), t1) := by
    rw [mapp (s1 := t1) (ds := [W, .int (j : Nat)]) rfl (word_ok ws j bg), wd_some g1]
  rw [kseq (s1 := t2) (kasg (s1 := t1) ew rfl)]
  rw [kifs (s := t2) (mBt (m2_eq (s1 := t2) (s2 := t2) (x := .str (bw k)) (y := .tup [.str "and", .str "or"]) rfl rfl (ginN (by cases k <;> decide +kernel))))]
  rw [kseq (s1 := t3) (kasg (s1 := t2) (mapp (s1 := t2) (ds := [W, .int ((j + 1 : Nat)), .int (d : Nat)]) rfl (hb bg)) rfl)]
  have ew2 : mApp sword_ (mCons (mVar 0) (mCons (mVar 7) mNil)) t3 = some (.str ")", t3) := by
    rw [mapp (s1 := t3) (ds := [W, .int (m : Nat)]) rfl (word_ok ws m bg), wd_some g3]
  rw [kifs (s := t3) (mBt (m2_eq (s1 := t3) (s2 := t3) (x := .str ")") (y := .str ")") ew2 rfl (tagN (r := true) (by decide +kernel) (by decide +kernel) (by decide +kernel))))]
  rfl
theorem gtD {d : Nat} (h : d ≤ 6) : oGt (.int (d : Nat)) s_DEEPEST = some (.bl false) := by
  show some (Dt.bl (decide ((6 : Int) < (d : Nat)))) = _
  rw [decide_eq_false (by omega)]
theorem part_ok : ∀ (n : Nat) {c : Cn}, c.Ok → c.dep ≤ n → ∀ {ws rest : List Str} {i d : Nat}, d + c.dep ≤ 7 → ws.drop i = c.toks ++ rest → Fol rest → ∀ bg,
    sread_part_ n [.lst (ws.map Dt.str), .int (i : Nat), .int (d : Nat)] bg = some (.tup [c.d, .int ((i + c.toks.length : Nat))], bg)
  | 0, c, _, hd, _, _, _, _, _, _, _, _ => by have := dep_pos c; omega
  | n + 1, c, h, hn, ws, rest, i, d, hd, hw, hf, bg => by
    show sread_part_B (sread_part_ n) _ bg = _
    unfold sread_part_B
    have hp := dep_pos c
    let W : Dt := .lst (ws.map Dt.str)
    let t0 : Sta := ⟨[some (.dat W), some (.dat (.int (i : Nat))), some (.dat (.int (d : Nat))), none, none, none], bg⟩
    let t (z : Str) : Sta := ⟨[some (.dat W), some (.dat (.int (i : Nat))), some (.dat (.int (d : Nat))), some (.dat (.str z)), none, none], bg⟩
    have start : ∀ (z : Str) (g : DMs), wd ws i = z → kSeq (kIf (mB (m2 oGt (mVar 2) (mC s_DEEPEST))) (fun _ => none) kSkip) (kSeq (kAsg (mApp sword_ (mCons (mVar 0) (mCons (mVar 1) mNil))) (hName 3)) g) t0 = g (t z) := fun z g e => by
      rw [kifs (s := t0) (mBt (m2_eq (s1 := t0) (s2 := t0) (x := .int (d : Nat)) (y := s_DEEPEST) rfl rfl (gtD (by omega))))]
      rw [kseq (s1 := t z) (kasg (s1 := t0) (d := .str z) (by rw [mapp (s1 := t0) (ds := [W, .int (i : Nat)]) rfl (word_ok ws i bg), e]) rfl)]
    have eq_f : ∀ {z w : Str}, cpOk z = true → cpOk w = true → (z == w) = false → mB (m2 gEq (mVar 3) (mC (.str w))) (t z) = some (false, t z) := fun {z w} h1 h2 h3 => mBt (m2_eq (s1 := t z) (s2 := t z) (x := .str z) (y := .str w) rfl rfl (tag h1 h2 h3))
    have eq_t : ∀ {z w : Str}, cpOk z = true → cpOk w = true → (z == w) = true → mB (m2 gEq (mVar 3) (mC (.str w))) (t z) = some (true, t z) := fun {z w} h1 h2 h3 => mBt (m2_eq (s1 := t z) (s2 := t z) (x := .str z) (y := .str w) rfl rfl (tag h1 h2 h3))
    cases c with
    | tru =>
      obtain ⟨g1, _, _⟩ := drop_one (x := "true") (l := rest) hw
      refine fnd (s1 := t "true") ((start "true" _ (wd_some g1)).trans ?_)
      exact kifr (s1 := t "true") (s2 := t "true") (eq_t (by decide +kernel) (by decide +kernel) (by decide +kernel)) rfl
    | fnd r =>
      obtain ⟨g1, g2, _⟩ := drop_one (x := "found") (l := r :: rest) hw
      refine fnd (s1 := t "found") ((start "found" _ (wd_some g1)).trans ?_)
      rw [kifs (s := t "found") (eq_f (by decide +kernel) (by decide +kernel) (by decide +kernel))]
      exact kifr (s1 := t "found") (s2 := t "found") (eq_t (by decide +kernel) (by decide +kernel) (by decide +kernel)) (mapp (s1 := t "found") (ds := [W, .int ((i + 1 : Nat))]) rfl (found_ok h g2 bg))
    | nt c =>
      obtain ⟨g1, g2, _⟩ := drop_one (x := "not") (l := c.toks ++ rest) hw
      have e0 : (Cn.nt c).dep = c.dep + 1 := rfl
      have ih := part_ok n (c := c) h (by omega) (ws := ws) (rest := rest) (i := i + 1) (d := d + 1) (by omega) g2 hf bg
      let u : Sta := ⟨[some (.dat W), some (.dat (.int (i : Nat))), some (.dat (.int (d : Nat))), some (.dat (.str "not")), some (.dat c.d), some (.dat (.int ((i + 1 + c.toks.length : Nat))))], bg⟩
      refine fnd (s1 := u) ((start "not" _ (wd_some g1)).trans ?_)
      rw [kifs (s := t "not") (eq_f (by decide +kernel) (by decide +kernel) (by decide +kernel))]
      rw [kifs (s := t "not") (eq_f (by decide +kernel) (by decide +kernel) (by decide +kernel))]
      have el : i + (Cn.nt c).toks.length = i + 1 + c.toks.length := by show i + (c.toks.length + 1) = _; omega
      rw [el]
      unfold kSeq
      rw [kif_t (eq_t (by decide +kernel) (by decide +kernel) (by decide +kernel))]
      have e1 : kAsg (mApp (sread_part_ n) (mCons (mVar 0) (mCons (m2 gAdd (mVar 1) (mC (.int 1))) (mCons (m2 gAdd (mVar 2) (mC (.int 1))) mNil)))) (hTup 2 (hCons (hName 4) (hCons (hName 5) hNil))) (t "not") = some (.nx, u) := kasg (s1 := t "not") (mapp (s1 := t "not") (ds := [W, .int ((i + 1 : Nat)), .int ((d + 1 : Nat))]) rfl ih) rfl
      rw [e1]
      rfl
    | bin k a b =>
      have e0 : (Cn.bin k a b).dep = max a.dep b.dep + 1 := rfl
      have q1 := Nat.le_max_left a.dep b.dep
      have q2 := Nat.le_max_right a.dep b.dep
      have hw' : ws.drop i = ("(" : Str) :: (a.toks ++ (bw k :: (b.toks ++ ((")" : Str) :: rest)))) := by
        rw [hw]
        show (("(" : Str) :: (a.toks ++ (bw k :: (b.toks ++ [(")" : Str)])))) ++ rest = _
        simp
      obtain ⟨g1, g2, _⟩ := drop_one hw'
      have g3 := (drop_one (drop_app g2)).2.1
      refine fnd (s1 := t "(") ((start "(" _ (wd_some g1)).trans ?_)
      rw [kifs (s := t "(") (eq_f (by decide +kernel) (by decide +kernel) (by decide +kernel))]
      rw [kifs (s := t "(") (eq_f (by decide +kernel) (by decide +kernel) (by decide +kernel))]
      rw [kifs (s := t "(") (eq_f (by decide +kernel) (by decide +kernel) (by decide +kernel))]
      have el : i + (Cn.bin k a b).toks.length = i + 1 + a.toks.length + 1 + b.toks.length + 1 := by
        show i + (("(" : Str) :: (a.toks ++ (bw k :: (b.toks ++ [(")" : Str)])))).length = _
        simp only [List.length_cons, List.length_append, List.length_nil]
        omega
      rw [el]
      refine kifr (s1 := t "(") (s2 := t "(") (eq_t (by decide +kernel) (by decide +kernel) (by decide +kernel)) (mapp (s1 := t "(") (ds := [W, .int ((i + 1 : Nat)), .int ((d + 1 : Nat))]) rfl ?_)
      exact joined_ok (a := a) (b := b) (k := k) (fun bg => part_ok n (c := a) h.1 (by omega) (by omega) g2 (bw_fol k _) bg) (fun bg => part_ok n (c := b) h.2 (by omega) (by omega) g3 (par_fol rest) bg) g2 bg
    | cmp k v o w p =>
      have hz : wd ws i = sgText v := by
        cases o with
        | none => exact wd_some (drop_one (x := sgText v) (l := (k.sign :: valParts w p) ++ rest) hw).1
        | some m => exact wd_some (drop_one (x := sgText v) hw).1
      have cz := sgText_cp h.1
      refine fnd (s1 := t (sgText v)) ((start (sgText v) _ hz).trans ?_)
      rw [kifs (s := t (sgText v)) (eq_f cz (by decide +kernel) (ne_true h.1))]
      rw [kifs (s := t (sgText v)) (eq_f cz (by decide +kernel) (ne_found h.1))]
      rw [kifs (s := t (sgText v)) (eq_f cz (by decide +kernel) (ne_not h.1))]
      rw [kifs (s := t (sgText v)) (eq_f cz (by decide +kernel) (ne_par h.1))]
      exact kret (mapp (s1 := t (sgText v)) (ds := [W, .int (i : Nat)]) rfl (comparison_ok h hw hf bg))
theorem read_cond {c : Cn} (h : c.Ok) (hd : c.dep ≤ 6) (hl : c.text.length ≤ 100000) (bg : List Dt) : sread_condition [.str c.text] bg = some (c.d, bg) := by
  unfold sread_condition
  let W : Dt := .lst (c.toks.map Dt.str)
  let t0 : Sta := ⟨[some (.dat (.str c.text)), none, none, none], bg⟩
  let t1 : Sta := ⟨[some (.dat (.str c.text)), some (.dat W), none, none], bg⟩
  let t2 : Sta := ⟨[some (.dat (.str c.text)), some (.dat W), some (.dat c.d), some (.dat (.int (c.toks.length : Nat)))], bg⟩
  refine fnd (s1 := t2) ?_
  show kSeq _ _ t0 = _
  rw [kifs (c := mNotB (mB (mIsi isStr (mVar 0)))) (s := t0) rfl]
  obtain ⟨r1, r2⟩ := rep_len c.text
  have e1 : mRepC "(" "( " (mVar 0) t0 = some (.str (Txt.replace c.text "(" "( "), t0) := by
    show (if c.text.length + (c.text.length + 1) * ("( " : Str).length ≤ 16777216 then _ else _) = _
    have e : ("( " : Str).length = 2 := by decide +kernel
    rw [e, if_pos (by omega)]
  have e2 : mRepC ")" " )" (mRepC "(" "( " (mVar 0)) t0 = some (.str (rep2 c.text), t0) := by
    unfold mRepC at e1 ⊢
    rw [e1]
    show (if (Txt.replace c.text "(" "( ").length + ((Txt.replace c.text "(" "( ").length + 1) * (" )" : Str).length ≤ 16777216 then _ else _) = _
    have e : (" )" : Str).length = 2 := by decide +kernel
    rw [e, if_pos (by omega)]
    rfl
  have e3 : mM1 gSplit (mRepC ")" " )" (mRepC "(" "( " (mVar 0))) (mC (.str " ")) t0 = some (W, t0) := by
    refine mm1 (s1 := t0) (s2 := t0) (a := rep2 c.text) (y := .str " ") e2 rfl ?_
    show (if ((" " : Str).length == 0) = false ∧ (rep2 c.text).length + 2 ≤ sizeLine then _ else _) = _
    rw [if_pos ⟨by decide +kernel, line_big (by omega)⟩, split_text h]
  rw [kseq (s1 := t1) (kasg (s1 := t0) e3 rfl)]
  have e4 := part_ok 8 h (by omega) (ws := c.toks) (rest := []) (i := 0) (d := 1) (by omega) (by simp) (by show _ = _; decide +kernel) bg
  rw [Nat.zero_add] at e4
  rw [kseq (s1 := t2) (kasg (s1 := t1) (mapp (s1 := t1) (ds := [W, .int 0, .int 1]) rfl e4) rfl)]
  have e5 : gNe (.int (c.toks.length : Nat)) (.int ((c.toks.map Dt.str).length : Nat)) = some (.bl false) := by
    rw [List.length_map]
    show some (Dt.bl !(((c.toks.length : Nat) : Int) == (c.toks.length : Nat))) = _
    rw [beq_self_eq_true]
    rfl
  rw [kifs (s := t2) (mBt (m2_eq (s1 := t2) (s2 := t2) (x := .int (c.toks.length : Nat)) (y := .int ((c.toks.map Dt.str).length : Nat)) rfl rfl e5))]
  rfl
end DL

namespace DL
open PySem PySem.Spec PyProof.Rows L2
variable [Tabs] [Me]
open TL
/-! ### what is checked by like can be compared -/
theorem plains_all : ∀ l : List Dt, plains l = l.all plain
  | [] => rfl
  | d :: l => by show (plain d && plains l) = _; rw [plains_all l]; rfl
theorem can_all : ∀ l : List Dt, (∀ d ∈ l, PyData.canLay0 (toPy d) = true) → PyData.canLayAll0 (toPys l) = true
  | [], _ => rfl
  | d :: l, h => by
    show (PyData.canLay0 (toPy d) && PyData.canLayAll0 (toPys l)) = true
    rw [h d (List.mem_cons_self ..), can_all l fun x hx => h x (List.mem_cons_of_mem _ hx)]
    rfl
theorem depth_all {n : Nat} : ∀ l : List Dt, (∀ d ∈ l, (toPy d).depth ≤ n) → PyData.depthAll (toPys l) ≤ n
  | [], _ => Nat.zero_le _
  | d :: l, h => by
    show max (toPy d).depth (PyData.depthAll (toPys l)) ≤ n
    exact Nat.max_le.mpr ⟨h d (List.mem_cons_self ..), depth_all l fun x hx => h x (List.mem_cons_of_mem _ hx)⟩
theorem ok_eq : ∀ (n : Nat) (d : Dt), okD n d = true → plain d = true ∧ PyData.canLay0 (toPy d) = true ∧ (toPy d).depth ≤ n
  | 0, d, h => by cases d <;> cases h
  | n + 1, d, h => by
    have seq : ∀ l : List Dt, (decide (l.length ≤ 1000) && l.all (okD n)) = true → plains l = true ∧ PyData.canLayAll0 (toPys l) = true ∧ PyData.depthAll (toPys l) + 1 ≤ n + 1 := fun l h => by
      rw [Bool.and_eq_true] at h
      have h2 := List.all_eq_true.mp h.2
      refine ⟨?_, can_all l fun d hd => (ok_eq n d (h2 d hd)).2.1, Nat.succ_le_succ (depth_all l fun d hd => (ok_eq n d (h2 d hd)).2.2)⟩
      rw [plains_all]
      exact List.all_eq_true.mpr fun d hd => (ok_eq n d (h2 d hd)).1
    cases d with
    | tup l => unfold okD at h; exact seq l h
    | lst l => unfold okD at h; exact seq l h
    | bag => cases h
    | dic ks l => cases h
    | ins c ks l => cases h
    | err c ks l => cases h
    | str z => unfold okD at h; exact ⟨rfl, h, Nat.zero_le _⟩
    | non => exact ⟨rfl, rfl, Nat.zero_le _⟩
    | bl b => exact ⟨rfl, rfl, Nat.zero_le _⟩
    | int i => exact ⟨rfl, rfl, Nat.zero_le _⟩
theorem eqOk_of {n : Nat} {d : Dt} (h : okD n d = true) (hn : n ≤ 64) : eqOk d = true := by
  obtain ⟨h1, h2, h3⟩ := ok_eq n d h
  unfold eqOk SeqAt.shaped
  rw [h1, h2, decide_eq_true (by omega)]
  rfl
/-! ### values and conditions that are drawn -/
def PoolOk (pool : List Sg) : Prop := (∀ v ∈ pool, v.Ok) ∧ pool ≠ [] ∧ pool.length ≤ 900
theorem pool_len {pool : List Sg} (h : PoolOk pool) : 0 < (pool.map Sg.d).length ∧ (pool.map Sg.d).length ≤ 900 := by
  rw [List.length_map]
  exact ⟨List.length_pos_iff.mpr h.2.1, h.2.2⟩
theorem gaddL {a b : List Dt} (h : a.length + b.length ≤ 1000000) : gAdd (.lst a) (.lst b) = some (.lst (a ++ b)) := by
  show (if a.length + b.length ≤ sizeLine then some (Dt.lst (a ++ b)) else none) = _
  rw [if_pos (line_big h)]
theorem some_value {pool : List Sg} (hp : PoolOk pool) {bg : List Dt} (h : BagOk bg) : ∃ (v : Sg) (o : Option Int) (bg' : List Dt), sLsome_value [.bag, .lst (pool.map Sg.d)] bg = some (vald v o, bg') ∧ v.Ok ∧ (∀ m, o = some m → Bnd m) ∧ BagOk bg' := by
  obtain ⟨l0, l1⟩ := pool_len hp
  obtain ⟨i, bg1, e1, i0, i1, hb1⟩ := near_ok h
  have hi : (Sg.number i).Ok := by show Bnd i; unfold Bnd big; omega
  obtain ⟨d, bg2, e2, hd, hb2⟩ := any_ok hb1 (rows := pool.map Sg.d ++ [(Sg.number i).d]) (by simp) (by simp only [List.length_append, List.length_singleton]; omega)
  have hv : ∃ v : Sg, d = v.d ∧ v.Ok := by
    rcases List.mem_append.mp hd with hd | hd
    · obtain ⟨v, hv, rfl⟩ := List.mem_map.mp hd
      exact ⟨v, rfl, hp.1 v hv⟩
    · rw [List.mem_singleton] at hd
      exact ⟨_, hd, hi⟩
  obtain ⟨v, rfl, hv⟩ := hv
  obtain ⟨r, bg3, e3, r0, r1, hb3⟩ := pull_ok hb2 (n := 3) (by decide) (by decide)
  let P : Dt := .lst (pool.map Sg.d)
  let s0 : Sta := ⟨[some (.dat .bag), some (.dat P), none], bg⟩
  let s1 : Sta := ⟨[some (.dat .bag), some (.dat P), some (.dat v.d)], bg2⟩
  let s2 : Sta := { s1 with bag := bg3 }
  have ea : mApp sLany (mCons (mVar 0) (mCons (m2 gAdd (mVar 1) (mLst (mCons (mTup (mCons (mC (.str "number")) (mCons (mApp sLnear (mCons (mVar 0) mNil)) mNil))) mNil))) mNil)) s0 = some (v.d, { s0 with bag := bg2 }) := by
    refine mapp (s1 := { s0 with bag := bg1 }) (ds := [.bag, .lst (pool.map Sg.d ++ [(Sg.number i).d])]) (mcons (s1 := s0) rfl (mcons (s1 := { s0 with bag := bg1 }) ?_ rfl)) e2
    refine m2_eq (s1 := s0) (s2 := { s0 with bag := bg1 }) (x := P) (y := .lst [(Sg.number i).d]) rfl ?_ (gaddL (by simp only [List.length_singleton]; omega))
    exact mlst (mcons (s1 := { s0 with bag := bg1 }) (x := (Sg.number i).d) (mtup (mcons (s1 := s0) rfl (mcons (s1 := { s0 with bag := bg1 }) (x := .int i) (mapp (s1 := s0) (ds := [.bag]) rfl e1) rfl))) rfl)
  have ep : m2 gEq (mApp sLpull (mCons (mVar 0) (mCons (mC (.int 3)) mNil))) (mC (.int 0)) s1 = some (.bl (r == 0), s2) := m2_eq (s1 := s2) (s2 := s2) (x := .int r) (y := .int 0) (mapp (s1 := s1) (ds := [.bag, .int 3]) rfl e3) rfl eqII
  unfold sLsome_value
  by_cases c : r = 0
  · obtain ⟨m, bg4, e4, m0, m1, hb4⟩ := near_ok hb3
    refine ⟨v, some m, bg4, ?_, hv, fun m' e => by cases e; unfold Bnd big; omega, hb4⟩
    refine fnd (s1 := { s1 with bag := bg4 }) ?_
    show kSeq _ _ s0 = _
    rw [kseq (s1 := s1) (kasg (s1 := { s0 with bag := bg2 }) ea rfl)]
    refine kret ?_
    rw [mif_t (s1 := s2) (mBt (by rw [ep, beq_iff_eq.mpr c]))]
    exact mtup (mcons (s1 := s2) rfl (mcons (s1 := s2) rfl (mcons (s1 := { s1 with bag := bg4 }) (mapp (s1 := s2) (ds := [.bag]) rfl e4) rfl)))
  · refine ⟨v, none, bg3, ?_, hv, (fun m' e => by cases e), hb3⟩
    refine fnd (s1 := s2) ?_
    show kSeq _ _ s0 = _
    rw [kseq (s1 := s1) (kasg (s1 := { s0 with bag := bg2 }) ea rfl)]
    refine kret ?_
    rw [mif_f (s1 := s2) (mBt (by rw [ep, beq_eq_false_iff_ne.mpr c]))]
    rfl
theorem pool_ne {pool : List Sg} (hp : PoolOk pool) : gNe (.lst (pool.map Sg.d)) (.lst []) = some (.bl true) := by
  obtain ⟨h1, h2, h3⟩ := hp
  have ok : okD 3 (.lst (pool.map Sg.d)) = true := by
    show (decide ((pool.map Sg.d).length ≤ 1000) && (pool.map Sg.d).all (okD 2)) = true
    rw [decide_eq_true (by rw [List.length_map]; omega), Bool.true_and]
    refine List.all_eq_true.mpr fun d hd => ?_
    obtain ⟨v, hv, rfl⟩ := List.mem_map.mp hd
    exact okD_d (h1 v hv) 0
  unfold gNe
  rw [eqOk_of ok (by decide), eqOk_of (d := .lst []) (n := 1) rfl (by decide)]
  cases pool with
  | nil => exact absurd rfl h2
  | cons v r => rfl
theorem some_compared {pool : List Sg} (hp : PoolOk pool) {bg : List Dt} (h : BagOk bg) : ∃ (c : Cn) (bg' : List Dt), sLsome_compared [.bag, .lst (pool.map Sg.d)] bg = some (c.d, bg') ∧ c.Ok ∧ c.dep ≤ 1 ∧ BagOk bg' := by
  obtain ⟨l0, l1⟩ := pool_len hp
  obtain ⟨d, bg1, e1, hd, hb1⟩ := any_ok h (rows := pool.map Sg.d) l0 (by omega)
  obtain ⟨v, hv, rfl⟩ := List.mem_map.mp hd
  have hv := hp.1 v hv
  obtain ⟨r, bg2, e2, r0, r1, hb2⟩ := pull_ok hb1 (n := 4) (by decide) (by decide)
  let P : Dt := .lst (pool.map Sg.d)
  let s0 : Sta := ⟨[some (.dat .bag), some (.dat P), none], bg⟩
  let s1 : Sta := ⟨[some (.dat .bag), some (.dat P), some (.dat v.d)], bg1⟩
  let s2 : Sta := { s1 with bag := bg2 }
  have ea : mIf (mB (m2 gNe (mVar 1) (mLst mNil))) (mApp sLany (mCons (mVar 0) (mCons (mVar 1) mNil))) (mTup (mCons (mC (.str "number")) (mCons (mApp sLnear (mCons (mVar 0) mNil)) mNil))) s0 = some (v.d, { s0 with bag := bg1 }) := by
    rw [mif_t (s1 := s0) (mBt (m2_eq (s1 := s0) (s2 := s0) (x := P) (y := .lst []) rfl rfl (pool_ne hp)))]
    exact mapp (s1 := s0) (ds := [.bag, P]) rfl e1
  have ep : m2 gEq (mApp sLpull (mCons (mVar 0) (mCons (mC (.int 4)) mNil))) (mC (.int 0)) s1 = some (.bl (r == 0), s2) := m2_eq (s1 := s2) (s2 := s2) (x := .int r) (y := .int 0) (mapp (s1 := s1) (ds := [.bag, .int 4]) rfl e2) rfl eqII
  have rest : ∀ (o : Option Int) (bg3 : List Dt), (∀ m, o = some m → Bnd m) → BagOk bg3 → ∃ (c : Cn) (s' : Sta), kRet (mTup (mCons (mApp sLany (mCons (mVar 0) (mCons (mLst (mCons (mC (.str "atmost")) (mCons (mC (.str "below")) (mCons (mC (.str "below")) (mCons (mC (.str "same")) mNil))))) mNil))) (mCons (mVar 2) (mCons (mApp sLsome_value (mCons (mVar 0) (mCons (mVar 1) mNil))) mNil)))) ⟨[some (.dat .bag), some (.dat P), some (.dat (vald v o))], bg3⟩ = some (.rt c.d, s') ∧ c.Ok ∧ c.dep ≤ 1 ∧ BagOk s'.bag := fun o bg3 ho hb3 => by
    obtain ⟨z, bg4, e4, hz, hb4⟩ := any_ok hb3 (rows := [.str "atmost", .str "below", .str "below", .str "same"]) (by simp) (by simp)
    obtain ⟨w, p, bg5, e5, hw, hpm, hb5⟩ := some_value hp hb4
    have hk : ∃ k : Cp, z = .str k.form := by
      simp only [List.mem_cons, List.not_mem_nil, or_false] at hz
      rcases hz with rfl | rfl | rfl | rfl
      · exact ⟨.le, rfl⟩
      · exact ⟨.lt, rfl⟩
      · exact ⟨.lt, rfl⟩
      · exact ⟨.eq, rfl⟩
    obtain ⟨k, rfl⟩ := hk
    let t : Sta := ⟨[some (.dat .bag), some (.dat P), some (.dat (vald v o))], bg3⟩
    refine ⟨.cmp k v o w p, { t with bag := bg5 }, kret ?_, ⟨hv, ho, hw, hpm⟩, Nat.le_refl _, hb5⟩
    exact mtup (mcons (s1 := { t with bag := bg4 }) (mapp (s1 := t) (ds := [.bag, .lst [.str "atmost", .str "below", .str "below", .str "same"]]) rfl e4) (mcons (s1 := { t with bag := bg4 }) rfl (mcons (s1 := { t with bag := bg5 }) (mapp (s1 := { t with bag := bg4 }) (ds := [.bag, P]) rfl e5) rfl)))
  unfold sLsome_compared
  by_cases c : r = 0
  · obtain ⟨m, bg3, e3, m0, m1, hb3⟩ := near_ok hb2
    obtain ⟨cn, s', e4, h1, h2, h3⟩ := rest (some m) bg3 (fun m' e => by cases e; unfold Bnd big; omega) hb3
    refine ⟨cn, s'.bag, fnd (s1 := s') ?_, h1, h2, h3⟩
    show kSeq _ _ s0 = _
    rw [kseq (s1 := s1) (kasg (s1 := { s0 with bag := bg1 }) ea rfl)]
    rw [kseq (s1 := ⟨[some (.dat .bag), some (.dat P), some (.dat (vald v (some m)))], bg3⟩)]
    · exact e4
    · rw [kif_t (s1 := s2) (mBt (by rw [ep, beq_iff_eq.mpr c]))]
      exact kasg (s1 := { s1 with bag := bg3 }) (mtup (mcons (s1 := s2) rfl (mcons (s1 := s2) rfl (mcons (s1 := { s1 with bag := bg3 }) (mapp (s1 := s2) (ds := [.bag]) rfl e3) rfl)))) rfl
  · obtain ⟨cn, s', e4, h1, h2, h3⟩ := rest none bg2 (fun m' e => by cases e) hb2
    refine ⟨cn, s'.bag, fnd (s1 := s') ?_, h1, h2, h3⟩
    show kSeq _ _ s0 = _
    rw [kseq (s1 := s1) (kasg (s1 := { s0 with bag := bg1 }) ea rfl)]
    rw [kseq (s1 := s2)]
    · exact e4
    · rw [kif_f (s1 := s2) (mBt (by rw [ep, beq_eq_false_iff_ne.mpr c]))]
      rfl
theorem oltI {a b : Int} : oLt (.int a) (.int b) = some (.bl (decide (a < b))) := rfl
theorem ogtI {a b : Int} : oGt (.int a) (.int b) = some (.bl (decide (b < a))) := rfl
theorem sub1 (e : Nat) : gSub0 (.int ((e + 1 : Nat))) (.int 1) = some (.int (e : Nat)) := by
  show some (Dt.int (((e + 1 : Nat) : Int) - 1)) = _
  congr 2
  omega
theorem some_condition {pool : List Sg} (hp : PoolOk pool) : ∀ (n deep : Nat), deep < n → ∀ {bg : List Dt}, BagOk bg → ∃ (c : Cn) (bg' : List Dt), sLsome_condition n [.bag, .lst (pool.map Sg.d), .int (deep : Nat)] bg = some (c.d, bg') ∧ c.Ok ∧ c.dep ≤ deep + 1 ∧ BagOk bg'
  | 0, deep, h, _, _ => absurd h (Nat.not_lt_zero _)
  | n + 1, deep, hn, bg, hb => by
    let P : Dt := .lst (pool.map Sg.d)
    let s0 : Sta := ⟨[some (.dat .bag), some (.dat P), some (.dat (.int (deep : Nat))), none, none], bg⟩
    let st (r : Int) (x : Option Slo) (b : List Dt) : Sta := ⟨[some (.dat .bag), some (.dat P), some (.dat (.int (deep : Nat))), some (.dat (.int r)), x], b⟩
    have way : ∃ (r : Int) (bg1 : List Dt), mIf (mB (m2 oGt (mVar 2) (mC (.int 0)))) (mApp sLpull (mCons (mVar 0) (mCons (mC (.int 7)) mNil))) (mApp sLpull (mCons (mVar 0) (mCons (mC (.int 3)) mNil))) s0 = some (.int r, { s0 with bag := bg1 }) ∧ 0 ≤ r ∧ (4 ≤ r → 0 < deep) ∧ BagOk bg1 := by
      have eg : m2 oGt (mVar 2) (mC (.int 0)) s0 = some (.bl (decide ((0 : Int) < (deep : Nat))), s0) := m2_eq (s1 := s0) (s2 := s0) (x := .int (deep : Nat)) (y := .int 0) rfl rfl ogtI
      by_cases c : 0 < deep
      · obtain ⟨r, bg1, e1, r0, r1, hb1⟩ := pull_ok hb (n := 7) (by decide) (by decide)
        refine ⟨r, bg1, ?_, r0, fun _ => c, hb1⟩
        rw [mif_t (s1 := s0) (mBt (by rw [eg, decide_eq_true (by omega)]))]
        exact mapp (s1 := s0) (ds := [.bag, .int 7]) rfl e1
      · obtain ⟨r, bg1, e1, r0, r1, hb1⟩ := pull_ok hb (n := 3) (by decide) (by decide)
        refine ⟨r, bg1, ?_, r0, fun h => by omega, hb1⟩
        rw [mif_f (s1 := s0) (mBt (by rw [eg, decide_eq_false (by omega)]))]
        exact mapp (s1 := s0) (ds := [.bag, .int 3]) rfl e1
    obtain ⟨r, bg1, e1, r0, r4, hb1⟩ := way
    let t : Sta := st r none bg1
    have elt : ∀ k : Int, mB (m2 oLt (mVar 3) (mC (.int k))) t = some (decide (r < k), t) := fun k => mBt (m2_eq (s1 := t) (s2 := t) (x := .int r) (y := .int k) rfl rfl oltI)
    have eeq : ∀ k : Int, mB (m2 gEq (mVar 3) (mC (.int k))) t = some (r == k, t) := fun k => mBt (m2_eq (s1 := t) (s2 := t) (x := .int r) (y := .int k) rfl rfl eqII)
    show ∃ (c : Cn) (bg' : List Dt), sLsome_conditionB (sLsome_condition n) [.bag, P, .int (deep : Nat)] bg = some (c.d, bg') ∧ _
    unfold sLsome_conditionB
    by_cases c1 : r < 1
    · refine ⟨.tru, bg1, fnd (s1 := t) ?_, trivial, by simp [Cn.dep], hb1⟩
      show kSeq _ _ s0 = _
      rw [kseq (s1 := t) (kasg (s1 := { s0 with bag := bg1 }) e1 rfl)]
      exact kifr (s1 := t) (s2 := t) (by rw [elt, decide_eq_true c1]) rfl
    · by_cases c2 : r < 4
      · obtain ⟨c, bg2, e2, h1, h2, hb2⟩ := some_compared hp hb1
        refine ⟨c, bg2, fnd (s1 := { t with bag := bg2 }) ?_, h1, by omega, hb2⟩
        show kSeq _ _ s0 = _
        rw [kseq (s1 := t) (kasg (s1 := { s0 with bag := bg1 }) e1 rfl)]
        rw [kifs (s := t) (by rw [elt, decide_eq_false c1])]
        exact kifr (s1 := t) (s2 := { t with bag := bg2 }) (by rw [elt, decide_eq_true c2]) (mapp (s1 := t) (ds := [.bag, P]) rfl e2)
      · obtain ⟨e, rfl⟩ : ∃ e, deep = e + 1 := ⟨deep - 1, by have := r4 (by omega); omega⟩
        obtain ⟨a, bg2, e2, a1, a2, hb2⟩ := some_condition hp n e (by omega) hb1
        by_cases c3 : r = 4
        · refine ⟨.nt a, bg2, fnd (s1 := { t with bag := bg2 }) ?_, a1, by show a.dep + 1 ≤ _; omega, hb2⟩
          show kSeq _ _ s0 = _
          rw [kseq (s1 := t) (kasg (s1 := { s0 with bag := bg1 }) e1 rfl)]
          rw [kifs (s := t) (by rw [elt, decide_eq_false c1]), kifs (s := t) (by rw [elt, decide_eq_false c2])]
          refine kifr (s1 := t) (s2 := { t with bag := bg2 }) (by rw [eeq, beq_iff_eq.mpr c3]) ?_
          exact mtup (mcons (s1 := t) rfl (mcons (s1 := { t with bag := bg2 }) (mapp (s1 := t) (ds := [.bag, P, .int (e : Nat)]) (mcons (s1 := t) rfl (mcons (s1 := t) rfl (mcons (s1 := t) (m2_eq (s1 := t) (s2 := t) (x := .int ((e + 1 : Nat))) (y := .int 1) rfl rfl (sub1 e)) rfl))) e2) rfl))
        · obtain ⟨b, bg3, e3, b1, b2, hb3⟩ := some_condition hp n e (by omega) hb2
          let k : Bool := r == 5
          let u : Sta := st r (some (.dat (.str (bw k)))) bg1
          refine ⟨.bin k a b, bg3, fnd (s1 := { u with bag := bg3 }) ?_, ⟨a1, b1⟩, by show max a.dep b.dep + 1 ≤ _; have := Nat.max_le.mpr ⟨a2, b2⟩; omega, hb3⟩
          show kSeq _ _ s0 = _
          rw [kseq (s1 := t) (kasg (s1 := { s0 with bag := bg1 }) e1 rfl)]
          rw [kifs (s := t) (by rw [elt, decide_eq_false c1]), kifs (s := t) (by rw [elt, decide_eq_false c2]), kifs (s := t) (by rw [eeq, beq_eq_false_iff_ne.mpr c3])]
          have ek : mIf (mB (m2 gEq (mVar 3) (mC (.int 5)))) (mC (.str "and")) (mC (.str "or")) t = some (.str (bw k), t) := by
            by_cases c5 : r = 5
            · rw [mif_t (s1 := t) (by rw [eeq, beq_iff_eq.mpr c5])]
              have : k = true := beq_iff_eq.mpr c5
              rw [this]
              rfl
            · rw [mif_f (s1 := t) (by rw [eeq, beq_eq_false_iff_ne.mpr c5])]
              have : k = false := beq_eq_false_iff_ne.mpr c5
              rw [this]
              rfl
          rw [kseq (s1 := u) (kasg (s1 := t) ek rfl)]
          refine kret (mtup (mcons (s1 := u) rfl (mcons (s1 := { u with bag := bg2 }) ?_ (mcons (s1 := { u with bag := bg3 }) ?_ rfl))))
          · exact mapp (s1 := u) (ds := [.bag, P, .int (e : Nat)]) (mcons (s1 := u) rfl (mcons (s1 := u) rfl (mcons (s1 := u) (m2_eq (s1 := u) (s2 := u) (x := .int ((e + 1 : Nat))) (y := .int 1) rfl rfl (sub1 e)) rfl))) e2
          · exact mapp (s1 := { u with bag := bg2 }) (ds := [.bag, P, .int (e : Nat)]) (mcons (s1 := { u with bag := bg2 }) rfl (mcons (s1 := { u with bag := bg2 }) rfl (mcons (s1 := { u with bag := bg2 }) (m2_eq (s1 := { u with bag := bg2 }) (s2 := { u with bag := bg2 }) (x := .int ((e + 1 : Nat))) (y := .int 1) rfl rfl (sub1 e)) rfl))) e3
theorem loop_count {h : Dt → Sta → Option Sta} {b : DMs} (I : Nat → Sta → Prop) (hs : ∀ k d s, I k s → ∃ s1 s2, h d s = some s1 ∧ b s1 = some (.nx, s2) ∧ I (k + 1) s2) : ∀ (l : List Dt) (k : Nat) (s : Sta), I k s → ∃ s', loopD h b l s = some (.nx, s') ∧ I (k + l.length) s'
  | [], k, s, hi => ⟨s, rfl, hi⟩
  | d :: l, k, s, hi => by
    obtain ⟨s1, s2, e1, e2, i2⟩ := hs k d s hi
    obtain ⟨s', e3, i3⟩ := loop_count I hs l (k + 1) s2 i2
    refine ⟨s', ?_, by rw [List.length_cons]; rw [show k + (l.length + 1) = k + 1 + l.length by omega]; exact i3⟩
    unfold loopD
    rw [e1, Option.bind_some, e2]
    exact e3
end DL

namespace K08
open PySem PySem.Spec PyProof.Rows L2 DL
section Laws
variable [Tabs] [Me]
/-! ### the text by places -/
def top (i : Nat) : Stmt := PySem.Challenge.pw_lookedrows_k08_parts_and_values_of_condi.main.body.getD i (.Pass ⟨0, 0, 0, 0⟩)
abbrev s_is_name : Stmt := top 7
abbrev s_is_column : Stmt := top 8
abbrev s_is_whole : Stmt := top 9
abbrev s_is_bounded : Stmt := top 12
abbrev s_is_single_ : Stmt := top 11
abbrev s_is_value : Stmt := top 10
abbrev s_is_condition_itself_ : Stmt := top 18
abbrev s_places_ : Stmt := top 17
abbrev s_checked_parts_ : Stmt := top 16
abbrev s_parts : Stmt := top 19
abbrev s_values_in : Stmt := top 20
abbrev s_all_of : Stmt := top 21
abbrev s_Ldraws : Stmt := top 23
abbrev s_Lpull : Stmt := top 24
abbrev s_Lany : Stmt := top 25
abbrev s_Llike : Stmt := top 26
abbrev s_Lreserved : Stmt := top 27
abbrev s_Lnew_names : Stmt := top 28
abbrev s_Lnear : Stmt := top 29
abbrev s_Lsome_value : Stmt := top 30
abbrev s_Lsome_compared : Stmt := top 31
abbrev s_Lsome_condition : Stmt := top 32
abbrev s_Lvalues : Stmt := top 33
abbrev s_Lall_parts : Stmt := top 34
abbrev s_law : Stmt := top 35
abbrev N_is_name : List Str := ["value", "letter"]
theorem sc_is_name : FnScope N_is_name ["value"] (defScope s_is_name) := ⟨rfl, rfl, rfl, by decide +kernel, rfl, by decide +kernel, by decide +kernel⟩
abbrev N_is_column : List Str := ["value"]
theorem sc_is_column : FnScope N_is_column ["value"] (defScope s_is_column) := ⟨rfl, rfl, rfl, by decide +kernel, rfl, by decide +kernel, by decide +kernel⟩
abbrev N_is_whole : List Str := ["value"]
theorem sc_is_whole : FnScope N_is_whole ["value"] (defScope s_is_whole) := ⟨rfl, rfl, rfl, by decide +kernel, rfl, by decide +kernel, by decide +kernel⟩
abbrev N_is_bounded : List Str := ["value"]
theorem sc_is_bounded : FnScope N_is_bounded ["value"] (defScope s_is_bounded) := ⟨rfl, rfl, rfl, by decide +kernel, rfl, by decide +kernel, by decide +kernel⟩
abbrev N_is_single_ : List Str := ["value", "form", "part"]
theorem sc_is_single_ : FnScope N_is_single_ ["value"] (defScope s_is_single_) := ⟨rfl, rfl, rfl, by decide +kernel, rfl, by decide +kernel, by decide +kernel⟩
abbrev N_is_value : List Str := ["value"]
theorem sc_is_value : FnScope N_is_value ["value"] (defScope s_is_value) := ⟨rfl, rfl, rfl, by decide +kernel, rfl, by decide +kernel, by decide +kernel⟩
abbrev N_is_condition_itself_ : List Str := ["part", "form"]
theorem sc_is_condition_itself_ : FnScope N_is_condition_itself_ ["part"] (defScope s_is_condition_itself_) := ⟨rfl, rfl, rfl, by decide +kernel, rfl, by decide +kernel, by decide +kernel⟩
abbrev N_places_ : List Str := ["part"]
theorem sc_places_ : FnScope N_places_ ["part"] (defScope s_places_) := ⟨rfl, rfl, rfl, by decide +kernel, rfl, by decide +kernel, by decide +kernel⟩
abbrev N_checked_parts_ : List Str := ["condition", "pairs", "waiting", "path", "part", "at"]
theorem sc_checked_parts_ : FnScope N_checked_parts_ ["condition"] (defScope s_checked_parts_) := ⟨rfl, rfl, rfl, by decide +kernel, rfl, by decide +kernel, by decide +kernel⟩
abbrev N_parts : List Str := ["condition", "pair"]
theorem sc_parts : GScope N_parts ["condition"] (defScope s_parts) := ⟨rfl, rfl, rfl, by decide +kernel, rfl, by decide +kernel, by decide +kernel⟩
abbrev N_values_in : List Str := ["condition", "value", "_", "part"]
theorem sc_values_in : FnScope N_values_in ["condition"] (defScope s_values_in) := ⟨rfl, rfl, rfl, by decide +kernel, rfl, by decide +kernel, by decide +kernel⟩
abbrev N_all_of : List Str := ["conditions", "whole", "condition"]
theorem sc_all_of : FnScope N_all_of ["conditions"] (defScope s_all_of) := ⟨rfl, rfl, rfl, by decide +kernel, rfl, by decide +kernel, by decide +kernel⟩
abbrev N_Ldraws : List Str := ["_law_script", "_law_seed", "_law_cell"]
theorem sc_Ldraws : FnScope N_Ldraws ["_law_script"] (defScope s_Ldraws) := ⟨rfl, rfl, rfl, by decide +kernel, rfl, by decide +kernel, by decide +kernel⟩
abbrev N_Lpull : List Str := ["_law_bag", "_law_sides", "_law_seed", "_law_cell", "_law_digit"]
theorem sc_Lpull : FnScope N_Lpull ["_law_bag", "_law_sides"] (defScope s_Lpull) := ⟨rfl, rfl, rfl, by decide +kernel, rfl, by decide +kernel, by decide +kernel⟩
abbrev N_Lany : List Str := ["_law_bag", "_law_rows"]
theorem sc_Lany : FnScope N_Lany ["_law_bag", "_law_rows"] (defScope s_Lany) := ⟨rfl, rfl, rfl, by decide +kernel, rfl, by decide +kernel, by decide +kernel⟩
abbrev N_Llike : List Str := ["_law_a", "_law_b", "_law_same", "_law_c", "_law_d"]
theorem sc_Llike : FnScope N_Llike ["_law_a", "_law_b"] (defScope s_Llike) := ⟨rfl, rfl, rfl, by decide +kernel, rfl, by decide +kernel, by decide +kernel⟩
abbrev N_Lreserved : List Str := []
theorem sc_Lreserved : FnScope N_Lreserved [] (defScope s_Lreserved) := ⟨rfl, rfl, rfl, by decide +kernel, rfl, by decide +kernel, by decide +kernel⟩
abbrev N_Lnew_names : List Str := ["_law_bag", "_law_many", "_law_abc", "_law_stem", "_law_rows", "_law_at", "_law_first", "_law_k", "_law_row"]
theorem sc_Lnew_names : FnScope N_Lnew_names ["_law_bag", "_law_many"] (defScope s_Lnew_names) := ⟨rfl, rfl, rfl, by decide +kernel, rfl, by decide +kernel, by decide +kernel⟩
abbrev N_Lnear : List Str := ["_law_bag"]
theorem sc_Lnear : FnScope N_Lnear ["_law_bag"] (defScope s_Lnear) := ⟨rfl, rfl, rfl, by decide +kernel, rfl, by decide +kernel, by decide +kernel⟩
abbrev N_Lsome_value : List Str := ["_law_bag", "_law_pool", "_law_plain"]
theorem sc_Lsome_value : FnScope N_Lsome_value ["_law_bag", "_law_pool"] (defScope s_Lsome_value) := ⟨rfl, rfl, rfl, by decide +kernel, rfl, by decide +kernel, by decide +kernel⟩
abbrev N_Lsome_compared : List Str := ["_law_bag", "_law_pool", "_law_one"]
theorem sc_Lsome_compared : FnScope N_Lsome_compared ["_law_bag", "_law_pool"] (defScope s_Lsome_compared) := ⟨rfl, rfl, rfl, by decide +kernel, rfl, by decide +kernel, by decide +kernel⟩
abbrev N_Lsome_condition : List Str := ["_law_bag", "_law_pool", "_law_deep", "_law_way", "_law_word"]
theorem sc_Lsome_condition : FnScope N_Lsome_condition ["_law_bag", "_law_pool", "_law_deep"] (defScope s_Lsome_condition) := ⟨rfl, rfl, rfl, by decide +kernel, rfl, by decide +kernel, by decide +kernel⟩
abbrev N_Lvalues : List Str := ["_law_c"]
theorem sc_Lvalues : FnScope N_Lvalues ["_law_c"] (defScope s_Lvalues) := ⟨rfl, rfl, rfl, by decide +kernel, rfl, by decide +kernel, by decide +kernel⟩
abbrev N_Lall_parts : List Str := ["_law_c", "_law_path", "_law_found", "_law_at"]
theorem sc_Lall_parts : FnScope N_Lall_parts ["_law_c", "_law_path"] (defScope s_Lall_parts) := ⟨rfl, rfl, rfl, by decide +kernel, rfl, by decide +kernel, by decide +kernel⟩
abbrev N_law : List Str := ["_law_script", "_law_bag", "_law_turn", "_law_names", "_law_pool", "_law_rows", "_law_due", "_law_c", "_law_found", "_law_told", "_law_k", "_law_pair"]
theorem sc_law : FnScope N_law ["_law_script"] (defScope s_law) := ⟨rfl, rfl, rfl, by decide +kernel, rfl, by decide +kernel, by decide +kernel⟩
def c_BOUND : Dt := .int 1000000000000000000000000000000
def c_MOST_LETTERS : Dt := .int 6
def c_RESERVED : Dt := .tup [.str "and", .str "found", .str "key", .str "next", .str "not", .str "or", .str "own", .str "set", .str "true", .str "where"]
def c_DEEPEST : Dt := .int 6
def t_SIGNS : List (Str × Str) := [("atmost", "<="), ("below", "<"), ("same", "=")]
/-! ### what the top has left -/
set_option maxHeartbeats 0 in
structure Tx (w : World) (K : PySem.W.Frag) (mg : Str → Option Value) where
  n_all : mg "all" = none
  n_bool : mg "bool" = none
  n_int : mg "int" = none
  n_isinstance : mg "isinstance" = none
  n_len : mg "len" = none
  n_list : mg "list" = none
  n_range : mg "range" = none
  n_reversed : mg "reversed" = none
  n_str : mg "str" = none
  n_tuple : mg "tuple" = none
  n_zip : mg "zip" = none
  g_BOUND : ∃ u, mg "BOUND" = some u ∧ RelV (V.int 1000000000000000000000000000000) u
  g_MOST_LETTERS : ∃ u, mg "MOST_LETTERS" = some u ∧ RelV (V.int 6) u
  a_RESERVED : Addr
  g_RESERVED : mg "RESERVED" = some (.ref a_RESERVED)
  q_RESERVED : ∀ G, SqT K G a_RESERVED [V.str "and", V.str "found", V.str "key", V.str "next", V.str "not", V.str "or", V.str "own", V.str "set", V.str "true", V.str "where"]
  g_DEEPEST : ∃ u, mg "DEEPEST" = some u ∧ RelV (V.int 6) u
  a_SIGNS : Addr
  g_SIGNS : mg "SIGNS" = some (.ref a_SIGNS)
  k_SIGNS : KTbl K w a_SIGNS t_SIGNS
  f_is_name : Addr
  fd_is_name : FuncData
  F_is_name : Fun K "is_name" "is_name" s_is_name f_is_name fd_is_name
  m_is_name : mg "is_name" = some (.ref f_is_name)
  b_is_name : Binds K fd_is_name ["value"] []
  f_is_column : Addr
  fd_is_column : FuncData
  F_is_column : Fun K "is_column" "is_column" s_is_column f_is_column fd_is_column
  m_is_column : mg "is_column" = some (.ref f_is_column)
  b_is_column : Binds K fd_is_column ["value"] []
  f_is_whole : Addr
  fd_is_whole : FuncData
  F_is_whole : Fun K "is_whole" "is_whole" s_is_whole f_is_whole fd_is_whole
  m_is_whole : mg "is_whole" = some (.ref f_is_whole)
  b_is_whole : Binds K fd_is_whole ["value"] []
  f_is_bounded : Addr
  fd_is_bounded : FuncData
  F_is_bounded : Fun K "is_bounded" "is_bounded" s_is_bounded f_is_bounded fd_is_bounded
  m_is_bounded : mg "is_bounded" = some (.ref f_is_bounded)
  b_is_bounded : Binds K fd_is_bounded ["value"] []
  f_is_single_ : Addr
  fd_is_single_ : FuncData
  F_is_single_ : Fun K "_is_single" "_is_single" s_is_single_ f_is_single_ fd_is_single_
  m_is_single_ : mg "_is_single" = some (.ref f_is_single_)
  b_is_single_ : Binds K fd_is_single_ ["value"] []
  f_is_value : Addr
  fd_is_value : FuncData
  F_is_value : Fun K "is_value" "is_value" s_is_value f_is_value fd_is_value
  m_is_value : mg "is_value" = some (.ref f_is_value)
  b_is_value : Binds K fd_is_value ["value"] []
  f_is_condition_itself_ : Addr
  fd_is_condition_itself_ : FuncData
  F_is_condition_itself_ : Fun K "_is_condition_itself" "_is_condition_itself" s_is_condition_itself_ f_is_condition_itself_ fd_is_condition_itself_
  m_is_condition_itself_ : mg "_is_condition_itself" = some (.ref f_is_condition_itself_)
  b_is_condition_itself_ : Binds K fd_is_condition_itself_ ["part"] []
  f_places_ : Addr
  fd_places_ : FuncData
  F_places_ : Fun K "_places" "_places" s_places_ f_places_ fd_places_
  m_places_ : mg "_places" = some (.ref f_places_)
  b_places_ : Binds K fd_places_ ["part"] []
  f_checked_parts_ : Addr
  fd_checked_parts_ : FuncData
  F_checked_parts_ : Fun K "_checked_parts" "_checked_parts" s_checked_parts_ f_checked_parts_ fd_checked_parts_
  m_checked_parts_ : mg "_checked_parts" = some (.ref f_checked_parts_)
  b_checked_parts_ : Binds K fd_checked_parts_ ["condition"] []
  f_parts : Addr
  fd_parts : FuncData
  F_parts : Fun K "parts" "parts" s_parts f_parts fd_parts
  m_parts : mg "parts" = some (.ref f_parts)
  b_parts : Binds K fd_parts ["condition"] []
  f_values_in : Addr
  fd_values_in : FuncData
  F_values_in : Fun K "values_in" "values_in" s_values_in f_values_in fd_values_in
  m_values_in : mg "values_in" = some (.ref f_values_in)
  b_values_in : Binds K fd_values_in ["condition"] []
  f_all_of : Addr
  fd_all_of : FuncData
  F_all_of : Fun K "all_of" "all_of" s_all_of f_all_of fd_all_of
  m_all_of : mg "all_of" = some (.ref f_all_of)
  b_all_of : ∀ rest : List Value, bindArgs fd_all_of ⟨rest, []⟩ = (newTuple rest >>= fun t => pure [(("conditions" : Str), t)])
  f_Ldraws : Addr
  fd_Ldraws : FuncData
  F_Ldraws : Fun K "_law_draws" "_law_draws" s_Ldraws f_Ldraws fd_Ldraws
  m_Ldraws : mg "_law_draws" = some (.ref f_Ldraws)
  b_Ldraws : Binds K fd_Ldraws ["_law_script"] []
  f_Lpull : Addr
  fd_Lpull : FuncData
  F_Lpull : Fun K "_law_pull" "_law_pull" s_Lpull f_Lpull fd_Lpull
  m_Lpull : mg "_law_pull" = some (.ref f_Lpull)
  b_Lpull : Binds K fd_Lpull ["_law_bag", "_law_sides"] []
  f_Lany : Addr
  fd_Lany : FuncData
  F_Lany : Fun K "_law_any" "_law_any" s_Lany f_Lany fd_Lany
  m_Lany : mg "_law_any" = some (.ref f_Lany)
  b_Lany : Binds K fd_Lany ["_law_bag", "_law_rows"] []
  f_Llike : Addr
  fd_Llike : FuncData
  F_Llike : Fun K "_law_like" "_law_like" s_Llike f_Llike fd_Llike
  m_Llike : mg "_law_like" = some (.ref f_Llike)
  b_Llike : Binds K fd_Llike ["_law_a", "_law_b"] []
  f_Lreserved : Addr
  fd_Lreserved : FuncData
  F_Lreserved : Fun K "_law_reserved" "_law_reserved" s_Lreserved f_Lreserved fd_Lreserved
  m_Lreserved : mg "_law_reserved" = some (.ref f_Lreserved)
  b_Lreserved : Binds K fd_Lreserved [] []
  f_Lnew_names : Addr
  fd_Lnew_names : FuncData
  F_Lnew_names : Fun K "_law_new_names" "_law_new_names" s_Lnew_names f_Lnew_names fd_Lnew_names
  m_Lnew_names : mg "_law_new_names" = some (.ref f_Lnew_names)
  b_Lnew_names : Binds K fd_Lnew_names ["_law_bag", "_law_many"] []
  f_Lnear : Addr
  fd_Lnear : FuncData
  F_Lnear : Fun K "_law_near" "_law_near" s_Lnear f_Lnear fd_Lnear
  m_Lnear : mg "_law_near" = some (.ref f_Lnear)
  b_Lnear : Binds K fd_Lnear ["_law_bag"] []
  f_Lsome_value : Addr
  fd_Lsome_value : FuncData
  F_Lsome_value : Fun K "_law_some_value" "_law_some_value" s_Lsome_value f_Lsome_value fd_Lsome_value
  m_Lsome_value : mg "_law_some_value" = some (.ref f_Lsome_value)
  b_Lsome_value : Binds K fd_Lsome_value ["_law_bag", "_law_pool"] []
  f_Lsome_compared : Addr
  fd_Lsome_compared : FuncData
  F_Lsome_compared : Fun K "_law_some_compared" "_law_some_compared" s_Lsome_compared f_Lsome_compared fd_Lsome_compared
  m_Lsome_compared : mg "_law_some_compared" = some (.ref f_Lsome_compared)
  b_Lsome_compared : Binds K fd_Lsome_compared ["_law_bag", "_law_pool"] []
  f_Lsome_condition : Addr
  fd_Lsome_condition : FuncData
  F_Lsome_condition : Fun K "_law_some_condition" "_law_some_condition" s_Lsome_condition f_Lsome_condition fd_Lsome_condition
  m_Lsome_condition : mg "_law_some_condition" = some (.ref f_Lsome_condition)
  b_Lsome_condition : Binds K fd_Lsome_condition ["_law_bag", "_law_pool", "_law_deep"] []
  f_Lvalues : Addr
  fd_Lvalues : FuncData
  F_Lvalues : Fun K "_law_values" "_law_values" s_Lvalues f_Lvalues fd_Lvalues
  m_Lvalues : mg "_law_values" = some (.ref f_Lvalues)
  b_Lvalues : Binds K fd_Lvalues ["_law_c"] []
  f_Lall_parts : Addr
  fd_Lall_parts : FuncData
  F_Lall_parts : Fun K "_law_all_parts" "_law_all_parts" s_Lall_parts f_Lall_parts fd_Lall_parts
  m_Lall_parts : mg "_law_all_parts" = some (.ref f_Lall_parts)
  b_Lall_parts : Binds K fd_Lall_parts ["_law_c", "_law_path"] []
  f_law : Addr
  fd_law : FuncData
  F_law : Fun K "law" "law" s_law f_law fd_law
  m_law : mg "law" = some (.ref f_law)
  b_law : Binds K fd_law ["_law_script"] []
theorem Tx.e_BOUND {w : World} {K : PySem.W.Frag} {mg : Str → Option Value} (T : Tx w K mg) {X : Cx} {p : Pos} (hK : X.K = K) (hm : X.mg = mg) (hg : Gl X "BOUND") : DE X (.Name "BOUND" p) (mC c_BOUND) := by
  subst hK hm
  obtain ⟨u, h1, h2⟩ := T.g_BOUND
  exact de_cst (pe_glob hg h1 h2) fun β G => is_int.mpr rfl
theorem Tx.e_MOST_LETTERS {w : World} {K : PySem.W.Frag} {mg : Str → Option Value} (T : Tx w K mg) {X : Cx} {p : Pos} (hK : X.K = K) (hm : X.mg = mg) (hg : Gl X "MOST_LETTERS") : DE X (.Name "MOST_LETTERS" p) (mC c_MOST_LETTERS) := by
  subst hK hm
  obtain ⟨u, h1, h2⟩ := T.g_MOST_LETTERS
  exact de_cst (pe_glob hg h1 h2) fun β G => is_int.mpr rfl
theorem Tx.e_RESERVED {w : World} {K : PySem.W.Frag} {mg : Str → Option Value} (T : Tx w K mg) {X : Cx} {p : Pos} (hK : X.K = K) (hm : X.mg = mg) (hg : Gl X "RESERVED") : DE X (.Name "RESERVED" p) (mC c_RESERVED) := by
  subst hK hm
  exact de_cst (pe_glob (v := .ref T.a_RESERVED) hg T.g_RESERVED rfl) fun β G => is_tup.mpr ⟨T.a_RESERVED, _, rfl, T.q_RESERVED G, (isl_cons.mpr ⟨_, _, rfl, is_str.mpr rfl, (isl_cons.mpr ⟨_, _, rfl, is_str.mpr rfl, (isl_cons.mpr ⟨_, _, rfl, is_str.mpr rfl, (isl_cons.mpr ⟨_, _, rfl, is_str.mpr rfl, (isl_cons.mpr ⟨_, _, rfl, is_str.mpr rfl, (isl_cons.mpr ⟨_, _, rfl, is_str.mpr rfl, (isl_cons.mpr ⟨_, _, rfl, is_str.mpr rfl, (isl_cons.mpr ⟨_, _, rfl, is_str.mpr rfl, (isl_cons.mpr ⟨_, _, rfl, is_str.mpr rfl, (isl_cons.mpr ⟨_, _, rfl, is_str.mpr rfl, (isl_nil.mpr rfl)⟩)⟩)⟩)⟩)⟩)⟩)⟩)⟩)⟩)⟩)⟩
theorem Tx.e_DEEPEST {w : World} {K : PySem.W.Frag} {mg : Str → Option Value} (T : Tx w K mg) {X : Cx} {p : Pos} (hK : X.K = K) (hm : X.mg = mg) (hg : Gl X "DEEPEST") : DE X (.Name "DEEPEST" p) (mC c_DEEPEST) := by
  subst hK hm
  obtain ⟨u, h1, h2⟩ := T.g_DEEPEST
  exact de_cst (pe_glob hg h1 h2) fun β G => is_int.mpr rfl
section
variable {P : Program} {w : World} {K : PySem.W.Frag} {mg : Str → Option Value} {base : Heap}
theorem kb_values_in_condition (T : Tx w K mg) : KBinds K T.fd_values_in ["condition"] ["condition"] (kwG [0]) (kwG [0]) := kb_of T.F_values_in (by decide) (fun _ _ _ _ _ _ ws hl => match ws, hl with | _ :: _, _ => rfl | [], hl => (by cases hl))
omit [DL.Me] in
def F_is_name : FD := fnD N_is_name.length (kSeq (kIf (mOrB (mNotB (mB (mIsi isStr (mVar 0)))) (mB (m2 gIn (mVar 0) (mC c_RESERVED)))) (kRet (mC (.bl false))) kSkip)
    (kRet (mAndV (mChain oLe oLe (mC (.int 1)) (mCall gLen (mCons (mVar 0) mNil)) (mC c_MOST_LETTERS)) (mCall gAll (mCons (mComp [1] (wStr (mVar 0)) (hName 1) mYes (mChain oLe oLe (mC (.str "a")) (mVar 1) (mC (.str "z")))) mNil)))))
theorem ok_is_name (T : Tx w K mg) : FnOk P w K mg base CX0 1 T.f_is_name T.fd_is_name ["value"] (spD K 1 F_is_name) :=
  fn_ok T.F_is_name sc_is_name rfl fun cdv A outer s H E hr => (
    (dss_cons (ds_if (DW.dt (dw_or (dt_not (dt_val (de_isi kit_str (by rfl) T.n_isinstance (by decide +kernel) (de_var 0 (pv 0)) (by rfl) T.n_str (by decide +kernel)))) (dw_or1 (dt_cmp (op_in_str.or op_in_seq) r2_in (de_var 0 (pv 0)) (T.e_RESERVED rfl rfl (by rfl)) (by rfl))))) (dss_one (ds_ret de_bl)) dss_nil) (dss_one (ds_ret (de_and (de_chain (op_le.or op_le_str) r2_le (op_le.or op_le_str) r2_le de_int (de_callB call_len ok_len (by rfl) T.n_len (by decide +kernel) (da_cons (de_var 0 (pv 0)) da_nil)) (T.e_MOST_LETTERS rfl rfl (by rfl))) (de_one (de_callB (cr_all rfl) ok_all (by rfl) T.n_all (by decide +kernel) (da_cons (de_comp (own := [("letter", 1)]) rfl sc_is_name.nd (di_str (de_var 0 (pv 0))) (blkOk_by (own := [("letter", 1)]) (N := N_is_name) (sc := defScope s_is_name) (by decide +kernel)) (fun _ _ _ _ _ => (dg_name (i := 1) sc_is_name.nd rfl (by first | exact .inl rfl | exact .inr rfl))) (fun _ _ _ _ _ => dts_nil) (fun _ _ _ _ _ => (de_chain (op_le.or op_le_str) r2_le (op_le.or op_le_str) r2_le de_str (de_var 1 (pv 1)) de_str)) (by decide)) da_nil))))))))
omit [DL.Me] in
def F_is_column : FD := fnD N_is_column.length (kRet (mOrV (m2 gEq (mVar 0) (mC (.str "key"))) (mApp F_is_name (mCons (mVar 0) mNil))))
theorem ok_is_column (T : Tx w K mg) : FnOk P w K mg base CX0 2 T.f_is_column T.fd_is_column ["value"] (spD K 1 F_is_column) :=
  fn_ok T.F_is_column sc_is_column rfl fun cdv A outer s H E hr => (
    (dss_one (ds_ret (de_or (de_cmp (op_eqD hr.units) r2_eq (de_var 0 (pv 0)) de_str (nomark _)) (de_one (de_call (ok_is_name T) (hr.mono (by first | decide | omega)) (by rfl) T.m_is_name T.F_is_name.kp T.b_is_name (da_cons (de_var 0 (pv 0)) da_nil) (len_cons len_nil)))))))
omit [DL.Me] in
def F_is_whole : FD := fnD N_is_whole.length (kRet (mAndV (mIsi isInt (mVar 0)) (mNotV (mIsi isBl (mVar 0)))))
theorem ok_is_whole (T : Tx w K mg) : FnOk P w K mg base CX0 1 T.f_is_whole T.fd_is_whole ["value"] (spD K 1 F_is_whole) :=
  fn_ok T.F_is_whole sc_is_whole rfl fun cdv A outer s H E hr => (
    (dss_one (ds_ret (de_and (de_isi kit_int (by rfl) T.n_isinstance (by decide +kernel) (de_var 0 (pv 0)) (by rfl) T.n_int (by decide +kernel)) (de_one (de_not (de_isi kit_bl (by rfl) T.n_isinstance (by decide +kernel) (de_var 0 (pv 0)) (by rfl) T.n_bool (by decide +kernel))))))))
omit [DL.Me] in
def F_is_bounded : FD := fnD N_is_bounded.length (kRet (mAndV (mApp F_is_whole (mCons (mVar 0) mNil)) (mChain oLe oLe (mNeg (mC c_BOUND)) (mVar 0) (mC c_BOUND))))
theorem ok_is_bounded (T : Tx w K mg) : FnOk P w K mg base CX0 2 T.f_is_bounded T.fd_is_bounded ["value"] (spD K 1 F_is_bounded) :=
  fn_ok T.F_is_bounded sc_is_bounded rfl fun cdv A outer s H E hr => (
    (dss_one (ds_ret (de_and (de_call (ok_is_whole T) (hr.mono (by first | decide | omega)) (by rfl) T.m_is_whole T.F_is_whole.kp T.b_is_whole (da_cons (de_var 0 (pv 0)) da_nil) (len_cons len_nil)) (de_one (de_chain (op_le.or op_le_str) r2_le (op_le.or op_le_str) r2_le (de_neg (T.e_BOUND rfl rfl (by rfl))) (de_var 0 (pv 0)) (T.e_BOUND rfl rfl (by rfl))))))))
omit [DL.Me] in
def F_is_single_ : FD := fnD N_is_single_.length (kSeq (kIf (mNotB (mB (mIsi isTup (mVar 0)))) (kRet (mC (.bl false))) kSkip)
    (kSeq (kIf (mB (m2 gEq (mCall gLen (mCons (mVar 0) mNil)) (mC (.int 3)))) (kRet (mAndV (m2 gEq (m2 gIx (mVar 0) (mC (.int 0))) (mC (.str "field"))) (mAndV (mApp F_is_name (mCons (m2 gIx (mVar 0) (mC (.int 1))) mNil)) (mApp F_is_column (mCons (m2 gIx (mVar 0) (mC (.int 2))) mNil))))) kSkip)
    (kSeq (kIf (mB (m2 gNe (mCall gLen (mCons (mVar 0) mNil)) (mC (.int 2)))) (kRet (mC (.bl false))) kSkip)
    (kSeq (kAsg (mVar 0) (hTup 2 (hCons (hName 1) (hCons (hName 2) hNil))))
    (kSeq (kIf (mB (m2 gEq (mVar 1) (mC (.str "number")))) (kRet (mApp F_is_bounded (mCons (mVar 2) mNil))) kSkip)
    (kSeq (kIf (mB (m2 gEq (mVar 1) (mC (.str "name")))) (kRet (mApp F_is_name (mCons (mVar 2) mNil))) kSkip)
    (kRet (mAndV (m2 gIn (mVar 1) (mTup (mCons (mC (.str "own")) (mCons (mC (.str "next")) mNil)))) (mApp F_is_column (mCons (mVar 2) mNil))))))))))
theorem ok_is_single_ (T : Tx w K mg) : FnOk P w K mg base CX0 3 T.f_is_single_ T.fd_is_single_ ["value"] (spD K 1 F_is_single_) :=
  fn_ok T.F_is_single_ sc_is_single_ rfl fun cdv A outer s H E hr => (
    (dss_cons (ds_if (dt_not (dt_val (de_isi kit_tup (by rfl) T.n_isinstance (by decide +kernel) (de_var 0 (pv 0)) (by rfl) T.n_tuple (by decide +kernel)))) (dss_one (ds_ret de_bl)) dss_nil) (dss_cons (ds_if (dt_cmp (op_eqD hr.units) r2_eq (de_callB call_len ok_len (by rfl) T.n_len (by decide +kernel) (da_cons (de_var 0 (pv 0)) da_nil)) de_int (nomark _)) (dss_one (ds_ret (de_and (de_cmp (op_eqD hr.units) r2_eq (de_ix (de_var 0 (pv 0)) de_int) de_str (nomark _)) (de_and (de_call (ok_is_name T) (hr.mono (by first | decide | omega)) (by rfl) T.m_is_name T.F_is_name.kp T.b_is_name (da_cons (de_ix (de_var 0 (pv 0)) de_int) da_nil) (len_cons len_nil)) (de_one (de_call (ok_is_column T) (hr.mono (by first | decide | omega)) (by rfl) T.m_is_column T.F_is_column.kp T.b_is_column (da_cons (de_ix (de_var 0 (pv 0)) de_int) da_nil) (len_cons len_nil))))))) dss_nil) (dss_cons (ds_if (dt_cmp (op_neD hr.units) r2_ne (de_callB call_len ok_len (by rfl) T.n_len (by decide +kernel) (da_cons (de_var 0 (pv 0)) da_nil)) de_int (nomark _)) (dss_one (ds_ret de_bl)) dss_nil) (dss_cons (ds_asg (de_var 0 (pv 0)) (dg_tup rfl (dgs_cons (dg_name (i := 1) sc_is_single_.nd rfl (by first | exact .inl rfl | exact .inr rfl)) (dgs_cons (dg_name (i := 2) sc_is_single_.nd rfl (by first | exact .inl rfl | exact .inr rfl)) dgs_nil)))) (dss_cons (ds_if (dt_cmp (op_eqD hr.units) r2_eq (de_var 1 (pv 1)) de_str (nomark _)) (dss_one (ds_ret (de_call (ok_is_bounded T) (hr.mono (by first | decide | omega)) (by rfl) T.m_is_bounded T.F_is_bounded.kp T.b_is_bounded (da_cons (de_var 2 (pv 2)) da_nil) (len_cons len_nil)))) dss_nil) (dss_cons (ds_if (dt_cmp (op_eqD hr.units) r2_eq (de_var 1 (pv 1)) de_str (nomark _)) (dss_one (ds_ret (de_call (ok_is_name T) (hr.mono (by first | decide | omega)) (by rfl) T.m_is_name T.F_is_name.kp T.b_is_name (da_cons (de_var 2 (pv 2)) da_nil) (len_cons len_nil)))) dss_nil) (dss_one (ds_ret (de_and (de_cmp (op_in_str.or op_in_seq) r2_in (de_var 1 (pv 1)) (de_tup (da_cons de_str (da_cons de_str da_nil))) (by rfl)) (de_one (de_call (ok_is_column T) (hr.mono (by first | decide | omega)) (by rfl) T.m_is_column T.F_is_column.kp T.b_is_column (da_cons (de_var 2 (pv 2)) da_nil) (len_cons len_nil)))))))))))))
omit [DL.Me] in
def F_is_value : FD := fnD N_is_value.length (kSeq (kIf (mAndB (mB (mIsi isTup (mVar 0))) (mAndB (mB (m2 gEq (mCall gLen (mCons (mVar 0) mNil)) (mC (.int 3)))) (mB (m2 gEq (m2 gIx (mVar 0) (mC (.int 0))) (mC (.str "plus")))))) (kRet (mAndV (mApp F_is_single_ (mCons (m2 gIx (mVar 0) (mC (.int 1))) mNil)) (mApp F_is_bounded (mCons (m2 gIx (mVar 0) (mC (.int 2))) mNil)))) kSkip)
    (kRet (mApp F_is_single_ (mCons (mVar 0) mNil))))
theorem ok_is_value (T : Tx w K mg) : FnOk P w K mg base CX0 4 T.f_is_value T.fd_is_value ["value"] (spD K 1 F_is_value) :=
  fn_ok T.F_is_value sc_is_value rfl fun cdv A outer s H E hr => (
    (dss_cons (ds_if (DW.dt (dw_and (dt_val (de_isi kit_tup (by rfl) T.n_isinstance (by decide +kernel) (de_var 0 (pv 0)) (by rfl) T.n_tuple (by decide +kernel))) (dw_and (dt_cmp (op_eqD hr.units) r2_eq (de_callB call_len ok_len (by rfl) T.n_len (by decide +kernel) (da_cons (de_var 0 (pv 0)) da_nil)) de_int (nomark _)) (dw_and1 (dt_cmp (op_eqD hr.units) r2_eq (de_ix (de_var 0 (pv 0)) de_int) de_str (nomark _)))))) (dss_one (ds_ret (de_and (de_call (ok_is_single_ T) (hr.mono (by first | decide | omega)) (by rfl) T.m_is_single_ T.F_is_single_.kp T.b_is_single_ (da_cons (de_ix (de_var 0 (pv 0)) de_int) da_nil) (len_cons len_nil)) (de_one (de_call (ok_is_bounded T) (hr.mono (by first | decide | omega)) (by rfl) T.m_is_bounded T.F_is_bounded.kp T.b_is_bounded (da_cons (de_ix (de_var 0 (pv 0)) de_int) da_nil) (len_cons len_nil)))))) dss_nil) (dss_one (ds_ret (de_call (ok_is_single_ T) (hr.mono (by first | decide | omega)) (by rfl) T.m_is_single_ T.F_is_single_.kp T.b_is_single_ (da_cons (de_var 0 (pv 0)) da_nil) (len_cons len_nil))))))
omit [DL.Me] in
def F_is_condition_itself_ : FD := fnD N_is_condition_itself_.length (kSeq (kIf (mOrB (mNotB (mB (mIsi isTup (mVar 0)))) (mB (m2 gNin (mCall gLen (mCons (mVar 0) mNil)) (mTup (mCons (mC (.int 1)) (mCons (mC (.int 2)) (mCons (mC (.int 3)) mNil))))))) (kRet (mC (.bl false))) kSkip)
    (kSeq (kAsg (m2 gIx (mVar 0) (mC (.int 0))) (hName 1))
    (kSeq (kIf (mB (m2 gEq (mCall gLen (mCons (mVar 0) mNil)) (mC (.int 1)))) (kRet (m2 gEq (mVar 1) (mC (.str "true")))) kSkip)
    (kSeq (kIf (mB (m2 gEq (mCall gLen (mCons (mVar 0) mNil)) (mC (.int 2)))) (kRet (mOrV (m2 gEq (mVar 1) (mC (.str "not"))) (mAndV (m2 gEq (mVar 1) (mC (.str "found"))) (mApp F_is_name (mCons (m2 gIx (mVar 0) (mC (.int 1))) mNil))))) kSkip)
    (kSeq (kIf (mAndB (mB (mIsi isStr (mVar 1))) (mB (mKIn t_SIGNS (mVar 1)))) (kRet (mAndV (mApp F_is_value (mCons (m2 gIx (mVar 0) (mC (.int 1))) mNil)) (mApp F_is_value (mCons (m2 gIx (mVar 0) (mC (.int 2))) mNil)))) kSkip)
    (kRet (m2 gIn (mVar 1) (mTup (mCons (mC (.str "and")) (mCons (mC (.str "or")) mNil))))))))))
theorem ok_is_condition_itself_ (T : Tx w K mg) : FnOk P w K mg base CX0 5 T.f_is_condition_itself_ T.fd_is_condition_itself_ ["part"] (spD K 1 F_is_condition_itself_) :=
  fn_ok T.F_is_condition_itself_ sc_is_condition_itself_ rfl fun cdv A outer s H E hr => (
    (dss_cons (ds_if (DW.dt (dw_or (dt_not (dt_val (de_isi kit_tup (by rfl) T.n_isinstance (by decide +kernel) (de_var 0 (pv 0)) (by rfl) T.n_tuple (by decide +kernel)))) (dw_or1 (dt_cmp (op_notin_str.or op_notIn_seq) r2_nin (de_callB call_len ok_len (by rfl) T.n_len (by decide +kernel) (da_cons (de_var 0 (pv 0)) da_nil)) (de_tup (da_cons de_int (da_cons de_int (da_cons de_int da_nil)))) (by rfl))))) (dss_one (ds_ret de_bl)) dss_nil) (dss_cons (ds_set (i := 1) sc_is_condition_itself_.nd rfl (by first | exact .inl rfl | exact .inr rfl) (de_ix (de_var 0 (pv 0)) de_int)) (dss_cons (ds_if (dt_cmp (op_eqD hr.units) r2_eq (de_callB call_len ok_len (by rfl) T.n_len (by decide +kernel) (da_cons (de_var 0 (pv 0)) da_nil)) de_int (nomark _)) (dss_one (ds_ret (de_cmp (op_eqD hr.units) r2_eq (de_var 1 (pv 1)) de_str (nomark _)))) dss_nil) (dss_cons (ds_if (dt_cmp (op_eqD hr.units) r2_eq (de_callB call_len ok_len (by rfl) T.n_len (by decide +kernel) (da_cons (de_var 0 (pv 0)) da_nil)) de_int (nomark _)) (dss_one (ds_ret (de_or (de_cmp (op_eqD hr.units) r2_eq (de_var 1 (pv 1)) de_str (nomark _)) (de_one (de_and (de_cmp (op_eqD hr.units) r2_eq (de_var 1 (pv 1)) de_str (nomark _)) (de_one (de_call (ok_is_name T) (hr.mono (by first | decide | omega)) (by rfl) T.m_is_name T.F_is_name.kp T.b_is_name (da_cons (de_ix (de_var 0 (pv 0)) de_int) da_nil) (len_cons len_nil)))))))) dss_nil) (dss_cons (ds_if (DW.dt (dw_and (dt_val (de_isi kit_str (by rfl) T.n_isinstance (by decide +kernel) (de_var 1 (pv 1)) (by rfl) T.n_str (by decide +kernel))) (dw_and1 (dt_kin T.k_SIGNS (by rfl) T.g_SIGNS (de_var 1 (pv 1)))))) (dss_one (ds_ret (de_and (de_call (ok_is_value T) (hr.mono (by first | decide | omega)) (by rfl) T.m_is_value T.F_is_value.kp T.b_is_value (da_cons (de_ix (de_var 0 (pv 0)) de_int) da_nil) (len_cons len_nil)) (de_one (de_call (ok_is_value T) (hr.mono (by first | decide | omega)) (by rfl) T.m_is_value T.F_is_value.kp T.b_is_value (da_cons (de_ix (de_var 0 (pv 0)) de_int) da_nil) (len_cons len_nil)))))) dss_nil) (dss_one (ds_ret (de_cmp (op_in_str.or op_in_seq) r2_in (de_var 1 (pv 1)) (de_tup (da_cons de_str (da_cons de_str da_nil))) (by rfl))))))))))
omit [DL.Me] in
def F_places_ : FD := fnD N_places_.length (kSeq (kIf (mB (m2 gIn (m2 gIx (mVar 0) (mC (.int 0))) (mTup (mCons (mC (.str "not")) (mCons (mC (.str "and")) (mCons (mC (.str "or")) mNil)))))) (kRet (m2 gRgL (mC (.int 1)) (mCall gLen (mCons (mVar 0) mNil)))) kSkip)
    (kRet (mLst mNil)))
theorem ok_places_ (T : Tx w K mg) : FnOk P w K mg base CX0 1 T.f_places_ T.fd_places_ ["part"] (spD K 1 F_places_) :=
  fn_ok T.F_places_ sc_places_ rfl fun cdv A outer s H E hr => (
    (dss_cons (ds_if (dt_cmp (op_in_str.or op_in_seq) r2_in (de_ix (de_var 0 (pv 0)) de_int) (de_tup (da_cons de_str (da_cons de_str (da_cons de_str da_nil)))) (by rfl)) (dss_one (ds_ret (de_listRg rfl (by rfl) T.n_list (by rfl) T.n_range de_int (de_callB call_len ok_len (by rfl) T.n_len (by decide +kernel) (da_cons (de_var 0 (pv 0)) da_nil))))) dss_nil) (dss_one (ds_ret (de_lst da_nil)))))
omit [DL.Me] in
def F_checked_parts_ : FD := fnD N_checked_parts_.length (kSeq (kOwn 1 mNil)
    (kSeq (kOwn 2 (mCons (mTup (mCons (mTup mNil) (mCons (mVar 0) mNil))) mNil))
    (kSeq (whileD (mTruOwn 2) (kSeq (kAsg (mPop 2) (hTup 2 (hCons (hName 3) (hCons (hName 4) hNil))))
    (kSeq (kIf (mOrB (mB (m2 oGe (mCall gLen (mCons (mVar 3) mNil)) (mC c_DEEPEST))) (mNotB (mB (mApp F_is_condition_itself_ (mCons (mVar 4) mNil))))) (fun _ => none) kSkip)
    (kSeq (kDrop (mAppend 1 (mTup (mCons (mVar 3) (mCons (mVar 4) mNil)))))
    (kDrop (mExtend 2 (mComp [5] (wRev (mApp F_places_ (mCons (mVar 4) mNil))) (hName 5) mYes (mTup (mCons (mTup (mStar (mVar 3) (mCons (mVar 5) mNil))) (mCons (m2 gIx (mVar 4) (mVar 5)) mNil))))))))) 200)
    (kRet (mMove 1)))))
theorem ok_checked_parts_ (T : Tx w K mg) : FnOk P w K mg base CX0 6 T.f_checked_parts_ T.fd_checked_parts_ ["condition"] (spD K 1 F_checked_parts_) :=
  fn_ok T.F_checked_parts_ sc_checked_parts_ rfl fun cdv A outer s H E hr => (
    (dss_cons (ds_own (i := 1) sc_checked_parts_.nd rfl (by first | exact .inl rfl | exact .inr rfl) da_nil) (dss_cons (ds_own (i := 2) sc_checked_parts_.nd rfl (by first | exact .inl rfl | exact .inr rfl) (da_cons (de_tup (da_cons (de_tup da_nil) (da_cons (de_var 0 (pv 0)) da_nil))) da_nil)) (dss_cons (ds_while 200 PassesOwn.never (dt_own 2 (pv 2)) (dss_cons (ds_asg (de_pop 2 (pv 2)) (dg_tup rfl (dgs_cons (dg_name (i := 3) sc_checked_parts_.nd rfl (by first | exact .inl rfl | exact .inr rfl)) (dgs_cons (dg_name (i := 4) sc_checked_parts_.nd rfl (by first | exact .inl rfl | exact .inr rfl)) dgs_nil)))) (dss_cons (ds_if (DW.dt (dw_or (dt_cmp (op_ge.or op_ge_str) r2_ge (de_callB call_len ok_len (by rfl) T.n_len (by decide +kernel) (da_cons (de_var 3 (pv 3)) da_nil)) (T.e_DEEPEST rfl rfl (by rfl)) (nomark _)) (dw_or1 (dt_not (dt_val (de_call (ok_is_condition_itself_ T) (hr.mono (by first | decide | omega)) (by rfl) T.m_is_condition_itself_ T.F_is_condition_itself_.kp T.b_is_condition_itself_ (da_cons (de_var 4 (pv 4)) da_nil) (len_cons len_nil))))))) (dss_one ds_never) dss_nil) (dss_cons (ds_expr (de_append 1 (pv 1) (de_tup (da_cons (de_var 3 (pv 3)) (da_cons (de_var 4 (pv 4)) da_nil))) (by show Kp _ _; repeat' first | exact kp_var | exact kp_c | exact kp_nil | apply kp_cons | apply kp_tup | apply kp_app | apply kp_rev | apply kp_wlst | apply kp_comp | apply kp_ix))) (dss_one (ds_expr (de_extend 2 (pv 2) (de_comp (own := [("at", 5)]) rfl sc_checked_parts_.nd (di_rev (by rfl) T.n_reversed (de_call (ok_places_ T) (hr.mono (by first | decide | omega)) (by rfl) T.m_places_ T.F_places_.kp T.b_places_ (da_cons (de_var 4 (pv 4)) da_nil) (len_cons len_nil))) (blkOk_by (own := [("at", 5)]) (N := N_checked_parts_) (sc := defScope s_checked_parts_) (by decide +kernel)) (fun _ _ _ _ _ => (dg_name (i := 5) sc_checked_parts_.nd rfl (by first | exact .inl rfl | exact .inr rfl))) (fun _ _ _ _ _ => dts_nil) (fun _ _ _ _ _ => (de_tup (da_cons (de_tup (da_star (de_var 3 (pv 3)) (da_cons (de_var 5 (pv 5)) da_nil))) (da_cons (de_ix (de_var 4 (pv 4)) (de_var 5 (pv 5))) da_nil)))) (by decide)) (by show Kp _ _; repeat' first | exact kp_var | exact kp_c | exact kp_nil | apply kp_cons | apply kp_tup | apply kp_app | apply kp_rev | apply kp_wlst | apply kp_comp | apply kp_ix)))))))) (dss_one (ds_ret (de_move 1 (pv 1))))))))
omit [DL.Me] in
def FG_parts : FG := fnG N_parts.length (mGenFor (wLst (mApp F_checked_parts_ (mCons (mVar 0) mNil))) (hName 1) (mVar 1))
theorem okG_parts (T : Tx w K mg) : GZ.GFnZ P w K mg base 7 T.f_parts T.fd_parts ["condition"] (DL.spG K 1 FG_parts) :=
  gfn_ok T.F_parts sc_parts rfl rfl fun cdv A outer s H E pn hr => ⟨⟨(di_list (de_call (ok_checked_parts_ T) (hr.mono (by first | decide | omega)) (by rfl) T.m_checked_parts_ T.F_checked_parts_.kp T.b_checked_parts_ (da_cons (de_var 0 (pv 0)) da_nil) (len_cons len_nil))), (dg_name (i := 1) sc_parts.nd rfl (by first | exact .inl rfl | exact .inr rfl)), (de_var 1 (pv 1))⟩, rfl, rfl, rfl, fun _ => rfl⟩
omit [DL.Me] in
def F_values_in : FD := fnD N_values_in.length (kRet (mComp2 [2, 3, 1] [1] (wLst (mApp F_checked_parts_ (mCons (mVar 0) mNil))) (hTup 2 (hCons (hName 2) (hCons (hName 3) hNil))) (mB (mKIn t_SIGNS (m2 gIx (mVar 3) (mC (.int 0))))) (wTup (mSl (mVar 3) (mPart (mC (.int 1))) mNoP)) (hName 1) mYes (mVar 1)))
theorem okF_values_in (T : Tx w K mg) : FnOk P w K mg base CX0 7 T.f_values_in T.fd_values_in ["condition"] (spF K 1 F_values_in) :=
  fn_okF T.F_values_in sc_values_in rfl rfl fun cdv A outer s H E hr => (
    (def_comp2 (own := [("_", 2), ("part", 3), ("value", 1)]) (vs1 := [1]) rfl sc_values_in.nd (di_list (de_call (ok_checked_parts_ T) (hr.mono (by first | decide | omega)) (by rfl) T.m_checked_parts_ T.F_checked_parts_.kp T.b_checked_parts_ (da_cons (de_var 0 (pv 0)) da_nil) (len_cons len_nil))) (blkOk_by (own := [("_", 2), ("part", 3), ("value", 1)]) (N := N_values_in) (sc := defScope s_values_in) (by decide +kernel)) (by decide) (fun _ _ _ _ _ => ⟨(dg_tup rfl (dgs_cons (dg_name (i := 2) sc_values_in.nd rfl (by first | exact .inl rfl | exact .inr rfl)) (dgs_cons (dg_name (i := 3) sc_values_in.nd rfl (by first | exact .inl rfl | exact .inr rfl)) dgs_nil))), (dts_one (dt_kin T.k_SIGNS (by rfl) T.g_SIGNS (de_ix (de_var 3 (pv 3)) de_int))), DI.pi (di_tup (de_sl (de_var 3 (pv 3)) (do_some de_int) do_none)), (dg_name (i := 1) sc_values_in.nd rfl (by first | exact .inl rfl | exact .inr rfl)), dts_nil, (de_var 1 (pv 1))⟩) (by decide) (by decide)))
theorem ok_values_in (T : Tx w K mg) : FnOk P w K mg base CX0 7 T.f_values_in T.fd_values_in ["condition"] (spD K 1 F_values_in) :=
  fn_ok T.F_values_in sc_values_in rfl fun cdv A outer s H E hr => (
    (dss_one (ds_ret (de_comp2 (own := [("_", 2), ("part", 3), ("value", 1)]) (vs1 := [1]) rfl sc_values_in.nd (di_list (de_call (ok_checked_parts_ T) (hr.mono (by first | decide | omega)) (by rfl) T.m_checked_parts_ T.F_checked_parts_.kp T.b_checked_parts_ (da_cons (de_var 0 (pv 0)) da_nil) (len_cons len_nil))) (blkOk_by (own := [("_", 2), ("part", 3), ("value", 1)]) (N := N_values_in) (sc := defScope s_values_in) (by decide +kernel)) (by decide) (fun _ _ _ _ _ => ⟨(dg_tup rfl (dgs_cons (dg_name (i := 2) sc_values_in.nd rfl (by first | exact .inl rfl | exact .inr rfl)) (dgs_cons (dg_name (i := 3) sc_values_in.nd rfl (by first | exact .inl rfl | exact .inr rfl)) dgs_nil))), (dts_one (dt_kin T.k_SIGNS (by rfl) T.g_SIGNS (de_ix (de_var 3 (pv 3)) de_int))), DI.pi (di_tup (de_sl (de_var 3 (pv 3)) (do_some de_int) do_none)), (dg_name (i := 1) sc_values_in.nd rfl (by first | exact .inl rfl | exact .inr rfl)), dts_nil, (de_var 1 (pv 1))⟩) (by decide) (by decide)))))
omit [DL.Me] in
def F_all_of : FD := fnD N_all_of.length (kSeq (kIf (mNotB (mTru (mVar 0))) (kRet (mTup (mCons (mC (.str "true")) mNil))) kSkip)
    (kSeq (kAsg (m2 gIx (mVar 0) (mNeg (mC (.int 1)))) (hName 1))
    (kSeq (kFor (wRev (mSl (mVar 0) mNoP (mPart (mNeg (mC (.int 1)))))) (hName 2) (kAsg (mTup (mCons (mC (.str "and")) (mCons (mVar 2) (mCons (mVar 1) mNil)))) (hName 1)))
    (kRet (mVar 1)))))
theorem ok_all_of (T : Tx w K mg) : FnR P w K mg base CX0 1 T.f_all_of (spSt K F_all_of) :=
  fn_okSt T.F_all_of sc_all_of T.b_all_of fun cdv A outer s H E hr => (
    (dss_cons (ds_if (dt_not (dt_tru (de_var 0 (pv 0)))) (dss_one (ds_ret (de_tup (da_cons de_str da_nil)))) dss_nil) (dss_cons (ds_set (i := 1) sc_all_of.nd rfl (by first | exact .inl rfl | exact .inr rfl) (de_ix (de_var 0 (pv 0)) (de_neg de_int))) (dss_cons (ds_for PassesOwn.never rfl (di_rev (by rfl) T.n_reversed (de_sl (de_var 0 (pv 0)) do_none (do_some (de_neg de_int)))) (dg_name (i := 2) sc_all_of.nd rfl (by first | exact .inl rfl | exact .inr rfl)) (dss_one (ds_set (i := 1) sc_all_of.nd rfl (by first | exact .inl rfl | exact .inr rfl) (de_tup (da_cons de_str (da_cons (de_var 2 (pv 2)) (da_cons (de_var 1 (pv 1)) da_nil))))))) (dss_one (ds_ret (de_var 1 (pv 1))))))))
--@HAND _law_draws (level None)
omit [DL.Me] in
def F_Lpull : FD := fnD N_Lpull.length (kSeq (kAsg (m2 gAdd (mBagIx (mVar 0) (mC (.int 4))) (mC (.int 1))) (hBag (mVar 0) (mC (.int 4))))
    (kSeq (kIf (mAndB (mB (m2 gEq (mBagIx (mVar 0) (mC (.int 2))) (mC (.int 0)))) (mB (m2 oLt (mBagIx (mVar 0) (mC (.int 1))) (mCall gLen (mCons (mBagIx (mVar 0) (mC (.int 0))) mNil))))) (kSeq (kAsg (mTup (mCons (m2 gIx (mBagIx (mVar 0) (mC (.int 0))) (mBagIx (mVar 0) (mC (.int 1)))) (mCons (m2 gAdd (mBagIx (mVar 0) (mC (.int 1))) (mC (.int 1))) mNil))) (hTup 2 (hCons (hName 3) (hCons (hBag (mVar 0) (mC (.int 1))) hNil))))
    (kSeq (kIf (mB (m2 oGe (mVar 3) (m2 gPow (mC (.int 10)) (mC (.int 18))))) (kAsg (mVar 3) (hBag (mVar 0) (mC (.int 2)))) kSkip)
    (kAsg (m2 gMod (mCall gInt1 (mCons (m2 gAdd (m2 gAdd (m2 gMul (mBagIx (mVar 0) (mC (.int 3))) (mC (.int 38377))) (m2 gMul (m2 gMod (mCall gInt1 (mCons (mVar 3) mNil)) (mC (.int 2147483489))) (mC (.int 41143)))) (mC (.int 61))) mNil)) (mC (.int 2147483549))) (hBag (mVar 0) (mC (.int 3)))))) kSkip)
    (kSeq (kIf (mB (m2 oGt (mBagIx (mVar 0) (mC (.int 2))) (mC (.int 0)))) (kSeq (kAsg (mTup (mCons (m2 gMod (mCall gInt1 (mCons (mBagIx (mVar 0) (mC (.int 2))) mNil)) (mVar 1)) (mCons (m2 gDiv (mBagIx (mVar 0) (mC (.int 2))) (mVar 1)) mNil))) (hTup 2 (hCons (hName 4) (hCons (hBag (mVar 0) (mC (.int 2))) hNil))))
    (kRet (mVar 4))) kSkip)
    (kSeq (kAsg (mBagIx (mVar 0) (mC (.int 3))) (hName 2))
    (kSeq (kAsg (m2 gMod (mCall gInt1 (mCons (m2 gAdd (m2 gAdd (m2 gAdd (m2 gPow (mVar 2) (mC (.int 3))) (m2 gMul (mVar 2) (mC (.int 37813)))) (m2 gMul (mBagIx (mVar 0) (mC (.int 4))) (mC (.int 1299689)))) (mC (.int 65437))) mNil)) (mC (.int 2147483549))) (hBag (mVar 0) (mC (.int 3))))
    (kRet (m2 gMod (mCall gInt1 (mCons (m2 gAdd (m2 gDiv (mBagIx (mVar 0) (mC (.int 3))) (mC (.int 89))) (m2 gMul (m2 gMod (mCall gInt1 (mCons (mBagIx (mVar 0) (mC (.int 3))) mNil)) (mC (.int 7919))) (mC (.int 71)))) mNil)) (mVar 1))))))))
theorem ok_Lpull (T : Tx w K mg) : FnOk P w K mg base CX0 1 T.f_Lpull T.fd_Lpull ["_law_bag", "_law_sides"] (spD K 2 F_Lpull) :=
  fn_ok T.F_Lpull sc_Lpull rfl fun cdv A outer s H E hr => (
    (dss_cons (ds_asg (de_add (de_bagIx (de_var 0 (pv 0)) de_int) de_int) (dg_bag (de_var 0 (pv 0)) de_int)) (dss_cons (ds_if (DW.dt (dw_and (dt_cmp (op_eqD hr.units) r2_eq (de_bagIx (de_var 0 (pv 0)) de_int) de_int (nomark _)) (dw_and1 (dt_cmp (op_lt.or op_lt_str) r2_lt (de_bagIx (de_var 0 (pv 0)) de_int) (de_callB call_len ok_len (by rfl) T.n_len (by decide +kernel) (da_cons (de_bagIx (de_var 0 (pv 0)) de_int) da_nil)) (nomark _))))) (dss_cons (ds_asg (de_tup (da_cons (de_ix (de_bagIx (de_var 0 (pv 0)) de_int) (de_bagIx (de_var 0 (pv 0)) de_int)) (da_cons (de_add (de_bagIx (de_var 0 (pv 0)) de_int) de_int) da_nil))) (dg_tup rfl (dgs_cons (dg_name (i := 3) sc_Lpull.nd rfl (by first | exact .inl rfl | exact .inr rfl)) (dgs_cons (dg_bag (de_var 0 (pv 0)) de_int) dgs_nil)))) (dss_cons (ds_if (dt_cmp (op_ge.or op_ge_str) r2_ge (de_var 3 (pv 3)) (de_pow de_int de_int) (nomark _)) (dss_one (ds_asg (de_var 3 (pv 3)) (dg_bag (de_var 0 (pv 0)) de_int))) dss_nil) (dss_one (ds_asg (de_mod (de_callT call_int1 ok_int1 (by rfl) T.n_int (by decide +kernel) (da_cons (de_add (de_add (de_mul (de_bagIx (de_var 0 (pv 0)) de_int) de_int) (de_mul (de_mod (de_callT call_int1 ok_int1 (by rfl) T.n_int (by decide +kernel) (da_cons (de_var 3 (pv 3)) da_nil)) de_int) de_int)) de_int) da_nil)) de_int) (dg_bag (de_var 0 (pv 0)) de_int))))) dss_nil) (dss_cons (ds_if (dt_cmp (op_gt.or op_gt_str) r2_gt (de_bagIx (de_var 0 (pv 0)) de_int) de_int (nomark _)) (dss_cons (ds_asg (de_tup (da_cons (de_mod (de_callT call_int1 ok_int1 (by rfl) T.n_int (by decide +kernel) (da_cons (de_bagIx (de_var 0 (pv 0)) de_int) da_nil)) (de_var 1 (pv 1))) (da_cons (de_fdiv (de_bagIx (de_var 0 (pv 0)) de_int) (de_var 1 (pv 1))) da_nil))) (dg_tup rfl (dgs_cons (dg_name (i := 4) sc_Lpull.nd rfl (by first | exact .inl rfl | exact .inr rfl)) (dgs_cons (dg_bag (de_var 0 (pv 0)) de_int) dgs_nil)))) (dss_one (ds_ret (de_var 4 (pv 4))))) dss_nil) (dss_cons (ds_set (i := 2) sc_Lpull.nd rfl (by first | exact .inl rfl | exact .inr rfl) (de_bagIx (de_var 0 (pv 0)) de_int)) (dss_cons (ds_asg (de_mod (de_callT call_int1 ok_int1 (by rfl) T.n_int (by decide +kernel) (da_cons (de_add (de_add (de_add (de_pow (de_var 2 (pv 2)) de_int) (de_mul (de_var 2 (pv 2)) de_int)) (de_mul (de_bagIx (de_var 0 (pv 0)) de_int) de_int)) de_int) da_nil)) de_int) (dg_bag (de_var 0 (pv 0)) de_int)) (dss_one (ds_ret (de_mod (de_callT call_int1 ok_int1 (by rfl) T.n_int (by decide +kernel) (da_cons (de_add (de_fdiv (de_bagIx (de_var 0 (pv 0)) de_int) de_int) (de_mul (de_mod (de_callT call_int1 ok_int1 (by rfl) T.n_int (by decide +kernel) (da_cons (de_bagIx (de_var 0 (pv 0)) de_int) da_nil)) de_int) de_int)) da_nil)) (de_var 1 (pv 1)))))))))))
omit [DL.Me] in
def F_Lany : FD := fnD N_Lany.length (kRet (m2 gIx (mVar 1) (mApp F_Lpull (mCons (mVar 0) (mCons (mCall gLen (mCons (mVar 1) mNil)) mNil)))))
theorem ok_Lany (T : Tx w K mg) : FnOk P w K mg base CX0 2 T.f_Lany T.fd_Lany ["_law_bag", "_law_rows"] (spD K 2 F_Lany) :=
  fn_ok T.F_Lany sc_Lany rfl fun cdv A outer s H E hr => (
    (dss_one (ds_ret (de_ix (de_var 1 (pv 1)) (de_call (ok_Lpull T) (hr.mono (by first | decide | omega)) (by rfl) T.m_Lpull T.F_Lpull.kp T.b_Lpull (da_cons (de_var 0 (pv 0)) (da_cons (de_callB call_len ok_len (by rfl) T.n_len (by decide +kernel) (da_cons (de_var 1 (pv 1)) da_nil)) da_nil)) (len_cons (len_cons len_nil)))))))
omit [DL.Me] in
def B_Llike (R : FD) : FD := fnD N_Llike.length (kSeq (kIf (mB (mIsi (fun d => isLst d || isTup d) (mVar 1))) (kSeq (kAsg (mAndV (m2 gEq (mIsi isLst (mVar 0)) (mIsi isLst (mVar 1))) (m2 gEq (mIsi isTup (mVar 0)) (mIsi isTup (mVar 1)))) (hName 2))
    (kRet (mAndV (mVar 2) (mAndV (m2 gEq (mCall gLen (mCons (mVar 0) mNil)) (mCall gLen (mCons (mVar 1) mNil))) (mCall gAll (mCons (mComp [3, 4] (wZip (mCons (mVar 0) (mCons (mVar 1) mNil))) (hTup 2 (hCons (hName 3) (hCons (hName 4) hNil))) mYes (mApp R (mCons (mVar 3) (mCons (mVar 4) mNil)))) mNil)))))) kSkip)
    (kSeq (kIf (mOrB (mB (m2 gIsN (mVar 0) (mC .non))) (mOrB (mB (m2 gIsN (mVar 1) (mC .non))) (mB (m2 gNe (mIsi isBl (mVar 0)) (mIsi isBl (mVar 1)))))) (kRet (mAndV (m2 gIsN (mVar 0) (mC .non)) (m2 gIsN (mVar 1) (mC .non)))) kSkip)
    (kRet (mAndV (m2 gEq (mIsi isInt (mVar 0)) (mIsi isInt (mVar 1))) (mAndV (m2 gEq (mIsi isStr (mVar 0)) (mIsi isStr (mVar 1))) (m2 gEq (mVar 0) (mVar 1)))))))
omit [DL.Me] in
def F_Llike : Nat → FD
  | 0 => fun _ _ => none
  | n + 1 => B_Llike (F_Llike n)
theorem step_Llike (T : Tx w K mg) {k : Nat} {R : FD} (hk : 0 ≤ k) (ih : FnOk P w K mg base CX0 k T.f_Llike T.fd_Llike ["_law_a", "_law_b"] (spD K 2 R)) : FnOk P w K mg base CX0 (k + 1) T.f_Llike T.fd_Llike ["_law_a", "_law_b"] (spD K 2 (B_Llike R)) :=
  fn_ok T.F_Llike sc_Llike rfl fun cdv A outer s H E hr => (
    (dss_cons (ds_if (dt_val (de_isi2 kit_lst kit_tup (by rfl) T.n_isinstance (by decide +kernel) (de_var 1 (pv 1)) (by rfl) T.n_list (by decide +kernel) (by rfl) T.n_tuple (by decide +kernel))) (dss_cons (ds_set (i := 2) sc_Llike.nd rfl (by first | exact .inl rfl | exact .inr rfl) (de_and (de_cmp (op_eqD hr.units) r2_eq (de_isi kit_lst (by rfl) T.n_isinstance (by decide +kernel) (de_var 0 (pv 0)) (by rfl) T.n_list (by decide +kernel)) (de_isi kit_lst (by rfl) T.n_isinstance (by decide +kernel) (de_var 1 (pv 1)) (by rfl) T.n_list (by decide +kernel)) (nomark _)) (de_one (de_cmp (op_eqD hr.units) r2_eq (de_isi kit_tup (by rfl) T.n_isinstance (by decide +kernel) (de_var 0 (pv 0)) (by rfl) T.n_tuple (by decide +kernel)) (de_isi kit_tup (by rfl) T.n_isinstance (by decide +kernel) (de_var 1 (pv 1)) (by rfl) T.n_tuple (by decide +kernel)) (nomark _))))) (dss_one (ds_ret (de_and (de_var 2 (pv 2)) (de_and (de_cmp (op_eqD hr.units) r2_eq (de_callB call_len ok_len (by rfl) T.n_len (by decide +kernel) (da_cons (de_var 0 (pv 0)) da_nil)) (de_callB call_len ok_len (by rfl) T.n_len (by decide +kernel) (da_cons (de_var 1 (pv 1)) da_nil)) (nomark _)) (de_one (de_callB (cr_all rfl) ok_all (by rfl) T.n_all (by decide +kernel) (da_cons (de_comp (own := [("_law_c", 3), ("_law_d", 4)]) rfl sc_Llike.nd (di_zip (by rfl) T.n_zip (da_cons (de_var 0 (pv 0)) (da_cons (de_var 1 (pv 1)) da_nil))) (blkOk_by (own := [("_law_c", 3), ("_law_d", 4)]) (N := N_Llike) (sc := defScope s_Llike) (by decide +kernel)) (fun _ _ _ _ _ => (dg_tup rfl (dgs_cons (dg_name (i := 3) sc_Llike.nd rfl (by first | exact .inl rfl | exact .inr rfl)) (dgs_cons (dg_name (i := 4) sc_Llike.nd rfl (by first | exact .inl rfl | exact .inr rfl)) dgs_nil)))) (fun _ _ _ _ _ => dts_nil) (fun _ _ _ _ _ => (de_call ih (hr.mono (by omega)) (by rfl) T.m_Llike T.F_Llike.kp T.b_Llike (da_cons (de_var 3 (pv 3)) (da_cons (de_var 4 (pv 4)) da_nil)) (len_cons (len_cons len_nil)))) (by decide)) da_nil)))))))) dss_nil) (dss_cons (ds_if (DW.dt (dw_or (dt_cmp op_isN r2_isN (de_var 0 (pv 0)) de_non (nomark _)) (dw_or (dt_cmp op_isN r2_isN (de_var 1 (pv 1)) de_non (nomark _)) (dw_or1 (dt_cmp (op_neD hr.units) r2_ne (de_isi kit_bl (by rfl) T.n_isinstance (by decide +kernel) (de_var 0 (pv 0)) (by rfl) T.n_bool (by decide +kernel)) (de_isi kit_bl (by rfl) T.n_isinstance (by decide +kernel) (de_var 1 (pv 1)) (by rfl) T.n_bool (by decide +kernel)) (nomark _)))))) (dss_one (ds_ret (de_and (de_cmp op_isN r2_isN (de_var 0 (pv 0)) de_non (nomark _)) (de_one (de_cmp op_isN r2_isN (de_var 1 (pv 1)) de_non (nomark _)))))) dss_nil) (dss_one (ds_ret (de_and (de_cmp (op_eqD hr.units) r2_eq (de_isi kit_int (by rfl) T.n_isinstance (by decide +kernel) (de_var 0 (pv 0)) (by rfl) T.n_int (by decide +kernel)) (de_isi kit_int (by rfl) T.n_isinstance (by decide +kernel) (de_var 1 (pv 1)) (by rfl) T.n_int (by decide +kernel)) (nomark _)) (de_and (de_cmp (op_eqD hr.units) r2_eq (de_isi kit_str (by rfl) T.n_isinstance (by decide +kernel) (de_var 0 (pv 0)) (by rfl) T.n_str (by decide +kernel)) (de_isi kit_str (by rfl) T.n_isinstance (by decide +kernel) (de_var 1 (pv 1)) (by rfl) T.n_str (by decide +kernel)) (nomark _)) (de_one (de_cmp (op_eqD hr.units) r2_eq (de_var 0 (pv 0)) (de_var 1 (pv 1)) (nomark _))))))))))
theorem ok_Llike (T : Tx w K mg) : ∀ n : Nat, FnOk P w K mg base CX0 (0 + n) T.f_Llike T.fd_Llike ["_law_a", "_law_b"] (spD K 2 (F_Llike n))
  | 0 => fn_none
  | n + 1 => step_Llike T (Nat.le_add_right _ _) (ok_Llike T n)
omit [DL.Me] in
def F_Lreserved : FD := fnD N_Lreserved.length (kRet (mLst (mCons (mC (.str "and")) (mCons (mC (.str "found")) (mCons (mC (.str "key")) (mCons (mC (.str "next")) (mCons (mC (.str "not")) (mCons (mC (.str "or")) (mCons (mC (.str "own")) (mCons (mC (.str "set")) (mCons (mC (.str "true")) (mCons (mC (.str "where")) mNil))))))))))))
theorem ok_Lreserved (T : Tx w K mg) : FnOk P w K mg base CX0 1 T.f_Lreserved T.fd_Lreserved [] (spD K 0 F_Lreserved) :=
  fn_ok T.F_Lreserved sc_Lreserved rfl fun cdv A outer s H E hr => (
    (dss_one (ds_ret (de_lst (da_cons de_str (da_cons de_str (da_cons de_str (da_cons de_str (da_cons de_str (da_cons de_str (da_cons de_str (da_cons de_str (da_cons de_str (da_cons de_str da_nil))))))))))))))
omit [DL.Me] in
def F_Lnew_names : FD := fnD N_Lnew_names.length (kSeq (kAsg (mC (.str "abcdefghijklmnopqrstuvwxyz")) (hName 2))
    (kSeq (kAsg (mM1 gJoin (mC (.str "")) (mComp [7] (wRng1 (mCons (mApp F_Lpull (mCons (mVar 0) (mCons (mC (.int 5)) mNil))) mNil)) (hName 7) mYes (mApp F_Lany (mCons (mVar 0) (mCons (mVar 2) mNil))))) (hName 3))
    (kSeq (kAsg (mTup (mCons (mApp F_Lpull (mCons (mVar 0) (mCons (m2 gAdd (mCall gLen (mCons (mVar 3) mNil)) (mC (.int 1))) mNil))) (mCons (mApp F_Lpull (mCons (mVar 0) (mCons (mC (.int 26)) mNil))) mNil))) (hTup 2 (hCons (hName 5) (hCons (hName 6) hNil))))
    (kSeq (kAsg (mComp [7] (wRng1 (mCons (mVar 1) mNil)) (hName 7) mYes (m2 gAdd (m2 gAdd (mSl (mVar 3) mNoP (mPart (mVar 5))) (m2 gIx (mVar 2) (m2 gSub0 (m2 gAdd (mVar 6) (mVar 7)) (mC (.int 26))))) (mSl (mVar 3) (mPart (mVar 5)) mNoP))) (hName 4))
    (kRet (mComp [8] (wLst (mVar 4)) (hName 8) mYes (mIf (mB (m2 gIn (mVar 8) (mApp F_Lreserved mNil))) (m2 gAdd (mVar 8) (mC (.str "q"))) (mVar 8))))))))
theorem ok_Lnew_names (T : Tx w K mg) : FnOk P w K mg base CX0 3 T.f_Lnew_names T.fd_Lnew_names ["_law_bag", "_law_many"] (spD K 2 F_Lnew_names) :=
  fn_ok T.F_Lnew_names sc_Lnew_names rfl fun cdv A outer s H E hr => (
    (dss_cons (ds_set (i := 2) sc_Lnew_names.nd rfl (by first | exact .inl rfl | exact .inr rfl) de_str) (dss_cons (ds_set (i := 3) sc_Lnew_names.nd rfl (by first | exact .inl rfl | exact .inr rfl) (de_join de_str (de_comp (own := [("_law_k", 7)]) rfl sc_Lnew_names.nd (di_rng1 (by rfl) T.n_range (da_cons (de_call (ok_Lpull T) (hr.mono (by first | decide | omega)) (by rfl) T.m_Lpull T.F_Lpull.kp T.b_Lpull (da_cons (de_var 0 (pv 0)) (da_cons de_int da_nil)) (len_cons (len_cons len_nil))) da_nil)) (blkOk_by (own := [("_law_k", 7)]) (N := N_Lnew_names) (sc := defScope s_Lnew_names) (by decide +kernel)) (fun _ _ _ _ _ => (dg_name (i := 7) sc_Lnew_names.nd rfl (by first | exact .inl rfl | exact .inr rfl))) (fun _ _ _ _ _ => dts_nil) (fun _ _ _ _ _ => (de_call (ok_Lany T) (hr.mono (by first | decide | omega)) (by rfl) T.m_Lany T.F_Lany.kp T.b_Lany (da_cons (de_var 0 (pv 0)) (da_cons (de_var 2 (pv 2)) da_nil)) (len_cons (len_cons len_nil)))) (by decide)))) (dss_cons (ds_asg (de_tup (da_cons (de_call (ok_Lpull T) (hr.mono (by first | decide | omega)) (by rfl) T.m_Lpull T.F_Lpull.kp T.b_Lpull (da_cons (de_var 0 (pv 0)) (da_cons (de_add (de_callB call_len ok_len (by rfl) T.n_len (by decide +kernel) (da_cons (de_var 3 (pv 3)) da_nil)) de_int) da_nil)) (len_cons (len_cons len_nil))) (da_cons (de_call (ok_Lpull T) (hr.mono (by first | decide | omega)) (by rfl) T.m_Lpull T.F_Lpull.kp T.b_Lpull (da_cons (de_var 0 (pv 0)) (da_cons de_int da_nil)) (len_cons (len_cons len_nil))) da_nil))) (dg_tup rfl (dgs_cons (dg_name (i := 5) sc_Lnew_names.nd rfl (by first | exact .inl rfl | exact .inr rfl)) (dgs_cons (dg_name (i := 6) sc_Lnew_names.nd rfl (by first | exact .inl rfl | exact .inr rfl)) dgs_nil)))) (dss_cons (ds_setComp (i := 4) (own := [("_law_k", 7)]) rfl sc_Lnew_names.nd rfl rfl (sw_true rfl rfl rfl (by decide +kernel)) (di_rng1 (by rfl) T.n_range (da_cons (de_var 1 (pv 1)) da_nil)) (blkOk_by (own := [("_law_k", 7)]) (N := N_Lnew_names) (sc := defScope s_Lnew_names) (by decide +kernel)) (fun _ _ _ _ _ => (dg_name (i := 7) sc_Lnew_names.nd rfl (by first | exact .inl rfl | exact .inr rfl))) (fun _ _ _ _ _ => dts_nil) (fun _ _ _ _ _ => (de_add (de_add (de_sl (de_var 3 (pv 3)) do_none (do_some (de_var 5 (pv 5)))) (de_ix (de_var 2 (pv 2)) (de_sub (de_add (de_var 6 (pv 6)) (de_var 7 (pv 7))) de_int))) (de_sl (de_var 3 (pv 3)) (do_some (de_var 5 (pv 5))) do_none))) (by decide)) (dss_one (ds_ret (de_comp (own := [("_law_row", 8)]) rfl sc_Lnew_names.nd (di_list (de_var 4 (pv 4))) (blkOk_by (own := [("_law_row", 8)]) (N := N_Lnew_names) (sc := defScope s_Lnew_names) (by decide +kernel)) (fun _ _ _ _ _ => (dg_name (i := 8) sc_Lnew_names.nd rfl (by first | exact .inl rfl | exact .inr rfl))) (fun _ _ _ _ _ => dts_nil) (fun _ _ _ _ _ => (de_ifx (dt_cmp (op_in_str.or op_in_seq) r2_in (de_var 8 (pv 8)) (de_call0 (ok_Lreserved T) (hr.mono (by decide)) (by rfl) T.m_Lreserved T.F_Lreserved.kp T.b_Lreserved) (by rfl)) (de_add (de_var 8 (pv 8)) de_str) (de_var 8 (pv 8)))) (by decide)))))))))
omit [DL.Me] in
def F_Lnear : FD := fnD N_Lnear.length (kRet (mApp F_Lany (mCons (mVar 0) (mCons (mLst (mCons (mC (.int 0)) (mCons (mC (.int 1)) (mCons (mC (.int 1)) (mCons (mC (.int 2)) (mCons (mC (.int 3)) (mCons (m2 gSub0 (mC (.int 0)) (mC (.int 1))) (mCons (m2 gSub0 (mC (.int 0)) (mC (.int 2))) mNil)))))))) mNil))))
theorem ok_Lnear (T : Tx w K mg) : FnOk P w K mg base CX0 3 T.f_Lnear T.fd_Lnear ["_law_bag"] (spD K 1 F_Lnear) :=
  fn_ok T.F_Lnear sc_Lnear rfl fun cdv A outer s H E hr => (
    (dss_one (ds_ret (de_call (ok_Lany T) (hr.mono (by first | decide | omega)) (by rfl) T.m_Lany T.F_Lany.kp T.b_Lany (da_cons (de_var 0 (pv 0)) (da_cons (de_lst (da_cons de_int (da_cons de_int (da_cons de_int (da_cons de_int (da_cons de_int (da_cons (de_sub de_int de_int) (da_cons (de_sub de_int de_int) da_nil)))))))) da_nil)) (len_cons (len_cons len_nil))))))
omit [DL.Me] in
def F_Lsome_value : FD := fnD N_Lsome_value.length (kSeq (kAsg (mApp F_Lany (mCons (mVar 0) (mCons (m2 gAdd (mVar 1) (mLst (mCons (mTup (mCons (mC (.str "number")) (mCons (mApp F_Lnear (mCons (mVar 0) mNil)) mNil))) mNil))) mNil))) (hName 2))
    (kRet (mIf (mB (m2 gEq (mApp F_Lpull (mCons (mVar 0) (mCons (mC (.int 3)) mNil))) (mC (.int 0)))) (mTup (mCons (mC (.str "plus")) (mCons (mVar 2) (mCons (mApp F_Lnear (mCons (mVar 0) mNil)) mNil)))) (mVar 2))))
theorem ok_Lsome_value (T : Tx w K mg) : FnOk P w K mg base CX0 4 T.f_Lsome_value T.fd_Lsome_value ["_law_bag", "_law_pool"] (spD K 2 F_Lsome_value) :=
  fn_ok T.F_Lsome_value sc_Lsome_value rfl fun cdv A outer s H E hr => (
    (dss_cons (ds_set (i := 2) sc_Lsome_value.nd rfl (by first | exact .inl rfl | exact .inr rfl) (de_call (ok_Lany T) (hr.mono (by first | decide | omega)) (by rfl) T.m_Lany T.F_Lany.kp T.b_Lany (da_cons (de_var 0 (pv 0)) (da_cons (de_add (de_var 1 (pv 1)) (de_lst (da_cons (de_tup (da_cons de_str (da_cons (de_call (ok_Lnear T) (hr.mono (by first | decide | omega)) (by rfl) T.m_Lnear T.F_Lnear.kp T.b_Lnear (da_cons (de_var 0 (pv 0)) da_nil) (len_cons len_nil)) da_nil))) da_nil))) da_nil)) (len_cons (len_cons len_nil)))) (dss_one (ds_ret (de_ifx (dt_cmp (op_eqD hr.units) r2_eq (de_call (ok_Lpull T) (hr.mono (by first | decide | omega)) (by rfl) T.m_Lpull T.F_Lpull.kp T.b_Lpull (da_cons (de_var 0 (pv 0)) (da_cons de_int da_nil)) (len_cons (len_cons len_nil))) de_int (nomark _)) (de_tup (da_cons de_str (da_cons (de_var 2 (pv 2)) (da_cons (de_call (ok_Lnear T) (hr.mono (by first | decide | omega)) (by rfl) T.m_Lnear T.F_Lnear.kp T.b_Lnear (da_cons (de_var 0 (pv 0)) da_nil) (len_cons len_nil)) da_nil)))) (de_var 2 (pv 2)))))))
omit [DL.Me] in
def F_Lsome_compared : FD := fnD N_Lsome_compared.length (kSeq (kAsg (mIf (mB (m2 gNe (mVar 1) (mLst mNil))) (mApp F_Lany (mCons (mVar 0) (mCons (mVar 1) mNil))) (mTup (mCons (mC (.str "number")) (mCons (mApp F_Lnear (mCons (mVar 0) mNil)) mNil)))) (hName 2))
    (kSeq (kIf (mB (m2 gEq (mApp F_Lpull (mCons (mVar 0) (mCons (mC (.int 4)) mNil))) (mC (.int 0)))) (kAsg (mTup (mCons (mC (.str "plus")) (mCons (mVar 2) (mCons (mApp F_Lnear (mCons (mVar 0) mNil)) mNil)))) (hName 2)) kSkip)
    (kRet (mTup (mCons (mApp F_Lany (mCons (mVar 0) (mCons (mLst (mCons (mC (.str "atmost")) (mCons (mC (.str "below")) (mCons (mC (.str "below")) (mCons (mC (.str "same")) mNil))))) mNil))) (mCons (mVar 2) (mCons (mApp F_Lsome_value (mCons (mVar 0) (mCons (mVar 1) mNil))) mNil)))))))
theorem ok_Lsome_compared (T : Tx w K mg) : FnOk P w K mg base CX0 5 T.f_Lsome_compared T.fd_Lsome_compared ["_law_bag", "_law_pool"] (spD K 2 F_Lsome_compared) :=
  fn_ok T.F_Lsome_compared sc_Lsome_compared rfl fun cdv A outer s H E hr => (
    (dss_cons (ds_set (i := 2) sc_Lsome_compared.nd rfl (by first | exact .inl rfl | exact .inr rfl) (de_ifx (dt_cmp (op_neD hr.units) r2_ne (de_var 1 (pv 1)) (de_lst da_nil) (nomark _)) (de_call (ok_Lany T) (hr.mono (by first | decide | omega)) (by rfl) T.m_Lany T.F_Lany.kp T.b_Lany (da_cons (de_var 0 (pv 0)) (da_cons (de_var 1 (pv 1)) da_nil)) (len_cons (len_cons len_nil))) (de_tup (da_cons de_str (da_cons (de_call (ok_Lnear T) (hr.mono (by first | decide | omega)) (by rfl) T.m_Lnear T.F_Lnear.kp T.b_Lnear (da_cons (de_var 0 (pv 0)) da_nil) (len_cons len_nil)) da_nil))))) (dss_cons (ds_if (dt_cmp (op_eqD hr.units) r2_eq (de_call (ok_Lpull T) (hr.mono (by first | decide | omega)) (by rfl) T.m_Lpull T.F_Lpull.kp T.b_Lpull (da_cons (de_var 0 (pv 0)) (da_cons de_int da_nil)) (len_cons (len_cons len_nil))) de_int (nomark _)) (dss_one (ds_set (i := 2) sc_Lsome_compared.nd rfl (by first | exact .inl rfl | exact .inr rfl) (de_tup (da_cons de_str (da_cons (de_var 2 (pv 2)) (da_cons (de_call (ok_Lnear T) (hr.mono (by first | decide | omega)) (by rfl) T.m_Lnear T.F_Lnear.kp T.b_Lnear (da_cons (de_var 0 (pv 0)) da_nil) (len_cons len_nil)) da_nil)))))) dss_nil) (dss_one (ds_ret (de_tup (da_cons (de_call (ok_Lany T) (hr.mono (by first | decide | omega)) (by rfl) T.m_Lany T.F_Lany.kp T.b_Lany (da_cons (de_var 0 (pv 0)) (da_cons (de_lst (da_cons de_str (da_cons de_str (da_cons de_str (da_cons de_str da_nil))))) da_nil)) (len_cons (len_cons len_nil))) (da_cons (de_var 2 (pv 2)) (da_cons (de_call (ok_Lsome_value T) (hr.mono (by first | decide | omega)) (by rfl) T.m_Lsome_value T.F_Lsome_value.kp T.b_Lsome_value (da_cons (de_var 0 (pv 0)) (da_cons (de_var 1 (pv 1)) da_nil)) (len_cons (len_cons len_nil))) da_nil)))))))))
omit [DL.Me] in
def B_Lsome_condition (R : FD) : FD := fnD N_Lsome_condition.length (kSeq (kAsg (mIf (mB (m2 oGt (mVar 2) (mC (.int 0)))) (mApp F_Lpull (mCons (mVar 0) (mCons (mC (.int 7)) mNil))) (mApp F_Lpull (mCons (mVar 0) (mCons (mC (.int 3)) mNil)))) (hName 3))
    (kSeq (kIf (mB (m2 oLt (mVar 3) (mC (.int 1)))) (kRet (mTup (mCons (mC (.str "true")) mNil))) kSkip)
    (kSeq (kIf (mB (m2 oLt (mVar 3) (mC (.int 4)))) (kRet (mApp F_Lsome_compared (mCons (mVar 0) (mCons (mVar 1) mNil)))) kSkip)
    (kSeq (kIf (mB (m2 gEq (mVar 3) (mC (.int 4)))) (kRet (mTup (mCons (mC (.str "not")) (mCons (mApp R (mCons (mVar 0) (mCons (mVar 1) (mCons (m2 gSub0 (mVar 2) (mC (.int 1))) mNil)))) mNil)))) kSkip)
    (kSeq (kAsg (mIf (mB (m2 gEq (mVar 3) (mC (.int 5)))) (mC (.str "and")) (mC (.str "or"))) (hName 4))
    (kRet (mTup (mCons (mVar 4) (mCons (mApp R (mCons (mVar 0) (mCons (mVar 1) (mCons (m2 gSub0 (mVar 2) (mC (.int 1))) mNil)))) (mCons (mApp R (mCons (mVar 0) (mCons (mVar 1) (mCons (m2 gSub0 (mVar 2) (mC (.int 1))) mNil)))) mNil))))))))))
omit [DL.Me] in
def F_Lsome_condition : Nat → FD
  | 0 => fun _ _ => none
  | n + 1 => B_Lsome_condition (F_Lsome_condition n)
theorem step_Lsome_condition (T : Tx w K mg) {k : Nat} {R : FD} (hk : 5 ≤ k) (ih : FnOk P w K mg base CX0 k T.f_Lsome_condition T.fd_Lsome_condition ["_law_bag", "_law_pool", "_law_deep"] (spD K 3 R)) : FnOk P w K mg base CX0 (k + 1) T.f_Lsome_condition T.fd_Lsome_condition ["_law_bag", "_law_pool", "_law_deep"] (spD K 3 (B_Lsome_condition R)) :=
  fn_ok T.F_Lsome_condition sc_Lsome_condition rfl fun cdv A outer s H E hr => (
    (dss_cons (ds_set (i := 3) sc_Lsome_condition.nd rfl (by first | exact .inl rfl | exact .inr rfl) (de_ifx (dt_cmp (op_gt.or op_gt_str) r2_gt (de_var 2 (pv 2)) de_int (nomark _)) (de_call (ok_Lpull T) (hr.mono (by omega)) (by rfl) T.m_Lpull T.F_Lpull.kp T.b_Lpull (da_cons (de_var 0 (pv 0)) (da_cons de_int da_nil)) (len_cons (len_cons len_nil))) (de_call (ok_Lpull T) (hr.mono (by omega)) (by rfl) T.m_Lpull T.F_Lpull.kp T.b_Lpull (da_cons (de_var 0 (pv 0)) (da_cons de_int da_nil)) (len_cons (len_cons len_nil))))) (dss_cons (ds_if (dt_cmp (op_lt.or op_lt_str) r2_lt (de_var 3 (pv 3)) de_int (nomark _)) (dss_one (ds_ret (de_tup (da_cons de_str da_nil)))) dss_nil) (dss_cons (ds_if (dt_cmp (op_lt.or op_lt_str) r2_lt (de_var 3 (pv 3)) de_int (nomark _)) (dss_one (ds_ret (de_call (ok_Lsome_compared T) (hr.mono (by omega)) (by rfl) T.m_Lsome_compared T.F_Lsome_compared.kp T.b_Lsome_compared (da_cons (de_var 0 (pv 0)) (da_cons (de_var 1 (pv 1)) da_nil)) (len_cons (len_cons len_nil))))) dss_nil) (dss_cons (ds_if (dt_cmp (op_eqD hr.units) r2_eq (de_var 3 (pv 3)) de_int (nomark _)) (dss_one (ds_ret (de_tup (da_cons de_str (da_cons (de_call ih (hr.mono (by omega)) (by rfl) T.m_Lsome_condition T.F_Lsome_condition.kp T.b_Lsome_condition (da_cons (de_var 0 (pv 0)) (da_cons (de_var 1 (pv 1)) (da_cons (de_sub (de_var 2 (pv 2)) de_int) da_nil))) (len_cons (len_cons (len_cons len_nil)))) da_nil))))) dss_nil) (dss_cons (ds_set (i := 4) sc_Lsome_condition.nd rfl (by first | exact .inl rfl | exact .inr rfl) (de_ifx (dt_cmp (op_eqD hr.units) r2_eq (de_var 3 (pv 3)) de_int (nomark _)) de_str de_str)) (dss_one (ds_ret (de_tup (da_cons (de_var 4 (pv 4)) (da_cons (de_call ih (hr.mono (by omega)) (by rfl) T.m_Lsome_condition T.F_Lsome_condition.kp T.b_Lsome_condition (da_cons (de_var 0 (pv 0)) (da_cons (de_var 1 (pv 1)) (da_cons (de_sub (de_var 2 (pv 2)) de_int) da_nil))) (len_cons (len_cons (len_cons len_nil)))) (da_cons (de_call ih (hr.mono (by omega)) (by rfl) T.m_Lsome_condition T.F_Lsome_condition.kp T.b_Lsome_condition (da_cons (de_var 0 (pv 0)) (da_cons (de_var 1 (pv 1)) (da_cons (de_sub (de_var 2 (pv 2)) de_int) da_nil))) (len_cons (len_cons (len_cons len_nil)))) da_nil))))))))))))
theorem ok_Lsome_condition (T : Tx w K mg) : ∀ n : Nat, FnOk P w K mg base CX0 (5 + n) T.f_Lsome_condition T.fd_Lsome_condition ["_law_bag", "_law_pool", "_law_deep"] (spD K 3 (F_Lsome_condition n))
  | 0 => fn_none
  | n + 1 => step_Lsome_condition T (Nat.le_add_right _ _) (ok_Lsome_condition T n)
omit [DL.Me] in
def B_Lvalues (R : FD) : FD := fnD N_Lvalues.length (kSeq (kIf (mB (m2 gIn (m2 gIx (mVar 0) (mC (.int 0))) (mTup (mCons (mC (.str "atmost")) (mCons (mC (.str "below")) (mCons (mC (.str "same")) mNil)))))) (kRet (mLst (mCons (m2 gIx (mVar 0) (mC (.int 1))) (mCons (m2 gIx (mVar 0) (mC (.int 2))) mNil)))) kSkip)
    (kSeq (kIf (mB (m2 gIn (m2 gIx (mVar 0) (mC (.int 0))) (mTup (mCons (mC (.str "true")) (mCons (mC (.str "found")) mNil))))) (kRet (mLst mNil)) kSkip)
    (kRet (m2 gAdd (mApp R (mCons (m2 gIx (mVar 0) (mC (.int 1))) mNil)) (mIf (mB (m2 gEq (mCall gLen (mCons (mVar 0) mNil)) (mC (.int 3)))) (mApp R (mCons (m2 gIx (mVar 0) (mC (.int 2))) mNil)) (mLst mNil))))))
omit [DL.Me] in
def F_Lvalues : Nat → FD
  | 0 => fun _ _ => none
  | n + 1 => B_Lvalues (F_Lvalues n)
theorem step_Lvalues (T : Tx w K mg) {k : Nat} {R : FD} (hk : 0 ≤ k) (ih : FnOk P w K mg base CX0 k T.f_Lvalues T.fd_Lvalues ["_law_c"] (spD K 1 R)) : FnOk P w K mg base CX0 (k + 1) T.f_Lvalues T.fd_Lvalues ["_law_c"] (spD K 1 (B_Lvalues R)) :=
  fn_ok T.F_Lvalues sc_Lvalues rfl fun cdv A outer s H E hr => (
    (dss_cons (ds_if (dt_cmp (op_in_str.or op_in_seq) r2_in (de_ix (de_var 0 (pv 0)) de_int) (de_tup (da_cons de_str (da_cons de_str (da_cons de_str da_nil)))) (by rfl)) (dss_one (ds_ret (de_lst (da_cons (de_ix (de_var 0 (pv 0)) de_int) (da_cons (de_ix (de_var 0 (pv 0)) de_int) da_nil))))) dss_nil) (dss_cons (ds_if (dt_cmp (op_in_str.or op_in_seq) r2_in (de_ix (de_var 0 (pv 0)) de_int) (de_tup (da_cons de_str (da_cons de_str da_nil))) (by rfl)) (dss_one (ds_ret (de_lst da_nil))) dss_nil) (dss_one (ds_ret (de_add (de_call ih (hr.mono (by omega)) (by rfl) T.m_Lvalues T.F_Lvalues.kp T.b_Lvalues (da_cons (de_ix (de_var 0 (pv 0)) de_int) da_nil) (len_cons len_nil)) (de_ifx (dt_cmp (op_eqD hr.units) r2_eq (de_callB call_len ok_len (by rfl) T.n_len (by decide +kernel) (da_cons (de_var 0 (pv 0)) da_nil)) de_int (nomark _)) (de_call ih (hr.mono (by omega)) (by rfl) T.m_Lvalues T.F_Lvalues.kp T.b_Lvalues (da_cons (de_ix (de_var 0 (pv 0)) de_int) da_nil) (len_cons len_nil)) (de_lst da_nil))))))))
theorem ok_Lvalues (T : Tx w K mg) : ∀ n : Nat, FnOk P w K mg base CX0 (0 + n) T.f_Lvalues T.fd_Lvalues ["_law_c"] (spD K 1 (F_Lvalues n))
  | 0 => fn_none
  | n + 1 => step_Lvalues T (Nat.le_add_right _ _) (ok_Lvalues T n)
omit [DL.Me] in
def B_Lall_parts (R : FD) : FD := fnD N_Lall_parts.length (kSeq (kAsg (mLst (mCons (mTup (mCons (mVar 1) (mCons (mVar 0) mNil))) mNil)) (hName 2))
    (kSeq (kIf (mB (m2 gIn (m2 gIx (mVar 0) (mC (.int 0))) (mTup (mCons (mC (.str "not")) (mCons (mC (.str "and")) (mCons (mC (.str "or")) mNil)))))) (kFor (wRng2 (mCons (mC (.int 1)) (mCons (mCall gLen (mCons (mVar 0) mNil)) mNil))) (hName 3) (kAsg (m2 gAdd (mVar 2) (mApp R (mCons (m2 gIx (mVar 0) (mVar 3)) (mCons (m2 gAdd (mVar 1) (mTup (mCons (mVar 3) mNil))) mNil)))) (hName 2))) kSkip)
    (kRet (mVar 2))))
omit [DL.Me] in
def F_Lall_parts : Nat → FD
  | 0 => fun _ _ => none
  | n + 1 => B_Lall_parts (F_Lall_parts n)
theorem step_Lall_parts (T : Tx w K mg) {k : Nat} {R : FD} (hk : 0 ≤ k) (ih : FnOk P w K mg base CX0 k T.f_Lall_parts T.fd_Lall_parts ["_law_c", "_law_path"] (spD K 2 R)) : FnOk P w K mg base CX0 (k + 1) T.f_Lall_parts T.fd_Lall_parts ["_law_c", "_law_path"] (spD K 2 (B_Lall_parts R)) :=
  fn_ok T.F_Lall_parts sc_Lall_parts rfl fun cdv A outer s H E hr => (
    (dss_cons (ds_set (i := 2) sc_Lall_parts.nd rfl (by first | exact .inl rfl | exact .inr rfl) (de_lst (da_cons (de_tup (da_cons (de_var 1 (pv 1)) (da_cons (de_var 0 (pv 0)) da_nil))) da_nil))) (dss_cons (ds_if (dt_cmp (op_in_str.or op_in_seq) r2_in (de_ix (de_var 0 (pv 0)) de_int) (de_tup (da_cons de_str (da_cons de_str (da_cons de_str da_nil)))) (by rfl)) (dss_one (ds_for PassesOwn.never rfl (di_rng2 (by rfl) T.n_range (da_cons de_int (da_cons (de_callB call_len ok_len (by rfl) T.n_len (by decide +kernel) (da_cons (de_var 0 (pv 0)) da_nil)) da_nil))) (dg_name (i := 3) sc_Lall_parts.nd rfl (by first | exact .inl rfl | exact .inr rfl)) (dss_one (ds_set (i := 2) sc_Lall_parts.nd rfl (by first | exact .inl rfl | exact .inr rfl) (de_add (de_var 2 (pv 2)) (de_call ih (hr.mono (by omega)) (by rfl) T.m_Lall_parts T.F_Lall_parts.kp T.b_Lall_parts (da_cons (de_ix (de_var 0 (pv 0)) (de_var 3 (pv 3))) (da_cons (de_add (de_var 1 (pv 1)) (de_tup (da_cons (de_var 3 (pv 3)) da_nil))) da_nil)) (len_cons (len_cons len_nil)))))))) dss_nil) (dss_one (ds_ret (de_var 2 (pv 2)))))))
theorem ok_Lall_parts (T : Tx w K mg) : ∀ n : Nat, FnOk P w K mg base CX0 (0 + n) T.f_Lall_parts T.fd_Lall_parts ["_law_c", "_law_path"] (spD K 2 (F_Lall_parts n))
  | 0 => fn_none
  | n + 1 => step_Lall_parts T (Nat.le_add_right _ _) (ok_Lall_parts T n)
--@HAND law (level 14)
omit [DL.Me] in
noncomputable def B_law : DMs := (kSeq (kFor (wRng1 (mCons (mC (.int 6)) mNil)) (hName 2) (kSeq (kAsg (mApp F_Lnew_names (mCons (mVar 1) (mCons (mC (.int 2)) mNil))) (hName 3))
    (kSeq (kAsg (mLst (mCons (mTup (mCons (mC (.str "name")) (mCons (m2 gIx (mVar 3) (mC (.int 0))) mNil))) (mCons (mTup (mCons (mC (.str "field")) (mCons (m2 gIx (mVar 3) (mC (.int 0))) (mCons (m2 gIx (mVar 3) (mC (.int 1))) mNil)))) (mCons (mTup (mCons (mC (.str "own")) (mCons (mC (.str "key")) mNil))) (mCons (mTup (mCons (mC (.str "next")) (mCons (mC (.str "key")) mNil))) mNil))))) (hName 4))
    (kSeq (kAsg (mComp [10] (wRng1 (mCons (mApp F_Lpull (mCons (mVar 1) (mCons (mC (.int 4)) mNil))) mNil)) (hName 10) mYes (mApp (F_Lsome_condition 6) (mCons (mVar 1) (mCons (mVar 4) (mCons (mC (.int 2)) mNil))))) (hName 5))
    (kSeq (kAsg (mIf (mB (m2 gEq (mVar 5) (mLst mNil))) (mTup (mCons (mC (.str "true")) mNil)) (m2 gIx (mVar 5) (m2 gSub0 (mCall gLen (mCons (mVar 5) mNil)) (mC (.int 1))))) (hName 6))
    (kSeq (kFor (wLst (mRev (mSl (mVar 5) mNoP (mPart (m2 gSub0 (mCall gLen (mCons (mVar 5) mNil)) (mC (.int 1))))))) (hName 7) (kAsg (mTup (mCons (mC (.str "and")) (mCons (mVar 7) (mCons (mVar 6) mNil)))) (hName 6)))
    (kSeq (kAsg (mIf (mB (m2 gEq (mVar 5) (mLst mNil))) (mAppSt F_all_of mNil) (mIf (mB (m2 gEq (mCall gLen (mCons (mVar 5) mNil)) (mC (.int 1)))) (mAppSt F_all_of (mCons (m2 gIx (mVar 5) (mC (.int 0))) mNil)) (mAppSt F_all_of (mCons (m2 gIx (mVar 5) (mC (.int 0))) (mCons (m2 gIx (mVar 5) (mC (.int 1))) mNil))))) (hName 8))
    (kSeq (kIf (mB (m2 gEq (mCall gLen (mCons (mVar 5) mNil)) (mC (.int 3)))) (kAsg (mAppSt F_all_of (mCons (m2 gIx (mVar 5) (mC (.int 0))) (mCons (m2 gIx (mVar 5) (mC (.int 1))) (mCons (m2 gIx (mVar 5) (mC (.int 2))) mNil)))) (hName 8)) kSkip)
    (kSeq (kIf (mNotB (mB (mApp (F_Llike 12) (mCons (mVar 8) (mCons (mVar 6) mNil))))) (kRet (mC (.bl false))) kSkip)
    (kSeq (kOwnG 9 FG_parts (mCons (mVar 6) mNil))
    (kSeq (kIf (mLend 9 [0, 1, 2, 3, 4, 5, 7, 8, 10, 11] (mNotB (mB (mApp (F_Llike 12) (mCons (mLst (mCons (mVar 9) (mCons (mApp F_values_in (mCons (mVar 6) mNil)) (mCons (mAppK [0] F_values_in (mCons (mVar 6) mNil)) mNil)))) (mCons (mLst (mCons (mApp (F_Lall_parts 6) (mCons (mVar 6) (mCons (mTup mNil) mNil))) (mCons (mApp (F_Lvalues 6) (mCons (mVar 6) mNil)) (mCons (mApp (F_Lvalues 6) (mCons (mVar 6) mNil)) mNil)))) mNil)))))) (kRet (mC (.bl false))) kSkip)
    (kSeq (kDrop (mClear 9))
    (kSeq (kAppF F_values_in (mCons (mVar 6) mNil))
    (kIf (mNotB (mB (mApp (F_Llike 12) (mCons (mLst (mCons (mListG FG_parts (mCons (mVar 6) mNil)) (mCons (mApp F_values_in (mCons (mVar 6) mNil)) mNil))) (mCons (mLst (mCons (mApp (F_Lall_parts 6) (mCons (mVar 6) (mCons (mTup mNil) mNil))) (mCons (mApp (F_Lvalues 6) (mCons (mVar 6) mNil)) mNil))) mNil))))) (kRet (mC (.bl false))) kSkip))))))))))))))
    (kRet (mC (.bl true))))
set_option maxHeartbeats 4000000 in
theorem dss_law (T : Tx w K mg) (hT : Tabs.ts = []) {cdv : Value} {A : Around} {outer : List Env} {s : Shared} {H : Hp} {E : XK} (hr : Room 13 (A.deeper (envOfC "law" (defScope s_law) s.heap.objs.size T.f_law cdv))) :
    DSsP (cxOf CX0 P w K mg base N_law "law" (defScope s_law) T.f_law cdv A outer s H E).nox (defBody s_law).tail B_law := (
    (dssp_cons (dsp_for PassesOwn.never rfl (di_rng1 (by rfl) T.n_range (da_cons de_int da_nil)) (dg_name (i := 2) sc_law.nd rfl (by first | exact .inl rfl | exact .inr rfl)) (dssp_cons (dsp_of (ds_set (i := 3) sc_law.nd rfl (by first | exact .inl rfl | exact .inr rfl) (de_call (ok_Lnew_names T) (hr.mono (by first | decide | omega)) (by rfl) T.m_Lnew_names T.F_Lnew_names.kp T.b_Lnew_names (da_cons (de_var 1 (pv 1)) (da_cons de_int da_nil)) (len_cons (len_cons len_nil))))) (dssp_cons (dsp_of (ds_set (i := 4) sc_law.nd rfl (by first | exact .inl rfl | exact .inr rfl) (de_lst (da_cons (de_tup (da_cons de_str (da_cons (de_ix (de_var 3 (pv 3)) de_int) da_nil))) (da_cons (de_tup (da_cons de_str (da_cons (de_ix (de_var 3 (pv 3)) de_int) (da_cons (de_ix (de_var 3 (pv 3)) de_int) da_nil)))) (da_cons (de_tup (da_cons de_str (da_cons de_str da_nil))) (da_cons (de_tup (da_cons de_str (da_cons de_str da_nil))) da_nil))))))) (dssp_cons (dsp_of (ds_setComp (i := 5) (own := [("_law_k", 10)]) rfl sc_law.nd rfl rfl (sw_true rfl rfl rfl (by decide +kernel)) (di_rng1 (by rfl) T.n_range (da_cons (de_call (ok_Lpull T) (hr.mono (by first | decide | omega)) (by rfl) T.m_Lpull T.F_Lpull.kp T.b_Lpull (da_cons (de_var 1 (pv 1)) (da_cons de_int da_nil)) (len_cons (len_cons len_nil))) da_nil)) (blkOk_by (own := [("_law_k", 10)]) (N := N_law) (sc := defScope s_law) (by decide +kernel)) (fun _ _ _ _ _ => (dg_name (i := 10) sc_law.nd rfl (by first | exact .inl rfl | exact .inr rfl))) (fun _ _ _ _ _ => dts_nil) (fun _ _ _ _ _ => (de_call (ok_Lsome_condition T 6) (hr.mono (by first | decide | omega)) (by rfl) T.m_Lsome_condition T.F_Lsome_condition.kp T.b_Lsome_condition (da_cons (de_var 1 (pv 1)) (da_cons (de_var 4 (pv 4)) (da_cons de_int da_nil))) (len_cons (len_cons (len_cons len_nil))))) (by decide))) (dssp_cons (dsp_of (ds_set (i := 6) sc_law.nd rfl (by first | exact .inl rfl | exact .inr rfl) (de_ifx (dt_cmp (op_eqD hr.units) r2_eq (de_var 5 (pv 5)) (de_lst da_nil) (nomark _)) (de_tup (da_cons de_str da_nil)) (de_ix (de_var 5 (pv 5)) (de_sub (de_callB call_len ok_len (by rfl) T.n_len (by decide +kernel) (da_cons (de_var 5 (pv 5)) da_nil)) de_int))))) (dssp_cons (dsp_for PassesOwn.never rfl (di_list (de_rev (de_sl (de_var 5 (pv 5)) do_none (do_some (de_sub (de_callB call_len ok_len (by rfl) T.n_len (by decide +kernel) (da_cons (de_var 5 (pv 5)) da_nil)) de_int))))) (dg_name (i := 7) sc_law.nd rfl (by first | exact .inl rfl | exact .inr rfl)) (dssp_one (dsp_of (ds_set (i := 6) sc_law.nd rfl (by first | exact .inl rfl | exact .inr rfl) (de_tup (da_cons de_str (da_cons (de_var 7 (pv 7)) (da_cons (de_var 6 (pv 6)) da_nil)))))))) (dssp_cons (dsp_of (ds_set (i := 8) sc_law.nd rfl (by first | exact .inl rfl | exact .inr rfl) (de_ifx (dt_cmp (op_eqD hr.units) r2_eq (de_var 5 (pv 5)) (de_lst da_nil) (nomark _)) (de_callSt0 (ok_all_of T) (hr.mono (by first | decide | omega)) T.F_all_of.kp (by rfl) T.m_all_of) (de_ifx (dt_cmp (op_eqD hr.units) r2_eq (de_callB call_len ok_len (by rfl) T.n_len (by decide +kernel) (da_cons (de_var 5 (pv 5)) da_nil)) de_int (nomark _)) (de_callSt (ok_all_of T) (hr.mono (by first | decide | omega)) T.F_all_of.kp (by rfl) T.m_all_of (da_cons (de_ix (de_var 5 (pv 5)) de_int) da_nil)) (de_callSt (ok_all_of T) (hr.mono (by first | decide | omega)) T.F_all_of.kp (by rfl) T.m_all_of (da_cons (de_ix (de_var 5 (pv 5)) de_int) (da_cons (de_ix (de_var 5 (pv 5)) de_int) da_nil))))))) (dssp_cons (dsp_of (ds_if (dt_cmp (op_eqD hr.units) r2_eq (de_callB call_len ok_len (by rfl) T.n_len (by decide +kernel) (da_cons (de_var 5 (pv 5)) da_nil)) de_int (nomark _)) (dss_one (ds_set (i := 8) sc_law.nd rfl (by first | exact .inl rfl | exact .inr rfl) (de_callSt (ok_all_of T) (hr.mono (by first | decide | omega)) T.F_all_of.kp (by rfl) T.m_all_of (da_cons (de_ix (de_var 5 (pv 5)) de_int) (da_cons (de_ix (de_var 5 (pv 5)) de_int) (da_cons (de_ix (de_var 5 (pv 5)) de_int) da_nil)))))) dss_nil)) (dssp_cons (dsp_of (ds_if (dt_not (dt_val (de_call (ok_Llike T 12) (hr.mono (by first | decide | omega)) (by rfl) T.m_Llike T.F_Llike.kp T.b_Llike (da_cons (de_var 8 (pv 8)) (da_cons (de_var 6 (pv 6)) da_nil)) (len_cons (len_cons len_nil))))) (dss_one (ds_ret de_bl)) dss_nil)) (dssp_cons (dsp_of (ds_ownListG (i := 9) sc_law.nd rfl (by first | exact .inl rfl | exact .inr rfl) (okG_parts T) (hr.mono (by first | decide | omega)) (by rfl) T.m_parts T.F_parts.kp T.b_parts (da_cons (de_var 6 (pv 6)) da_nil) (len_cons len_nil) (by rfl) T.n_list)) (dssp_cons (dsp_if (dtp_lend 9 [0, 1, 2, 3, 4, 5, 7, 8, 10, 11] hT (dt_not (dt_val (de_call (ok_Llike T 12) (hr.mono (by first | decide | omega)) (by rfl) T.m_Llike T.F_Llike.kp T.b_Llike (da_cons (de_lst (da_cons (de_var 9 (pv 9)) (da_cons (de_call (ok_values_in T) (hr.mono (by first | decide | omega)) (by rfl) T.m_values_in T.F_values_in.kp T.b_values_in (da_cons (de_var 6 (pv 6)) da_nil) (len_cons len_nil)) (da_cons (de_callK0 (ps := ["condition"]) (pm := [0]) (ok_values_in T) (hr.mono (by first | decide | omega)) (by rfl) T.m_values_in T.F_values_in.kp (kb_values_in_condition T) (dk_cons (de_var 6 (pv 6)) dk_nil) (len_cons len_nil) (fun (ds : List Dt) (h : ds.length = 1) => match ds, h with | [_], _ => rfl)) da_nil)))) (da_cons (de_lst (da_cons (de_call (ok_Lall_parts T 6) (hr.mono (by first | decide | omega)) (by rfl) T.m_Lall_parts T.F_Lall_parts.kp T.b_Lall_parts (da_cons (de_var 6 (pv 6)) (da_cons (de_tup da_nil) da_nil)) (len_cons (len_cons len_nil))) (da_cons (de_call (ok_Lvalues T 6) (hr.mono (by first | decide | omega)) (by rfl) T.m_Lvalues T.F_Lvalues.kp T.b_Lvalues (da_cons (de_var 6 (pv 6)) da_nil) (len_cons len_nil)) (da_cons (de_call (ok_Lvalues T 6) (hr.mono (by first | decide | omega)) (by rfl) T.m_Lvalues T.F_Lvalues.kp T.b_Lvalues (da_cons (de_var 6 (pv 6)) da_nil) (len_cons len_nil)) da_nil)))) da_nil)) (len_cons (len_cons len_nil)))))) (dssp_of (dss_one (ds_ret de_bl))) (dssp_of dss_nil)) (dssp_cons (dsp_of (ds_expr (de_clear 9 (pv 9)))) (dssp_cons (dsp_of (ds_appF (okF_values_in T) (hr.mono (by first | decide | omega)) (by rfl) T.m_values_in T.F_values_in.kp T.b_values_in (da_cons (de_var 6 (pv 6)) da_nil) (len_cons len_nil))) (dssp_one (dsp_of (ds_if (dt_not (dt_val (de_call (ok_Llike T 12) (hr.mono (by first | decide | omega)) (by rfl) T.m_Llike T.F_Llike.kp T.b_Llike (da_cons (de_lst (da_cons (de_compG (okG_parts T) (hr.mono (by first | decide | omega)) (by rfl) T.m_parts T.F_parts.kp T.b_parts (da_cons (de_var 6 (pv 6)) da_nil) (len_cons len_nil) (blkOk_by (own := [("_law_pair", 11)]) (N := N_law) (sc := defScope s_law) (by decide +kernel)) (by rfl)) (da_cons (de_call (ok_values_in T) (hr.mono (by first | decide | omega)) (by rfl) T.m_values_in T.F_values_in.kp T.b_values_in (da_cons (de_var 6 (pv 6)) da_nil) (len_cons len_nil)) da_nil))) (da_cons (de_lst (da_cons (de_call (ok_Lall_parts T 6) (hr.mono (by first | decide | omega)) (by rfl) T.m_Lall_parts T.F_Lall_parts.kp T.b_Lall_parts (da_cons (de_var 6 (pv 6)) (da_cons (de_tup da_nil) da_nil)) (len_cons (len_cons len_nil))) (da_cons (de_call (ok_Lvalues T 6) (hr.mono (by first | decide | omega)) (by rfl) T.m_Lvalues T.F_Lvalues.kp T.b_Lvalues (da_cons (de_var 6 (pv 6)) da_nil) (len_cons len_nil)) da_nil))) da_nil)) (len_cons (len_cons len_nil))))) (dss_one (ds_ret de_bl)) dss_nil)))))))))))))))) (dssp_one (dsp_of (ds_ret de_bl)))))
abbrev lvLaw : Nat := 14
end
/-! ### the draws -/
def spDraws (K : PySem.W.Frag) : Sp := fun vs H Q _ => ∃ (a : Addr) (ns : List Int), vs = [.ref a] ∧ SqL K H a (ns.map V.int) ∧ ns.length ≤ 63 ∧
  ∀ (β l z : Addr) (seed : Int) (H' : Hp), 0 ≤ seed → seed < 2147483549 → Same H H' → H β = none → β ≠ l → z ≠ l → z ≠ β → H' z = some (.lst (ns.map V.int)) → H' l = some (.lst (ns.map V.int)) → H' β = some (.lst [.ref l, .int 0, .int 0, .int seed, .int 0]) → Q (.ref β) H'
theorem cut63 {ns : List Int} (h : ns.length ≤ 63) : cutV (ns.map V.int) none (some 63) = ns.map V.int := by
  unfold cutV
  have e1 : HT.sIx (ns.map V.int).length 0 none = 0 := rfl
  have e2 : HT.sIx (ns.map V.int).length (ns.map V.int).length (some 63) = ns.length := by
    unfold HT.sIx
    simp
    omega
  rw [e1, e2]
  exact List.take_of_length_le (by simp)
section
variable {P : Program} {w : World} {K : PySem.W.Frag} {mg : Str → Option Value} {base : Heap}
theorem ok_Ldraws (T : Tx w K mg) : FnOk P w K mg base CX0 1 T.f_Ldraws T.fd_Ldraws ["_law_script"] (spDraws K) := by
  refine T.F_Ldraws.ok sc_Ldraws (fun vs H Q E h => ?_) (fun cdv A outer s H vs Q E hr h => ?_)
  · obtain ⟨a, ns, rfl, _⟩ := h
    rfl
  · obtain ⟨a, ns, rfl, hS, hlen, k⟩ := h
    refine ⟨_, pss_cons (ps_set (i := 1) sc_Ldraws.nd rfl (.inl rfl) pe_int)
      (pss_cons (ps_for PassesOwn.never rfl (pi_list (pe_slice sl_list (pv 0) po_none (po_some pe_int))) (pg_name (i := 2) sc_Ldraws.nd rfl (.inl rfl)) (pss_one (ps_set (i := 1) sc_Ldraws.nd rfl (.inl rfl)
        (pe_op op_mod (pe_callTy call_int1 (by rfl) T.n_int (by decide +kernel) (pa_cons (pe_op op_add (pe_op op_add (pe_op op_mul (pv 1) pe_int) (pe_op op_mod (pe_callTy call_int1 (by rfl) T.n_int (by decide +kernel) (pa_cons (pv 2) pa_nil)) pe_int)) pe_int) pa_nil)) pe_int))))
      (pss_one (ps_ret (pe_lst (pa_cons (pe_callTy call_list_of (by rfl) T.n_list (by decide +kernel) (pa_cons (pe_slice sl_list (pv 0) po_none (po_some pe_int)) pa_nil)) (pa_cons pe_int (pa_cons pe_int (pa_cons (pv 1) (pa_cons pe_int pa_nil))))))))), ?_⟩
    refine ⟨_, rfl, _, rfl, a, _, rfl, hS, fun p hp => ⟨p, rfl, ⟨_, SqL.of upd_same⟩, ?_⟩⟩
    rw [cut63 hlen]
    have s1 : Same H (upd H p (.lst (ns.map V.int))) := fun b o e => by rw [upd_ne (ne_of_none e hp)]; exact e
    refine for_list (K := K) (a := p) (xs := ns.map V.int) (fun i σ H2 => ∃ (seed : Int) (v : Option V), 0 ≤ seed ∧ seed < 2147483549 ∧ σ = [some (.ref a), some (.int seed), v] ∧ H2 = upd H p (.lst (ns.map V.int)))
      ⟨5648, none, by decide, by decide, rfl, rfl⟩ (fun i σ H2 _ ⟨_, _, _, _, _, e⟩ => by rw [e]; exact SqL.of upd_same) ?_ ?_
    · rintro i y σ H2 hi ⟨seed, v, h0, h1, rfl, rfl⟩
      obtain ⟨z, rfl⟩ : ∃ z, y = V.int z := by
        rw [List.getElem?_map] at hi
        cases e : ns[i]? with
        | none => rw [e] at hi; cases hi
        | some z => rw [e] at hi; exact ⟨z, (Option.some.inj hi).symm⟩
      refine ⟨_, rfl, _, _, rfl, rfl, .inl ⟨by omega, by omega⟩, _, rfl, .inl ⟨_, rfl, _, _, rfl, rfl, (by show (0 : Int) < 2147483489; decide), _, _, rfl, rfl, _, _, rfl, rfl, .inl ⟨_, rfl, _, _, rfl, rfl, (by show (0 : Int) < 2147483549; decide), ?_⟩⟩⟩
      exact ⟨_, _, Int.emod_nonneg _ (by decide), Int.emod_lt_of_pos _ (by decide), rfl, rfl⟩
    · rintro σ H2 ⟨seed, v, h0, h1, rfl, rfl⟩
      refine ⟨_, rfl, _, rfl, a, ns.map V.int, rfl, ?_, fun q hq => ⟨q, _, rfl, .inl (SqL.of upd_same), fun l hl => ⟨_, rfl, (by show 5 ≤ sizeLine; decide), fun β hβ => ?_⟩⟩⟩
      · exact s1.seq hS
      · rw [cut63 hlen] at hl hβ ⊢
        have s2 : Same H (upd (upd (upd H p (.lst (ns.map V.int))) q (.lst (ns.map V.int))) l (.lst (ns.map V.int))) := fun b o e => by
          have e1 := s1 b o e
          rw [upd_ne (ne_of_none (show (upd (upd H p (.lst (ns.map V.int))) q (.lst (ns.map V.int))) b = some o by rw [upd_ne (ne_of_none e1 hq)]; exact e1) hl), upd_ne (ne_of_none e1 hq)]
          exact e1
        have zl : q ≠ l := by intro e; subst e; rw [upd_same] at hl; cases hl
        have zb : q ≠ β := by intro e; subst e; rw [upd_ne zl, upd_same] at hβ; cases hβ
        refine k β l q seed _ h0 h1 (fun b o e => ?_) (s2.free hβ) ?_ zl zb (by rw [upd_ne zb, upd_ne zl, upd_same]) ?_ upd_same
        · rw [upd_ne (ne_of_none (s2 b o e) hβ)]; exact s2 b o e
        · intro e; subst e; rw [upd_same] at hβ; cases hβ
        · have n : l ≠ β := by intro e; subst e; rw [upd_same] at hβ; cases hβ
          rw [upd_ne n, upd_same]
theorem ok_law (T : Tx w K mg) (hT : Tabs.ts = []) (hB : ∀ (ns : List Int) (seed : Int), ns.length ≤ 63 → 0 ≤ seed → seed < 2147483549 → ∃ s', B_law ⟨[none, some (.dat .bag)] ++ List.replicate (N_law.length - 2) none, bag0 ns seed⟩ = some (.rt (.bl true), s')) :
    FnOk P w K mg base CX0 lvLaw T.f_law T.fd_law ["_law_script"] (spLaw K) := by
  refine T.F_law.ok sc_law (fun vs H Q E h => ?_) (fun cdv A outer s H vs Q E hr h => ?_)
  · obtain ⟨a, ns, rfl, _⟩ := h
    rfl
  · obtain ⟨a, ns, rfl, hS, hlen, ht, k⟩ := h
    obtain ⟨t, p, o⟩ := dss_law (P := P) (w := w) (base := base) T hT (cdv := cdv) (A := A) (outer := outer) (s := s) (H := H) (E := E) hr
    refine ⟨_, pss_cons (ps_set (i := 1) sc_law.nd rfl (by first | exact .inl rfl | exact .inr rfl) (pe_call (ok_Ldraws T) (hr.mono (by decide)) (by rfl) T.m_Ldraws T.F_Ldraws.kp T.b_Ldraws .nil pass0 (pa_cons (pv 0) pa_nil))) p, ?_⟩
    refine ⟨_, rfl, a, ns, rfl, hS, hlen, fun β l z seed H' h0 h1 sm _ hn zl zb hz hl hb => ?_⟩
    obtain ⟨s', hs⟩ := hB ns seed hlen h0 h1
    refine o β _ _ H' _ _ _ s' ⟨z, ns, upd_same⟩ (law_rel8 (n := N_law.length - 2) (a := .ref a) hT hn zl zb hz hl hb) hs _ ?_
    intro v σ' H2 G2 _ _ iv
    rw [is_bl.mp iv]
    exact k H2
end
theorem q_pull : F_Lpull = sLpull := rfl
theorem q_names : F_Lnew_names = sLnew_names := rfl
theorem q_like : ∀ n, F_Llike n = sLlike n
  | 0 => rfl
  | n + 1 => by show B_Llike (F_Llike n) = sLlikeB (sLlike n); rw [q_like n]; rfl
theorem q_some : ∀ n, F_Lsome_condition n = sLsome_condition n
  | 0 => rfl
  | n + 1 => by show B_Lsome_condition (F_Lsome_condition n) = sLsome_conditionB (sLsome_condition n); rw [q_some n]; rfl
theorem q_chk : F_checked_parts_ = schecked_parts_ := rfl
/-! ### the parts of a condition, in the order of the text -/
def prt : Cn → List Dt → List (List Dt × Cn)
  | .nt c, p => (p, .nt c) :: prt c (p ++ [.int 1])
  | .bin k a b, p => (p, .bin k a b) :: (prt a (p ++ [.int 1]) ++ prt b (p ++ [.int 2]))
  | .tru, p => [(p, .tru)]
  | .fnd r, p => [(p, .fnd r)]
  | .cmp k v o w q, p => [(p, .cmp k v o w q)]
def allP (l : List (List Dt × Cn)) : List (List Dt × Cn) := l.reverse.flatMap fun q => prt q.2 q.1
theorem prt_kids (c : Cn) (p : List Dt) : prt c p = (p, c) :: allP (kids p c) := by
  cases c <;> simp [prt, kids, allP]
theorem allP_app (l m : List (List Dt × Cn)) : allP (l ++ m) = allP m ++ allP l := by
  unfold allP
  rw [List.reverse_append, List.flatMap_append]
theorem chk_loopE {c0 : Dt} {bg : List Dt} : ∀ (n : Nat) (stk : List (List Dt × Cn)) (prs : List Dt) (x3 x4 x5 : Option Slo), (∀ p ∈ stk, p.2.Ok ∧ p.1.length + p.2.dep ≤ 6) → sizes stk < n → prs.length + sizes stk ≤ 500 →
    ∃ x3' x4' x5', whileD (mTruOwn 2) chkBody n ⟨[some (.dat c0), some (.own prs), some (.own (stk.map enc)), x3, x4, x5], bg⟩ = some (.nx, ⟨[some (.dat c0), some (.own (prs ++ (allP stk).map enc)), some (.own []), x3', x4', x5'], bg⟩)
  | 0, _, _, _, _, _, _, h, _ => absurd h (Nat.not_lt_zero _)
  | n + 1, stk, prs, x3, x4, x5, hok, hn, hb => by
    by_cases hs : stk = []
    · subst hs
      exact ⟨x3, x4, x5, by show some (Res.nx, (⟨[some (.dat c0), some (.own prs), some (.own []), x3, x4, x5], bg⟩ : Sta)) = _; simp [allP]⟩
    · obtain ⟨r, p, rfl⟩ : ∃ r p, stk = r ++ [p] := ⟨stk.dropLast, stk.getLast hs, (List.dropLast_concat_getLast hs).symm⟩
      obtain ⟨pth, c⟩ := p
      rw [sizes_app] at hn hb
      have e1 : sizes [(pth, c)] = c.size := by simp [sizes]
      rw [e1] at hn hb
      have k1 := kids_size pth c
      have k2 := sizes_len r
      have k3 := size_pos c
      obtain ⟨ho, hd⟩ := hok (pth, c) (by simp)
      have hd : pth.length + c.dep ≤ 6 := hd
      have st := chk_step (c0 := c0) (prs := prs) (stk := r.map enc) (x3 := x3) (x4 := x4) (x5 := x5) (bg := bg) ho hd (by omega) (by rw [List.length_map]; omega)
      have em : r.map enc ++ (kids pth c).map enc = (r ++ kids pth c).map enc := by rw [List.map_append]
      rw [em] at st
      obtain ⟨y3, y4, y5, e⟩ := chk_loopE n (r ++ kids pth c) (prs ++ [enc (pth, c)]) (some (.dat (.tup pth))) (some (.dat c.d)) x5 (fun p hp => by
        rcases List.mem_append.mp hp with hp | hp
        · exact hok p (List.mem_append_left _ hp)
        · cases c with
          | nt d =>
            simp only [kids, List.mem_singleton] at hp
            subst hp
            refine ⟨ho, ?_⟩
            have : (Cn.nt d).dep = d.dep + 1 := rfl
            simp only [List.length_append, List.length_singleton]
            omega
          | bin k a b =>
            simp only [kids, List.mem_cons, List.not_mem_nil, or_false] at hp
            have : (Cn.bin k a b).dep = max a.dep b.dep + 1 := rfl
            have q1 := Nat.le_max_left a.dep b.dep
            have q2 := Nat.le_max_right a.dep b.dep
            rcases hp with rfl | rfl
            · refine ⟨ho.2, ?_⟩
              simp only [List.length_append, List.length_singleton]
              omega
            · refine ⟨ho.1, ?_⟩
              simp only [List.length_append, List.length_singleton]
              omega
          | _ => simp [kids] at hp) (by rw [sizes_app]; omega) (by rw [sizes_app, List.length_append, List.length_singleton]; omega)
      have ea : prs ++ (allP (r ++ [(pth, c)])).map enc = prs ++ [enc (pth, c)] ++ (allP (r ++ kids pth c)).map enc := by
        have e0 : allP [(pth, c)] = prt c pth := by simp [allP]
        rw [allP_app, allP_app, e0, prt_kids]
        simp
      refine ⟨y3, y4, y5, ?_⟩
      rw [ea]
      refine Eq.trans ?_ e
      conv => lhs; unfold whileD
      have et : mTruOwn 2 (⟨[some (.dat c0), some (.own prs), some (.own ((r ++ [(pth, c)]).map enc)), x3, x4, x5], bg⟩ : Sta) = some (true, ⟨[some (.dat c0), some (.own prs), some (.own ((r ++ [(pth, c)]).map enc)), x3, x4, x5], bg⟩) := by
        have : ((r ++ [(pth, c)]).map enc).isEmpty = false := by simp
        show some (!((r ++ [(pth, c)]).map enc).isEmpty, _) = _
        rw [this]
        rfl
      rw [et, Option.bind_some, if_pos rfl, List.map_append]
      show (chkBody ⟨[some (.dat c0), some (.own prs), some (.own (r.map enc ++ [enc (pth, c)])), x3, x4, x5], bg⟩).bind _ = _
      rw [st]
      rfl
theorem checked_eq {c : Cn} (h : c.Ok) (hd : c.dep ≤ 6) (bg : List Dt) : schecked_parts_ [c.d] bg = some (.lst ((prt c []).map enc), bg) := by
  have hz := size_dep c
  have hp : 2 ^ c.dep ≤ 2 ^ 6 := Nat.pow_le_pow_right (by decide) hd
  obtain ⟨y3, y4, y5, e⟩ := chk_loopE (c0 := c.d) (bg := bg) 200 [([], c)] [] none none none (fun p hp => by
    rw [List.mem_singleton] at hp
    subst hp
    exact ⟨h, by simpa using hd⟩) (by simp only [sizes]; omega) (by simp only [sizes, List.length_nil]; omega)
  have e0 : allP [(([] : List Dt), c)] = prt c [] := by simp [allP]
  rw [e0, List.nil_append] at e
  unfold schecked_parts_
  refine fnd (s1 := ⟨[some (.dat c.d), some (.dat (.lst ((prt c []).map enc))), some (.own []), y3, y4, y5], bg⟩) ?_
  rw [kseq (s1 := ⟨[some (.dat c.d), some (.own []), none, none, none, none], bg⟩) rfl]
  rw [kseq (s1 := ⟨[some (.dat c.d), some (.own []), some (.own ([(([] : List Dt), c)].map enc)), none, none, none], bg⟩) rfl]
  unfold chkBody at e
  exact (kseq e).trans (kret rfl)
/-! what there is of them -/
theorem prt_len (c : Cn) : ∀ p, (prt c p).length = c.size := by
  induction c with
  | nt c ih => intro p; simp [prt, Cn.size, ih]
  | bin k a b iha ihb => intro p; simp [prt, Cn.size, iha, ihb]
  | _ => intro p; rfl
theorem prt_mem : ∀ (c : Cn) (p : List Dt), c.Ok → (∀ d ∈ p, ∃ i, d = .int i) → ∀ q ∈ prt c p, q.2.Ok ∧ q.2.dep ≤ c.dep ∧ q.1.length + q.2.dep ≤ p.length + c.dep ∧ ∀ d ∈ q.1, ∃ i, d = .int i
  | .nt c, p, h, hp, q, hq => by
    rcases List.mem_cons.mp hq with rfl | hq
    · exact ⟨h, Nat.le_refl _, Nat.le_refl _, hp⟩
    · obtain ⟨h1, h2, h3, h4⟩ := prt_mem c _ h (fun d hd => by
        rcases List.mem_append.mp hd with hd | hd
        · exact hp d hd
        · exact ⟨1, List.mem_singleton.mp hd⟩) q hq
      have e : (Cn.nt c).dep = c.dep + 1 := rfl
      rw [List.length_append, List.length_singleton] at h3
      exact ⟨h1, by omega, by omega, h4⟩
  | .bin k a b, p, h, hp, q, hq => by
    have e : (Cn.bin k a b).dep = max a.dep b.dep + 1 := rfl
    have m1 := Nat.le_max_left a.dep b.dep
    have m2 := Nat.le_max_right a.dep b.dep
    rcases List.mem_cons.mp hq with rfl | hq
    · exact ⟨h, Nat.le_refl _, Nat.le_refl _, hp⟩
    rcases List.mem_append.mp hq with hq | hq
    · obtain ⟨h1, h2, h3, h4⟩ := prt_mem a _ h.1 (fun d hd => by
        rcases List.mem_append.mp hd with hd | hd
        · exact hp d hd
        · exact ⟨1, List.mem_singleton.mp hd⟩) q hq
      rw [List.length_append, List.length_singleton] at h3
      exact ⟨h1, by omega, by omega, h4⟩
    · obtain ⟨h1, h2, h3, h4⟩ := prt_mem b _ h.2 (fun d hd => by
        rcases List.mem_append.mp hd with hd | hd
        · exact hp d hd
        · exact ⟨2, List.mem_singleton.mp hd⟩) q hq
      rw [List.length_append, List.length_singleton] at h3
      exact ⟨h1, by omega, by omega, h4⟩
  | .tru, p, h, hp, q, hq => by
    obtain rfl := List.mem_singleton.mp hq
    exact ⟨h, Nat.le_refl _, Nat.le_refl _, hp⟩
  | .fnd r, p, h, hp, q, hq => by
    obtain rfl := List.mem_singleton.mp hq
    exact ⟨h, Nat.le_refl _, Nat.le_refl _, hp⟩
  | .cmp k v o w z, p, h, hp, q, hq => by
    obtain rfl := List.mem_singleton.mp hq
    exact ⟨h, Nat.le_refl _, Nat.le_refl _, hp⟩
theorem okD_ints {p : List Dt} {n : Nat} (hl : p.length ≤ 1000) (hp : ∀ d ∈ p, ∃ i, d = .int i) : okD (n + 2) (.tup p) = true := by
  show (decide (p.length ≤ 1000) && p.all (okD (n + 1))) = true
  rw [decide_eq_true hl, Bool.true_and]
  refine List.all_eq_true.mpr fun d hd => ?_
  obtain ⟨i, rfl⟩ := hp d hd
  rfl
theorem okD_told {c : Cn} (h : c.Ok) (hd : c.dep ≤ 6) : okD 11 (.lst ((prt c []).map enc)) = true := by
  have hz := size_dep c
  have hp : 2 ^ c.dep ≤ 2 ^ 6 := Nat.pow_le_pow_right (by decide) hd
  show (decide (((prt c []).map enc).length ≤ 1000) && ((prt c []).map enc).all (okD 10)) = true
  rw [decide_eq_true (by rw [List.length_map, prt_len]; omega), Bool.true_and]
  refine List.all_eq_true.mpr fun d hd' => ?_
  obtain ⟨q, hq, rfl⟩ := List.mem_map.mp hd'
  obtain ⟨h1, h2, h3, h4⟩ := prt_mem c [] h (fun _ h => nomatch h) q hq
  rw [List.length_nil] at h3
  have e1 : okD 9 q.2.d = true := by
    have := okD_cn h1 (6 - q.2.dep)
    rwa [show q.2.dep + 3 + (6 - q.2.dep) = 9 by omega] at this
  have e2 : okD 9 (.tup q.1) = true := okD_ints (n := 7) (by omega) h4
  show (decide (2 ≤ 1000) && (okD 9 (.tup q.1) && (okD 9 q.2.d && true))) = true
  rw [e1, e2]
  rfl
/-! ### the values -/
def vOf : Cn → List Dt
  | .cmp _ v o w p => [vald v o, vald w p]
  | _ => []
def vals : Cn → List Dt
  | .cmp _ v o w p => [vald v o, vald w p]
  | .nt c => vals c
  | .bin _ a b => vals a ++ vals b
  | _ => []
theorem vals_prt : ∀ (c : Cn) (p : List Dt), (prt c p).flatMap (fun q => vOf q.2) = vals c
  | .tru, _ => rfl
  | .fnd _, _ => rfl
  | .cmp .., _ => rfl
  | .nt c, p => by
    show vOf (.nt c) ++ (prt c _).flatMap _ = vals c
    rw [vals_prt c]
    rfl
  | .bin k a b, p => by
    show vOf (.bin k a b) ++ (prt a _ ++ prt b _).flatMap _ = vals a ++ vals b
    rw [List.flatMap_append, vals_prt a, vals_prt b]
    rfl
theorem vals_len : ∀ c : Cn, (vals c).length ≤ 2 * c.size
  | .tru => by simp [vals]
  | .fnd _ => by simp [vals]
  | .cmp .. => by simp [vals, Cn.size]
  | .nt c => by have := vals_len c; simp only [vals, Cn.size]; omega
  | .bin _ a b => by have h1 := vals_len a; have h2 := vals_len b; simp only [vals, Cn.size, List.length_append]; omega
theorem vals_ok : ∀ {c : Cn}, c.Ok → ∀ d ∈ vals c, ∃ (v : Sg) (o : Option Int), d = vald v o ∧ v.Ok
  | .tru, _, d, hd => nomatch hd
  | .fnd _, _, d, hd => nomatch hd
  | .cmp k v o w p, h, d, hd => by
    simp only [vals, List.mem_cons, List.not_mem_nil, or_false] at hd
    rcases hd with rfl | rfl
    · exact ⟨v, o, rfl, h.1⟩
    · exact ⟨w, p, rfl, h.2.2.1⟩
  | .nt c, h, d, hd => vals_ok (c := c) h d hd
  | .bin _ a b, h, d, hd => by
    rcases List.mem_append.mp hd with hd | hd
    · exact vals_ok (c := a) h.1 d hd
    · exact vals_ok (c := b) h.2 d hd
theorem vals_few {c : Cn} (hd : c.dep ≤ 6) : (vals c).length ≤ 200 := by
  have h1 := vals_len c
  have h2 := size_dep c
  have hp : 2 ^ c.dep ≤ 2 ^ 6 := Nat.pow_le_pow_right (by decide) hd
  omega
theorem okD_vals {c : Cn} (h : c.Ok) (hd : c.dep ≤ 6) : okD 11 (.lst (vals c)) = true := by
  show (decide ((vals c).length ≤ 1000) && (vals c).all (okD 10)) = true
  rw [decide_eq_true (Nat.le_trans (vals_few hd) (by decide)), Bool.true_and]
  refine List.all_eq_true.mpr fun d hd' => ?_
  obtain ⟨v, o, rfl, hv⟩ := vals_ok h d hd'
  exact okD_vald hv o 7
/-! ### what the program hands out -/
theorem gen_id {x0 : Option Slo} : ∀ (l : List Dt) (x1 : Option Slo) (bg : List Dt), ∃ y, genD (hName 1) (mVar 1) l ⟨[x0, x1], bg⟩ = some (l, ⟨[x0, y], bg⟩)
  | [], x1, bg => ⟨x1, rfl⟩
  | d :: l, x1, bg => by
    obtain ⟨y, e⟩ := gen_id l (some (.dat d)) bg
    refine ⟨y, ?_⟩
    unfold genD
    show (genD (hName 1) (mVar 1) l ⟨[x0, some (.dat d)], bg⟩).bind _ = _
    rw [e]
    rfl
theorem parts_eq {c : Cn} (h : c.Ok) (hd : c.dep ≤ 6) (bg : List Dt) : FG_parts [c.d] bg = some ((prt c []).map enc, bg) := by
  have hz := size_dep c
  have hp : 2 ^ c.dep ≤ 2 ^ 6 := Nat.pow_le_pow_right (by decide) hd
  let t : Sta := ⟨[some (.dat c.d), none], bg⟩
  obtain ⟨y, e⟩ := gen_id (x0 := some (.dat c.d)) ((prt c []).map enc) none bg
  have ec : wLst (mApp F_checked_parts_ (mCons (mVar 0) mNil)) t = some ((prt c []).map enc, t) := by
    unfold wLst
    rw [q_chk, mapp (s1 := t) (ds := [c.d]) rfl (checked_eq h hd bg)]
    rfl
  have eg : mGenFor (wLst (mApp F_checked_parts_ (mCons (mVar 0) mNil))) (hName 1) (mVar 1) t = some ((prt c []).map enc, ⟨[some (.dat c.d), y], bg⟩) := by
    unfold mGenFor
    rw [ec, Option.bind_some, if_pos (by rw [List.length_map, prt_len]; omega)]
    exact e
  show (mGenFor (wLst (mApp F_checked_parts_ (mCons (mVar 0) mNil))) (hName 1) (mVar 1) t).bind _ = _
  rw [eg]
  rfl
theorem vals2 {c0 : Dt} {bg : List Dt} : ∀ l : List (List Dt × Cn), compD2 [some (.dat c0), none, none, none] [1] (hTup 2 (hCons (hName 2) (hCons (hName 3) hNil))) (mB (mKIn t_SIGNS (m2 gIx (mVar 3) (mC (.int 0))))) (wTup (mSl (mVar 3) (mPart (mC (.int 1))) mNoP)) (hName 1) mYes (mVar 1) (l.map enc) bg = some (l.flatMap (fun q => vOf q.2), bg)
  | [] => rfl
  | (p, c) :: l => by
    let s1 : Sta := ⟨[some (.dat c0), none, some (.dat (.tup p)), some (.dat c.d)], bg⟩
    rw [List.map_cons]
    unfold compD2
    have e1 : hTup 2 (hCons (hName 2) (hCons (hName 3) hNil)) (enc (p, c)) ⟨[some (.dat c0), none, none, none], bg⟩ = some s1 := rfl
    rw [e1, Option.bind_some]
    have no : ∀ {z : Str}, gIx c.d (.int 0) = some (.str z) → tblGet t_SIGNS z = none → vOf c = [] → (mB (mKIn t_SIGNS (m2 gIx (mVar 3) (mC (.int 0)))) s1).bind (fun p_1 => if p_1.1 = true then (wTup (mSl (mVar 3) (mPart (mC (.int 1))) mNoP) p_1.2).bind fun q => if q.1.length ≤ 1000 then (compD (wipeS (q.2.sl.map datOnly) [1]) (hName 1) mYes (mVar 1) q.1 q.2.bag).bind fun z => (compD2 [some (.dat c0), none, none, none] [1] (hTup 2 (hCons (hName 2) (hCons (hName 3) hNil))) (mB (mKIn t_SIGNS (m2 gIx (mVar 3) (mC (.int 0))))) (wTup (mSl (mVar 3) (mPart (mC (.int 1))) mNoP)) (hName 1) mYes (mVar 1) (l.map enc) z.2).bind fun y => some (z.1 ++ y.1, y.2) else none else compD2 [some (.dat c0), none, none, none] [1] (hTup 2 (hCons (hName 2) (hCons (hName 3) hNil))) (mB (mKIn t_SIGNS (m2 gIx (mVar 3) (mC (.int 0))))) (wTup (mSl (mVar 3) (mPart (mC (.int 1))) mNoP)) (hName 1) mYes (mVar 1) (l.map enc) p_1.2.bag) = some (((p, c) :: l).flatMap (fun q => vOf q.2), bg) := fun {z} e h hv => by
      rw [mBt (kin_f (s := s1) (z := z) (m2_eq (s1 := s1) (s2 := s1) (x := c.d) (y := .int 0) rfl rfl e) h), Option.bind_some]
      rw [if_neg Bool.false_ne_true, vals2 l, List.flatMap_cons]
      show _ = some (vOf c ++ _, bg)
      rw [hv]
      rfl
    cases c with
    | tru => exact no (z := "true") rfl (by decide +kernel) rfl
    | fnd r => exact no (z := "found") rfl (by decide +kernel) rfl
    | nt d => exact no (z := "not") rfl (by decide +kernel) rfl
    | bin k a b => exact no (z := bw k) rfl (by cases k <;> decide +kernel) rfl
    | cmp k v o w q =>
      rw [mBt (kin_t (s := s1) (z := k.form) (w := k.sign) (m2_eq (s1 := s1) (s2 := s1) (x := (Cn.cmp k v o w q).d) (y := .int 0) rfl rfl rfl) (by cases k <;> decide +kernel)), Option.bind_some]
      rw [if_pos rfl]
      have e2 : wTup (mSl (mVar 3) (mPart (mC (.int 1))) mNoP) s1 = some ([vald v o, vald w q], s1) := rfl
      rw [e2, Option.bind_some, if_pos (show (([vald v o, vald w q], s1) : List Dt × Sta).1.length ≤ 1000 from Nat.le_of_ble_eq_true rfl)]
      have e3 : compD (wipeS (s1.sl.map datOnly) [1]) (hName 1) mYes (mVar 1) [vald v o, vald w q] s1.bag = some ([vald v o, vald w q], bg) := rfl
      rw [e3, Option.bind_some, vals2 l]
      rfl
theorem values_eq {c : Cn} (h : c.Ok) (hd : c.dep ≤ 6) (bg : List Dt) : F_values_in [c.d] bg = some (.lst (vals c), bg) := by
  have hz := size_dep c
  have hp : 2 ^ c.dep ≤ 2 ^ 6 := Nat.pow_le_pow_right (by decide) hd
  let t : Sta := ⟨[some (.dat c.d), none, none, none], bg⟩
  have ec : wLst (mApp F_checked_parts_ (mCons (mVar 0) mNil)) t = some ((prt c []).map enc, t) := by
    unfold wLst
    rw [q_chk, mapp (s1 := t) (ds := [c.d]) rfl (checked_eq h hd bg)]
    rfl
  unfold F_values_in
  refine fnd (s1 := t) (kret ?_)
  show mComp2 _ _ _ _ _ _ _ _ _ t = _
  unfold mComp2
  rw [ec, Option.bind_some, if_pos (by rw [List.length_map, prt_len]; omega)]
  show (compD2 [some (.dat c.d), none, none, none] _ _ _ _ _ _ _ ((prt c []).map enc) bg).bind _ = _
  rw [vals2, vals_prt]
  rfl
/-! ### the law's own lists -/
theorem kret_if {c : DM Bool} {f : DM Dt} {g : DMs} {s : Sta} (h : c s = some (false, s)) : kSeq (kIf c (kRet f) kSkip) g s = g s := kifs h
theorem bl_in3 {c : Cn} {a x y z : Str} {t : Sta} {r : Bool} (ht : mVar 0 t = some (c.d, t)) (hx : gIx c.d (.int 0) = some (.str a)) (h : (x == a || (y == a || (z == a || false))) = r) : mB (m2 gIn (m2 gIx (mVar 0) (mC (.int 0))) (mTup (mCons (mC (.str x)) (mCons (mC (.str y)) (mCons (mC (.str z)) mNil))))) t = some (r, t) :=
  mBt (m2_eq (s1 := t) (s2 := t) (x := .str a) (y := .tup [.str x, .str y, .str z]) (m2_eq (s1 := t) (s2 := t) (x := c.d) (y := .int 0) ht rfl hx) rfl (gin3 h))
theorem bl_in2 {c : Cn} {a x y : Str} {t : Sta} {r : Bool} (ht : mVar 0 t = some (c.d, t)) (hx : gIx c.d (.int 0) = some (.str a)) (h : (x == a || (y == a || false)) = r) : mB (m2 gIn (m2 gIx (mVar 0) (mC (.int 0))) (mTup (mCons (mC (.str x)) (mCons (mC (.str y)) mNil)))) t = some (r, t) :=
  mBt (m2_eq (s1 := t) (s2 := t) (x := .str a) (y := .tup [.str x, .str y]) (m2_eq (s1 := t) (s2 := t) (x := c.d) (y := .int 0) ht rfl hx) rfl (gin2 h))
theorem lvals_eq : ∀ (n : Nat) {c : Cn}, c.dep ≤ n → n ≤ 6 → ∀ bg, F_Lvalues n [c.d] bg = some (.lst (vals c), bg)
  | 0, c, h, _, _ => by have := dep_pos c; omega
  | n + 1, c, h, hn, bg => by
    let t : Sta := ⟨[some (.dat c.d)], bg⟩
    show B_Lvalues (F_Lvalues n) [c.d] bg = _
    unfold B_Lvalues
    refine fnd (s1 := t) ?_
    show kSeq _ _ t = _
    cases c with
    | cmp k v o w p => exact kifr (s1 := t) (s2 := t) (bl_in3 (a := k.form) rfl rfl (by cases k <;> decide +kernel)) rfl
    | tru =>
      rw [kret_if (bl_in3 (a := "true") rfl rfl (by decide +kernel))]
      exact kifr (s1 := t) (s2 := t) (bl_in2 (a := "true") rfl rfl (by decide +kernel)) rfl
    | fnd r =>
      rw [kret_if (bl_in3 (a := "found") rfl rfl (by decide +kernel))]
      exact kifr (s1 := t) (s2 := t) (bl_in2 (a := "found") rfl rfl (by decide +kernel)) rfl
    | nt c =>
      have h1 : c.dep ≤ n := by have e : (Cn.nt c).dep = c.dep + 1 := rfl; omega
      have hv := vals_few (c := c) (by omega)
      rw [kret_if (bl_in3 (a := "not") rfl rfl (by decide +kernel)), kret_if (bl_in2 (a := "not") rfl rfl (by decide +kernel))]
      refine kret (m2_eq (s1 := t) (s2 := t) (x := .lst (vals c)) (y := .lst []) (mapp (s1 := t) (ds := [c.d]) rfl (lvals_eq n h1 (by omega) bg)) ?_ ?_)
      · rw [mif_f (s1 := t) (mBt (m2_eq (s1 := t) (s2 := t) (x := .int 2) (y := .int 3) rfl rfl rfl))]
        rfl
      · rw [gaddL (by simp; omega), List.append_nil]
        rfl
    | bin k a b =>
      have e : (Cn.bin k a b).dep = max a.dep b.dep + 1 := rfl
      have m1 := Nat.le_max_left a.dep b.dep
      have m2 := Nat.le_max_right a.dep b.dep
      have h1 := vals_few (c := a) (by omega)
      have h2 := vals_few (c := b) (by omega)
      rw [kret_if (bl_in3 (a := bw k) rfl rfl (by cases k <;> decide +kernel)), kret_if (bl_in2 (a := bw k) rfl rfl (by cases k <;> decide +kernel))]
      refine kret (m2_eq (s1 := t) (s2 := t) (x := .lst (vals a)) (y := .lst (vals b)) (mapp (s1 := t) (ds := [a.d]) rfl (lvals_eq n (by omega) (by omega) bg)) ?_ (gaddL (by omega)))
      rw [mif_t (s1 := t) (mBt (m2_eq (s1 := t) (s2 := t) (x := .int 3) (y := .int 3) rfl rfl rfl))]
      exact mapp (s1 := t) (ds := [b.d]) rfl (lvals_eq n (by omega) (by omega) bg)
theorem gaddT {a b : List Dt} (h : a.length + b.length ≤ 1000) : gAdd (.tup a) (.tup b) = some (.tup (a ++ b)) := by
  show (if a.length + b.length ≤ sizeLine then _ else _) = _
  rw [if_pos (Nat.le_trans h (by decide))]
theorem all_step {n : Nat} {c d : Cn} {pth found : List Dt} {x3 : Option Slo} {i : Int} {bg : List Dt} (hi : gIx c.d (.int i) = some d.d) (hp : pth.length ≤ 100) (hf : found.length ≤ 500) (hl : (prt d (pth ++ [.int i])).length ≤ 200)
    (ih : F_Lall_parts n [d.d, .tup (pth ++ [.int i])] bg = some (.lst ((prt d (pth ++ [.int i])).map enc), bg)) :
    kAsg (m2 gAdd (mVar 2) (mApp (F_Lall_parts n) (mCons (m2 gIx (mVar 0) (mVar 3)) (mCons (m2 gAdd (mVar 1) (mTup (mCons (mVar 3) mNil))) mNil)))) (hName 2) ⟨[some (.dat c.d), some (.dat (.tup pth)), some (.dat (.lst found)), some (.dat (.int i))], bg⟩ = some (.nx, ⟨[some (.dat c.d), some (.dat (.tup pth)), some (.dat (.lst (found ++ (prt d (pth ++ [.int i])).map enc))), some (.dat (.int i))], bg⟩) := by
  let s : Sta := ⟨[some (.dat c.d), some (.dat (.tup pth)), some (.dat (.lst found)), some (.dat (.int i))], bg⟩
  refine kasg (s1 := s) (d := .lst (found ++ (prt d (pth ++ [.int i])).map enc)) (m2_eq (s1 := s) (s2 := s) (x := .lst found) (y := .lst ((prt d (pth ++ [.int i])).map enc)) rfl ?_ (gaddL (by rw [List.length_map]; omega))) rfl
  refine mapp (s1 := s) (ds := [d.d, .tup (pth ++ [.int i])]) (mcons (s1 := s) (m2_eq (s1 := s) (s2 := s) (x := c.d) (y := .int i) rfl rfl hi) (mcons (s1 := s) (m2_eq (s1 := s) (s2 := s) (x := .tup pth) (y := .tup [.int i]) rfl rfl (gaddT (by simp; omega))) rfl)) ih
theorem mrng2 {f : DM (List Dt)} {s s1 : Sta} {i j : Int} (h : f s = some ([.int i, .int j], s1)) (hb : (bRng i && bRng j) = true) : wRng2 f s = some (rngD i (j - i).toNat, s1) := by
  unfold wRng2
  rw [h, Option.bind_some]
  show (if (bRng i && bRng j) = true then _ else _) = _
  rw [if_pos hb]
theorem size_few {c : Cn} (hd : c.dep ≤ 6) : c.size ≤ 100 := by
  have h2 := size_dep c
  have hp : 2 ^ c.dep ≤ 2 ^ 6 := Nat.pow_le_pow_right (by decide) hd
  omega
theorem lall_eq : ∀ (n : Nat) {c : Cn} (pth : List Dt), c.dep ≤ n → n ≤ 6 → pth.length + n ≤ 50 → ∀ bg, F_Lall_parts n [c.d, .tup pth] bg = some (.lst ((prt c pth).map enc), bg)
  | 0, c, _, h, _, _, _ => by have := dep_pos c; omega
  | n + 1, c, pth, h, hn, hp, bg => by
    let t0 : Sta := ⟨[some (.dat c.d), some (.dat (.tup pth)), none, none], bg⟩
    let t : Sta := ⟨[some (.dat c.d), some (.dat (.tup pth)), some (.dat (.lst [enc (pth, c)])), none], bg⟩
    have f0 : kAsg (mLst (mCons (mTup (mCons (mVar 1) (mCons (mVar 0) mNil))) mNil)) (hName 2) t0 = some (.nx, t) := rfl
    show B_Lall_parts (F_Lall_parts n) [c.d, .tup pth] bg = _
    have leaf : ∀ {z : Str}, gIx c.d (.int 0) = some (.str z) → (("not" : Str) == z || (("and" : Str) == z || (("or" : Str) == z || false))) = false → prt c pth = [(pth, c)] → B_Lall_parts (F_Lall_parts n) [c.d, .tup pth] bg = some (.lst ((prt c pth).map enc), bg) := fun {z} hz hb he => by
      unfold B_Lall_parts
      refine fnd (s1 := t) ?_
      show kSeq _ _ t0 = _
      rw [kseq f0, kifs (s := t) (bl_in3 (a := z) rfl hz hb)]
      rw [he]
      rfl
    cases c with
    | tru => exact leaf (z := "true") rfl (by decide +kernel) rfl
    | fnd r => exact leaf (z := "found") rfl (by decide +kernel) rfl
    | cmp k v o w p => exact leaf (z := k.form) rfl (by cases k <;> decide +kernel) rfl
    | nt d =>
      have e : (Cn.nt d).dep = d.dep + 1 := rfl
      have hs := size_few (c := d) (by omega)
      let t1 : Sta := ⟨[some (.dat (Cn.nt d).d), some (.dat (.tup pth)), some (.dat (.lst ([enc (pth, .nt d)] ++ (prt d (pth ++ [.int 1])).map enc))), some (.dat (.int 1))], bg⟩
      have step := all_step (n := n) (c := .nt d) (d := d) (pth := pth) (found := [enc (pth, .nt d)]) (x3 := none) (i := 1) (bg := bg) rfl (by omega) (by simp) (by rw [prt_len]; omega) (lall_eq n _ (by omega) (by omega) (by rw [List.length_append, List.length_singleton]; omega) bg)
      unfold B_Lall_parts
      refine fnd (s1 := t1) ?_
      show kSeq _ _ t0 = _
      rw [kseq f0]
      refine (kseq (s1 := t1) ?_).trans rfl
      rw [kif_t (s1 := t) (bl_in3 (a := "not") rfl rfl (by decide +kernel))]
      have er : wRng2 (mCons (mC (.int 1)) (mCons (mCall gLen (mCons (mVar 0) mNil)) mNil)) t = some ([.int 1], t) := (mrng2 (s1 := t) (i := 1) (j := 2) rfl (by decide +kernel)).trans rfl
      unfold kFor
      rw [er, Option.bind_some]
      show (kAsg _ _ (⟨[some (.dat (Cn.nt d).d), some (.dat (.tup pth)), some (.dat (.lst [enc (pth, .nt d)])), some (.dat (.int 1))], bg⟩ : Sta)).bind _ = _
      rw [step]
      rfl
    | bin k a b =>
      have e : (Cn.bin k a b).dep = max a.dep b.dep + 1 := rfl
      have m1 := Nat.le_max_left a.dep b.dep
      have m2 := Nat.le_max_right a.dep b.dep
      have hsa := size_few (c := a) (by omega)
      have hsb := size_few (c := b) (by omega)
      let l1 : List Dt := [enc (pth, .bin k a b)] ++ (prt a (pth ++ [.int 1])).map enc
      let t1 : Sta := ⟨[some (.dat (Cn.bin k a b).d), some (.dat (.tup pth)), some (.dat (.lst (l1 ++ (prt b (pth ++ [.int 2])).map enc))), some (.dat (.int 2))], bg⟩
      have step1 := all_step (n := n) (c := .bin k a b) (d := a) (pth := pth) (found := [enc (pth, .bin k a b)]) (x3 := none) (i := 1) (bg := bg) rfl (by omega) (by simp) (by rw [prt_len]; omega) (lall_eq n _ (by omega) (by omega) (by rw [List.length_append, List.length_singleton]; omega) bg)
      have step2 := all_step (n := n) (c := .bin k a b) (d := b) (pth := pth) (found := l1) (x3 := none) (i := 2) (bg := bg) rfl (by omega) (by simp only [l1, List.length_append, List.length_singleton, List.length_map, prt_len]; omega) (by rw [prt_len]; omega) (lall_eq n _ (by omega) (by omega) (by rw [List.length_append, List.length_singleton]; omega) bg)
      unfold B_Lall_parts
      refine fnd (s1 := t1) ?_
      show kSeq _ _ t0 = _
      rw [kseq f0]
      refine (kseq (s1 := t1) ?_).trans ?_
      · rw [kif_t (s1 := t) (bl_in3 (a := bw k) rfl rfl (by cases k <;> decide +kernel))]
        have er : wRng2 (mCons (mC (.int 1)) (mCons (mCall gLen (mCons (mVar 0) mNil)) mNil)) t = some ([.int 1, .int 2], t) := (mrng2 (s1 := t) (i := 1) (j := 3) rfl (by decide +kernel)).trans rfl
        unfold kFor
        rw [er, Option.bind_some]
        show (kAsg _ _ (⟨[some (.dat (Cn.bin k a b).d), some (.dat (.tup pth)), some (.dat (.lst [enc (pth, .bin k a b)])), some (.dat (.int 1))], bg⟩ : Sta)).bind _ = _
        rw [step1, Option.bind_some]
        show (kAsg _ _ (⟨[some (.dat (Cn.bin k a b).d), some (.dat (.tup pth)), some (.dat (.lst l1)), some (.dat (.int 2))], bg⟩ : Sta)).bind _ = _
        rw [step2]
        rfl
      · have el : l1 ++ (prt b (pth ++ [.int 2])).map enc = (prt (.bin k a b) pth).map enc := by simp [l1, prt]
        show some (Res.rt (.lst (l1 ++ (prt b (pth ++ [.int 2])).map enc)), t1) = _
        rw [el]
/-! ### all_of -/
theorem all0 (bg : List Dt) : F_all_of [.tup []] bg = some (Cn.tru.d, bg) := rfl
theorem all1 (a : Dt) (bg : List Dt) : F_all_of [.tup [a]] bg = some (a, bg) := rfl
theorem all2 (a b : Dt) (bg : List Dt) : F_all_of [.tup [a, b]] bg = some (.tup [.str "and", a, b], bg) := rfl
theorem all3 (a b c : Dt) (bg : List Dt) : F_all_of [.tup [a, b, c]] bg = some (.tup [.str "and", a, .tup [.str "and", b, c]], bg) := rfl
/-! ### the law, turn by turn -/
omit [Me] in
noncomputable def kk1 : DMs := (kAsg (mApp F_Lnew_names (mCons (mVar 1) (mCons (mC (.int 2)) mNil))) (hName 3))
omit [Me] in
noncomputable def kk2 : DMs := (kAsg (mLst (mCons (mTup (mCons (mC (.str "name")) (mCons (m2 gIx (mVar 3) (mC (.int 0))) mNil))) (mCons (mTup (mCons (mC (.str "field")) (mCons (m2 gIx (mVar 3) (mC (.int 0))) (mCons (m2 gIx (mVar 3) (mC (.int 1))) mNil)))) (mCons (mTup (mCons (mC (.str "own")) (mCons (mC (.str "key")) mNil))) (mCons (mTup (mCons (mC (.str "next")) (mCons (mC (.str "key")) mNil))) mNil))))) (hName 4))
omit [Me] in
noncomputable def kk3 : DMs := (kAsg (mComp [10] (wRng1 (mCons (mApp F_Lpull (mCons (mVar 1) (mCons (mC (.int 4)) mNil))) mNil)) (hName 10) mYes (mApp (F_Lsome_condition 6) (mCons (mVar 1) (mCons (mVar 4) (mCons (mC (.int 2)) mNil))))) (hName 5))
omit [Me] in
noncomputable def kk4 : DMs := (kAsg (mIf (mB (m2 gEq (mVar 5) (mLst mNil))) (mTup (mCons (mC (.str "true")) mNil)) (m2 gIx (mVar 5) (m2 gSub0 (mCall gLen (mCons (mVar 5) mNil)) (mC (.int 1))))) (hName 6))
omit [Me] in
noncomputable def kk5 : DMs := (kFor (wLst (mRev (mSl (mVar 5) mNoP (mPart (m2 gSub0 (mCall gLen (mCons (mVar 5) mNil)) (mC (.int 1))))))) (hName 7) (kAsg (mTup (mCons (mC (.str "and")) (mCons (mVar 7) (mCons (mVar 6) mNil)))) (hName 6)))
omit [Me] in
noncomputable def kk6 : DMs := (kAsg (mIf (mB (m2 gEq (mVar 5) (mLst mNil))) (mAppSt F_all_of mNil) (mIf (mB (m2 gEq (mCall gLen (mCons (mVar 5) mNil)) (mC (.int 1)))) (mAppSt F_all_of (mCons (m2 gIx (mVar 5) (mC (.int 0))) mNil)) (mAppSt F_all_of (mCons (m2 gIx (mVar 5) (mC (.int 0))) (mCons (m2 gIx (mVar 5) (mC (.int 1))) mNil))))) (hName 8))
omit [Me] in
noncomputable def kk7 : DMs := (kIf (mB (m2 gEq (mCall gLen (mCons (mVar 5) mNil)) (mC (.int 3)))) (kAsg (mAppSt F_all_of (mCons (m2 gIx (mVar 5) (mC (.int 0))) (mCons (m2 gIx (mVar 5) (mC (.int 1))) (mCons (m2 gIx (mVar 5) (mC (.int 2))) mNil)))) (hName 8)) kSkip)
omit [Me] in
noncomputable def kk8 : DMs := (kIf (mNotB (mB (mApp (F_Llike 12) (mCons (mVar 8) (mCons (mVar 6) mNil))))) (kRet (mC (.bl false))) kSkip)
omit [Me] in
noncomputable def kk9 : DMs := (kOwnG 9 FG_parts (mCons (mVar 6) mNil))
omit [Me] in
noncomputable def kk10 : DMs := (kIf (mLend 9 [0, 1, 2, 3, 4, 5, 7, 8, 10, 11] (mNotB (mB (mApp (F_Llike 12) (mCons (mLst (mCons (mVar 9) (mCons (mApp F_values_in (mCons (mVar 6) mNil)) (mCons (mAppK [0] F_values_in (mCons (mVar 6) mNil)) mNil)))) (mCons (mLst (mCons (mApp (F_Lall_parts 6) (mCons (mVar 6) (mCons (mTup mNil) mNil))) (mCons (mApp (F_Lvalues 6) (mCons (mVar 6) mNil)) (mCons (mApp (F_Lvalues 6) (mCons (mVar 6) mNil)) mNil)))) mNil)))))) (kRet (mC (.bl false))) kSkip)
omit [Me] in
noncomputable def kk11 : DMs := (kDrop (mClear 9))
omit [Me] in
noncomputable def kk12 : DMs := (kAppF F_values_in (mCons (mVar 6) mNil))
omit [Me] in
noncomputable def kk13 : DMs := (kIf (mNotB (mB (mApp (F_Llike 12) (mCons (mLst (mCons (mListG FG_parts (mCons (mVar 6) mNil)) (mCons (mApp F_values_in (mCons (mVar 6) mNil)) mNil))) (mCons (mLst (mCons (mApp (F_Lall_parts 6) (mCons (mVar 6) (mCons (mTup mNil) mNil))) (mCons (mApp (F_Lvalues 6) (mCons (mVar 6) mNil)) mNil))) mNil))))) (kRet (mC (.bl false))) kSkip)
theorem law_eq : B_law = kSeq (kFor (wRng1 (mCons (mC (.int 6)) mNil)) (hName 2) (kSeq kk1 (kSeq kk2 (kSeq kk3 (kSeq kk4 (kSeq kk5 (kSeq kk6 (kSeq kk7 (kSeq kk8 (kSeq kk9 (kSeq kk10 (kSeq kk11 (kSeq kk12 kk13))))))))))))) (kRet (mC (.bl true))) := rfl
abbrev st (x2 x3 x4 x5 x6 x7 x8 x9 x10 x11 : Option Slo) (bg : List Dt) : Sta := ⟨[none, some (.dat .bag), x2, x3, x4, x5, x6, x7, x8, x9, x10, x11], bg⟩
abbrev dt (d : Dt) : Option Slo := some (.dat d)
def I (s : Sta) : Prop := ∃ x2 x3 x4 x5 x6 x7 x8 x9 x10 x11, s.sl = [none, some (.dat .bag), x2, x3, x4, x5, x6, x7, x8, x9, x10, x11] ∧ BagOk s.bag
theorem cns_of : ∀ {rs : List Dt}, (∀ r ∈ rs, ∃ c : Cn, r = c.d ∧ c.Ok ∧ c.dep ≤ 3) → ∃ cs : List Cn, rs = cs.map Cn.d ∧ ∀ c ∈ cs, c.Ok ∧ c.dep ≤ 3
  | [], _ => ⟨[], rfl, fun _ h => nomatch h⟩
  | r :: rs, h => by
    obtain ⟨c, rfl, hc⟩ := h r (List.mem_cons_self ..)
    obtain ⟨cs, rfl, hs⟩ := cns_of fun z hz => h z (List.mem_cons_of_mem _ hz)
    refine ⟨c :: cs, rfl, fun z hz => ?_⟩
    rcases List.mem_cons.mp hz with rfl | hz
    · exact hc
    · exact hs z hz
theorem rows_eq {cs : List Cn} (h : ∀ c ∈ cs, c.Ok ∧ c.dep ≤ 3) (hl : cs.length ≤ 3) : gEq (.lst (cs.map Cn.d)) (.lst []) = some (.bl cs.isEmpty) := by
  have ok : okD 10 (.lst (cs.map Cn.d)) = true := by
    show (decide ((cs.map Cn.d).length ≤ 1000) && (cs.map Cn.d).all (okD 9)) = true
    rw [decide_eq_true (by rw [List.length_map]; omega), Bool.true_and]
    refine List.all_eq_true.mpr fun d hd => ?_
    obtain ⟨c, hc, rfl⟩ := List.mem_map.mp hd
    obtain ⟨h1, h2⟩ := h c hc
    have := okD_cn h1 (6 - c.dep)
    rwa [show c.dep + 3 + (6 - c.dep) = 9 by omega] at this
  unfold gEq
  rw [eqOk_of ok (by decide), eqOk_of (d := .lst []) (n := 1) rfl (by decide)]
  cases cs with
  | nil => rfl
  | cons v r => rfl
/-- the conjunction of rows -/
def conj : List Cn → Cn
  | [] => .tru
  | [a] => a
  | a :: r => .bin true a (conj r)
theorem mid {cs : List Cn} (h : ∀ c ∈ cs, c.Ok ∧ c.dep ≤ 3) (hl : cs.length ≤ 3) (x2 x3 x4 x6 x7 x8 x9 x10 x11 : Option Slo) (bg : List Dt) (g : DMs) :
    ∃ (c : Cn) (y7 : Option Slo), c.Ok ∧ c.dep ≤ 5 ∧ kSeq kk4 (kSeq kk5 (kSeq kk6 (kSeq kk7 g))) (st x2 x3 x4 (dt (.lst (cs.map Cn.d))) x6 x7 x8 x9 x10 x11 bg) = g (st x2 x3 x4 (dt (.lst (cs.map Cn.d))) (dt c.d) y7 (dt c.d) x9 x10 x11 bg) := by
  have hr := rows_eq h hl
  match cs, hl with
  | [], _ =>
    let r : Option Slo := dt (.lst [])
    have eb : ∀ a b c, mB (m2 gEq (mVar 5) (mLst mNil)) (st x2 x3 x4 r a b c x9 x10 x11 bg) = some (true, st x2 x3 x4 r a b c x9 x10 x11 bg) := fun a b c =>
      mBt (m2_eq (s1 := st x2 x3 x4 r a b c x9 x10 x11 bg) (s2 := st x2 x3 x4 r a b c x9 x10 x11 bg) (x := .lst []) (y := .lst []) rfl rfl hr)
    refine ⟨.tru, x7, trivial, by decide, ?_⟩
    refine (kseq (s1 := st x2 x3 x4 r (dt Cn.tru.d) x7 x8 x9 x10 x11 bg) (show kk4 (st x2 x3 x4 r x6 x7 x8 x9 x10 x11 bg) = some (.nx, st x2 x3 x4 r (dt Cn.tru.d) x7 x8 x9 x10 x11 bg) from kasg (s1 := st x2 x3 x4 r x6 x7 x8 x9 x10 x11 bg) (d := Cn.tru.d) (by rw [mif_t (eb _ _ _)]; rfl) rfl)).trans ?_
    refine (kseq (s1 := st x2 x3 x4 r (dt Cn.tru.d) x7 x8 x9 x10 x11 bg) rfl).trans ?_
    refine (kseq (s1 := st x2 x3 x4 r (dt Cn.tru.d) x7 (dt Cn.tru.d) x9 x10 x11 bg) (show kk6 (st x2 x3 x4 r (dt Cn.tru.d) x7 x8 x9 x10 x11 bg) = some (.nx, st x2 x3 x4 r (dt Cn.tru.d) x7 (dt Cn.tru.d) x9 x10 x11 bg) from kasg (s1 := st x2 x3 x4 r (dt Cn.tru.d) x7 x8 x9 x10 x11 bg) (d := Cn.tru.d) (by rw [mif_t (eb _ _ _)]; rfl) rfl)).trans ?_
    refine (kseq (s1 := st x2 x3 x4 r (dt Cn.tru.d) x7 (dt Cn.tru.d) x9 x10 x11 bg) rfl).trans ?_
    rfl
  | [a], _ =>
    let r : Option Slo := dt (.lst [a.d])
    have eb : ∀ y b c, mB (m2 gEq (mVar 5) (mLst mNil)) (st x2 x3 x4 r y b c x9 x10 x11 bg) = some (false, st x2 x3 x4 r y b c x9 x10 x11 bg) := fun y b c =>
      mBt (m2_eq (s1 := st x2 x3 x4 r y b c x9 x10 x11 bg) (s2 := st x2 x3 x4 r y b c x9 x10 x11 bg) (x := .lst [a.d]) (y := .lst []) rfl rfl hr)
    obtain ⟨ha, hd⟩ := h a (by simp)
    refine ⟨a, x7, ha, by omega, ?_⟩
    refine (kseq (s1 := st x2 x3 x4 r (dt a.d) x7 x8 x9 x10 x11 bg) (show kk4 (st x2 x3 x4 r x6 x7 x8 x9 x10 x11 bg) = some (.nx, st x2 x3 x4 r (dt a.d) x7 x8 x9 x10 x11 bg) from kasg (s1 := st x2 x3 x4 r x6 x7 x8 x9 x10 x11 bg) (d := a.d) (by rw [mif_f (eb _ _ _)]; rfl) rfl)).trans ?_
    refine (kseq (s1 := st x2 x3 x4 r (dt a.d) x7 x8 x9 x10 x11 bg) rfl).trans ?_
    refine (kseq (s1 := st x2 x3 x4 r (dt a.d) x7 (dt a.d) x9 x10 x11 bg) (show kk6 (st x2 x3 x4 r (dt a.d) x7 x8 x9 x10 x11 bg) = some (.nx, st x2 x3 x4 r (dt a.d) x7 (dt a.d) x9 x10 x11 bg) from kasg (s1 := st x2 x3 x4 r (dt a.d) x7 x8 x9 x10 x11 bg) (d := a.d) (by rw [mif_f (eb _ _ _)]; rfl) rfl)).trans ?_
    refine (kseq (s1 := st x2 x3 x4 r (dt a.d) x7 (dt a.d) x9 x10 x11 bg) rfl).trans ?_
    rfl
  | [a, b], _ =>
    let r : Option Slo := dt (.lst [a.d, b.d])
    have eb : ∀ y z c, mB (m2 gEq (mVar 5) (mLst mNil)) (st x2 x3 x4 r y z c x9 x10 x11 bg) = some (false, st x2 x3 x4 r y z c x9 x10 x11 bg) := fun y z c =>
      mBt (m2_eq (s1 := st x2 x3 x4 r y z c x9 x10 x11 bg) (s2 := st x2 x3 x4 r y z c x9 x10 x11 bg) (x := .lst [a.d, b.d]) (y := .lst []) rfl rfl hr)
    obtain ⟨ha, hda⟩ := h a (by simp)
    obtain ⟨hb, hdb⟩ := h b (by simp)
    let C : Cn := .bin true a b
    refine ⟨C, dt a.d, ⟨ha, hb⟩, by show max a.dep b.dep + 1 ≤ 5; have := Nat.max_le.mpr ⟨hda, hdb⟩; omega, ?_⟩
    refine (kseq (s1 := st x2 x3 x4 r (dt b.d) x7 x8 x9 x10 x11 bg) (show kk4 (st x2 x3 x4 r x6 x7 x8 x9 x10 x11 bg) = some (.nx, st x2 x3 x4 r (dt b.d) x7 x8 x9 x10 x11 bg) from kasg (s1 := st x2 x3 x4 r x6 x7 x8 x9 x10 x11 bg) (d := b.d) (by rw [mif_f (eb _ _ _)]; rfl) rfl)).trans ?_
    refine (kseq (s1 := st x2 x3 x4 r (dt C.d) (dt a.d) x8 x9 x10 x11 bg) rfl).trans ?_
    refine (kseq (s1 := st x2 x3 x4 r (dt C.d) (dt a.d) (dt C.d) x9 x10 x11 bg) (show kk6 (st x2 x3 x4 r (dt C.d) (dt a.d) x8 x9 x10 x11 bg) = some (.nx, st x2 x3 x4 r (dt C.d) (dt a.d) (dt C.d) x9 x10 x11 bg) from kasg (s1 := st x2 x3 x4 r (dt C.d) (dt a.d) x8 x9 x10 x11 bg) (d := C.d) (by rw [mif_f (eb _ _ _)]; rfl) rfl)).trans ?_
    refine (kseq (s1 := st x2 x3 x4 r (dt C.d) (dt a.d) (dt C.d) x9 x10 x11 bg) rfl).trans ?_
    rfl
  | [a, b, c], _ =>
    let r : Option Slo := dt (.lst [a.d, b.d, c.d])
    have eb : ∀ y z w, mB (m2 gEq (mVar 5) (mLst mNil)) (st x2 x3 x4 r y z w x9 x10 x11 bg) = some (false, st x2 x3 x4 r y z w x9 x10 x11 bg) := fun y z w =>
      mBt (m2_eq (s1 := st x2 x3 x4 r y z w x9 x10 x11 bg) (s2 := st x2 x3 x4 r y z w x9 x10 x11 bg) (x := .lst [a.d, b.d, c.d]) (y := .lst []) rfl rfl hr)
    obtain ⟨ha, hda⟩ := h a (by simp)
    obtain ⟨hb, hdb⟩ := h b (by simp)
    obtain ⟨hc, hdc⟩ := h c (by simp)
    let C : Cn := .bin true a (.bin true b c)
    refine ⟨C, dt a.d, ⟨ha, hb, hc⟩, by show max a.dep (max b.dep c.dep + 1) + 1 ≤ 5; have h1 := Nat.max_le.mpr ⟨hdb, hdc⟩; have := Nat.max_le.mpr ⟨show a.dep ≤ 4 by omega, show max b.dep c.dep + 1 ≤ 4 by omega⟩; omega, ?_⟩
    refine (kseq (s1 := st x2 x3 x4 r (dt c.d) x7 x8 x9 x10 x11 bg) (show kk4 (st x2 x3 x4 r x6 x7 x8 x9 x10 x11 bg) = some (.nx, st x2 x3 x4 r (dt c.d) x7 x8 x9 x10 x11 bg) from kasg (s1 := st x2 x3 x4 r x6 x7 x8 x9 x10 x11 bg) (d := c.d) (by rw [mif_f (eb _ _ _)]; rfl) rfl)).trans ?_
    refine (kseq (s1 := st x2 x3 x4 r (dt C.d) (dt a.d) x8 x9 x10 x11 bg) rfl).trans ?_
    refine (kseq (s1 := st x2 x3 x4 r (dt C.d) (dt a.d) (dt (.tup [.str "and", a.d, b.d])) x9 x10 x11 bg) (show kk6 (st x2 x3 x4 r (dt C.d) (dt a.d) x8 x9 x10 x11 bg) = some (.nx, st x2 x3 x4 r (dt C.d) (dt a.d) (dt (.tup [.str "and", a.d, b.d])) x9 x10 x11 bg) from kasg (s1 := st x2 x3 x4 r (dt C.d) (dt a.d) x8 x9 x10 x11 bg) (d := .tup [.str "and", a.d, b.d]) (by rw [mif_f (eb _ _ _)]; rfl) rfl)).trans ?_
    refine (kseq (s1 := st x2 x3 x4 r (dt C.d) (dt a.d) (dt C.d) x9 x10 x11 bg) rfl).trans ?_
    rfl
theorem okA {c : Cn} (h : c.Ok) (hd : c.dep ≤ 6) : okD 12 (.lst [.lst ((prt c []).map enc), .lst (vals c), .lst (vals c)]) = true ∧ okD 12 (.lst [.lst ((prt c []).map enc), .lst (vals c)]) = true := by
  refine ⟨?_, ?_⟩
  · show (decide (3 ≤ 1000) && (okD 11 (.lst ((prt c []).map enc)) && (okD 11 (.lst (vals c)) && (okD 11 (.lst (vals c)) && true)))) = true
    rw [okD_told h hd, okD_vals h hd]
    rfl
  · show (decide (2 ≤ 1000) && (okD 11 (.lst ((prt c []).map enc)) && (okD 11 (.lst (vals c)) && true))) = true
    rw [okD_told h hd, okD_vals h hd]
    rfl
theorem rest_ok {c : Cn} (h : c.Ok) (hd : c.dep ≤ 5) (x2 x3 x4 x5 x7 x9 x10 x11 : Option Slo) (bg : List Dt) :
    ∃ s', kSeq kk8 (kSeq kk9 (kSeq kk10 (kSeq kk11 (kSeq kk12 kk13)))) (st x2 x3 x4 x5 (dt c.d) x7 (dt c.d) x9 x10 x11 bg) = some (.nx, s') ∧ ∃ y9, s' = st x2 x3 x4 x5 (dt c.d) x7 (dt c.d) y9 x10 x11 bg := by
  have hd6 : c.dep ≤ 6 := by omega
  have hc12 : okD 12 c.d = true := by
    have := okD_cn h (9 - c.dep)
    rwa [show c.dep + 3 + (9 - c.dep) = 12 by omega] at this
  let told : List Dt := (prt c []).map enc
  let s : Option Slo → Sta := fun y => st x2 x3 x4 x5 (dt c.d) x7 (dt c.d) y x10 x11 bg
  have f8 : kk8 (s x9) = some (.nx, s x9) := by
    unfold kk8
    rw [kif_f (s1 := s x9) (mNotB_eq (b := true) (mBt (by rw [q_like]; exact mapp (s1 := s x9) (ds := [c.d, c.d]) rfl (like_refl 12 _ bg hc12))))]
    rfl
  have f9 : kk9 (s x9) = some (.nx, s (some (.own told))) := by
    unfold kk9 kOwnG
    show (FG_parts [c.d] bg).bind _ = _
    rw [parts_eq h hd6]
    rfl
  have hpl : plains told = true := (ok_eq 11 _ (okD_told h hd6)).1
  have hpc : plain c.d = true := (ok_eq 12 _ hc12).1
  let L : List (Option Slo) := [none, none, none, none, none, none, dt c.d, none, none, dt (.lst told), none, none]
  have eL : lendS 9 told [0, 1, 2, 3, 4, 5, 7, 8, 10, 11] (s (some (.own told))).sl = L := by
    show [none, none, none, none, none, none, plainOnly (dt c.d), none, none, dt (.lst told), none, none] = L
    have e6 : plainOnly (dt c.d) = dt c.d := if_pos hpc
    rw [e6]
  have f10 : kk10 (s (some (.own told))) = some (.nx, s (some (.own told))) := by
    unfold kk10
    rw [kif_f (s1 := s (some (.own told))) (mLend_eq (l := told) (sl' := L) rfl hpl fun b => ?_)]
    · rfl
    · rw [eL]
      let t : Sta := ⟨L, b⟩
      refine mNotB_eq (b := true) (mBt ?_)
      rw [q_like]
      refine mapp (s1 := t) (ds := [.lst [.lst told, .lst (vals c), .lst (vals c)], .lst [.lst told, .lst (vals c), .lst (vals c)]]) ?_ (like_refl 12 _ b (okA h hd6).1)
      refine mcons (s1 := t) (mlst (mcons (s1 := t) rfl (mcons (s1 := t) (mapp (s1 := t) (ds := [c.d]) rfl (values_eq h hd6 b)) (mcons (s1 := t) (mappK (s1 := t) (ds := [c.d]) (es := [c.d]) rfl rfl (values_eq h hd6 b)) rfl)))) (mcons (s1 := t) (mlst (mcons (s1 := t) (mapp (s1 := t) (ds := [c.d, .tup []]) rfl (lall_eq 6 [] hd6 (Nat.le_refl _) (by decide) b)) (mcons (s1 := t) (mapp (s1 := t) (ds := [c.d]) rfl (lvals_eq 6 hd6 (Nat.le_refl _) b)) (mcons (s1 := t) (mapp (s1 := t) (ds := [c.d]) rfl (lvals_eq 6 hd6 (Nat.le_refl _) b)) rfl)))) rfl)
  have f11 : kk11 (s (some (.own told))) = some (.nx, s (some (.own []))) := rfl
  have f12 : kk12 (s (some (.own []))) = some (.nx, s (some (.own []))) := by
    unfold kk12 kAppF
    show (F_values_in [c.d] bg).bind _ = _
    rw [values_eq h hd6, Option.bind_some]
    show (if (vals c).length < 100000 then _ else _) = _
    rw [if_pos (Nat.lt_of_le_of_lt (vals_few hd6) (by decide))]
  have f13 : kk13 (s (some (.own []))) = some (.nx, s (some (.own []))) := by
    let t : Sta := s (some (.own []))
    unfold kk13
    rw [kif_f (s1 := t) (mNotB_eq (b := true) (mBt ?_))]
    · rfl
    · rw [q_like]
      have eg : mListG FG_parts (mCons (mVar 6) mNil) t = some (.lst told, t) := by
        unfold mListG
        show (FG_parts [c.d] bg).bind _ = _
        rw [parts_eq h hd6]
        rfl
      refine mapp (s1 := t) (ds := [.lst [.lst told, .lst (vals c)], .lst [.lst told, .lst (vals c)]]) ?_ (like_refl 12 _ bg (okA h hd6).2)
      refine mcons (s1 := t) (mlst (mcons (s1 := t) eg (mcons (s1 := t) (mapp (s1 := t) (ds := [c.d]) rfl (values_eq h hd6 bg)) rfl))) (mcons (s1 := t) (mlst (mcons (s1 := t) (mapp (s1 := t) (ds := [c.d, .tup []]) rfl (lall_eq 6 [] hd6 (Nat.le_refl _) (by decide) bg)) (mcons (s1 := t) (mapp (s1 := t) (ds := [c.d]) rfl (lvals_eq 6 hd6 (Nat.le_refl _) bg)) rfl))) rfl)
  refine ⟨s (some (.own [])), ?_, _, rfl⟩
  show kSeq kk8 _ (s x9) = _
  rw [kseq f8, kseq f9, kseq f10, kseq f11, kseq f12, f13]
theorem turn (d : Dt) (s : Sta) (h : I s) : ∃ s1 r s2, hName 2 d s = some s1 ∧ (kSeq kk1 (kSeq kk2 (kSeq kk3 (kSeq kk4 (kSeq kk5 (kSeq kk6 (kSeq kk7 (kSeq kk8 (kSeq kk9 (kSeq kk10 (kSeq kk11 (kSeq kk12 kk13)))))))))))) s1 = some (r, s2) ∧ (r = .nx ∨ r = .ct) ∧ I s2 := by
  obtain ⟨x2, x3, x4, x5, x6, x7, x8, x9, x10, x11, hs, hb⟩ := h
  obtain ⟨sl, bg⟩ := s
  dsimp only at hs hb
  subst hs
  obtain ⟨ns, bg1, e1, hl, hn, hb1⟩ := new_names hb (m := 2) (by decide)
  match ns, hl with
  | [n0, n1], _ =>
    have h0 := hn n0 (by simp)
    have h1 := hn n1 (by simp)
    let pool : List Sg := [.name n0, .field n0 n1, .own "key", .next "key"]
    have hp : PoolOk pool := by
      refine ⟨fun v hv => ?_, by simp [pool], by simp [pool]⟩
      simp only [pool, List.mem_cons, List.not_mem_nil, or_false] at hv
      rcases hv with rfl | rfl | rfl | rfl
      · exact h0
      · exact ⟨h0, .inr h1⟩
      · exact .inl rfl
      · exact .inl rfl
    let N : Dt := .lst [.str n0, .str n1]
    let P : Dt := .lst (pool.map Sg.d)
    let s0 : Sta := st (dt d) x3 x4 x5 x6 x7 x8 x9 x10 x11 bg
    let s1 : Sta := st (dt d) (dt N) x4 x5 x6 x7 x8 x9 x10 x11 bg1
    let s2 : Sta := st (dt d) (dt N) (dt P) x5 x6 x7 x8 x9 x10 x11 bg1
    have f1 : kk1 s0 = some (.nx, s1) := kasg (s1 := { s0 with bag := bg1 }) (by rw [q_names]; exact mapp (s1 := s0) (ds := [.bag, .int 2]) rfl e1) rfl
    have f2 : kk2 s1 = some (.nx, s2) := rfl
    obtain ⟨r, bg2, e3, r0, r1, hb2⟩ := pull_ok hb1 (n := 4) (by decide) (by decide)
    let s3 : Sta := st (dt d) (dt N) (dt P) x5 x6 x7 x8 x9 x10 x11 bg2
    have er : wRng1 (mCons (mApp F_Lpull (mCons (mVar 1) (mCons (mC (.int 4)) mNil))) mNil) s2 = some (rngD 0 r.toNat, s3) := by
      rw [q_pull]
      exact mrng1 (mcons (s1 := s3) (mapp (s1 := s2) (ds := [.bag, .int 4]) rfl e3) rfl) r0 (by omega)
    let sl0 : List (Option Slo) := [none, some (.dat .bag), datOnly (dt d), datOnly (dt N), datOnly (dt P), datOnly x5, datOnly x6, datOnly x7, datOnly x8, datOnly x9, none, datOnly x11]
    obtain ⟨rs, bg3, e4, hrl, hrs, hb3⟩ := comp_all (sl0 := sl0) (h := hName 10) (t := mYes) (e := mApp (F_Lsome_condition 6) (mCons (mVar 1) (mCons (mVar 4) (mCons (mC (.int 2)) mNil)))) (fun _ => True) (fun z => ∃ c : Cn, z = c.d ∧ c.Ok ∧ c.dep ≤ 3)
      (fun z b _ hbz => by
        let u : Sta := ⟨[none, some (.dat .bag), datOnly (dt d), datOnly (dt N), dt P, datOnly x5, datOnly x6, datOnly x7, datOnly x8, datOnly x9, dt z, datOnly x11], b⟩
        obtain ⟨c, b', e5, hc, hcd, hb'⟩ := some_condition hp 6 2 (by decide) hbz
        refine ⟨u, u, c.d, { u with bag := b' }, rfl, rfl, ?_, ⟨c, rfl, hc, hcd⟩, hb'⟩
        rw [q_some]
        exact mapp (s1 := u) (ds := [.bag, P, .int 2]) rfl e5) (rngD 0 r.toNat) bg2 (fun _ _ => trivial) hb2
    obtain ⟨cs, rfl, hcs⟩ := cns_of hrs
    have hcl : cs.length ≤ 3 := by
      rw [rng_len, List.length_map] at hrl
      omega
    let s4 : Sta := st (dt d) (dt N) (dt P) (dt (.lst (cs.map Cn.d))) x6 x7 x8 x9 x10 x11 bg3
    have f3 : kk3 s2 = some (.nx, s4) := kasg (s1 := { s3 with bag := bg3 }) (d := .lst (cs.map Cn.d)) (mcomp (s1 := s3) er (by rw [rng_len]; omega) e4) rfl
    obtain ⟨c, y7, hc, hcd, f4⟩ := mid hcs hcl (dt d) (dt N) (dt P) x6 x7 x8 x9 x10 x11 bg3 (kSeq kk8 (kSeq kk9 (kSeq kk10 (kSeq kk11 (kSeq kk12 kk13)))))
    obtain ⟨s5, f5, y9, rfl⟩ := rest_ok hc hcd (dt d) (dt N) (dt P) (dt (.lst (cs.map Cn.d))) y7 x9 x10 x11 bg3
    refine ⟨s0, .nx, st (dt d) (dt N) (dt P) (dt (.lst (cs.map Cn.d))) (dt c.d) y7 (dt c.d) y9 x10 x11 bg3, rfl, ?_, .inl rfl, ⟨_, _, _, _, _, _, _, _, _, _, rfl, hb3⟩⟩
    rw [kseq f1, kseq f2, kseq f3, f4, f5]
theorem hB (ns : List Int) (seed : Int) (h : ns.length ≤ 63) (h0 : 0 ≤ seed) (h1 : seed < 2147483549) : ∃ s', B_law ⟨[none, some (.dat .bag)] ++ List.replicate (N_law.length - 2) none, bag0 ns seed⟩ = some (.rt (.bl true), s') := by
  obtain ⟨s', e, x2, x3, x4, x5, x6, x7, x8, x9, x10, x11, hs, hb⟩ := loop_inv I turn (rngD 0 (6 : Int).toNat) ⟨[none, some (.dat .bag), none, none, none, none, none, none, none, none, none, none], bag0 ns seed⟩ ⟨_, _, _, _, _, _, _, _, _, _, rfl, bag0_ok h0 h1⟩
  rw [law_eq]
  exact ⟨s', (kseq (kfor_rng (by decide) (by decide) e)).trans rfl⟩
end Laws
set_option maxHeartbeats 0 in
theorem all_mk {l : PySem.W.OpenLaw} {w : World} {K : PySem.W.Frag} {h : Heap} {mg : Str → Option Value} {fa f0 f1 f2 f3 f4 f5 f6 f7 f8 f9 f10 f11 f12 f13 f14 f15 f16 f17 f18 f19 f20 f21 f22 f23 f24 : Addr} {od0 an0 od1 an1 od2 an2 od3 an3 od4 an4 od5 an5 od6 an6 od7 an7 od8 an8 od9 an9 od10 an10 od11 an11 od12 an12 od13 an13 od14 an14 od15 an15 od16 an16 od17 an17 od18 an18 od19 an19 od20 an20 od21 an21 od22 an22 od23 an23 od24 an24 : Option Addr} {sl0 sl1 sl2 sl3 sl4 sl5 sl6 sl7 sl8 sl9 sl10 sl11 sl12 sl13 sl14 sl15 sl16 sl17 sl18 sl19 sl20 sl21 sl22 sl23 sl24 : Array (Option Value)} {oc0 kV0 dc0 pm0 ct0 cd0 oc1 kV1 dc1 pm1 ct1 cd1 oc2 kV2 dc2 pm2 ct2 cd2 oc3 kV3 dc3 pm3 ct3 cd3 oc4 kV4 dc4 pm4 ct4 cd4 oc5 kV5 dc5 pm5 ct5 cd5 oc6 kV6 dc6 pm6 ct6 cd6 oc7 kV7 dc7 pm7 ct7 cd7 oc8 kV8 dc8 pm8 ct8 cd8 oc9 kV9 dc9 pm9 ct9 cd9 oc10 kV10 dc10 pm10 ct10 cd10 oc11 kV11 dc11 pm11 ct11 cd11 oc12 kV12 dc12 pm12 ct12 cd12 oc13 kV13 dc13 pm13 ct13 cd13 oc14 kV14 dc14 pm14 ct14 cd14 oc15 kV15 dc15 pm15 ct15 cd15 oc16 kV16 dc16 pm16 ct16 cd16 oc17 kV17 dc17 pm17 ct17 cd17 oc18 kV18 dc18 pm18 ct18 cd18 oc19 kV19 dc19 pm19 ct19 cd19 oc20 kV20 dc20 pm20 ct20 cd20 oc21 kV21 dc21 pm21 ct21 cd21 oc22 kV22 dc22 pm22 ct22 cd22 oc23 kV23 dc23 pm23 ct23 cd23 oc24 kV24 dc24 pm24 ct24 cd24 : Value} {tk_BOUND : Tok} {tk_MOST_LETTERS : Tok} {ta_RESERVED : Addr} {to_RESERVED : Value} {td_RESERVED : Option Addr} {ti_RESERVED : Array Value} {tn_RESERVED : Nat} {ts_RESERVED : Array (Option Value)} {tk_DEEPEST : Tok} {da_SIGNS : Addr} {de_SIGNS : Array DictEntry} {dn_SIGNS : Nat} (X : K.In h) (G : h.Ns mainGlobals mg) (hfa : mg "law" = some (.ref fa))
    (a0 : PySem.W.nsIn K mainGlobals "is_name" = some (some (.ref f0))) (l0 : K.lookup f0 = some ⟨oc0, od0, .func (PySem.W.fnOf "is_name" "is_name" (defArgs s_is_name) (defBody s_is_name) (defScope s_is_name) .none kV0 dc0 pm0 an0 cd0 ct0), sl0⟩) (c0 : PySem.W.codeIn K cd0 "is_name" = true) (k0 : PySem.W.keepIn K (.ref f0) = true)
    (a1 : PySem.W.nsIn K mainGlobals "is_column" = some (some (.ref f1))) (l1 : K.lookup f1 = some ⟨oc1, od1, .func (PySem.W.fnOf "is_column" "is_column" (defArgs s_is_column) (defBody s_is_column) (defScope s_is_column) .none kV1 dc1 pm1 an1 cd1 ct1), sl1⟩) (c1 : PySem.W.codeIn K cd1 "is_column" = true) (k1 : PySem.W.keepIn K (.ref f1) = true)
    (a2 : PySem.W.nsIn K mainGlobals "is_whole" = some (some (.ref f2))) (l2 : K.lookup f2 = some ⟨oc2, od2, .func (PySem.W.fnOf "is_whole" "is_whole" (defArgs s_is_whole) (defBody s_is_whole) (defScope s_is_whole) .none kV2 dc2 pm2 an2 cd2 ct2), sl2⟩) (c2 : PySem.W.codeIn K cd2 "is_whole" = true) (k2 : PySem.W.keepIn K (.ref f2) = true)
    (a3 : PySem.W.nsIn K mainGlobals "is_bounded" = some (some (.ref f3))) (l3 : K.lookup f3 = some ⟨oc3, od3, .func (PySem.W.fnOf "is_bounded" "is_bounded" (defArgs s_is_bounded) (defBody s_is_bounded) (defScope s_is_bounded) .none kV3 dc3 pm3 an3 cd3 ct3), sl3⟩) (c3 : PySem.W.codeIn K cd3 "is_bounded" = true) (k3 : PySem.W.keepIn K (.ref f3) = true)
    (a4 : PySem.W.nsIn K mainGlobals "_is_single" = some (some (.ref f4))) (l4 : K.lookup f4 = some ⟨oc4, od4, .func (PySem.W.fnOf "_is_single" "_is_single" (defArgs s_is_single_) (defBody s_is_single_) (defScope s_is_single_) .none kV4 dc4 pm4 an4 cd4 ct4), sl4⟩) (c4 : PySem.W.codeIn K cd4 "_is_single" = true) (k4 : PySem.W.keepIn K (.ref f4) = true)
    (a5 : PySem.W.nsIn K mainGlobals "is_value" = some (some (.ref f5))) (l5 : K.lookup f5 = some ⟨oc5, od5, .func (PySem.W.fnOf "is_value" "is_value" (defArgs s_is_value) (defBody s_is_value) (defScope s_is_value) .none kV5 dc5 pm5 an5 cd5 ct5), sl5⟩) (c5 : PySem.W.codeIn K cd5 "is_value" = true) (k5 : PySem.W.keepIn K (.ref f5) = true)
    (a6 : PySem.W.nsIn K mainGlobals "_is_condition_itself" = some (some (.ref f6))) (l6 : K.lookup f6 = some ⟨oc6, od6, .func (PySem.W.fnOf "_is_condition_itself" "_is_condition_itself" (defArgs s_is_condition_itself_) (defBody s_is_condition_itself_) (defScope s_is_condition_itself_) .none kV6 dc6 pm6 an6 cd6 ct6), sl6⟩) (c6 : PySem.W.codeIn K cd6 "_is_condition_itself" = true) (k6 : PySem.W.keepIn K (.ref f6) = true)
    (a7 : PySem.W.nsIn K mainGlobals "_places" = some (some (.ref f7))) (l7 : K.lookup f7 = some ⟨oc7, od7, .func (PySem.W.fnOf "_places" "_places" (defArgs s_places_) (defBody s_places_) (defScope s_places_) .none kV7 dc7 pm7 an7 cd7 ct7), sl7⟩) (c7 : PySem.W.codeIn K cd7 "_places" = true) (k7 : PySem.W.keepIn K (.ref f7) = true)
    (a8 : PySem.W.nsIn K mainGlobals "_checked_parts" = some (some (.ref f8))) (l8 : K.lookup f8 = some ⟨oc8, od8, .func (PySem.W.fnOf "_checked_parts" "_checked_parts" (defArgs s_checked_parts_) (defBody s_checked_parts_) (defScope s_checked_parts_) .none kV8 dc8 pm8 an8 cd8 ct8), sl8⟩) (c8 : PySem.W.codeIn K cd8 "_checked_parts" = true) (k8 : PySem.W.keepIn K (.ref f8) = true)
    (a9 : PySem.W.nsIn K mainGlobals "parts" = some (some (.ref f9))) (l9 : K.lookup f9 = some ⟨oc9, od9, .func (PySem.W.fnOf "parts" "parts" (defArgs s_parts) (defBody s_parts) (defScope s_parts) .none kV9 dc9 pm9 an9 cd9 ct9), sl9⟩) (c9 : PySem.W.codeIn K cd9 "parts" = true) (k9 : PySem.W.keepIn K (.ref f9) = true)
    (a10 : PySem.W.nsIn K mainGlobals "values_in" = some (some (.ref f10))) (l10 : K.lookup f10 = some ⟨oc10, od10, .func (PySem.W.fnOf "values_in" "values_in" (defArgs s_values_in) (defBody s_values_in) (defScope s_values_in) .none kV10 dc10 pm10 an10 cd10 ct10), sl10⟩) (c10 : PySem.W.codeIn K cd10 "values_in" = true) (k10 : PySem.W.keepIn K (.ref f10) = true)
    (a11 : PySem.W.nsIn K mainGlobals "all_of" = some (some (.ref f11))) (l11 : K.lookup f11 = some ⟨oc11, od11, .func (PySem.W.fnOf "all_of" "all_of" (defArgs s_all_of) (defBody s_all_of) (defScope s_all_of) .none kV11 dc11 pm11 an11 cd11 ct11), sl11⟩) (c11 : PySem.W.codeIn K cd11 "all_of" = true) (k11 : PySem.W.keepIn K (.ref f11) = true)
    (a12 : PySem.W.nsIn K mainGlobals "_law_draws" = some (some (.ref f12))) (l12 : K.lookup f12 = some ⟨oc12, od12, .func (PySem.W.fnOf "_law_draws" "_law_draws" (defArgs s_Ldraws) (defBody s_Ldraws) (defScope s_Ldraws) .none kV12 dc12 pm12 an12 cd12 ct12), sl12⟩) (c12 : PySem.W.codeIn K cd12 "_law_draws" = true) (k12 : PySem.W.keepIn K (.ref f12) = true)
    (a13 : PySem.W.nsIn K mainGlobals "_law_pull" = some (some (.ref f13))) (l13 : K.lookup f13 = some ⟨oc13, od13, .func (PySem.W.fnOf "_law_pull" "_law_pull" (defArgs s_Lpull) (defBody s_Lpull) (defScope s_Lpull) .none kV13 dc13 pm13 an13 cd13 ct13), sl13⟩) (c13 : PySem.W.codeIn K cd13 "_law_pull" = true) (k13 : PySem.W.keepIn K (.ref f13) = true)
    (a14 : PySem.W.nsIn K mainGlobals "_law_any" = some (some (.ref f14))) (l14 : K.lookup f14 = some ⟨oc14, od14, .func (PySem.W.fnOf "_law_any" "_law_any" (defArgs s_Lany) (defBody s_Lany) (defScope s_Lany) .none kV14 dc14 pm14 an14 cd14 ct14), sl14⟩) (c14 : PySem.W.codeIn K cd14 "_law_any" = true) (k14 : PySem.W.keepIn K (.ref f14) = true)
    (a15 : PySem.W.nsIn K mainGlobals "_law_like" = some (some (.ref f15))) (l15 : K.lookup f15 = some ⟨oc15, od15, .func (PySem.W.fnOf "_law_like" "_law_like" (defArgs s_Llike) (defBody s_Llike) (defScope s_Llike) .none kV15 dc15 pm15 an15 cd15 ct15), sl15⟩) (c15 : PySem.W.codeIn K cd15 "_law_like" = true) (k15 : PySem.W.keepIn K (.ref f15) = true)
    (a16 : PySem.W.nsIn K mainGlobals "_law_reserved" = some (some (.ref f16))) (l16 : K.lookup f16 = some ⟨oc16, od16, .func (PySem.W.fnOf "_law_reserved" "_law_reserved" (defArgs s_Lreserved) (defBody s_Lreserved) (defScope s_Lreserved) .none kV16 dc16 pm16 an16 cd16 ct16), sl16⟩) (c16 : PySem.W.codeIn K cd16 "_law_reserved" = true) (k16 : PySem.W.keepIn K (.ref f16) = true)
    (a17 : PySem.W.nsIn K mainGlobals "_law_new_names" = some (some (.ref f17))) (l17 : K.lookup f17 = some ⟨oc17, od17, .func (PySem.W.fnOf "_law_new_names" "_law_new_names" (defArgs s_Lnew_names) (defBody s_Lnew_names) (defScope s_Lnew_names) .none kV17 dc17 pm17 an17 cd17 ct17), sl17⟩) (c17 : PySem.W.codeIn K cd17 "_law_new_names" = true) (k17 : PySem.W.keepIn K (.ref f17) = true)
    (a18 : PySem.W.nsIn K mainGlobals "_law_near" = some (some (.ref f18))) (l18 : K.lookup f18 = some ⟨oc18, od18, .func (PySem.W.fnOf "_law_near" "_law_near" (defArgs s_Lnear) (defBody s_Lnear) (defScope s_Lnear) .none kV18 dc18 pm18 an18 cd18 ct18), sl18⟩) (c18 : PySem.W.codeIn K cd18 "_law_near" = true) (k18 : PySem.W.keepIn K (.ref f18) = true)
    (a19 : PySem.W.nsIn K mainGlobals "_law_some_value" = some (some (.ref f19))) (l19 : K.lookup f19 = some ⟨oc19, od19, .func (PySem.W.fnOf "_law_some_value" "_law_some_value" (defArgs s_Lsome_value) (defBody s_Lsome_value) (defScope s_Lsome_value) .none kV19 dc19 pm19 an19 cd19 ct19), sl19⟩) (c19 : PySem.W.codeIn K cd19 "_law_some_value" = true) (k19 : PySem.W.keepIn K (.ref f19) = true)
    (a20 : PySem.W.nsIn K mainGlobals "_law_some_compared" = some (some (.ref f20))) (l20 : K.lookup f20 = some ⟨oc20, od20, .func (PySem.W.fnOf "_law_some_compared" "_law_some_compared" (defArgs s_Lsome_compared) (defBody s_Lsome_compared) (defScope s_Lsome_compared) .none kV20 dc20 pm20 an20 cd20 ct20), sl20⟩) (c20 : PySem.W.codeIn K cd20 "_law_some_compared" = true) (k20 : PySem.W.keepIn K (.ref f20) = true)
    (a21 : PySem.W.nsIn K mainGlobals "_law_some_condition" = some (some (.ref f21))) (l21 : K.lookup f21 = some ⟨oc21, od21, .func (PySem.W.fnOf "_law_some_condition" "_law_some_condition" (defArgs s_Lsome_condition) (defBody s_Lsome_condition) (defScope s_Lsome_condition) .none kV21 dc21 pm21 an21 cd21 ct21), sl21⟩) (c21 : PySem.W.codeIn K cd21 "_law_some_condition" = true) (k21 : PySem.W.keepIn K (.ref f21) = true)
    (a22 : PySem.W.nsIn K mainGlobals "_law_values" = some (some (.ref f22))) (l22 : K.lookup f22 = some ⟨oc22, od22, .func (PySem.W.fnOf "_law_values" "_law_values" (defArgs s_Lvalues) (defBody s_Lvalues) (defScope s_Lvalues) .none kV22 dc22 pm22 an22 cd22 ct22), sl22⟩) (c22 : PySem.W.codeIn K cd22 "_law_values" = true) (k22 : PySem.W.keepIn K (.ref f22) = true)
    (a23 : PySem.W.nsIn K mainGlobals "_law_all_parts" = some (some (.ref f23))) (l23 : K.lookup f23 = some ⟨oc23, od23, .func (PySem.W.fnOf "_law_all_parts" "_law_all_parts" (defArgs s_Lall_parts) (defBody s_Lall_parts) (defScope s_Lall_parts) .none kV23 dc23 pm23 an23 cd23 ct23), sl23⟩) (c23 : PySem.W.codeIn K cd23 "_law_all_parts" = true) (k23 : PySem.W.keepIn K (.ref f23) = true)
    (a24 : PySem.W.nsIn K mainGlobals "law" = some (some (.ref f24))) (l24 : K.lookup f24 = some ⟨oc24, od24, .func (PySem.W.fnOf "law" "law" (defArgs s_law) (defBody s_law) (defScope s_law) .none kV24 dc24 pm24 an24 cd24 ct24), sl24⟩) (c24 : PySem.W.codeIn K cd24 "law" = true) (k24 : PySem.W.keepIn K (.ref f24) = true)
    (z_all : PySem.W.nsIn K mainGlobals "all" = some none)
    (z_bool : PySem.W.nsIn K mainGlobals "bool" = some none)
    (z_int : PySem.W.nsIn K mainGlobals "int" = some none)
    (z_isinstance : PySem.W.nsIn K mainGlobals "isinstance" = some none)
    (z_len : PySem.W.nsIn K mainGlobals "len" = some none)
    (z_list : PySem.W.nsIn K mainGlobals "list" = some none)
    (z_range : PySem.W.nsIn K mainGlobals "range" = some none)
    (z_reversed : PySem.W.nsIn K mainGlobals "reversed" = some none)
    (z_str : PySem.W.nsIn K mainGlobals "str" = some none)
    (z_tuple : PySem.W.nsIn K mainGlobals "tuple" = some none)
    (z_zip : PySem.W.nsIn K mainGlobals "zip" = some none)
    (t_BOUND : PySem.W.nsIn K mainGlobals "BOUND" = some (some (.int 1000000000000000000000000000000 tk_BOUND)))
    (t_MOST_LETTERS : PySem.W.nsIn K mainGlobals "MOST_LETTERS" = some (some (.int 6 tk_MOST_LETTERS)))
    (t_RESERVED : PySem.W.nsIn K mainGlobals "RESERVED" = some (some (.ref ta_RESERVED))) (u_RESERVED : K.lookup ta_RESERVED = some ⟨to_RESERVED, td_RESERVED, .seq ti_RESERVED tn_RESERVED, ts_RESERVED⟩) (v_RESERVED : to_RESERVED = .type "tuple") (w_RESERVED : ti_RESERVED.size ≤ sizeLine) (x_RESERVED : Vals [V.str "and", V.str "found", V.str "key", V.str "next", V.str "not", V.str "or", V.str "own", V.str "set", V.str "true", V.str "where"] ti_RESERVED.toList)
    (t_DEEPEST : PySem.W.nsIn K mainGlobals "DEEPEST" = some (some (.int 6 tk_DEEPEST)))
    (y_SIGNS : PySem.W.nsIn K mainGlobals "SIGNS" = some (some (.ref da_SIGNS))) (u_SIGNS : K.lookup da_SIGNS = some ⟨.type "dict", none, .dict de_SIGNS dn_SIGNS, #[]⟩) (v_SIGNS : PySem.W.KeysLit w.params de_SIGNS.toList) (w_SIGNS : (da_SIGNS == sysModules) = false) (x_SIGNS : Tbl de_SIGNS.toList t_SIGNS)
    : ∃ fd : FuncData, (∀ (s : Shared) (v : Value), BindsTo s fd ⟨[v], []⟩ [("_law_script", v)]) ∧ ∀ base : Heap, K.In base → base.Ns mainGlobals mg → FnOk l.prog w K mg base CX0 lvLaw fa fd ["_law_script"] (@spLaw noTabs K) := by
  letI : Tabs := noTabs
  letI : Me := ⟨0⟩
  have e := hfa.symm.trans (PySem.W.mg_of X G a24)
  cases e
  have F0 := fun_mk (st := s_is_name) l0 c0 k0
  have b0 := F0.binds (ps := ["value"]) fun _ _ _ _ _ _ us hl => match us, hl with | [_], _ => rfl
  have F1 := fun_mk (st := s_is_column) l1 c1 k1
  have b1 := F1.binds (ps := ["value"]) fun _ _ _ _ _ _ us hl => match us, hl with | [_], _ => rfl
  have F2 := fun_mk (st := s_is_whole) l2 c2 k2
  have b2 := F2.binds (ps := ["value"]) fun _ _ _ _ _ _ us hl => match us, hl with | [_], _ => rfl
  have F3 := fun_mk (st := s_is_bounded) l3 c3 k3
  have b3 := F3.binds (ps := ["value"]) fun _ _ _ _ _ _ us hl => match us, hl with | [_], _ => rfl
  have F4 := fun_mk (st := s_is_single_) l4 c4 k4
  have b4 := F4.binds (ps := ["value"]) fun _ _ _ _ _ _ us hl => match us, hl with | [_], _ => rfl
  have F5 := fun_mk (st := s_is_value) l5 c5 k5
  have b5 := F5.binds (ps := ["value"]) fun _ _ _ _ _ _ us hl => match us, hl with | [_], _ => rfl
  have F6 := fun_mk (st := s_is_condition_itself_) l6 c6 k6
  have b6 := F6.binds (ps := ["part"]) fun _ _ _ _ _ _ us hl => match us, hl with | [_], _ => rfl
  have F7 := fun_mk (st := s_places_) l7 c7 k7
  have b7 := F7.binds (ps := ["part"]) fun _ _ _ _ _ _ us hl => match us, hl with | [_], _ => rfl
  have F8 := fun_mk (st := s_checked_parts_) l8 c8 k8
  have b8 := F8.binds (ps := ["condition"]) fun _ _ _ _ _ _ us hl => match us, hl with | [_], _ => rfl
  have F9 := fun_mk (st := s_parts) l9 c9 k9
  have b9 := F9.binds (ps := ["condition"]) fun _ _ _ _ _ _ us hl => match us, hl with | [_], _ => rfl
  have F10 := fun_mk (st := s_values_in) l10 c10 k10
  have b10 := F10.binds (ps := ["condition"]) fun _ _ _ _ _ _ us hl => match us, hl with | [_], _ => rfl
  have F11 := fun_mk (st := s_all_of) l11 c11 k11
  have b11 := F11.bindSt (pv := "conditions") (fun _ _ _ _ _ _ => rfl) (fun _ _ _ _ _ _ _ _ => rfl)
  have F12 := fun_mk (st := s_Ldraws) l12 c12 k12
  have b12 := F12.binds (ps := ["_law_script"]) fun _ _ _ _ _ _ us hl => match us, hl with | [_], _ => rfl
  have F13 := fun_mk (st := s_Lpull) l13 c13 k13
  have b13 := F13.binds (ps := ["_law_bag", "_law_sides"]) fun _ _ _ _ _ _ us hl => match us, hl with | [_, _], _ => rfl
  have F14 := fun_mk (st := s_Lany) l14 c14 k14
  have b14 := F14.binds (ps := ["_law_bag", "_law_rows"]) fun _ _ _ _ _ _ us hl => match us, hl with | [_, _], _ => rfl
  have F15 := fun_mk (st := s_Llike) l15 c15 k15
  have b15 := F15.binds (ps := ["_law_a", "_law_b"]) fun _ _ _ _ _ _ us hl => match us, hl with | [_, _], _ => rfl
  have F16 := fun_mk (st := s_Lreserved) l16 c16 k16
  have b16 := F16.binds (ps := []) fun _ _ _ _ _ _ us hl => match us, hl with | [], _ => rfl
  have F17 := fun_mk (st := s_Lnew_names) l17 c17 k17
  have b17 := F17.binds (ps := ["_law_bag", "_law_many"]) fun _ _ _ _ _ _ us hl => match us, hl with | [_, _], _ => rfl
  have F18 := fun_mk (st := s_Lnear) l18 c18 k18
  have b18 := F18.binds (ps := ["_law_bag"]) fun _ _ _ _ _ _ us hl => match us, hl with | [_], _ => rfl
  have F19 := fun_mk (st := s_Lsome_value) l19 c19 k19
  have b19 := F19.binds (ps := ["_law_bag", "_law_pool"]) fun _ _ _ _ _ _ us hl => match us, hl with | [_, _], _ => rfl
  have F20 := fun_mk (st := s_Lsome_compared) l20 c20 k20
  have b20 := F20.binds (ps := ["_law_bag", "_law_pool"]) fun _ _ _ _ _ _ us hl => match us, hl with | [_, _], _ => rfl
  have F21 := fun_mk (st := s_Lsome_condition) l21 c21 k21
  have b21 := F21.binds (ps := ["_law_bag", "_law_pool", "_law_deep"]) fun _ _ _ _ _ _ us hl => match us, hl with | [_, _, _], _ => rfl
  have F22 := fun_mk (st := s_Lvalues) l22 c22 k22
  have b22 := F22.binds (ps := ["_law_c"]) fun _ _ _ _ _ _ us hl => match us, hl with | [_], _ => rfl
  have F23 := fun_mk (st := s_Lall_parts) l23 c23 k23
  have b23 := F23.binds (ps := ["_law_c", "_law_path"]) fun _ _ _ _ _ _ us hl => match us, hl with | [_, _], _ => rfl
  have F24 := fun_mk (st := s_law) l24 c24 k24
  have b24 := F24.binds (ps := ["_law_script"]) fun _ _ _ _ _ _ us hl => match us, hl with | [_], _ => rfl
  let T : Tx w K mg := {
    f_is_name := f0
    fd_is_name := _
    F_is_name := F0
    m_is_name := PySem.W.mg_of X G a0
    b_is_name := b0
    f_is_column := f1
    fd_is_column := _
    F_is_column := F1
    m_is_column := PySem.W.mg_of X G a1
    b_is_column := b1
    f_is_whole := f2
    fd_is_whole := _
    F_is_whole := F2
    m_is_whole := PySem.W.mg_of X G a2
    b_is_whole := b2
    f_is_bounded := f3
    fd_is_bounded := _
    F_is_bounded := F3
    m_is_bounded := PySem.W.mg_of X G a3
    b_is_bounded := b3
    f_is_single_ := f4
    fd_is_single_ := _
    F_is_single_ := F4
    m_is_single_ := PySem.W.mg_of X G a4
    b_is_single_ := b4
    f_is_value := f5
    fd_is_value := _
    F_is_value := F5
    m_is_value := PySem.W.mg_of X G a5
    b_is_value := b5
    f_is_condition_itself_ := f6
    fd_is_condition_itself_ := _
    F_is_condition_itself_ := F6
    m_is_condition_itself_ := PySem.W.mg_of X G a6
    b_is_condition_itself_ := b6
    f_places_ := f7
    fd_places_ := _
    F_places_ := F7
    m_places_ := PySem.W.mg_of X G a7
    b_places_ := b7
    f_checked_parts_ := f8
    fd_checked_parts_ := _
    F_checked_parts_ := F8
    m_checked_parts_ := PySem.W.mg_of X G a8
    b_checked_parts_ := b8
    f_parts := f9
    fd_parts := _
    F_parts := F9
    m_parts := PySem.W.mg_of X G a9
    b_parts := b9
    f_values_in := f10
    fd_values_in := _
    F_values_in := F10
    m_values_in := PySem.W.mg_of X G a10
    b_values_in := b10
    f_all_of := f11
    fd_all_of := _
    F_all_of := F11
    m_all_of := PySem.W.mg_of X G a11
    b_all_of := b11
    f_Ldraws := f12
    fd_Ldraws := _
    F_Ldraws := F12
    m_Ldraws := PySem.W.mg_of X G a12
    b_Ldraws := b12
    f_Lpull := f13
    fd_Lpull := _
    F_Lpull := F13
    m_Lpull := PySem.W.mg_of X G a13
    b_Lpull := b13
    f_Lany := f14
    fd_Lany := _
    F_Lany := F14
    m_Lany := PySem.W.mg_of X G a14
    b_Lany := b14
    f_Llike := f15
    fd_Llike := _
    F_Llike := F15
    m_Llike := PySem.W.mg_of X G a15
    b_Llike := b15
    f_Lreserved := f16
    fd_Lreserved := _
    F_Lreserved := F16
    m_Lreserved := PySem.W.mg_of X G a16
    b_Lreserved := b16
    f_Lnew_names := f17
    fd_Lnew_names := _
    F_Lnew_names := F17
    m_Lnew_names := PySem.W.mg_of X G a17
    b_Lnew_names := b17
    f_Lnear := f18
    fd_Lnear := _
    F_Lnear := F18
    m_Lnear := PySem.W.mg_of X G a18
    b_Lnear := b18
    f_Lsome_value := f19
    fd_Lsome_value := _
    F_Lsome_value := F19
    m_Lsome_value := PySem.W.mg_of X G a19
    b_Lsome_value := b19
    f_Lsome_compared := f20
    fd_Lsome_compared := _
    F_Lsome_compared := F20
    m_Lsome_compared := PySem.W.mg_of X G a20
    b_Lsome_compared := b20
    f_Lsome_condition := f21
    fd_Lsome_condition := _
    F_Lsome_condition := F21
    m_Lsome_condition := PySem.W.mg_of X G a21
    b_Lsome_condition := b21
    f_Lvalues := f22
    fd_Lvalues := _
    F_Lvalues := F22
    m_Lvalues := PySem.W.mg_of X G a22
    b_Lvalues := b22
    f_Lall_parts := f23
    fd_Lall_parts := _
    F_Lall_parts := F23
    m_Lall_parts := PySem.W.mg_of X G a23
    b_Lall_parts := b23
    f_law := fa
    fd_law := _
    F_law := F24
    m_law := PySem.W.mg_of X G a24
    b_law := b24
    n_all := PySem.W.mg_none_of X G z_all
    n_bool := PySem.W.mg_none_of X G z_bool
    n_int := PySem.W.mg_none_of X G z_int
    n_isinstance := PySem.W.mg_none_of X G z_isinstance
    n_len := PySem.W.mg_none_of X G z_len
    n_list := PySem.W.mg_none_of X G z_list
    n_range := PySem.W.mg_none_of X G z_range
    n_reversed := PySem.W.mg_none_of X G z_reversed
    n_str := PySem.W.mg_none_of X G z_str
    n_tuple := PySem.W.mg_none_of X G z_tuple
    n_zip := PySem.W.mg_none_of X G z_zip
    g_BOUND := ⟨_, PySem.W.mg_of X G t_BOUND, ⟨_, rfl⟩⟩
    g_MOST_LETTERS := ⟨_, PySem.W.mg_of X G t_MOST_LETTERS, ⟨_, rfl⟩⟩
    a_RESERVED := ta_RESERVED
    g_RESERVED := PySem.W.mg_of X G t_RESERVED
    q_RESERVED := fun G => .inr ⟨_, _, _, u_RESERVED, v_RESERVED, rfl, w_RESERVED, x_RESERVED⟩
    g_DEEPEST := ⟨_, PySem.W.mg_of X G t_DEEPEST, ⟨_, rfl⟩⟩
    a_SIGNS := da_SIGNS
    g_SIGNS := PySem.W.mg_of X G y_SIGNS
    k_SIGNS := ⟨_, _, ⟨u_SIGNS, v_SIGNS, w_SIGNS⟩, x_SIGNS⟩ }
  exact ⟨PySem.W.fnOf "law" "law" (defArgs s_law) (defBody s_law) (defScope s_law) .none kV24 dc24 pm24 an24 cd24 ct24, fun s v => .of_eq rfl, fun base _ _ => ok_law T rfl hB⟩
end K08
open PySem PySem.W PyProof.Rows
set_option maxRecDepth 100000 in
set_option maxHeartbeats 0 in
theorem PySem.Challenge.cw_lookedrows_k08_parts_and_values_of_condi_holds : PySem.Challenge.rw_lookedrows_k08_parts_and_values_of_condi.Holds := by
  w_on; o_law; k_head; (case hw => w_witness2)
  k_fill
  refine L2.walk_of (l := PySem.Challenge.rw_lookedrows_k08_parts_and_values_of_condi) (n := 63) (k := K08.lvLaw) (x := "_law_script") (CX := fun _ => L2.CX0) (sp := fun w => @DL.spLaw DL.noTabs _) rfl (by decide) rfl ⟨rfl, by decide, by decide⟩ (fun w h Y => PySem.W.kIn_of Y) ?F (fun _ _ a ns hl _ hS => ⟨a, ns, rfl, hS, hl, (fun _ hq => (List.not_mem_nil hq).elim), fun _ => rfl⟩) (fun _ _ _ _ _ h => h)
  case F =>
    intro w mg fa h KX G hmg
    refine' K08.all_mk KX G hmg ?a0 ?l0 ?c0 ?k0 ?a1 ?l1 ?c1 ?k1 ?a2 ?l2 ?c2 ?k2 ?a3 ?l3 ?c3 ?k3 ?a4 ?l4 ?c4 ?k4 ?a5 ?l5 ?c5 ?k5 ?a6 ?l6 ?c6 ?k6 ?a7 ?l7 ?c7 ?k7 ?a8 ?l8 ?c8 ?k8 ?a9 ?l9 ?c9 ?k9 ?a10 ?l10 ?c10 ?k10 ?a11 ?l11 ?c11 ?k11 ?a12 ?l12 ?c12 ?k12 ?a13 ?l13 ?c13 ?k13 ?a14 ?l14 ?c14 ?k14 ?a15 ?l15 ?c15 ?k15 ?a16 ?l16 ?c16 ?k16 ?a17 ?l17 ?c17 ?k17 ?a18 ?l18 ?c18 ?k18 ?a19 ?l19 ?c19 ?k19 ?a20 ?l20 ?c20 ?k20 ?a21 ?l21 ?c21 ?k21 ?a22 ?l22 ?c22 ?k22 ?a23 ?l23 ?c23 ?k23 ?a24 ?l24 ?c24 ?k24 ?z_all ?z_bool ?z_int ?z_isinstance ?z_len ?z_list ?z_range ?z_reversed ?z_str ?z_tuple ?z_zip ?t_BOUND ?t_MOST_LETTERS ?t_RESERVED ?u_RESERVED ?v_RESERVED ?w_RESERVED ?x_RESERVED ?t_DEEPEST ?y_SIGNS ?u_SIGNS ?v_SIGNS ?w_SIGNS ?x_SIGNS
    (case a0 => first | k_is | fail)
    (case l0 => first | k_is | fail)
    (case c0 => first | k_is | fail)
    (case k0 => first | k_is | fail)
    (case a1 => first | k_is | fail)
    (case l1 => first | k_is | fail)
    (case c1 => first | k_is | fail)
    (case k1 => first | k_is | fail)
    (case a2 => first | k_is | fail)
    (case l2 => first | k_is | fail)
    (case c2 => first | k_is | fail)
    (case k2 => first | k_is | fail)
    (case a3 => first | k_is | fail)
    (case l3 => first | k_is | fail)
    (case c3 => first | k_is | fail)
    (case k3 => first | k_is | fail)
    (case a4 => first | k_is | fail)
    (case l4 => first | k_is | fail)
    (case c4 => first | k_is | fail)
    (case k4 => first | k_is | fail)
    (case a5 => first | k_is | fail)
    (case l5 => first | k_is | fail)
    (case c5 => first | k_is | fail)
    (case k5 => first | k_is | fail)
    (case a6 => first | k_is | fail)
    (case l6 => first | k_is | fail)
    (case c6 => first | k_is | fail)
    (case k6 => first | k_is | fail)
    (case a7 => first | k_is | fail)
    (case l7 => first | k_is | fail)
    (case c7 => first | k_is | fail)
    (case k7 => first | k_is | fail)
    (case a8 => first | k_is | fail)
    (case l8 => first | k_is | fail)
    (case c8 => first | k_is | fail)
    (case k8 => first | k_is | fail)
    (case a9 => first | k_is | fail)
    (case l9 => first | k_is | fail)
    (case c9 => first | k_is | fail)
    (case k9 => first | k_is | fail)
    (case a10 => first | k_is | fail)
    (case l10 => first | k_is | fail)
    (case c10 => first | k_is | fail)
    (case k10 => first | k_is | fail)
    (case a11 => first | k_is | fail)
    (case l11 => first | k_is | fail)
    (case c11 => first | k_is | fail)
    (case k11 => first | k_is | fail)
    (case a12 => first | k_is | fail)
    (case l12 => first | k_is | fail)
    (case c12 => first | k_is | fail)
    (case k12 => first | k_is | fail)
    (case a13 => first | k_is | fail)
    (case l13 => first | k_is | fail)
    (case c13 => first | k_is | fail)
    (case k13 => first | k_is | fail)
    (case a14 => first | k_is | fail)
    (case l14 => first | k_is | fail)
    (case c14 => first | k_is | fail)
    (case k14 => first | k_is | fail)
    (case a15 => first | k_is | fail)
    (case l15 => first | k_is | fail)
    (case c15 => first | k_is | fail)
    (case k15 => first | k_is | fail)
    (case a16 => first | k_is | fail)
    (case l16 => first | k_is | fail)
    (case c16 => first | k_is | fail)
    (case k16 => first | k_is | fail)
    (case a17 => first | k_is | fail)
    (case l17 => first | k_is | fail)
    (case c17 => first | k_is | fail)
    (case k17 => first | k_is | fail)
    (case a18 => first | k_is | fail)
    (case l18 => first | k_is | fail)
    (case c18 => first | k_is | fail)
    (case k18 => first | k_is | fail)
    (case a19 => first | k_is | fail)
    (case l19 => first | k_is | fail)
    (case c19 => first | k_is | fail)
    (case k19 => first | k_is | fail)
    (case a20 => first | k_is | fail)
    (case l20 => first | k_is | fail)
    (case c20 => first | k_is | fail)
    (case k20 => first | k_is | fail)
    (case a21 => first | k_is | fail)
    (case l21 => first | k_is | fail)
    (case c21 => first | k_is | fail)
    (case k21 => first | k_is | fail)
    (case a22 => first | k_is | fail)
    (case l22 => first | k_is | fail)
    (case c22 => first | k_is | fail)
    (case k22 => first | k_is | fail)
    (case a23 => first | k_is | fail)
    (case l23 => first | k_is | fail)
    (case c23 => first | k_is | fail)
    (case k23 => first | k_is | fail)
    (case a24 => first | k_is | fail)
    (case l24 => first | k_is | fail)
    (case c24 => first | k_is | fail)
    (case k24 => first | k_is | fail)
    (case z_all => first | k_is | fail)
    (case z_bool => first | k_is | fail)
    (case z_int => first | k_is | fail)
    (case z_isinstance => first | k_is | fail)
    (case z_len => first | k_is | fail)
    (case z_list => first | k_is | fail)
    (case z_range => first | k_is | fail)
    (case z_reversed => first | k_is | fail)
    (case z_str => first | k_is | fail)
    (case z_tuple => first | k_is | fail)
    (case z_zip => first | k_is | fail)
    (case t_BOUND => first | k_is | fail)
    (case t_MOST_LETTERS => first | k_is | fail)
    (case t_RESERVED => first | k_is | fail)
    (case u_RESERVED => first | k_is | fail)
    (case v_RESERVED => rfl)
    (case w_RESERVED => decide)
    (case x_RESERVED => exact (.cons ⟨_, rfl⟩ (.cons ⟨_, rfl⟩ (.cons ⟨_, rfl⟩ (.cons ⟨_, rfl⟩ (.cons ⟨_, rfl⟩ (.cons ⟨_, rfl⟩ (.cons ⟨_, rfl⟩ (.cons ⟨_, rfl⟩ (.cons ⟨_, rfl⟩ (.cons ⟨_, rfl⟩ .nil)))))))))))
    (case t_DEEPEST => first | k_is | fail)
    (case y_SIGNS => first | k_is | fail)
    (case u_SIGNS => first | k_is | fail)
    (case v_SIGNS => exact ⟨⟨_, _, rfl, rfl⟩, ⟨_, _, rfl, rfl⟩, ⟨_, _, rfl, rfl⟩, trivial⟩)
    (case w_SIGNS => first | k_is | rfl | decide)
    (case x_SIGNS => exact (.cons (.cons (.cons .nil))))
