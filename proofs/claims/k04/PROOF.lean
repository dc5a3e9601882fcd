import PyProof.Rows.All
import Wide.All
import OpenK.AllK
import Wide.FinOn
import HandS.ForMost
import HandS.ForExc
import HandS.ExcInit
import HandS.Nested
import HandS.Flow
import HandS.StrMore
import HandS.Deep
import HandS.Zip
import HandS.Conv
import HandS.CallSlots
import HandS.WordsDict
import HandS.ExcValue
import HandS.FStr
import HandS.FStrTup
import KE.KExcIs
import KE.KExcSuper
import HandS.ExcOwn
import KE.KSuper
import HandS.ExcIs
import HandS.ExcField
import HandS.TryOnly
import HandS.MakeKwOnly
import HandS.ClsMeth
import HandS.DictComp
import HandS.Dict
import HandS.Iter
import KE.KDictZip
import HandS.IsInst
import HandS.Codes
import HandS.List
import HandS.Text
import HandS.NestedK
import PySem.Challenge.RW_farscale_k04_whole_quotients_of_grades
import Open.Row
import KE.KLam
import KE.KNestM
import HandS.EndTab
import KE.KStateDown
import HandS.Head0
import HandS.Head1
import HandS.Head2
import HandS.HeadHook1
import HandS.HeadHook2
import HandS.HeadHook3
import HandS.HeadHook4
import HandS.HeadWalk
set_option Elab.async false
set_option maxRecDepth 100000
set_option maxHeartbeats 4000001
set_option linter.all false
namespace DW
open L2 PyProof.Rows PySem.Spec PySem
/-! ### data -/
inductive D where
  | non | bl (b : Bool) | int (i : Int) | str (x : Str)
  | lst (xs : List D) | fro (xs : List D) | tup (xs : List D) | dct (kvs : List (Key × D)) | dtt (kvs : List (List Key × D)) | key (ks : List Key) | fix (o : HO) | lnt (p : Addr) (xs : List D) | ins (C : Addr) (fs : List (Str × D)) | exc (C : Addr) (fs : List (Str × D)) | hex (a C dd : Addr) (fs : List (Str × D)) | ref (a : Addr) | ty (n : String) | fn (F : NdefX.NF) (be : Expr)
/-- the object at f is the lambda F, its body be -/
def FnE (f : Addr) (F : NdefX.NF) (be : Expr) : HO := .ext fun h => ∃ (od : Option Addr) (sl : Array (Option Value)) (pm ctv : Value), h.get? f = some (⟨.type "function", od, .func (PySem.W.kla_fn F.name F.qual F.params be F.scope F.cl pm (.ref F.c) ctv), sl⟩ : Obj)
/-- a list, a tuple that stands outside of A, or is written in the top -/
def LsA (K : PySem.W.Frag) (A : Addr → Prop) (H : Hp) (a : Addr) (vs : List V) : Prop := (¬ A a ∧ Rd H a (.lst vs)) ∨ SqL K (fun _ => none) a vs
def TuA (K : PySem.W.Frag) (A : Addr → Prop) (H : Hp) (a : Addr) (vs : List V) : Prop := (¬ A a ∧ Rd H a (.tup vs)) ∨ SqT K (fun _ => none) a vs
mutual
inductive Dat (K : PySem.W.Frag) (A : Addr → Prop) (H : Hp) : D → V → Prop where
  | non : Dat K A H .non .non
  | bl (b : Bool) : Dat K A H (.bl b) (.bl b)
  | int (i : Int) : Dat K A H (.int i) (.int i)
  | str (x : Str) : Dat K A H (.str x) (.str x)
  | lst {a : Addr} {xs : List D} {vs : List V} (na : ¬ A a) (h : H a = some (.lst vs)) (hs : Dats K A H xs vs) : Dat K A H (.lst xs) (.ref a)
  | fro {a : Addr} {xs : List D} {vs : List V} (h : LsA K A H a vs) (hs : Dats K A H xs vs) : Dat K A H (.fro xs) (.ref a)
  | tup {a : Addr} {xs : List D} {vs : List V} (h : TuA K A H a vs) (hs : Dats K A H xs vs) : Dat K A H (.tup xs) (.ref a)
  | dct {a : Addr} {kvs : List (Key × D)} {kws : List (Key × V)} (na : ¬ A a) (h : H a = some (.dK kws)) (hk : kws.map (·.1) = kvs.map (·.1)) (hs : Dats K A H (kvs.map (·.2)) (kws.map (·.2))) : Dat K A H (.dct kvs) (.ref a)
  | dtt {a : Addr} {kvs : List (List Key × D)} {kws : List (List Key × V)} (na : ¬ A a) (h : H a = some (.dT kws)) (hk : kws.map (·.1) = kvs.map (·.1)) (hs : Dats K A H (kvs.map (·.2)) (kws.map (·.2))) : Dat K A H (.dtt kvs) (.ref a)
  | key {a : Addr} {ks : List Key} (na : ¬ A a) (h : H a = some (.tup (ks.map kV))) : Dat K A H (.key ks) (.ref a)
  | fix {a : Addr} {o : HO} (na : ¬ A a) (h : H a = some o) : Dat K A H (.fix o) (.ref a)
  | lnt {p : Addr} {od : Obj} {xs : List D} {vs : List V} (na : ¬ A p) (h : H p = some (.frz od (.lst vs))) (hs : Dats K A H xs vs) : Dat K A H (.lnt p xs) (.ref p)
  | ins {a C dx : Addr} {fs : List (Str × D)} {gs : List (Str × V)} (na : ¬ A a) (h : H a = some (.ins C dx gs)) (hk : gs.map (·.1) = fs.map (·.1)) (hs : Dats K A H (fs.map (·.2)) (gs.map (·.2))) : Dat K A H (.ins C fs) (.ref a)
  | exc {a C dx : Addr} {fs : List (Str × D)} {gs : List (Str × V)} (na : ¬ A a) (h : H a = some (exo a C (some dx))) (nx : ¬ A dx) (hx : H dx = some (exd dx gs)) (hk : gs.map (·.1) = fs.map (·.1)) (hs : Dats K A H (fs.map (·.2)) (gs.map (·.2))) : Dat K A H (.exc C fs) (.ref a)
  | exc0 {a C : Addr} (na : ¬ A a) (h : H a = some (exo a C none)) : Dat K A H (.exc C []) (.ref a)
  | hex {a C dd : Addr} {fs : List (Str × D)} {gs : List (Str × V)} (nx : ¬ A dd) (hx : H dd = some (.xd gs)) (hk : gs.map (·.1) = fs.map (·.1)) (hs : Dats K A H (fs.map (·.2)) (gs.map (·.2))) : Dat K A H (.hex a C dd fs) (.ref a)
  | ref (a : Addr) : Dat K A H (.ref a) (.ref a)
  | ty (n : String) : Dat K A H (.ty n) (.ty n)
  | fn {f : Addr} {F : NdefX.NF} {be : Expr} (na : ¬ A f) (h : H f = some (FnE f F be)) (nc : ¬ A F.c) (hc : H F.c = some (LamX.CodeO F.c F.qual)) : Dat K A H (.fn F be) (.ref f)
inductive Dats (K : PySem.W.Frag) (A : Addr → Prop) (H : Hp) : List D → List V → Prop where
  | nil : Dats K A H [] []
  | cons {d : D} {v : V} {ds : List D} {vs : List V} (h : Dat K A H d v) (t : Dats K A H ds vs) : Dats K A H (d :: ds) (v :: vs)
end
/-- there, and no thing that is known by its object alone -/
def Th : Option HO → Prop
  | none => False
  | some (.ext _) => False
  | some (.tup _) => False
  | some (.frz _ _) => False
  | some _ => True
theorem Th.nn {H : Hp} {b : Addr} (h : Th (H b)) : H b ≠ none := fun e => by rw [e] at h; exact h
theorem Th.nx {H : Hp} {b : Addr} {φ : Heap → Prop} (h : Th (H b)) : H b ≠ some (.ext φ) := fun e => by rw [e] at h; exact h
/-- what may change, and what is known of it -/
structure Md where
  M : Addr → Prop
  J : Hp → Prop
  al' : ∀ H b, J H → M b → Th (H b)
  st : ∀ H H', (∀ b, M b → H' b = H b) → (∀ b φ, H b = some (.ext φ) → H' b = some (.ext φ)) → J H → J H'
theorem Md.al (m : Md) (H : Hp) (b : Addr) (j : m.J H) (z : m.M b) : H b ≠ none := (m.al' H b j z).nn
def Grow (m : Md) (H H' : Hp) : Prop := ∀ b o, H b = some o → ¬ m.M b → H' b = some o
theorem Grow.refl (m : Md) (H : Hp) : Grow m H H := fun _ _ h _ => h
theorem Grow.trans {m : Md} {H H1 H2 : Hp} (a : Grow m H H1) (b : Grow m H1 H2) : Grow m H H2 := fun c o h n => b c o (a c o h n) n
section
variable {K : PySem.W.Frag} {A A' : Addr → Prop} {H H' : Hp} {m : Md}
theorem Rd.none {a : Addr} {u : HO} (h : Rd (fun _ => none) a u) : False := by
  rcases h with h | ⟨o, h⟩ <;> cases h
theorem LsA.sq {a : Addr} {xs : List V} (h : LsA K A H a xs) : SqL K H a xs := by
  rcases h with ⟨_, h⟩ | (h | h)
  · exact .inl h
  · exact (Rd.none h).elim
  · exact .inr h
theorem TuA.sq {a : Addr} {xs : List V} (h : TuA K A H a xs) : SqT K H a xs := by
  rcases h with ⟨_, h⟩ | (h | h)
  · exact .inl h
  · exact (Rd.none h).elim
  · exact .inr h
/-- what a step does to the heap, as a datum sees it -/
def Keeps (A : Addr → Prop) (H H' : Hp) (A' : Addr → Prop) : Prop := ∀ b o, H b = some o → ¬ A b → H' b = some o ∧ ¬ A' b
theorem Keeps.of (g : Grow m H H') (am : ∀ b, m.M b → A b) (aa : ∀ b, A' b → A b) : Keeps A H H' A' := fun b o h n => ⟨g b o h fun z => n (am b z), fun z => n (aa b z)⟩
theorem Keeps.rd (k : Keeps A H H' A') {a : Addr} {u : HO} (n : ¬ A a) (h : Rd H a u) : ¬ A' a ∧ Rd H' a u := by
  rcases h with h | ⟨o, h⟩
  · exact ⟨(k _ _ h n).2, .inl (k _ _ h n).1⟩
  · exact ⟨(k _ _ h n).2, .inr ⟨o, (k _ _ h n).1⟩⟩
mutual
theorem Dat.keep (k : Keeps A H H' A') : ∀ {d : D} {v : V}, Dat K A H d v → Dat K A' H' d v
  | _, _, .non => .non
  | _, _, .bl b => .bl b
  | _, _, .int i => .int i
  | _, _, .str x => .str x
  | _, _, .lst na h hs => .lst (k _ _ h na).2 (k _ _ h na).1 (Dats.keep k hs)
  | _, _, .fro h hs => .fro (h.imp (fun z => k.rd z.1 z.2) id) (Dats.keep k hs)
  | _, _, .tup h hs => .tup (h.imp (fun z => k.rd z.1 z.2) id) (Dats.keep k hs)
  | _, _, .dct na h hk hs => .dct (k _ _ h na).2 (k _ _ h na).1 hk (Dats.keep k hs)
  | _, _, .dtt na h hk hs => .dtt (k _ _ h na).2 (k _ _ h na).1 hk (Dats.keep k hs)
  | _, _, .key na h => .key (k _ _ h na).2 (k _ _ h na).1
  | _, _, .fix na h => .fix (k _ _ h na).2 (k _ _ h na).1
  | _, _, .lnt na h hs => .lnt (k _ _ h na).2 (k _ _ h na).1 (Dats.keep k hs)
  | _, _, .ins na h hk hs => .ins (k _ _ h na).2 (k _ _ h na).1 hk (Dats.keep k hs)
  | _, _, .exc na h nx hx hk hs => .exc (k _ _ h na).2 (k _ _ h na).1 (k _ _ hx nx).2 (k _ _ hx nx).1 hk (Dats.keep k hs)
  | _, _, .exc0 na h => .exc0 (k _ _ h na).2 (k _ _ h na).1
  | _, _, .hex nx hx hk hs => .hex (k _ _ hx nx).2 (k _ _ hx nx).1 hk (Dats.keep k hs)
  | _, _, .ref a => .ref a
  | _, _, .ty n => .ty n
  | _, _, .fn na h nc hc => .fn (k _ _ h na).2 (k _ _ h na).1 (k _ _ hc nc).2 (k _ _ hc nc).1
theorem Dats.keep (k : Keeps A H H' A') : ∀ {ds : List D} {vs : List V}, Dats K A H ds vs → Dats K A' H' ds vs
  | _, _, .nil => .nil
  | _, _, .cons h t => .cons (Dat.keep k h) (Dats.keep k t)
end
theorem Dat.mono (g : Grow m H H') (am : ∀ b, m.M b → A b) (aa : ∀ b, A' b → A b) {d : D} {v : V} (h : Dat K A H d v) : Dat K A' H' d v := h.keep (.of g am aa)
theorem Dats.mono (g : Grow m H H') (am : ∀ b, m.M b → A b) (aa : ∀ b, A' b → A b) {d : List D} {v : List V} (h : Dats K A H d v) : Dats K A' H' d v := h.keep (.of g am aa)
/-- a new object -/
theorem Keeps.new {p : Addr} {o : HO} (hp : H p = none) : Keeps A H (upd H p o) (fun b => A b ∨ b = p) := fun b u h n => by
  have q : b ≠ p := ne_of_none h hp
  exact ⟨by rw [upd_ne q]; exact h, fun z => z.elim n q⟩
theorem Keeps.new' {p : Addr} {o : HO} (hp : H p = none) : Keeps A H (upd H p o) A := fun b u h n => by
  have q : b ≠ p := ne_of_none h hp
  exact ⟨by rw [upd_ne q]; exact h, n⟩
/-- an own object written -/
theorem Keeps.put {p : Addr} {o : HO} (hp : A p) : Keeps A H (upd H p o) A := fun b u h n => by
  have q : b ≠ p := fun z => n (z ▸ hp)
  exact ⟨by rw [upd_ne q]; exact h, n⟩
theorem Keeps.sub (aa : ∀ b, A' b → A b) : Keeps A H H A' := fun b o h n => ⟨h, fun z => n (aa b z)⟩
theorem Dats.length : ∀ {ds : List D} {vs : List V}, Dats K A H ds vs → ds.length = vs.length
  | _, _, .nil => rfl
  | _, _, .cons _ t => congrArg (· + 1) t.length
theorem Dats.get : ∀ {ds : List D} {vs : List V} {i : Nat} {v : V}, Dats K A H ds vs → vs[i]? = some v → ∃ d, ds[i]? = some d ∧ Dat K A H d v
  | _, _, _, _, .nil, e => by simp only [List.getElem?_nil, reduceCtorEq] at e
  | _, _, 0, _, .cons h _, e => by simp at e; subst e; exact ⟨_, rfl, h⟩
  | _, _, i + 1, _, .cons _ t, e => by
    obtain ⟨d, h1, h2⟩ := Dats.get (i := i) t (by simpa using e)
    exact ⟨d, by simpa using h1, h2⟩
theorem Dats.at : ∀ {ds : List D} {vs : List V} {i : Nat} {d : D}, Dats K A H ds vs → ds[i]? = some d → ∃ v, vs[i]? = some v ∧ Dat K A H d v
  | _, _, _, _, .nil, e => by simp only [List.getElem?_nil, reduceCtorEq] at e
  | _, _, 0, _, .cons h _, e => by simp at e; subst e; exact ⟨_, rfl, h⟩
  | _, _, i + 1, _, .cons _ t, e => by
    obtain ⟨d, h1, h2⟩ := Dats.at (i := i) t (by simpa using e)
    exact ⟨d, by simpa using h1, h2⟩
theorem Dats.app : ∀ {ds es : List D} {vs ws : List V}, Dats K A H ds vs → Dats K A H es ws → Dats K A H (ds ++ es) (vs ++ ws)
  | _, _, _, _, .nil, s => s
  | _, _, _, _, .cons h t, s => .cons h (Dats.app t s)
theorem Dats.one {d : D} {v : V} (h : Dat K A H d v) : Dats K A H [d] [v] := .cons h .nil
theorem Dats.take : ∀ {ds : List D} {vs : List V} (n : Nat), Dats K A H ds vs → Dats K A H (ds.take n) (vs.take n)
  | _, _, 0, _ => .nil
  | _, _, _ + 1, .nil => .nil
  | _, _, n + 1, .cons h t => .cons h (Dats.take n t)
theorem Dats.drop : ∀ {ds : List D} {vs : List V} (n : Nat), Dats K A H ds vs → Dats K A H (ds.drop n) (vs.drop n)
  | _, _, 0, h => h
  | _, _, _ + 1, .nil => .nil
  | _, _, n + 1, .cons _ t => Dats.drop n t
theorem Dats.set : ∀ {ds : List D} {vs : List V} {d : D} {v : V} (n : Nat), Dats K A H ds vs → Dat K A H d v → Dats K A H (ds.set n d) (vs.set n v)
  | _, _, _, _, _, .nil, _ => .nil
  | _, _, _, _, 0, .cons _ t, x => .cons x t
  | _, _, _, _, n + 1, .cons h t, x => .cons h (Dats.set n t x)
end
/-! ### slots -/
inductive Ow where
  | lst (xs : List D) | dct (kvs : List (Key × D)) | dtt (kvs : List (List Key × D)) | ins (x C : Addr) (fs : List (Str × D))
  /-- a list at a known address -/
  | lsa (q : Addr) (xs : List D)
inductive Sl where
  | dat (d : D) | own (o : Ow)
  /-- an own list at p, of own lists at qs, that hold xss -/
  | ll (p : Addr) (qs : List Addr) (xss : List (List D))
abbrev Ev := List (Option Sl)
def OwnAt (K : PySem.W.Frag) (A : Addr → Prop) (H : Hp) (p : Addr) : Ow → Prop
  | .lst xs => ∃ vs, H p = some (.lst vs) ∧ Dats K A H xs vs
  | .dct kvs => ∃ kws : List (Key × V), H p = some (.dK kws) ∧ kws.map (·.1) = kvs.map (·.1) ∧ Dats K A H (kvs.map (·.2)) (kws.map (·.2))
  | .dtt kvs => ∃ kws : List (List Key × V), H p = some (.dT kws) ∧ kws.map (·.1) = kvs.map (·.1) ∧ Dats K A H (kvs.map (·.2)) (kws.map (·.2))
  | .ins x C fs => p = x ∧ ∃ (dx : Addr) (gs : List (Str × V)), H p = some (.ins C dx gs) ∧ gs.map (·.1) = fs.map (·.1) ∧ Dats K A H (fs.map (·.2)) (gs.map (·.2))
  | .lsa q xs => p = q ∧ ∃ vs, H p = some (.lst vs) ∧ Dats K A H xs vs
theorem OwnAt.keep {K : PySem.W.Frag} {A A' : Addr → Prop} {H H' : Hp} {p : Addr} (k : Keeps A H H' A') (n : H' p = H p) : ∀ {o : Ow}, OwnAt K A H p o → OwnAt K A' H' p o
  | .lst _, ⟨vs, h, hs⟩ => ⟨vs, n.trans h, hs.keep k⟩
  | .dct _, ⟨kws, h, hk, hs⟩ => ⟨kws, n.trans h, hk, hs.keep k⟩
  | .dtt _, ⟨kws, h, hk, hs⟩ => ⟨kws, n.trans h, hk, hs.keep k⟩
  | .ins _ _ _, ⟨e, dx, gs, h, hk, hs⟩ => ⟨e, dx, gs, n.trans h, hk, hs.keep k⟩
  | .lsa _ _, ⟨e, vs, h, hs⟩ => ⟨e, vs, n.trans h, hs.keep k⟩
theorem OwnAt.there {K : PySem.W.Frag} {A : Addr → Prop} {H : Hp} {p : Addr} : ∀ {o : Ow}, OwnAt K A H p o → H p ≠ none
  | .lst _, ⟨_, h, _⟩ => by rw [h]; intro z; cases z
  | .dct _, ⟨_, h, _⟩ => by rw [h]; intro z; cases z
  | .dtt _, ⟨_, h, _⟩ => by rw [h]; intro z; cases z
  | .ins _ _ _, ⟨_, _, _, h, _⟩ => by rw [h]; intro z; cases z
  | .lsa _ _, ⟨_, _, h, _⟩ => by rw [h]; intro z; cases z
theorem OwnAt.tth {K : PySem.W.Frag} {A : Addr → Prop} {H : Hp} {p : Addr} : ∀ {o : Ow}, OwnAt K A H p o → Th (H p)
  | .lst _, ⟨_, h, _⟩ => by rw [h]; trivial
  | .dct _, ⟨_, h, _⟩ => by rw [h]; trivial
  | .dtt _, ⟨_, h, _⟩ => by rw [h]; trivial
  | .ins _ _ _, ⟨_, _, _, h, _⟩ => by rw [h]; trivial
  | .lsa _ _, ⟨_, _, h, _⟩ => by rw [h]; trivial
theorem OwnAt.noext {K : PySem.W.Frag} {A : Addr → Prop} {H : Hp} {p : Addr} : ∀ {o : Ow}, OwnAt K A H p o → ∀ φ, H p ≠ some (.ext φ)
  | .lst _, ⟨_, h, _⟩ => fun φ z => by rw [h] at z; cases z
  | .dct _, ⟨_, h, _⟩ => fun φ z => by rw [h] at z; cases z
  | .dtt _, ⟨_, h, _⟩ => fun φ z => by rw [h] at z; cases z
  | .ins _ _ _, ⟨_, _, _, h, _⟩ => fun φ z => by rw [h] at z; cases z
  | .lsa _ _, ⟨_, _, h, _⟩ => fun φ z => by rw [h] at z; cases z
structure LLAt (K : PySem.W.Frag) (A : Addr → Prop) (H0 H : Hp) (p : Addr) (qs : List Addr) (xss : List (List D)) : Prop where
  hA : ∀ b, b ∈ p :: qs → A b ∧ H0 b = none
  nd : (p :: qs).Nodup
  at_ : H p = some (.lst (qs.map V.ref))
  len : qs.length = xss.length
  row : ∀ (k : Nat) (q : Addr) (xs : List D), qs[k]? = some q → xss[k]? = some xs → ∃ vs, H q = some (.lst vs) ∧ Dats K A H xs vs
theorem LLAt.there {K : PySem.W.Frag} {A : Addr → Prop} {H0 H : Hp} {p : Addr} {qs : List Addr} {xss : List (List D)} (l : LLAt K A H0 H p qs xss) {b : Addr} (hb : b ∈ p :: qs) : ∃ vs, H b = some (.lst vs) := by
  obtain rfl | hb := List.mem_cons.mp hb
  · exact ⟨_, l.at_⟩
  · obtain ⟨k, hk, rfl⟩ := List.mem_iff_getElem.mp hb
    have hk2 : k < xss.length := by rw [← l.len]; exact hk
    obtain ⟨vs, h, _⟩ := l.row k _ _ (List.getElem?_eq_getElem hk) (List.getElem?_eq_getElem hk2)
    exact ⟨vs, h⟩
theorem LLAt.keep {K : PySem.W.Frag} {A A' : Addr → Prop} {H0 H H' : Hp} {p : Addr} {qs : List Addr} {xss : List (List D)} (l : LLAt K A H0 H p qs xss) (k : Keeps A H H' A') (n : ∀ b, b ∈ p :: qs → H' b = H b) (a : ∀ b, b ∈ p :: qs → A' b) : LLAt K A' H0 H' p qs xss where
  hA := fun b h => ⟨a b h, (l.hA b h).2⟩
  nd := l.nd
  at_ := (n p List.mem_cons_self).trans l.at_
  len := l.len
  row := fun i q xs h1 h2 => by
    obtain ⟨vs, e, b⟩ := l.row i q xs h1 h2
    exact ⟨vs, (n q (List.mem_cons_of_mem _ (List.mem_of_getElem? h1))).trans e, b.keep k⟩
theorem set_at {ε : Ev} {i k : Nat} {x : Option Sl} {s : Sl} (h : (ε.set i x)[k]? = some (some s)) : (i = k ∧ x = some s) ∨ (i ≠ k ∧ ε[k]? = some (some s)) := by
  by_cases q : i = k
  · subst q
    by_cases z : i < ε.length
    · rw [List.getElem?_set_self z] at h
      exact .inl ⟨rfl, Option.some.inj h⟩
    · rw [List.getElem?_eq_none (by rw [List.length_set]; omega)] at h; cases h
  · rw [List.getElem?_set_ne q] at h
    exact .inr ⟨q, h⟩
/-- what is fixed in a def's body -/
structure Fx where
  m : Md
  A0 : Addr → Prop
  H0 : Hp
  am : ∀ b, m.M b → A0 b
  al' : ∀ b, A0 b → Th (H0 b)
theorem Fx.al (F : Fx) (b : Addr) (z : F.A0 b) : F.H0 b ≠ none := (F.al' b z).nn
structure Rel (K : PySem.W.Frag) (F : Fx) (π : List D × List V) (A : Addr → Prop) (σ : L2.St) (H : Hp) (ε : Ev) : Prop where
  pin : Dats K A H π.1 π.2
  gr : Grow F.m F.H0 H
  j : F.m.J H
  aa : ∀ b, F.A0 b → A b
  tt : ∀ b, A b → Th (H b)
  len : ε.length = σ.length
  dat : ∀ (i : Nat) (d : D), ε[i]? = some (some (.dat d)) → ∃ v, σ[i]? = some (some v) ∧ Dat K A H d v
  own : ∀ (i : Nat) (o : Ow), ε[i]? = some (some (.own o)) → ∃ p, σ[i]? = some (some (.ref p)) ∧ A p ∧ F.H0 p = none ∧ OwnAt K A H p o
  inj : ∀ (i j : Nat) (o o' : Ow) (v : V), ε[i]? = some (some (.own o)) → ε[j]? = some (some (.own o')) → σ[i]? = some (some v) → σ[j]? = some (some v) → i = j
  ll : ∀ (i : Nat) (p : Addr) (qs : List Addr) (xss : List (List D)), ε[i]? = some (some (.ll p qs xss)) → σ[i]? = some (some (.ref p)) ∧ LLAt K A F.H0 H p qs xss ∧ (∀ (k : Nat) (o : Ow) (q : Addr), ε[k]? = some (some (.own o)) → σ[k]? = some (some (.ref q)) → q ∉ p :: qs) ∧
    ∀ (k : Nat) (p' : Addr) (qs' : List Addr) (xss' : List (List D)), ε[k]? = some (some (.ll p' qs' xss')) → k = i
section
variable {K : PySem.W.Frag} {F : Fx} {π : List D × List V} {A A' : Addr → Prop} {σ : L2.St} {H H' : Hp} {ε : Ev}
theorem Rel.th (R : Rel K F π A σ H ε) (b : Addr) (z : A b) : H b ≠ none := (R.tt b z).nn
theorem Fx.nm (F : Fx) {p : Addr} (h : F.H0 p = none) : ¬ F.m.M p := fun z => F.al p (F.am p z) h
theorem Rel.am (R : Rel K F π A σ H ε) : ∀ b, F.m.M b → A b := fun b z => R.aa b (F.am b z)
theorem Rel.grow (R : Rel K F π A σ H ε) (g : Grow F.m H H') (j : F.m.J H') : Rel K F π A σ H' ε where
  pin := R.pin.mono g R.am fun _ z => z
  gr := R.gr.trans g
  j := j
  aa := R.aa
  tt := fun b h => by
    by_cases q : F.m.M b
    · exact F.m.al' H' b j q
    · cases e : H b with
      | none => exact absurd e (R.th b h)
      | some o => rw [g b o e q, ← e]; exact R.tt b h
  len := R.len
  dat := fun i d e => let ⟨v, h1, h2⟩ := R.dat i d e; ⟨v, h1, h2.mono g R.am fun _ z => z⟩
  own := fun i o e => by
    obtain ⟨p, h1, h2, h3, h4⟩ := R.own i o e
    refine ⟨p, h1, h2, h3, h4.keep (.of g R.am fun _ z => z) ?_⟩
    cases e : H p with
    | none => exact absurd e (R.th p h2)
    | some o => exact g p o e (F.nm h3)
  inj := R.inj
  ll := fun i p qs xss e => by
    obtain ⟨h1, h2, h3, h4⟩ := R.ll i p qs xss e
    refine ⟨h1, h2.keep (.of g R.am fun _ z => z) (fun b hb => ?_) fun b hb => (h2.hA b hb).1, h3, h4⟩
    obtain ⟨vs, eb⟩ := h2.there hb
    rw [eb]; exact g b _ eb (F.nm (h2.hA b hb).2)
/-- a slot is given a datum -/
theorem Rel.set (R : Rel K F π A σ H ε) {i : Nat} {d : D} {v : V} (h : Dat K A H d v) : Rel K F π A (σ.set i (some v)) H (ε.set i (some (.dat d))) where
  pin := R.pin
  gr := R.gr
  j := R.j
  aa := R.aa
  tt := R.tt
  len := by rw [List.length_set, List.length_set]; exact R.len
  dat := fun k e h1 => by
    by_cases q : i = k
    · subst q
      by_cases z : i < ε.length
      · rw [List.getElem?_set_self z] at h1; cases h1
        exact ⟨v, List.getElem?_set_self (by rw [← R.len]; exact z), h⟩
      · rw [List.getElem?_eq_none (by rw [List.length_set]; omega)] at h1; cases h1
    · rw [List.getElem?_set_ne q] at h1
      obtain ⟨w, e1, e2⟩ := R.dat k e h1
      exact ⟨w, by rw [List.getElem?_set_ne q]; exact e1, e2⟩
  own := fun k o h1 => by
    by_cases q : i = k
    · subst q
      by_cases z : i < ε.length
      · rw [List.getElem?_set_self z] at h1; cases h1
      · rw [List.getElem?_eq_none (by rw [List.length_set]; omega)] at h1; cases h1
    · rw [List.getElem?_set_ne q] at h1
      obtain ⟨p, e1, e2⟩ := R.own k o h1
      exact ⟨p, by rw [List.getElem?_set_ne q]; exact e1, e2⟩
  inj := fun k l o o' w h1 h2 h3 h4 => by
    by_cases q : i = k
    · subst q
      by_cases z : i < ε.length
      · rw [List.getElem?_set_self z] at h1; cases h1
      · rw [List.getElem?_eq_none (by rw [List.length_set]; omega)] at h1; cases h1
    · by_cases q' : i = l
      · subst q'
        by_cases z : i < ε.length
        · rw [List.getElem?_set_self z] at h2; cases h2
        · rw [List.getElem?_eq_none (by rw [List.length_set]; omega)] at h2; cases h2
      · rw [List.getElem?_set_ne q] at h1 h3
        rw [List.getElem?_set_ne q'] at h2 h4
        exact R.inj k l o o' w h1 h2 h3 h4
  ll := fun k p qs xss e => by
    rcases set_at e with ⟨_, z⟩ | ⟨ne, e⟩
    · cases z
    obtain ⟨h1, h2, h3, h4⟩ := R.ll k p qs xss e
    refine ⟨by rw [List.getElem?_set_ne ne]; exact h1, h2, fun l o q e1 e2 => ?_, fun l p' qs' xss' e1 => ?_⟩
    · rcases set_at e1 with ⟨_, z⟩ | ⟨ne2, e1⟩
      · cases z
      rw [List.getElem?_set_ne ne2] at e2
      exact h3 l o q e1 e2
    · rcases set_at e1 with ⟨_, z⟩ | ⟨ne2, e1⟩
      · cases z
      exact h4 l p' qs' xss' e1
/-- some slots forgotten -/
theorem Rel.weak (R : Rel K F π A σ H ε) {σ' : L2.St} {ε' : Ev} (hl : ε'.length = σ'.length) (h : ∀ (i : Nat) (s : Sl), ε'[i]? = some (some s) → ε[i]? = some (some s) ∧ σ'[i]? = σ[i]?) : Rel K F π A σ' H ε' where
  pin := R.pin
  gr := R.gr
  j := R.j
  aa := R.aa
  tt := R.tt
  len := hl
  dat := fun i d e => by
    obtain ⟨e1, e2⟩ := h i _ e
    rw [e2]; exact R.dat i d e1
  own := fun i o e => by
    obtain ⟨e1, e2⟩ := h i _ e
    rw [e2]; exact R.own i o e1
  inj := fun i j o o' v h1 h2 h3 h4 => by
    obtain ⟨e1, e2⟩ := h i _ h1
    obtain ⟨e3, e4⟩ := h j _ h2
    rw [e2] at h3; rw [e4] at h4
    exact R.inj i j o o' v e1 e3 h3 h4
  ll := fun i p qs xss e => by
    obtain ⟨e1, e2⟩ := h i _ e
    obtain ⟨h1, h2, h3, h4⟩ := R.ll i p qs xss e1
    refine ⟨by rw [e2]; exact h1, h2, fun k o q e3 e4 => ?_, fun k p' qs' xss' e3 => h4 k p' qs' xss' (h k _ e3).1⟩
    obtain ⟨e5, e6⟩ := h k _ e3
    rw [e6] at e4
    exact h3 k o q e5 e4
theorem Rel.fresh (R : Rel K F π A σ H ε) {p : Addr} (h : H p = none) : F.H0 p = none ∧ ¬ A p := by
  refine ⟨?_, fun z => R.th p z h⟩
  cases e : F.H0 p with
  | none => rfl
  | some o =>
    by_cases q : F.m.M p
    · exact absurd h (F.m.al H p R.j q)
    · rw [R.gr p o e q] at h; cases h
theorem Rel.fresh_j (R : Rel K F π A σ H ε) {p : Addr} {u : HO} (h : H p = none) : F.m.J (upd H p u) := F.m.st H _ (fun b z => upd_ne fun q => F.m.al H b R.j z (q ▸ h)) (fun b φ e => (upd_ne (ne_of_none e h)).trans e) R.j
/-- a new own object at a slot -/
theorem Rel.new (R : Rel K F π A σ H ε) {i : Nat} {p : Addr} {o : Ow} {u : HO} (hp : H p = none) (h' : OwnAt K (fun b => A b ∨ b = p) (upd H p u) p o) :
    Rel K F π (fun b => A b ∨ b = p) (σ.set i (some (.ref p))) (upd H p u) (ε.set i (some (.own o))) where
  pin := R.pin.keep (.new hp)
  gr := fun b o e n => by
    have z := R.gr b o e n
    rw [upd_ne (ne_of_none z hp)]; exact z
  j := R.fresh_j hp
  aa := fun b z => .inl (R.aa b z)
  tt := fun b z => by
    by_cases q : b = p
    · rw [q]; exact h'.tth
    · rw [upd_ne q]
      exact R.tt b (z.resolve_right q)
  len := by rw [List.length_set, List.length_set]; exact R.len
  dat := fun k e h1 => by
    by_cases q : i = k
    · subst q
      by_cases z : i < ε.length
      · rw [List.getElem?_set_self z] at h1; cases h1
      · rw [List.getElem?_eq_none (by rw [List.length_set]; omega)] at h1; cases h1
    · rw [List.getElem?_set_ne q] at h1
      obtain ⟨w, e1, e2⟩ := R.dat k e h1
      exact ⟨w, by rw [List.getElem?_set_ne q]; exact e1, e2.keep (.new hp)⟩
  own := fun k o' h1 => by
    by_cases q : i = k
    · subst q
      by_cases z : i < ε.length
      · rw [List.getElem?_set_self z] at h1; cases h1
        exact ⟨p, List.getElem?_set_self (by rw [← R.len]; exact z), .inr rfl, (R.fresh hp).1, h'⟩
      · rw [List.getElem?_eq_none (by rw [List.length_set]; omega)] at h1; cases h1
    · rw [List.getElem?_set_ne q] at h1
      obtain ⟨r, e1, e2, e3, e4⟩ := R.own k o' h1
      exact ⟨r, by rw [List.getElem?_set_ne q]; exact e1, .inl e2, e3, e4.keep (.new hp) (upd_ne fun z => (R.fresh hp).2 (z ▸ e2))⟩
  inj := fun k l o1 o2 w h1 h2 h3 h4 => by
    have np := (R.fresh hp).2
    by_cases q : i = k
    · subst q
      by_cases q' : i = l
      · exact q'
      · by_cases z : i < ε.length
        · rw [List.getElem?_set_self (by rw [← R.len]; exact z)] at h3
          rw [List.getElem?_set_ne q'] at h2 h4
          obtain ⟨r, e1, e2, _⟩ := R.own l o2 h2
          rw [e1] at h4; cases h4; cases h3
          exact absurd e2 np
        · rw [List.getElem?_eq_none (by rw [List.length_set]; omega)] at h1; cases h1
    · by_cases q' : i = l
      · subst q'
        by_cases z : i < ε.length
        · rw [List.getElem?_set_self (by rw [← R.len]; exact z)] at h4
          rw [List.getElem?_set_ne q] at h1 h3
          obtain ⟨r, e1, e2, _⟩ := R.own k o1 h1
          rw [e1] at h3; cases h3; cases h4
          exact absurd e2 np
        · rw [List.getElem?_eq_none (by rw [List.length_set]; omega)] at h2; cases h2
      · rw [List.getElem?_set_ne q] at h1 h3
        rw [List.getElem?_set_ne q'] at h2 h4
        exact R.inj k l o1 o2 w h1 h2 h3 h4
  ll := fun k r qs xss e => by
    rcases set_at e with ⟨_, z⟩ | ⟨ne, e⟩
    · cases z
    obtain ⟨h1, h2, h3, h4⟩ := R.ll k r qs xss e
    have np : ∀ b, b ∈ r :: qs → b ≠ p := fun b hb z => (R.fresh hp).2 (z ▸ (h2.hA b hb).1)
    refine ⟨by rw [List.getElem?_set_ne ne]; exact h1, h2.keep (.new hp) (fun b hb => upd_ne (np b hb)) fun b hb => .inl (h2.hA b hb).1, fun l o q e1 e2 => ?_, fun l p' qs' xss' e1 => ?_⟩
    · rcases set_at e1 with ⟨z, _⟩ | ⟨ne2, e1⟩
      · subst z
        have il : i < σ.length := by
          by_cases z : i < ε.length
          · rw [← R.len]; exact z
          · rw [List.getElem?_eq_none (by rw [List.length_set, ← R.len]; omega)] at e2; cases e2
        rw [List.getElem?_set_self il] at e2
        cases e2
        exact fun hb => np _ hb rfl
      rw [List.getElem?_set_ne ne2] at e2
      exact h3 l o q e1 e2
    · rcases set_at e1 with ⟨_, z⟩ | ⟨ne2, e1⟩
      · cases z
      exact h4 l p' qs' xss' e1
/-- an own object is written -/
theorem Rel.put (R : Rel K F π A σ H ε) {i : Nat} {p : Addr} {o o' : Ow} {u : HO} (hi : ε[i]? = some (some (.own o))) (hs : σ[i]? = some (some (.ref p))) (h' : OwnAt K A (upd H p u) p o') :
    Rel K F π A σ (upd H p u) (ε.set i (some (.own o'))) := by
  obtain ⟨p', e1, e2, e3, e4⟩ := R.own i o hi
  rw [hs] at e1; cases e1
  have il : i < ε.length := (List.getElem?_eq_some_iff.mp hi).1
  exact {
    pin := R.pin.keep (.put e2)
    gr := fun b o e n => by
      have z := R.gr b o e n
      rw [upd_ne (ne_of_none e e3)]; exact z
    j := F.m.st H _ (fun b z => upd_ne fun q => F.nm e3 (q ▸ z)) (fun b φ e => (upd_ne fun (q : b = p) => e4.noext φ (by rw [← q]; exact e)).trans e) R.j
    aa := R.aa
    tt := fun b z => by
      by_cases q : b = p
      · rw [q]; exact h'.tth
      · rw [upd_ne q]; exact R.tt b z
    len := by rw [List.length_set]; exact R.len
    dat := fun k e h1 => by
      by_cases q : i = k
      · subst q
        rw [List.getElem?_set_self il] at h1; cases h1
      · rw [List.getElem?_set_ne q] at h1
        obtain ⟨w, f1, f2⟩ := R.dat k e h1
        exact ⟨w, f1, f2.keep (.put e2)⟩
    own := fun k o1 h1 => by
      by_cases q : i = k
      · subst q
        rw [List.getElem?_set_self il] at h1; cases h1
        exact ⟨p, hs, e2, e3, h'⟩
      · rw [List.getElem?_set_ne q] at h1
        obtain ⟨r, f1, f2, f3, f4⟩ := R.own k o1 h1
        refine ⟨r, f1, f2, f3, f4.keep (.put e2) (upd_ne fun z => q ?_)⟩
        subst z
        exact R.inj i k o o1 _ hi h1 hs f1
    inj := fun k l o1 o2 w h1 h2 h3 h4 => by
      have hk : ∃ o, ε[k]? = some (some (.own o)) := by
        by_cases q : i = k
        · exact ⟨o, q ▸ hi⟩
        · rw [List.getElem?_set_ne q] at h1; exact ⟨_, h1⟩
      have hl : ∃ o, ε[l]? = some (some (.own o)) := by
        by_cases q : i = l
        · exact ⟨o, q ▸ hi⟩
        · rw [List.getElem?_set_ne q] at h2; exact ⟨_, h2⟩
      obtain ⟨_, hk⟩ := hk
      obtain ⟨_, hl⟩ := hl
      exact R.inj k l _ _ w hk hl h3 h4
    ll := fun k r qs xss e => by
      rcases set_at e with ⟨_, z⟩ | ⟨ne, e⟩
      · cases z
      obtain ⟨h1, h2, h3, h4⟩ := R.ll k r qs xss e
      have np : ∀ b, b ∈ r :: qs → b ≠ p := fun b hb z => h3 i o p hi hs (z ▸ hb)
      refine ⟨h1, h2.keep (.put e2) (fun b hb => upd_ne (np b hb)) fun b hb => (h2.hA b hb).1, fun l o1 q e3 e4 => ?_, fun l p' qs' xss' e3 => ?_⟩
      · rcases set_at e3 with ⟨z, _⟩ | ⟨_, e3⟩
        · subst z; exact h3 i o q hi e4
        exact h3 l o1 q e3 e4
      · rcases set_at e3 with ⟨_, z⟩ | ⟨_, e3⟩
        · cases z
        exact h4 l p' qs' xss' e3 }
def Ow.toD : Ow → D
  | .lst xs => .lst xs
  | .dct kvs => .dct kvs
  | .dtt kvs => .dtt kvs
  | .ins _ C fs => .ins C fs
  | .lsa _ xs => .lst xs
/-- an own object becomes a datum -/
theorem Rel.frz (R : Rel K F π A σ H ε) {i : Nat} {o : Ow} (hi : ε[i]? = some (some (.own o))) : ∃ A', Rel K F π A' σ H (ε.set i (some (.dat o.toD))) := by
  obtain ⟨p, e1, e2, e3, e4⟩ := R.own i o hi
  have il : i < ε.length := (List.getElem?_eq_some_iff.mp hi).1
  have ks : Keeps A H H (fun b => A b ∧ b ≠ p) := .sub fun _ z => z.1
  have dp : Dat K (fun b => A b ∧ b ≠ p) H o.toD (.ref p) := by
    cases o with
    | lst xs => obtain ⟨vs, h, hs⟩ := e4; exact .lst (fun z => z.2 rfl) h (hs.keep ks)
    | dct kvs => obtain ⟨kws, h, hk, hs⟩ := e4; exact .dct (fun z => z.2 rfl) h hk (hs.keep ks)
    | dtt kvs => obtain ⟨kws, h, hk, hs⟩ := e4; exact .dtt (fun z => z.2 rfl) h hk (hs.keep ks)
    | ins x C fs => obtain ⟨_, dx, gs, h, hk, hs⟩ := e4; exact .ins (fun z => z.2 rfl) h hk (hs.keep ks)
    | lsa q xs => obtain ⟨_, vs, h, hs⟩ := e4; exact .lst (fun z => z.2 rfl) h (hs.keep ks)
  refine ⟨fun b => A b ∧ b ≠ p, R.pin.keep ks, R.gr, R.j, fun b z => ⟨R.aa b z, fun q => F.al b z (q ▸ e3)⟩, fun b z => R.tt b z.1, by rw [List.length_set]; exact R.len, fun k e h1 => ?_, fun k o1 h1 => ?_, fun k l o1 o2 w h1 h2 h3 h4 => ?_, fun k r qs xss e => ?_⟩
  · by_cases q : i = k
    · subst q
      rw [List.getElem?_set_self il] at h1; cases h1
      exact ⟨_, e1, dp⟩
    · rw [List.getElem?_set_ne q] at h1
      obtain ⟨w, f1, f2⟩ := R.dat k e h1
      exact ⟨w, f1, f2.keep ks⟩
  · by_cases q : i = k
    · subst q
      rw [List.getElem?_set_self il] at h1; cases h1
    · rw [List.getElem?_set_ne q] at h1
      obtain ⟨r, f1, f2, f3, f4⟩ := R.own k o1 h1
      refine ⟨r, f1, ⟨f2, fun z => q ?_⟩, f3, f4.keep ks rfl⟩
      subst z
      exact R.inj i k o o1 _ hi h1 e1 f1
  · by_cases q : i = k
    · subst q
      rw [List.getElem?_set_self il] at h1; cases h1
    · by_cases q' : i = l
      · subst q'
        rw [List.getElem?_set_self il] at h2; cases h2
      · rw [List.getElem?_set_ne q] at h1
        rw [List.getElem?_set_ne q'] at h2
        exact R.inj k l o1 o2 w h1 h2 h3 h4
  · rcases set_at e with ⟨_, z⟩ | ⟨_, e⟩
    · cases z
    obtain ⟨h1, h2, h3, h4⟩ := R.ll k r qs xss e
    have np : ∀ b, b ∈ r :: qs → b ≠ p := fun b hb z => h3 i o p hi e1 (z ▸ hb)
    refine ⟨h1, h2.keep ks (fun _ _ => rfl) fun b hb => ⟨(h2.hA b hb).1, np b hb⟩, fun l o1 q e3 e4 => ?_, fun l p' qs' xss' e3 => ?_⟩
    · rcases set_at e3 with ⟨_, z⟩ | ⟨_, e3⟩
      · cases z
      exact h3 l o1 q e3 e4
    · rcases set_at e3 with ⟨_, z⟩ | ⟨_, e3⟩
      · cases z
      exact h4 l p' qs' xss' e3
/-- a further pin -/
theorem Rel.pinned (R : Rel K F π A σ H ε) {ds : List D} {vs : List V} (h : Dats K A H ds vs) : Rel K F (ds ++ π.1, vs ++ π.2) A σ H ε :=
  ⟨h.app R.pin, R.gr, R.j, R.aa, R.tt, R.len, R.dat, R.own, R.inj, R.ll⟩
theorem Dats.split : ∀ {ds es : List D} {vs ws : List V}, ds.length = vs.length → Dats K A H (ds ++ es) (vs ++ ws) → Dats K A H ds vs ∧ Dats K A H es ws
  | [], _, [], _, _, h => ⟨.nil, h⟩
  | [], _, _ :: _, _, e, _ => by cases e
  | _ :: _, _, [], _, e, _ => by cases e
  | d :: ds, _, v :: vs, _, e, h => by
    cases h with
    | cons h t =>
      obtain ⟨a, b⟩ := Dats.split (ds := ds) (vs := vs) (by simpa using e) t
      exact ⟨.cons h a, b⟩
theorem Rel.unpin {ds : List D} {vs : List V} (hl : ds.length = vs.length) (R : Rel K F (ds ++ π.1, vs ++ π.2) A σ H ε) : Rel K F π A σ H ε ∧ Dats K A H ds vs :=
  let ⟨a, b⟩ := Dats.split hl R.pin
  ⟨⟨b, R.gr, R.j, R.aa, R.tt, R.len, R.dat, R.own, R.inj, R.ll⟩, a⟩
end
end DW

namespace DW
open L2 PyProof.Rows PySem.Spec PySem
/-! ### what a piece of text does, over data -/
structure Ex where
  C : Addr
  fs : List (Str × D)
def ExAt (K : PySem.W.Frag) (A : Addr → Prop) (H : Hp) (x : Ex) (cls : Value) (dd : Option Addr) : Prop :=
  cls = .ref x.C ∧ ((dd = none ∧ x.fs = []) ∨ ∃ (d : Addr) (gs : List (Str × V)), ¬ A d ∧ dd = some d ∧ H d = some (.xd gs) ∧ gs.map (·.1) = x.fs.map (·.1) ∧ Dats K A H (x.fs.map (·.2)) (gs.map (·.2)))
abbrev WE := Ev → (D → Prop) → (Ex → Prop) → Prop
abbrev WT := Ev → (Bool → Prop) → (Ex → Prop) → Prop
abbrev WA := Ev → (List D → Prop) → (Ex → Prop) → Prop
structure En where
  nx : Ev → Prop
  rt : D → Prop
  bk : Ev → Prop := fun _ => False
  ct : Ev → Prop := fun _ => False
  ex : Ex → Ev → Prop := fun _ _ => False
abbrev WS := Ev → En → Prop
/-- a datum that is looked at, not kept: it may be one's own -/
def Bor (K : PySem.W.Frag) (m : Md) (A : Addr → Prop) (H : Hp) : D → V → Prop
  | .lst xs, v => ∃ (a : Addr) (vs : List V), v = .ref a ∧ ¬ m.M a ∧ H a = some (.lst vs) ∧ Dats K A H xs vs
  | .fro xs, v => ∃ a vs, v = .ref a ∧ LsA K m.M H a vs ∧ Dats K A H xs vs
  | .tup xs, v => ∃ a vs, v = .ref a ∧ TuA K m.M H a vs ∧ Dats K A H xs vs
  | .dct kvs, v => ∃ (a : Addr) (kws : List (Key × V)), v = .ref a ∧ ¬ m.M a ∧ H a = some (.dK kws) ∧ kws.map (·.1) = kvs.map (·.1) ∧ Dats K A H (kvs.map (·.2)) (kws.map (·.2))
  | .dtt kvs, v => ∃ (a : Addr) (kws : List (List Key × V)), v = .ref a ∧ ¬ m.M a ∧ H a = some (.dT kws) ∧ kws.map (·.1) = kvs.map (·.1) ∧ Dats K A H (kvs.map (·.2)) (kws.map (·.2))
  | .ins C fs, v => ∃ (a dx : Addr) (gs : List (Str × V)), v = .ref a ∧ ¬ m.M a ∧ H a = some (.ins C dx gs) ∧ gs.map (·.1) = fs.map (·.1) ∧ Dats K A H (fs.map (·.2)) (gs.map (·.2))
  | d, v => Dat K A H d v
section
variable {K : PySem.W.Frag} {F : Fx} {m : Md} {π : List D × List V} {A A' : Addr → Prop} {σ : L2.St} {H H' : Hp} {ε : Ev} {W : WX}
theorem Dat.bor (am : ∀ b, m.M b → A b) : ∀ {d : D} {v : V}, Dat K A H d v → Bor K m A H d v
  | _, _, .non => .non
  | _, _, .bl b => .bl b
  | _, _, .int i => .int i
  | _, _, .str x => .str x
  | _, _, .lst na h hs => ⟨_, _, rfl, fun q => na (am _ q), h, hs⟩
  | _, _, .fro h hs => ⟨_, _, rfl, h.imp (fun z => ⟨fun q => z.1 (am _ q), z.2⟩) id, hs⟩
  | _, _, .tup h hs => ⟨_, _, rfl, h.imp (fun z => ⟨fun q => z.1 (am _ q), z.2⟩) id, hs⟩
  | _, _, .dct na h hk hs => ⟨_, _, rfl, fun q => na (am _ q), h, hk, hs⟩
  | _, _, .dtt na h hk hs => ⟨_, _, rfl, fun q => na (am _ q), h, hk, hs⟩
  | _, _, .key na h => .key na h
  | _, _, .fix na h => .fix na h
  | _, _, .lnt na h hs => .lnt na h hs
  | _, _, .ins na h hk hs => ⟨_, _, _, rfl, fun q => na (am _ q), h, hk, hs⟩
  | _, _, .exc na h nx hx hk hs => .exc na h nx hx hk hs
  | _, _, .exc0 na h => .exc0 na h
  | _, _, .hex nx hx hk hs => .hex nx hx hk hs
  | _, _, .ref a => .ref a
  | _, _, .ty n => .ty n
  | _, _, .fn na h nc hc => .fn na h nc hc
theorem Bor.grow (g : Grow m H H') (am : ∀ b, m.M b → A b) : ∀ {d : D} {v : V}, Bor K m A H d v → Bor K m A H' d v := fun {d v} h => by
  have kM : Keeps m.M H H' m.M := fun b o e n => ⟨g b o e n, n⟩
  cases d with
  | lst xs => obtain ⟨a, vs, rfl, na, h, hs⟩ := h; exact ⟨a, vs, rfl, na, g _ _ h na, hs.mono g am fun _ z => z⟩
  | fro xs => obtain ⟨a, vs, rfl, h, hs⟩ := h; exact ⟨a, vs, rfl, h.imp (fun z => kM.rd z.1 z.2) id, hs.mono g am fun _ z => z⟩
  | tup xs => obtain ⟨a, vs, rfl, h, hs⟩ := h; exact ⟨a, vs, rfl, h.imp (fun z => kM.rd z.1 z.2) id, hs.mono g am fun _ z => z⟩
  | dct kvs => obtain ⟨a, kws, rfl, na, h, hk, hs⟩ := h; exact ⟨a, kws, rfl, na, g _ _ h na, hk, hs.mono g am fun _ z => z⟩
  | dtt kvs => obtain ⟨a, kws, rfl, na, h, hk, hs⟩ := h; exact ⟨a, kws, rfl, na, g _ _ h na, hk, hs.mono g am fun _ z => z⟩
  | ins C fs => obtain ⟨a, dx, gs, rfl, na, h, hk, hs⟩ := h; exact ⟨a, dx, gs, rfl, na, g _ _ h na, hk, hs.mono g am fun _ z => z⟩
  | key ks => exact Dat.mono g am (fun _ z => z) h
  | fix o => exact Dat.mono g am (fun _ z => z) h
  | lnt p xs => exact Dat.mono g am (fun _ z => z) h
  | non => exact Dat.mono g am (fun _ z => z) h
  | bl b => exact Dat.mono g am (fun _ z => z) h
  | int i => exact Dat.mono g am (fun _ z => z) h
  | str x => exact Dat.mono g am (fun _ z => z) h
  | exc C fs => exact Dat.mono g am (fun _ z => z) h
  | hex a C dd fs => exact Dat.mono g am (fun _ z => z) h
  | ref a => exact Dat.mono g am (fun _ z => z) h
  | ty n => exact Dat.mono g am (fun _ z => z) h
  | fn F be => exact Dat.mono g am (fun _ z => z) h
theorem ExAt.mono {x : Ex} {cls : Value} {dd : Option Addr} (aa : ∀ b, A' b → A b) (h : ExAt K A H x cls dd) : ExAt K A' H x cls dd :=
  ⟨h.1, h.2.imp id fun ⟨d, gs, e0, e1, e2, e3, e4⟩ => ⟨d, gs, fun z => e0 (aa _ z), e1, e2, e3, e4.keep (.sub aa)⟩⟩
/-- what an exception out of an expression is wished to be -/
def XW (K : PySem.W.Frag) (F : Fx) (W : WX) (A : Addr → Prop) (σ : L2.St) (H : Hp) (X : Ex → Prop) : Prop :=
  ∀ x cls dd H', X x → Grow F.m H H' → F.m.J H' → ExAt K A H' x cls dd → W cls dd σ H'
theorem XW.grow {X : Ex → Prop} (w : XW K F W A σ H X) (g : Grow F.m H H') : XW K F W A σ H' X := fun x cls dd H2 h g2 j e => w x cls dd H2 h (g.trans g2) j e
def tE (K : PySem.W.Frag) (F : Fx) (W : WX) (f : WE) : TE := fun σ H Q => ∃ π A ε P X, Rel K F π A σ H ε ∧ XW K F W A σ H X ∧ f ε P X ∧ ∀ d v H', P d → Grow F.m H H' → F.m.J H' → Dat K A H' d v → Q v H'
def tB (K : PySem.W.Frag) (F : Fx) (W : WX) (f : WE) : TE := fun σ H Q => ∃ π A ε P X, Rel K F π A σ H ε ∧ XW K F W A σ H X ∧ f ε P X ∧ ∀ d v H', P d → Grow F.m H H' → F.m.J H' → Bor K F.m A H' d v → Q v H'
def tT (K : PySem.W.Frag) (F : Fx) (W : WX) (f : WT) : TT := fun σ H Q => ∃ π A ε P X, Rel K F π A σ H ε ∧ XW K F W A σ H X ∧ f ε P X ∧ ∀ b H', P b → Grow F.m H H' → F.m.J H' → Q b H'
def tA (K : PySem.W.Frag) (F : Fx) (W : WX) (f : WA) : TA := fun σ H Q => ∃ π A ε P X, Rel K F π A σ H ε ∧ XW K F W A σ H X ∧ f ε P X ∧ ∀ ds vs H', P ds → Grow F.m H H' → F.m.J H' → Dats K A H' ds vs → Q vs H'
def tS (K : PySem.W.Frag) (F : Fx) (W : WX) (g : WS) : TS := fun D σ H => ∃ π A ε N, Rel K F π A σ H ε ∧ g ε N ∧
  (∀ A' ε' σ' H', N.nx ε' → Rel K F π A' σ' H' ε' → D.nx σ' H') ∧
  (∀ d v H', N.rt d → Grow F.m F.H0 H' → F.m.J H' → Dat K F.A0 H' d v → D.rt v H') ∧
  (∀ A' ε' σ' H', N.bk ε' → Rel K F π A' σ' H' ε' → D.bk σ' H') ∧
  (∀ A' ε' σ' H', N.ct ε' → Rel K F π A' σ' H' ε' → D.ct σ' H') ∧
  (∀ x A' ε' σ' H' cls dd, N.ex x ε' → Rel K F π A' σ' H' ε' → ExAt K A' H' x cls dd → W cls dd σ' H')
end
section
variable {X : Cx} {F : Fx} {W : WX} {e a b c : Expr} {f g h : WE} {pos : Pos}
theorem imE {t t' : TE} (p : PE X e t) (q : ∀ σ H Q, t' σ H Q → t σ H Q) : PE X e t' := ⟨fun pins s σ H Q I z => p.run pins s σ H Q I (q σ H Q z)⟩
theorem imT {t t' : TT} (p : PT X e t) (q : ∀ σ H Q, t' σ H Q → t σ H Q) : PT X e t' := ⟨fun pins s σ H Q I z => p.run pins s σ H Q I (q σ H Q z)⟩
theorem imA {es : List Expr} {t t' : TA} (p : PA X es t) (q : ∀ σ H Q, t' σ H Q → t σ H Q) : PA X es t' := ⟨fun pos pins s σ H Q I z => p.run pos pins s σ H Q I (q σ H Q z)⟩
theorem imS {st : Stmt} {t t' : TS} (p : PS X st t) (q : ∀ D σ H, t' D σ H → t D σ H) : PS X st t' := ⟨fun pins s σ H D I z => p.run pins s σ H D I (q D σ H z)⟩
theorem imSs {sts : List Stmt} {t t' : TS} (p : PSs X sts t) (q : ∀ D σ H, t' D σ H → t D σ H) : PSs X sts t' := ⟨fun pins s σ H D I z => p.run pins s σ H D I (q D σ H z)⟩
/-- a datum is one to look at -/
theorem bor (p : PE X e (tE X.K F W f)) : PE X e (tB X.K F W f) := imE p fun σ H Q ⟨π, A, ε, P, Z, R, w, z, k⟩ => ⟨π, A, ε, P, Z, R, w, z, fun d v H' p g j h => k d v H' p g j (h.bor R.am)⟩
/-! ### names, constants -/
def wVar (i : Nat) : WE := fun ε P _ => ∃ d, ε[i]? = some (some (.dat d)) ∧ P d
def wOwn (i : Nat) : WE := fun ε P _ => ∃ o, ε[i]? = some (some (.own o)) ∧ P o.toD
def wC (d : D) : WE := fun _ P _ => P d
theorem dVar (i : Nat) (p : PE X e (tVar i)) : PE X e (tE X.K F W (wVar i)) := imE p fun σ H Q ⟨π, A, ε, P, Z, R, w, ⟨d, hd, z⟩, k⟩ => by
  obtain ⟨v, h1, h2⟩ := R.dat i d hd
  exact ⟨v, h1, k d v H z (.refl _ _) R.j h2⟩
theorem dOwn (i : Nat) (p : PE X e (tVar i)) : PE X e (tB X.K F W (wOwn i)) := imE p fun σ H Q ⟨π, A, ε, P, Z, R, w, ⟨o, hd, z⟩, k⟩ => by
  obtain ⟨q, h1, h2, h3, h4⟩ := R.own i o hd
  have nm := F.nm h3
  refine ⟨.ref q, h1, k _ _ H z (.refl _ _) R.j ?_⟩
  cases o with
  | lst xs => obtain ⟨vs, e1, e2⟩ := h4; exact ⟨q, vs, rfl, nm, e1, e2⟩
  | dct kvs => obtain ⟨vs, e1, e2, e3⟩ := h4; exact ⟨q, vs, rfl, nm, e1, e2, e3⟩
  | dtt kvs => obtain ⟨vs, e1, e2, e3⟩ := h4; exact ⟨q, vs, rfl, nm, e1, e2, e3⟩
  | ins y C fs => obtain ⟨_, dx, vs, e1, e2, e3⟩ := h4; exact ⟨q, dx, vs, rfl, nm, e1, e2, e3⟩
  | lsa y xs => obtain ⟨_, vs, e1, e2⟩ := h4; exact ⟨q, vs, rfl, nm, e1, e2⟩
theorem dC {v : V} {d : D} (p : PE X e (tC v)) (r : ∀ K A H, Dat K A H d v) : PE X e (tE X.K F W (wC d)) := imE p fun σ H Q ⟨π, A, ε, P, Z, R, w, z, k⟩ => k d v H z (.refl _ _) R.j (r _ _ _)
theorem dInt {i : Int} {j pos} : PE X (.Constant (.int i) j pos) (tE X.K F W (wC (.int i))) := dC pe_int fun _ _ _ => .int i
theorem dBl {b : Bool} {j pos} : PE X (.Constant (.bool b) j pos) (tE X.K F W (wC (.bl b))) := dC pe_bl fun _ _ _ => .bl b
theorem dStr {x : Str} {j pos} : PE X (.Constant (.str x) j pos) (tE X.K F W (wC (.str x))) := dC pe_str fun _ _ _ => .str x
/-! ### two operands -/
/-- from a reading of two operands (each by tB) to the operation's -/
def w2 (f g : WE) (k : D → D → (D → Prop) → Prop) : WE := fun ε P Z => f ε (fun x => g ε (fun y => k x y P) Z) Z
def w1 (f : WE) (k : D → (D → Prop) → Prop) : WE := fun ε P Z => f ε (fun x => k x P) Z
/-- an operation on values answers one on data -/
def Op2 (K : PySem.W.Frag) (r : R2) (k : D → D → (D → Prop) → Prop) : Prop :=
  ∀ (m : Md) (A : Addr → Prop) (H : Hp) (x y : D) (u v : V) (P : D → Prop) (Q : VK), (∀ b, m.M b → A b) → (∀ b, A b → H b ≠ none) → m.J H → Bor K m A H x u → Bor K m A H y v → k x y P → (∀ d w H', P d → Grow m H H' → m.J H' → Dat K A H' d w → Q w H') → r u v H Q
theorem d2 {r : R2} {k : D → D → (D → Prop) → Prop} (ho : ∀ {ta tb : TE}, PE X a ta → PE X b tb → PE X e (tOp r ta tb)) (hk : Op2 X.K r k) (ha : PE X a (tB X.K F W f)) (hb : PE X b (tB X.K F W g)) : PE X e (tE X.K F W (w2 f g k)) :=
  imE (ho ha hb) fun σ H Q ⟨π, A, ε, P, Z, R, w, z, q⟩ => ⟨π, A, ε, _, Z, R, w, z, fun x u H1 z1 g1 j1 b1 => ⟨π, A, ε, _, Z, R.grow g1 j1, w.grow g1, z1, fun y v H2 z2 g2 j2 b2 =>
    hk F.m A H2 x y u v P Q R.am ((R.grow g1 j1).grow g2 j2).th j2 (b1.grow g2 R.am) b2 z2 fun d w' H3 p g3 j3 h3 => q d w' H3 p ((g1.trans g2).trans g3) j3 h3⟩⟩
theorem d2T {r : R2} {k : D → D → (D → Prop) → Prop} (ho : ∀ {ta tb : TE}, PE X a ta → PE X b tb → PT X e (tTest (tOp r ta tb))) (hk : Op2 X.K r k) (ha : PE X a (tB X.K F W f)) (hb : PE X b (tB X.K F W g)) :
    PT X e (tT X.K F W fun ε P Z => w2 f g k ε (fun d => ∃ c, d = .bl c ∧ P c) Z) :=
  imT (ho ha hb) fun σ H Q ⟨π, A, ε, P, Z, R, w, z, q⟩ => ⟨π, A, ε, _, Z, R, w, z, fun x u H1 z1 g1 j1 b1 => ⟨π, A, ε, _, Z, R.grow g1 j1, w.grow g1, z1, fun y v H2 z2 g2 j2 b2 =>
    hk F.m A H2 x y u v _ _ R.am ((R.grow g1 j1).grow g2 j2).th j2 (b1.grow g2 R.am) b2 z2 fun d w' H3 p g3 j3 h3 => by
      obtain ⟨c, rfl, pc⟩ := p
      cases h3
      exact ⟨c, rfl, q c H3 pc ((g1.trans g2).trans g3) j3⟩⟩⟩
end
end DW

namespace DW
open L2 PyProof.Rows PySem.Spec PySem
/-! ### data as plain Python data -/
mutual
def D.pd : D → PyData
  | .non => .none
  | .bl b => .bool b
  | .int i => .int i
  | .str x => .str x
  | .lst xs => .list (pds xs)
  | .fro xs => .list (pds xs)
  | .tup xs => .tuple (pds xs)
  | .dct _ => .dict []
  | .dtt _ => .dict []
  | .key _ => .dict []
  | .fix _ => .dict []
  | .lnt _ _ => .dict []
  | .ins _ _ => .dict []
  | .exc _ _ => .dict []
  | .hex _ _ _ _ => .dict []
  | .ref _ => .dict []
  | .ty _ => .dict []
  | .fn _ _ => .dict []
def pds : List D → List PyData
  | [] => []
  | d :: ds => d.pd :: pds ds
end
theorem pds_map : ∀ ds : List D, pds ds = ds.map D.pd
  | [] => rfl
  | d :: ds => by rw [pds, pds_map ds, List.map_cons]
section
variable {K : PySem.W.Frag} {A : Addr → Prop} {H : Hp}
mutual
theorem Dat.dp : ∀ {d : D} {v : V}, Dat K A H d v → d.pd.canLay0 = true → Dp K H v d.pd
  | _, _, .non, _ => .non
  | _, _, .bl b, _ => .bl b
  | _, _, .int i, _ => .int i
  | _, _, .str x, _ => .str x
  | .lst xs, _, .lst na h hs, c => by
    rw [D.pd]; rw [D.pd, PyData.canLay0] at c
    exact .lst (.of h) (Dats.dp hs c)
  | .fro xs, _, .fro h hs, c => by
    rw [D.pd]; rw [D.pd, PyData.canLay0] at c
    exact .lst h.sq (Dats.dp hs c)
  | .tup xs, _, .tup h hs, c => by
    rw [D.pd]; rw [D.pd, PyData.canLay0] at c
    exact .tup h.sq (Dats.dp hs c)
  | _, _, .dct _ _ _ _, c => by rw [D.pd, PyData.canLay0] at c; cases c
  | _, _, .dtt _ _ _ _, c => by rw [D.pd, PyData.canLay0] at c; cases c
  | _, _, .key _ _, c => by rw [D.pd, PyData.canLay0] at c; cases c
  | _, _, .fix _ _, c => by rw [D.pd, PyData.canLay0] at c; cases c
  | _, _, .lnt _ _ _, c => by rw [D.pd, PyData.canLay0] at c; cases c
  | _, _, .ins _ _ _ _, c => by rw [D.pd, PyData.canLay0] at c; cases c
  | _, _, .exc _ _ _ _ _ _, c => by rw [D.pd, PyData.canLay0] at c; cases c
  | _, _, .exc0 _ _, c => by rw [D.pd, PyData.canLay0] at c; cases c
  | _, _, .hex _ _ _ _, c => by rw [D.pd, PyData.canLay0] at c; cases c
  | _, _, .ref _, c => by rw [D.pd, PyData.canLay0] at c; cases c
  | _, _, .ty _, c => by rw [D.pd, PyData.canLay0] at c; cases c
  | _, _, .fn _ _ _ _, c => by rw [D.pd, PyData.canLay0] at c; cases c
theorem Dats.dp : ∀ {ds : List D} {vs : List V}, Dats K A H ds vs → PyData.canLayAll0 (pds ds) = true → DpAll K H vs (pds ds)
  | _, _, .nil, _ => .nil
  | d :: ds, _, .cons h t, c => by
    rw [pds, PyData.canLayAll0, Bool.and_eq_true] at c
    rw [pds]
    exact .cons (Dat.dp h c.1) (Dats.dp t c.2)
end
theorem Bor.dp {m : Md} {d : D} {v : V} (h : Bor K m A H d v) (c : d.pd.canLay0 = true) : Dp K H v d.pd := by
  cases d with
  | lst xs =>
    obtain ⟨a, vs, rfl, na, e, hs⟩ := h
    rw [D.pd]; rw [D.pd, PyData.canLay0] at c
    exact .lst (.of e) (Dats.dp hs c)
  | fro xs =>
    obtain ⟨a, vs, rfl, e, hs⟩ := h
    rw [D.pd]; rw [D.pd, PyData.canLay0] at c
    exact .lst e.sq (Dats.dp hs c)
  | tup xs =>
    obtain ⟨a, vs, rfl, e, hs⟩ := h
    rw [D.pd]; rw [D.pd, PyData.canLay0] at c
    exact .tup e.sq (Dats.dp hs c)
  | dct _ => rw [D.pd, PyData.canLay0] at c; cases c
  | dtt _ => rw [D.pd, PyData.canLay0] at c; cases c
  | key _ => rw [D.pd, PyData.canLay0] at c; cases c
  | fix _ => rw [D.pd, PyData.canLay0] at c; cases c
  | lnt _ _ => rw [D.pd, PyData.canLay0] at c; cases c
  | ins _ _ => rw [D.pd, PyData.canLay0] at c; cases c
  | exc _ _ => rw [D.pd, PyData.canLay0] at c; cases c
  | hex _ _ _ _ => rw [D.pd, PyData.canLay0] at c; cases c
  | ref _ => rw [D.pd, PyData.canLay0] at c; cases c
  | ty _ => rw [D.pd, PyData.canLay0] at c; cases c
  | fn _ _ => rw [D.pd, PyData.canLay0] at c; cases c
  | non => exact Dat.dp h c
  | bl b => exact Dat.dp h c
  | int i => exact Dat.dp h c
  | str x => exact Dat.dp h c
end
/-! ### operations -/
def kAdd : D → D → (D → Prop) → Prop
  | .int i, .int j, P => P (.int (i + j))
  | .str x, .str y, P => x.length + y.length ≤ sizeLine ∧ P (.str (x ++ y))
  | .lst xs, .lst ys, P => xs.length + ys.length ≤ sizeLine ∧ P (.lst (xs ++ ys))
  | _, _, _ => False
def kI (φ : Int → Int → Prop) (ψ : Int → Int → D) : D → D → (D → Prop) → Prop
  | .int i, .int j, P => φ i j ∧ P (ψ i j)
  | _, _, _ => False
def kEq (neg : Bool) : D → D → (D → Prop) → Prop := fun x y P => SeqAt.shaped x.pd = true ∧ SeqAt.shaped y.pd = true ∧ P (.bl (if neg then !PyData.eqv x.pd y.pd else PyData.eqv x.pd y.pd))
section
variable {X : Cx} {K : PySem.W.Frag}
theorem bInt {m : Md} {A : Addr → Prop} {H : Hp} {i : Int} {v : V} (h : Bor K m A H (.int i) v) : v = .int i := by cases h; rfl
theorem bStr {m : Md} {A : Addr → Prop} {H : Hp} {x : Str} {v : V} (h : Bor K m A H (.str x) v) : v = .str x := by cases h; rfl
theorem bBl {m : Md} {A : Addr → Prop} {H : Hp} {b : Bool} {v : V} (h : Bor K m A H (.bl b) v) : v = .bl b := by cases h; rfl
theorem bNon {m : Md} {A : Addr → Prop} {H : Hp} {v : V} (h : Bor K m A H .non v) : v = .non := by cases h; rfl
/-- a new object, outside of all that may change -/
theorem grow_new {m : Md} {H : Hp} {p : Addr} {o : HO} (hp : H p = none) : Grow m H (upd H p o) := fun b u h _ => by rw [upd_ne (ne_of_none h hp)]; exact h
theorem j_new {m : Md} {H : Hp} {p : Addr} {o : HO} (hp : H p = none) (j : m.J H) : m.J (upd H p o) := m.st H _ (fun b z => upd_ne fun q => m.al H b j z (q ▸ hp)) (fun b φ e => (upd_ne (ne_of_none e hp)).trans e) j
theorem o2I {φ : Int → Int → Prop} {ψ : Int → Int → V} {ψ' : Int → Int → D} (hψ : ∀ K A H i j, Dat K A H (ψ' i j) (ψ i j)) : Op2 K (rI φ ψ) (kI φ ψ') := fun m A H x y u v P Q am al j bx b2 k q => by
  cases x <;> try exact k.elim
  cases y <;> try exact k.elim
  obtain ⟨k1, k2⟩ := k
  exact ⟨_, _, bInt bx, bInt b2, k1, q _ _ H k2 (.refl _ _) j (hψ _ _ _ _ _)⟩
theorem o2I0 {ψ : Int → Int → V} {ψ' : Int → Int → D} (hψ : ∀ K A H i j, Dat K A H (ψ' i j) (ψ i j)) : Op2 K (rI0 ψ) (kI (fun _ _ => True) ψ') := fun m A H x y u v P Q am al j bx b2 k q => by
  cases x <;> try exact k.elim
  cases y <;> try exact k.elim
  exact ⟨_, _, bInt bx, bInt b2, q _ _ H k.2 (.refl _ _) j (hψ _ _ _ _ _)⟩
theorem Op2.or {r r' : R2} {k k' : D → D → (D → Prop) → Prop} (a : Op2 K r k) (b : Op2 K r' k') : Op2 K (fun x y H Q => r x y H Q ∨ r' x y H Q) (fun x y P => k x y P ∨ k' x y P) :=
  fun m A H x y u v P Q am al j bx b2 z q => z.imp (fun z => a m A H x y u v P Q am al j bx b2 z q) (fun z => b m A H x y u v P Q am al j bx b2 z q)
theorem Op2.imp {r : R2} {k k' : D → D → (D → Prop) → Prop} (a : Op2 K r k) (h : ∀ x y P, k' x y P → k x y P) : Op2 K r k' := fun m A H x y u v P Q am al j bx b2 z q => a m A H x y u v P Q am al j bx b2 (h _ _ _ z) q
def rAddA : R2 := fun x y H Q => (∃ i j, x = .int i ∧ y = .int j ∧ Q (.int (i + j)) H) ∨ (∃ i j, x = .str i ∧ y = .str j ∧ i.length + j.length ≤ sizeLine ∧ Q (.str (i ++ j)) H) ∨ rCat x y H Q
theorem opAdd : OpR X (binaryOp .Add) rAddA := op_add.or (op_add_str.or op_cat)
theorem k2Add : Op2 K rAddA kAdd := fun m A H x y u v P Q am al j bx b2 k q => by
  cases x <;> try exact k.elim
  · cases y <;> try exact k.elim
    exact .inl ⟨_, _, bInt bx, bInt b2, q _ _ H k (.refl _ _) j (.int _)⟩
  · cases y <;> try exact k.elim
    exact .inr (.inl ⟨_, _, bStr bx, bStr b2, k.1, q _ _ H k.2 (.refl _ _) j (.str _)⟩)
  · cases y <;> try exact k.elim
    obtain ⟨a, vs, rfl, na, e, hs⟩ := bx
    obtain ⟨b, ws, rfl, nb, e', hs'⟩ := b2
    refine .inr (.inr ⟨a, b, vs, ws, rfl, rfl, e, e', by rw [← hs.length, ← hs'.length]; exact k.1, fun p hp => ?_⟩)
    refine q _ _ _ k.2 (grow_new hp) (j_new hp j) (.lst (fun z => al p z hp) upd_same ?_)
    exact (hs.app hs').keep (.new' hp)
theorem k2Eq : Op2 K (rEqD K) (kEq false) := fun m A H x y u v P Q am al j bx b2 k q => by
  obtain ⟨k1, k2, k3⟩ := k
  exact ⟨_, _, bx.dp (SeqAt.canLay_of_shaped k1), b2.dp (SeqAt.canLay_of_shaped k2), k1, k2, q _ _ H k3 (.refl _ _) j (.bl _)⟩
theorem k2Ne : Op2 K (rNeD K) (kEq true) := fun m A H x y u v P Q am al j bx b2 k q => by
  obtain ⟨k1, k2, k3⟩ := k
  exact ⟨_, _, bx.dp (SeqAt.canLay_of_shaped k1), b2.dp (SeqAt.canLay_of_shaped k2), k1, k2, q _ _ H k3 (.refl _ _) j (.bl _)⟩
end
section
variable {X : Cx} {F : Fx} {W : WX} {a b : Expr} {f g : WE} {pos : Pos}
theorem dAdd (ha : PE X a (tB X.K F W f)) (hb : PE X b (tB X.K F W g)) : PE X (.BinOp a .Add b pos) (tE X.K F W (w2 f g kAdd)) := d2 (fun p q => pe_op opAdd p q) k2Add ha hb
theorem dSub (ha : PE X a (tB X.K F W f)) (hb : PE X b (tB X.K F W g)) : PE X (.BinOp a .Sub b pos) (tE X.K F W (w2 f g (kI (fun _ _ => True) fun i j => .int (i - j)))) := d2 (fun p q => pe_op op_sub p q) (o2I0 fun _ _ _ _ _ => .int _) ha hb
theorem dMulI (ha : PE X a (tB X.K F W f)) (hb : PE X b (tB X.K F W g)) : PE X (.BinOp a .Mult b pos) (tE X.K F W (w2 f g (kI CMul fun i j => .int (i * j)))) := d2 (fun p q => pe_op op_mul p q) (o2I fun _ _ _ _ _ => .int _) ha hb
theorem dMod (ha : PE X a (tB X.K F W f)) (hb : PE X b (tB X.K F W g)) : PE X (.BinOp a .Mod b pos) (tE X.K F W (w2 f g (kI (fun _ j => 0 < j) fun i j => .int (i % j)))) := d2 (fun p q => pe_op op_mod p q) (o2I fun _ _ _ _ _ => .int _) ha hb
theorem dDiv (ha : PE X a (tB X.K F W f)) (hb : PE X b (tB X.K F W g)) : PE X (.BinOp a .FloorDiv b pos) (tE X.K F W (w2 f g (kI CDiv fun i j => .int (i / j)))) := d2 (fun p q => pe_op op_fdiv p q) (o2I fun _ _ _ _ _ => .int _) ha hb
theorem dPow (ha : PE X a (tB X.K F W f)) (hb : PE X b (tB X.K F W g)) : PE X (.BinOp a .Pow b pos) (tE X.K F W (w2 f g (kI CPow fun i j => .int (i ^ j.toNat)))) := d2 (fun p q => pe_op op_pow p q) (o2I fun _ _ _ _ _ => .int _) ha hb
/-- comparisons, as values and as tests -/
def wTst (f : WE) : WT := fun ε P Z => f ε (fun d => ∃ c, d = .bl c ∧ P c) Z
abbrev kLt : D → D → (D → Prop) → Prop := kI (fun _ _ => True) fun i j => .bl (decide (i < j))
abbrev kLe : D → D → (D → Prop) → Prop := kI (fun _ _ => True) fun i j => .bl (decide (i ≤ j))
abbrev kGt : D → D → (D → Prop) → Prop := kI (fun _ _ => True) fun i j => .bl (decide (j < i))
theorem dGt (ha : PE X a (tB X.K F W f)) (hb : PE X b (tB X.K F W g)) : PE X (.Compare a [.Gt] [b] pos) (tE X.K F W (w2 f g kGt)) := d2 (fun p q => pe_cmpR op_gt p q (nomark _)) (o2I0 fun _ _ _ _ _ => .bl _) ha hb
theorem dEq (hu : X.A.units + 64 < cLine) (ha : PE X a (tB X.K F W f)) (hb : PE X b (tB X.K F W g)) : PE X (.Compare a [.Eq] [b] pos) (tE X.K F W (w2 f g (kEq false))) := d2 (fun p q => pe_cmpR (op_eqD hu) p q (nomark _)) k2Eq ha hb
theorem dNe (hu : X.A.units + 64 < cLine) (ha : PE X a (tB X.K F W f)) (hb : PE X b (tB X.K F W g)) : PE X (.Compare a [.NotEq] [b] pos) (tE X.K F W (w2 f g (kEq true))) := d2 (fun p q => pe_cmpR (op_neD hu) p q (nomark _)) k2Ne ha hb
theorem tLt (ha : PE X a (tB X.K F W f)) (hb : PE X b (tB X.K F W g)) : PT X (.Compare a [.Lt] [b] pos) (tT X.K F W (wTst (w2 f g kLt))) := d2T (fun p q => pt_cmpR op_lt p q (nomark _)) (o2I0 fun _ _ _ _ _ => .bl _) ha hb
theorem tLe (ha : PE X a (tB X.K F W f)) (hb : PE X b (tB X.K F W g)) : PT X (.Compare a [.LtE] [b] pos) (tT X.K F W (wTst (w2 f g kLe))) := d2T (fun p q => pt_cmpR op_le p q (nomark _)) (o2I0 fun _ _ _ _ _ => .bl _) ha hb
theorem tEq (hu : X.A.units + 64 < cLine) (ha : PE X a (tB X.K F W f)) (hb : PE X b (tB X.K F W g)) : PT X (.Compare a [.Eq] [b] pos) (tT X.K F W (wTst (w2 f g (kEq false)))) := d2T (fun p q => pt_cmpR (op_eqD hu) p q (nomark _)) k2Eq ha hb
theorem tNe (hu : X.A.units + 64 < cLine) (ha : PE X a (tB X.K F W f)) (hb : PE X b (tB X.K F W g)) : PT X (.Compare a [.NotEq] [b] pos) (tT X.K F W (wTst (w2 f g (kEq true)))) := d2T (fun p q => pt_cmpR (op_neD hu) p q (nomark _)) k2Ne ha hb
end
end DW

namespace DW
open L2 PyProof.Rows PySem.Spec PySem
/-! ### tests -/
def truD : D → (Bool → Prop) → Prop
  | .non, P => P false
  | .bl b, P => P b
  | .int i, P => P (i != 0)
  | .str x, P => x.length ≤ sizeLine ∧ P ((x.length : Int) != 0)
  | .lst xs, P => P (!xs.isEmpty)
  | .fro xs, P => P (!xs.isEmpty)
  | .tup xs, P => P (!xs.isEmpty)
  | .dct kvs, P => P (!kvs.isEmpty)
  | _, _ => False
theorem emp_len {α β : Type} {xs : List α} {ys : List β} (h : xs.length = ys.length) : xs.isEmpty = ys.isEmpty := by
  cases xs <;> cases ys <;> simp_all
section
variable {X : Cx} {F : Fx} {W : WX} {e a b c : Expr} {rest : List Expr} {f g h : WE} {t u : WT} {pos : Pos}
theorem tru_of {K : PySem.W.Frag} {m : Md} {A : Addr → Prop} {H : Hp} {d : D} {v : V} {P : Bool → Prop} (hb : Bor K m A H d v) (p : truD d P) : ∃ k, TruV K v H k ∧ P k := by
  cases d with
  | non => cases bNon hb; exact ⟨false, rfl, p⟩
  | bl b => cases bBl hb; exact ⟨b, rfl, p⟩
  | int i => cases bInt hb; exact ⟨_, rfl, p⟩
  | str x => cases bStr hb; exact ⟨_, ⟨p.1, rfl⟩, p.2⟩
  | lst xs => obtain ⟨q, vs, rfl, na, e, hs⟩ := hb; exact ⟨_, .inl ⟨vs, .of e, rfl⟩, by rw [← emp_len hs.length]; exact p⟩
  | fro xs => obtain ⟨q, vs, rfl, e, hs⟩ := hb; exact ⟨_, .inl ⟨vs, e.sq, rfl⟩, by rw [← emp_len hs.length]; exact p⟩
  | tup xs => obtain ⟨q, vs, rfl, e, hs⟩ := hb; exact ⟨_, .inr (.inl ⟨vs, e.sq, rfl⟩), by rw [← emp_len hs.length]; exact p⟩
  | dct kvs =>
    obtain ⟨q, kws, rfl, na, e, hk, hs⟩ := hb
    have hl : kvs.length = kws.length := by simpa using (congrArg List.length hk).symm
    exact ⟨_, .inr (.inr ⟨kws, e, rfl⟩), by rw [← emp_len hl]; exact p⟩
  | dtt _ => exact p.elim
  | key _ => exact p.elim
  | fix _ => exact p.elim
  | lnt _ _ => exact p.elim
  | ins _ _ => exact p.elim
  | exc _ _ => exact p.elim
  | hex _ _ _ _ => exact p.elim
  | ref _ => exact p.elim
  | ty _ => exact p.elim
  | fn _ _ => exact p.elim
/-- an expression as a test, by its truth -/
def wTru (f : WE) : WT := fun ε P Z => f ε (fun d => truD d P) Z
theorem tTru (p : PE X e (tB X.K F W f)) (he : ∀ whole, isTrue e X.env whole = (do let v ← whole; standAt e.pos; holding [v] (truthy v)) := by intro _; rfl) : PT X e (tT X.K F W (wTru f)) :=
  imT (pt_truth p he) fun σ H Q ⟨π, A, ε, P, Z, R, w, z, q⟩ => ⟨π, A, ε, _, Z, R, w, z, fun d v H1 p g j b => by
    obtain ⟨k, h1, h2⟩ := tru_of b p
    exact ⟨k, h1, q k H1 h2 g j⟩⟩
def wAnd (t u : WT) : WT := fun ε P Z => t ε (fun c => if c = true then u ε P Z else P false) Z
def wOr (t u : WT) : WT := fun ε P Z => t ε (fun c => if c = true then P true else u ε P Z) Z
def wNot (t : WT) : WT := fun ε P Z => t ε (fun c => P (!c)) Z
theorem imW {t t' : TT} (p : PW X e t) (q : ∀ σ H Q, t' σ H Q → t σ H Q) : PW X e t' := ⟨fun wh pins s σ H Q I z => p.run wh pins s σ H Q I (q σ H Q z)⟩
theorem wwAnd1 (ha : PT X a (tT X.K F W t)) : PW X (.BoolOp .And [a] pos) (tT X.K F W t) := pw_and1 ha
theorem wwOr1 (ha : PT X a (tT X.K F W t)) : PW X (.BoolOp .Or [a] pos) (tT X.K F W t) := pw_or1 ha
theorem wwAnd (ha : PT X a (tT X.K F W t)) (hb : PW X (.BoolOp .And (b :: rest) pos) (tT X.K F W u)) : PW X (.BoolOp .And (a :: b :: rest) pos) (tT X.K F W (wAnd t u)) :=
  imW (pw_and ha hb) fun σ H Q ⟨π, A, ε, P, Z, R, w, z, q⟩ => ⟨π, A, ε, _, Z, R, w, z, fun c H1 p g j => by
    cases c with
    | true => exact ⟨π, A, ε, P, Z, R.grow g j, w.grow g, p, fun b H' p' g' j' => q b H' p' (g.trans g') j'⟩
    | false => exact q false H1 p g j⟩
theorem wwOr (ha : PT X a (tT X.K F W t)) (hb : PW X (.BoolOp .Or (b :: rest) pos) (tT X.K F W u)) : PW X (.BoolOp .Or (a :: b :: rest) pos) (tT X.K F W (wOr t u)) :=
  imW (pw_or ha hb) fun σ H Q ⟨π, A, ε, P, Z, R, w, z, q⟩ => ⟨π, A, ε, _, Z, R, w, z, fun c H1 p g j => by
    cases c with
    | false => exact ⟨π, A, ε, P, Z, R.grow g j, w.grow g, p, fun b H' p' g' j' => q b H' p' (g.trans g') j'⟩
    | true => exact q true H1 p g j⟩
theorem tNotD (ha : PT X a (tT X.K F W t)) : PT X (.UnaryOp .Not a pos) (tT X.K F W (wNot t)) :=
  imT (pt_not ha) fun σ H Q ⟨π, A, ε, P, Z, R, w, z, q⟩ => ⟨π, A, ε, _, Z, R, w, z, fun c H1 p g j => q (!c) H1 p g j⟩
/-- and, or of True and False as values -/
def wAndV (f g : WE) : WE := fun ε P Z => f ε (fun d => ∃ c, d = .bl c ∧ if c = true then g ε P Z else P (.bl false)) Z
theorem dOne {op} (ha : PE X a (tE X.K F W f)) : PE X (.BoolOp op [a] pos) (tE X.K F W f) := pe_one ha
theorem dAnd (ha : PE X a (tE X.K F W f)) (hb : PE X (.BoolOp .And (b :: rest) pos) (tE X.K F W g)) : PE X (.BoolOp .And (a :: b :: rest) pos) (tE X.K F W (wAndV f g)) :=
  imE (pe_and ha hb) fun σ H Q ⟨π, A, ε, P, Z, R, w, z, q⟩ => ⟨π, A, ε, _, Z, R, w, z, fun d v H1 p g j b => by
    obtain ⟨c, rfl, p⟩ := p
    cases b
    refine ⟨c, rfl, ?_⟩
    cases c with
    | true => exact ⟨π, A, ε, P, Z, R.grow g j, w.grow g, p, fun d v H' p' g' j' b' => q d v H' p' (g.trans g') j' b'⟩
    | false => exact q _ _ H1 p g j (.bl _)⟩
def wIfE (t : WT) (f g : WE) : WE := fun ε P Z => t ε (fun c => if c = true then f ε P Z else g ε P Z) Z
theorem dIf (hc : PT X c (tT X.K F W t)) (ha : PE X a (tE X.K F W f)) (hb : PE X b (tE X.K F W g)) : PE X (.IfExp c a b pos) (tE X.K F W (wIfE t f g)) :=
  imE (pe_ifExp hc ha hb) fun σ H Q ⟨π, A, ε, P, Z, R, w, z, q⟩ => ⟨π, A, ε, _, Z, R, w, z, fun c H1 p g j => by
    cases c with
    | true => exact ⟨π, A, ε, P, Z, R.grow g j, w.grow g, p, fun d v H' p' g' j' b' => q d v H' p' (g.trans g') j' b'⟩
    | false => exact ⟨π, A, ε, P, Z, R.grow g j, w.grow g, p, fun d v H' p' g' j' b' => q d v H' p' (g.trans g') j' b'⟩⟩
/-- a value that is a truth value, as a test -/
theorem tVal (p : PE X e (tE X.K F W f)) (he : ∀ whole, isTrue e X.env whole = (do let v ← whole; standAt e.pos; holding [v] (truthy v)) := by intro _; rfl) : PT X e (tT X.K F W (wTst f)) :=
  imT (pt_val p he) fun σ H Q ⟨π, A, ε, P, Z, R, w, z, q⟩ => ⟨π, A, ε, _, Z, R, w, z, fun d v H1 p g j b => by
    obtain ⟨c, rfl, p⟩ := p
    cases b
    exact ⟨c, rfl, q c H1 p g j⟩⟩
theorem tCmpV {op : CmpOp} (p : PE X (.Compare a [op] [b] pos) (tE X.K F W f)) (q : PC X op a b (tE X.K F W f)) (h1 : behindInMarks op b = false := by rfl) : PT X (.Compare a [op] [b] pos) (tT X.K F W (wTst f)) :=
  imT (pt_cmp q h1) fun σ H Q ⟨π, A, ε, P, Z, R, w, z, q⟩ => ⟨π, A, ε, _, Z, R, w, z, fun d v H1 p g j b => by
    obtain ⟨c, rfl, p⟩ := p
    cases b
    exact ⟨c, rfl, q c H1 p g j⟩⟩
/-- a op b op' c -/
def w3 (f g h : WE) (k k' : D → D → (D → Prop) → Prop) : WE := fun ε P Z => f ε (fun x => g ε (fun y => k x y (fun d => ∃ c, d = .bl c ∧ if c = true then h ε (fun z => k' y z P) Z else P (.bl false))) Z) Z
theorem d3 {op op' : CmpOp} {r r' : R2} {k k' : D → D → (D → Prop) → Prop} (ho : OpR X (compareOp op) r) (ho' : OpR X (compareOp op') r') (hk : Op2 X.K r k) (hk' : Op2 X.K r' k') (ha : PE X a (tB X.K F W f)) (hb : PE X b (tB X.K F W g)) (hc : PE X c (tB X.K F W h))
    (hm : lastMarks [op, op'] [b, c] = false := by with_unfolding_all rfl) : PE X (.Compare a [op, op'] [b, c] pos) (tE X.K F W (w3 f g h k k')) :=
  imE (pe_chain ho ho' ha hb hc hm) fun σ H Q ⟨π, A, ε, P, Z, R, w, z, q⟩ => ⟨π, A, ε, _, Z, R, w, z, fun x u H1 z1 g1 j1 b1 => ⟨π, A, ε, _, Z, R.grow g1 j1, w.grow g1, z1, fun y v H2 z2 g2 j2 b2 =>
    hk F.m A H2 x y u v _ _ R.am ((R.grow g1 j1).grow g2 j2).th j2 (b1.grow g2 R.am) b2 z2 fun d w' H3 p g3 j3 h3 => by
      obtain ⟨c, rfl, p⟩ := p
      cases h3
      refine ⟨c, rfl, ?_⟩
      cases c with
      | false => exact q _ _ H3 p ((g1.trans g2).trans g3) j3 (.bl _)
      | true => exact ⟨π, A, ε, _, Z, ((R.grow g1 j1).grow g2 j2).grow g3 j3, w.grow ((g1.trans g2).trans g3), p, fun z' v' H4 z4 g4 j4 b4 =>
          hk' F.m A H4 y z' v v' P Q R.am ((((R.grow g1 j1).grow g2 j2).grow g3 j3).grow g4 j4).th j4 ((b2.grow g3 R.am).grow g4 R.am) b4 z4 fun d w' H5 p g5 j5 h5 => q d w' H5 p ((((g1.trans g2).trans g3).trans g4).trans g5) j5 h5⟩⟩⟩
theorem d3T {op op' : CmpOp} {r r' : R2} {k k' : D → D → (D → Prop) → Prop} (ho : OpR X (compareOp op) r) (ho' : OpR X (compareOp op') r') (hk : Op2 X.K r k) (hk' : Op2 X.K r' k') (ha : PE X a (tB X.K F W f)) (hb : PE X b (tB X.K F W g)) (hc : PE X c (tB X.K F W h))
    (hm : lastMarks [op, op'] [b, c] = false := by with_unfolding_all rfl) : PT X (.Compare a [op, op'] [b, c] pos) (tT X.K F W (wTst (w3 f g h k k'))) :=
  imT (pt_chain ho ho' ha hb hc hm) fun σ H Q ⟨π, A, ε, P, Z, R, w, z, q⟩ => ⟨π, A, ε, _, Z, R, w, z, fun x u H1 z1 g1 j1 b1 => ⟨π, A, ε, _, Z, R.grow g1 j1, w.grow g1, z1, fun y v H2 z2 g2 j2 b2 =>
    hk F.m A H2 x y u v _ _ R.am ((R.grow g1 j1).grow g2 j2).th j2 (b1.grow g2 R.am) b2 z2 fun d w' H3 p g3 j3 h3 => by
      obtain ⟨c, rfl, p⟩ := p
      cases h3
      refine ⟨c, rfl, ?_⟩
      cases c with
      | false =>
        obtain ⟨c', e, p⟩ := p
        cases e
        exact ⟨false, rfl, q _ H3 p ((g1.trans g2).trans g3) j3⟩
      | true => exact ⟨π, A, ε, _, Z, ((R.grow g1 j1).grow g2 j2).grow g3 j3, w.grow ((g1.trans g2).trans g3), p, fun z' v' H4 z4 g4 j4 b4 =>
          hk' F.m A H4 y z' v v' _ _ R.am ((((R.grow g1 j1).grow g2 j2).grow g3 j3).grow g4 j4).th j4 ((b2.grow g3 R.am).grow g4 R.am) b4 z4 fun d w' H5 p g5 j5 h5 => by
            obtain ⟨c', rfl, p⟩ := p
            cases h5
            exact ⟨c', rfl, q _ H5 p ((((g1.trans g2).trans g3).trans g4).trans g5) j5⟩⟩⟩⟩
/-- in, not in a list of data -/
def kIn (neg : Bool) : D → D → (D → Prop) → Prop := fun x y P => match y with
  | .lst ys => SeqAt.shaped x.pd = true ∧ SeqAt.shaped (PyData.list (pds ys)) = true ∧ P (.bl (if neg then !((pds ys).any fun z => PyData.eqv z x.pd) else (pds ys).any fun z => PyData.eqv z x.pd))
  | .fro ys => SeqAt.shaped x.pd = true ∧ SeqAt.shaped (PyData.list (pds ys)) = true ∧ P (.bl (if neg then !((pds ys).any fun z => PyData.eqv z x.pd) else (pds ys).any fun z => PyData.eqv z x.pd))
  | _ => False
theorem k2In {K : PySem.W.Frag} : Op2 K (rInD K) (kIn false) := fun m A H x y u v P Q am al j bx b2 k q => by
  cases y <;> try exact k.elim
  all_goals
    obtain ⟨k1, k2, k3⟩ := k
    exact ⟨_, _, bx.dp (SeqAt.canLay_of_shaped k1), b2.dp (SeqAt.canLay_of_shaped k2), k1, k2, q _ _ H k3 (.refl _ _) j (.bl _)⟩
theorem k2NotIn {K : PySem.W.Frag} : Op2 K (rNotInD K) (kIn true) := fun m A H x y u v P Q am al j bx b2 k q => by
  cases y <;> try exact k.elim
  all_goals
    obtain ⟨k1, k2, k3⟩ := k
    exact ⟨_, _, bx.dp (SeqAt.canLay_of_shaped k1), b2.dp (SeqAt.canLay_of_shaped k2), k1, k2, q _ _ H k3 (.refl _ _) j (.bl _)⟩
theorem dIn (hu : X.A.units + 65 < cLine) (ha : PE X a (tB X.K F W f)) (hb : PE X b (tB X.K F W g)) (hm : behindInMarks .In b = false := by rfl) : PE X (.Compare a [.In] [b] pos) (tE X.K F W (w2 f g (kIn false))) := d2 (fun p q => pe_cmpR (op_inD hu) p q hm) k2In ha hb
theorem dNotIn (hu : X.A.units + 65 < cLine) (ha : PE X a (tB X.K F W f)) (hb : PE X b (tB X.K F W g)) (hm : behindInMarks .NotIn b = false := by rfl) : PE X (.Compare a [.NotIn] [b] pos) (tE X.K F W (w2 f g (kIn true))) := d2 (fun p q => pe_cmpR (op_notInD hu) p q hm) k2NotIn ha hb
theorem tIn (hu : X.A.units + 65 < cLine) (ha : PE X a (tB X.K F W f)) (hb : PE X b (tB X.K F W g)) (hm : behindInMarks .In b = false := by rfl) : PT X (.Compare a [.In] [b] pos) (tT X.K F W (wTst (w2 f g (kIn false)))) := d2T (fun p q => pt_cmpR (op_inD hu) p q hm) k2In ha hb
theorem tNotIn (hu : X.A.units + 65 < cLine) (ha : PE X a (tB X.K F W f)) (hb : PE X b (tB X.K F W g)) (hm : behindInMarks .NotIn b = false := by rfl) : PT X (.Compare a [.NotIn] [b] pos) (tT X.K F W (wTst (w2 f g (kIn true)))) := d2T (fun p q => pt_cmpR (op_notInD hu) p q hm) k2NotIn ha hb
/-- one sign in a text -/
def kSign : D → D → (D → Prop) → Prop
  | .str x, .str y, P => ∃ c, x = ⟨#[c]⟩ ∧ P (.bl (decide (c ∈ y.cps.toList)))
  | _, _, _ => False
theorem k2Sign {K : PySem.W.Frag} : Op2 K (fun x y H Q => ∃ (c : Nat) (z : Str), x = .str ⟨#[c]⟩ ∧ y = .str z ∧ Q (.bl (decide (c ∈ z.cps.toList))) H) kSign := fun m A H x y u v P Q am al j bx b2 k q => by
  cases x <;> try exact k.elim
  cases y <;> try exact k.elim
  obtain ⟨c, rfl, k⟩ := k
  exact ⟨c, _, bStr bx, bStr b2, q _ _ H k (.refl _ _) j (.bl _)⟩
theorem dSign (ha : PE X a (tB X.K F W f)) (hb : PE X b (tB X.K F W g)) (hm : behindInMarks .In b = false := by rfl) : PE X (.Compare a [.In] [b] pos) (tE X.K F W (w2 f g kSign)) := d2 (fun p q => pe_cmpR op_in_sign p q hm) k2Sign ha hb
end
end DW

namespace DW
open L2 PyProof.Rows PySem.Spec PySem
/-! ### statements -/
section
variable {X : Cx} {F : Fx} {W : WX} {e a b c : Expr} {st : Stmt} {sts els : List Stmt} {f g h : WE} {t u : WT} {G G' : WS} {pos : Pos}
def sNil : WS := fun ε N => N.nx ε
def sSeq (G G' : WS) : WS := fun ε N => G ε { N with nx := fun ε' => G' ε' N }
theorem ssNil : PSs X [] (tS X.K F W sNil) := imSs pss_nil fun D σ H ⟨π, A, ε, N, R, z, h1, _⟩ => h1 A ε σ H z R
theorem ssCons (p : PS X st (tS X.K F W G)) (q : PSs X sts (tS X.K F W G')) : PSs X (st :: sts) (tS X.K F W (sSeq G G')) :=
  imSs (pss_cons p q) fun D σ H ⟨π, A, ε, N, R, z, h1, h2, h3, h4, h5⟩ =>
    ⟨π, A, ε, { N with nx := fun ε' => G' ε' N }, R, z, fun A' ε' σ' H' n r => ⟨π, A', ε', N, r, n, h1, h2, h3, h4, h5⟩, h2, h3, h4, h5⟩
theorem ssOne (p : PS X st (tS X.K F W G)) : PSs X [st] (tS X.K F W G) := pss_one p
/-- an own object of a slot is from here on a datum -/
def sFrz (i : Nat) (G : WS) : WS := fun ε N => ∃ o, ε[i]? = some (some (.own o)) ∧ G (ε.set i (some (.dat o.toD))) N
theorem ssFrz (i : Nat) (p : PSs X sts (tS X.K F W G)) : PSs X sts (tS X.K F W (sFrz i G)) :=
  imSs p fun D σ H ⟨π, A, ε, N, R, ⟨o, ho, z⟩, h1, h2, h3, h4, h5⟩ => by
    obtain ⟨A', R'⟩ := R.frz ho
    exact ⟨π, A', _, N, R', z, h1, h2, h3, h4, h5⟩
theorem xw_of {K : PySem.W.Frag} {π : List D × List V} {A : Addr → Prop} {σ : L2.St} {H : Hp} {ε : Ev} {N : En} (R : Rel K F π A σ H ε) (h5 : ∀ x A' ε' σ' H' cls dd, N.ex x ε' → Rel K F π A' σ' H' ε' → ExAt K A' H' x cls dd → W cls dd σ' H') :
    XW K F W A σ H (fun x => N.ex x ε) := fun x cls dd H' z g j e => h5 x A ε σ H' cls dd z (R.grow g j) e
def sExp (f : WE) : WS := fun ε N => f ε (fun _ => N.nx ε) (fun x => N.ex x ε)
theorem psExp (he : PE X e (tE X.K F W f)) (hs : swapsWith e none pos.line X.env = pure false := by rfl) : PS X (.Expr e pos) (tS X.K F W (sExp f)) :=
  imS (ps_expr he hs) fun D σ H ⟨π, A, ε, N, R, z, h1, h2, h3, h4, h5⟩ => ⟨π, A, ε, _, _, R, xw_of R h5, z, fun d v H' p g j b => h1 A ε σ H' p (R.grow g j)⟩
def sRet (f : WE) : WS := fun ε N => f ε N.rt (fun x => N.ex x ε)
theorem psRet (he : PE X e (tE X.K F W f)) : PS X (.Return (some e) pos) (tS X.K F W (sRet f)) :=
  imS (ps_ret he) fun D σ H ⟨π, A, ε, N, R, z, h1, h2, h3, h4, h5⟩ => ⟨π, A, ε, _, _, R, xw_of R h5, z, fun d v H' p g j b => h2 d v H' p (R.gr.trans g) j (b.keep (.sub R.aa))⟩
def sIf (t : WT) (G G' : WS) : WS := fun ε N => t ε (fun c => if c = true then G ε N else G' ε N) (fun x => N.ex x ε)
theorem psIf (hc : PT X c (tT X.K F W t)) (ha : PSs X sts (tS X.K F W G)) (hb : PSs X els (tS X.K F W G')) : PS X (.If c sts els pos) (tS X.K F W (sIf t G G')) :=
  imS (ps_if hc ha hb) fun D σ H ⟨π, A, ε, N, R, z, h1, h2, h3, h4, h5⟩ => ⟨π, A, ε, _, _, R, xw_of R h5, z, fun c H' p g j => by
    cases c with
    | true => exact ⟨π, A, ε, N, R.grow g j, p, h1, h2, h3, h4, h5⟩
    | false => exact ⟨π, A, ε, N, R.grow g j, p, h1, h2, h3, h4, h5⟩⟩
/-! ### targets -/
abbrev WG := D → Ev → (Ev → Prop) → Prop
def tG (K : PySem.W.Frag) (F : Fx) (vs : List Nat) (g : WG) : TG := fun v σ H Q => ∃ π A ε d P, Rel K F π A σ H ε ∧ Dat K A H d v ∧ g d ε P ∧
  ∀ ε' σ', P ε' → Rel K F π A σ' H ε' → σ'.length = σ.length → (∀ j, j ∉ vs → σ'[j]? = σ[j]?) → Q σ' H
theorem imG {tg : Expr} {q q' : TG} (p : PG X tg q) (h : ∀ v σ H Q, q' v σ H Q → q v σ H Q) : PG X tg q' := ⟨fun pins s σ H v u Q I r z => p.run pins s σ H v u Q I r (h v σ H Q z)⟩
def gNm (i : Nat) : WG := fun d ε P => P (ε.set i (some (.dat d)))
theorem tgName {i : Nat} {tg : Expr} (p : PG X tg (gName i)) : PG X tg (tG X.K F [i] (gNm i)) := imG p fun v σ H Q ⟨π, A, ε, d, P, R, b, z, q⟩ =>
  q _ _ z (R.set b) (by rw [List.length_set]) fun j hj => by rw [List.getElem?_set_ne (fun q => hj (by simp [q]))]
/-- several names -/
def hTs : List Nat → TGs
  | [] => gNil
  | i :: is => gCons (gName i) (hTs is)
def sets (ε : Ev) : List Nat → List D → Ev
  | i :: is, d :: ds => sets (ε.set i (some (.dat d))) is ds
  | _, _ => ε
theorem hTs_run {K : PySem.W.Frag} {π : List D × List V} {A : Addr → Prop} {H : Hp} {Q : L2.St → Hp → Prop} : ∀ {is : List Nat} {ds : List D} {vs : List V} {σ : L2.St} {ε : Ev}, Rel K F π A σ H ε → Dats K A H ds vs → is.length = ds.length →
    (∀ σ', Rel K F π A σ' H (sets ε is ds) → σ'.length = σ.length → (∀ j, j ∉ is → σ'[j]? = σ[j]?) → Q σ' H) → hTs is vs σ H Q
  | [], [], _, σ, ε, R, .nil, _, q => ⟨rfl, q σ R rfl fun _ _ => rfl⟩
  | i :: is, d :: ds, v :: vs, σ, ε, R, .cons h t, hl, q => by
    refine ⟨v, vs, rfl, hTs_run (R.set h) t (by simpa using hl) fun σ' R' l' n' => q σ' R' (by rw [l', List.length_set]) fun j hj => ?_⟩
    rw [List.mem_cons, not_or] at hj
    rw [n' j hj.2, List.getElem?_set_ne (fun q => hj.1 q.symm)]
  | [], _ :: _, _, _, _, _, _, hl, _ => by cases hl
  | _ :: _, [], _, _, _, _, _, hl, _ => by cases hl
def gTps (is : List Nat) : WG := fun d ε P => ∃ ds, d = .tup ds ∧ is.length = ds.length ∧ P (sets ε is ds)
theorem tgTup {tg : Expr} (is : List Nat) (p : PG X tg (gTup X.K is.length (hTs is))) : PG X tg (tG X.K F is (gTps is)) := imG p fun v σ H Q ⟨π, A, ε, d, P, R, b, ⟨ds, e, hl, z⟩, q⟩ => by
  subst e
  cases b with
  | tup h hs => exact ⟨_, _, rfl, h.sq, by rw [← hs.length]; exact hl.symm, hTs_run R hs hl fun σ' R' l' n' => q _ _ z R' l' n'⟩
/-- target = value -/
def sAsg (f : WE) (g : WG) : WS := fun ε N => f ε (fun d => g d ε N.nx) (fun x => N.ex x ε)
/-- name = value -/
theorem psSet {i : Nat} {x : Str} {p2 : Pos} (hN : X.N.Nodup) (hi : X.N[i]? = some x) (hx : Loc X.env.scope x) (he : PE X e (tE X.K F W f)) (hs : swapsWith e (some (.Name x p2)) pos.line X.env = pure false := by rfl) (hf : X.fn x = true ∨ X.env.scope.names.lookup x = some .local := by first | exact .inl rfl | exact .inr rfl | assumption) :
    PS X (.Assign [.Name x p2] e pos) (tS X.K F W (sAsg f (gNm i))) :=
  imS (ps_set hN hi hx he hs hf) fun D σ H ⟨π, A, ε, N, R, z, h1, h2, h3, h4, h5⟩ => ⟨π, A, ε, _, _, R, xw_of R h5, z, fun d v H' p g j b => h1 A _ _ H' p ((R.grow g j).set b)⟩
/-! ### what is walked -/
def Wk (K : PySem.W.Frag) (J : It) (ds : List D) (vs : List V) (xs : List D) : Prop :=
  (∀ (A : Addr → Prop) (H : Hp) (i : Nat), (∀ b, A b → Th (H b)) → Dats K A H ds vs → i < xs.length → J.go i H ∧ ∀ x H', J.yld i H x H' → (∀ b o, H b = some o → H' b = some o) ∧ ∀ d, xs[i]? = some d → Dat K A H' d x) ∧
  ∀ (A : Addr → Prop) (H : Hp), Dats K A H ds vs → J.stop xs.length H
abbrev WI := Ev → (List D → Prop) → (Ex → Prop) → Prop
def tI (K : PySem.W.Frag) (F : Fx) (W : WX) (f : WI) : TI := fun σ H R => ∃ π A ε P X, Rel K F π A σ H ε ∧ XW K F W A σ H X ∧ f ε P X ∧
  ∀ xs J H' ds vs, P xs → Grow F.m H H' → F.m.J H' → Dats K A H' ds vs → Wk K J ds vs xs → R J H'
theorem imI {tg it : Expr} {t t' : TI} (p : PI X tg it t) (h : ∀ σ H R, t' σ H R → t σ H R) : PI X tg it t' := ⟨fun pins s σ H R I z => p.run pins s σ H R I (h σ H R z)⟩
def iL (f : WE) : WI := fun ε P Z => f ε (fun d => ∃ xs, (d = .lst xs ∨ d = .fro xs) ∧ P xs) Z
theorem wk_list {K : PySem.W.Frag} {a : Addr} {d : D} {xs : List D} (hd : d = .lst xs ∨ d = .fro xs) : Wk K (Itl K a) [d] [.ref a] xs := by
  have key : ∀ (A : Addr → Prop) (H : Hp), Dats K A H [d] [.ref a] → ∃ vs, SqL K H a vs ∧ Dats K A H xs vs := fun A H h => by
    cases h with
    | cons h t =>
      rcases hd with rfl | rfl
      · cases h with
        | lst na e hs => exact ⟨_, .of e, hs⟩
      · cases h with
        | fro e hs => exact ⟨_, e.sq, hs⟩
  refine ⟨fun A H i al h hi => ?_, fun A H h => ?_⟩
  · obtain ⟨vs, hq, hs⟩ := key A H h
    have hl : i < vs.length := by rw [← hs.length]; exact hi
    refine ⟨⟨vs, vs[i], hq, by simp [hl]⟩, fun x H' y => ?_⟩
    obtain ⟨e, y⟩ := y
    subst e
    refine ⟨fun _ _ h => h, fun d e => ?_⟩
    obtain ⟨v, h1, h2⟩ := hs.at e
    have := y vs hq
    rw [h1] at this; cases this
    exact h2
  · obtain ⟨vs, hq, hs⟩ := key A H h
    exact ⟨vs, hq, by rw [hs.length]; exact Nat.le_refl _⟩
theorem dIterL {tg it : Expr} (p : PE X it (tE X.K F W f)) : PI X tg it (tI X.K F W (iL f)) := imI (pi_list p) fun σ H R ⟨π, A, ε, P, Z, rel, w, z, q⟩ => ⟨π, A, ε, _, Z, rel, w, z, fun d v H' p g j b => by
  obtain ⟨xs, hd, p⟩ := p
  rcases hd with rfl | rfl
  · cases b with
    | lst na e hs => exact ⟨_, rfl, ⟨_, .of e⟩, q xs _ H' _ _ p g j (.one (.lst na e hs)) (wk_list (.inl rfl))⟩
  · cases b with
    | fro e hs => exact ⟨_, rfl, ⟨_, e.sq⟩, q xs _ H' _ _ p g j (.one (.fro e hs)) (wk_list (.inr rfl))⟩⟩
/-- a text, sign by sign -/
def signs (x : Str) : List D := x.cps.toList.map fun c => .str ⟨#[c]⟩
def iS (f : WE) : WI := fun ε P Z => f ε (fun d => ∃ x, d = .str x ∧ P (signs x)) Z
theorem dIterS {tg it : Expr} (p : PE X it (tE X.K F W f)) : PI X tg it (tI X.K F W (iS f)) := imI (pi_str p) fun σ H R ⟨π, A, ε, P, Z, rel, w, z, q⟩ => ⟨π, A, ε, _, Z, rel, w, z, fun d v H' p g j b => by
  obtain ⟨x, rfl, p⟩ := p
  cases b
  refine ⟨x, rfl, q _ _ H' [] [] p g j .nil ⟨fun A H i al h hi => ?_, fun A H h => ?_⟩⟩
  · have hi' : i < x.cps.size := by simpa [signs] using hi
    refine ⟨hi', fun v H2 y => ?_⟩
    obtain ⟨e, c, hc, hv⟩ := y
    subst e
    refine ⟨fun _ _ h => h, fun d e => ?_⟩
    have : d = .str ⟨#[c]⟩ := by
      rw [signs, List.getElem?_map, Array.getElem?_toList, hc] at e
      exact (Option.some.inj e).symm
    subst this
    rw [hv]
    exact .str _
  · show x.cps.size ≤ (signs x).length
    simp [signs]⟩
/-- range(n), range(a, b) -/
def rngD (lo : Int) (n : Nat) : List D := (List.range n).map fun (i : Nat) => D.int (lo + (i : Int))
theorem wk_range {K : PySem.W.Frag} {lo : Int} {n : Nat} : Wk K (Itr lo n) [] [] (rngD lo n) := by
  refine ⟨fun A H i al h hi => ?_, fun A H h => ?_⟩
  · have hi' : i < n := by simpa [rngD] using hi
    refine ⟨hi', fun x H' y => ?_⟩
    obtain ⟨e, hv⟩ := y
    subst e
    refine ⟨fun _ _ h => h, fun d e => ?_⟩
    have : d = .int (lo + i) := by
      rw [rngD, List.getElem?_map, List.getElem?_range hi'] at e
      exact (Option.some.inj e).symm
    subst this
    rw [hv]
    exact .int _
  · show n ≤ (rngD lo n).length
    simp [rngD]
/-- arguments -/
def aNil : WA := fun _ P _ => P []
def aCons (f : WE) (r : WA) : WA := fun ε P Z => f ε (fun d => r ε (fun ds => P (d :: ds)) Z) Z
theorem daNil : PA X [] (tA X.K F W aNil) := imA pa_nil fun σ H Q ⟨π, A, ε, P, Z, rel, w, z, q⟩ => q [] [] H z (.refl _ _) rel.j .nil
theorem daCons {es : List Expr} {r : WA} (ha : PE X e (tE X.K F W f)) (hr : PA X es (tA X.K F W r)) (hs : starEach (e :: es) X.env = (false, eval e X.env) :: starEach es X.env := by rfl) : PA X (e :: es) (tA X.K F W (aCons f r)) :=
  imA (pa_cons ha hr hs) fun σ H Q ⟨π, A, ε, P, Z, rel, w, z, q⟩ => ⟨π, A, ε, _, Z, rel, w, z, fun d v H1 p g j b =>
    ⟨π, A, ε, _, Z, rel.grow g j, w.grow g, p, fun ds vs H2 p' g' j' b' => q _ _ H2 p' (g.trans g') j' (.cons (b.mono g' rel.am fun _ z => z) b')⟩⟩
def iR1 (r : WA) : WI := fun ε P Z => r ε (fun ds => ∃ n, ds = [.int n] ∧ -(2 ^ 62) ≤ n ∧ n < 2 ^ 62 ∧ P (rngD 0 n.toNat)) Z
theorem dIterR1 {tg a : Expr} {r : WA} {p pos : Pos} (hg : Gl X "range") (hm : X.mg "range" = none) (ha : PA X [a] (tA X.K F W r)) (hs : starEach [a] X.env = [(false, eval a X.env)] := by rfl) : PI X tg (.Call (.Name "range" p) [a] [] pos) (tI X.K F W (iR1 r)) :=
  imI (pi_range1 hg hm ha hs) fun σ H R ⟨π, A, ε, P, Z, rel, w, z, q⟩ => ⟨π, A, ε, _, Z, rel, w, z, fun ds vs H' p g j b => by
    obtain ⟨n, rfl, h1, h2, p⟩ := p
    cases b with
    | cons b t =>
      cases b; cases t
      exact ⟨n, rfl, h1, h2, q _ _ H' [] [] p g j .nil wk_range⟩⟩
/-! ### for -/
def forW (g : WG) (B : WS) : List D → Ev → En → Prop
  | [], ε, N => N.nx ε
  | x :: xs, ε, N => g x ε (fun ε' => B ε' { N with nx := fun ε2 => forW g B xs ε2 N, ct := fun ε2 => forW g B xs ε2 N, bk := N.nx })
def sFor (it : WI) (g : WG) (B : WS) : WS := fun ε N => it ε (fun xs => forW g B xs ε N) (fun x => N.ex x ε)
theorem psFor {tg it : Expr} {body : List Stmt} {wi : WI} {vs : List Nat} {gg : WG} {B : WS} (hp : PassesOwn (model X.prog X.w) X.A X.env X.xe) (hc : X.calm = true) (hi : PI X tg it (tI X.K F W wi)) (hg : PG X tg (tG X.K F vs gg)) (hb : PSs X body (tS X.K F W B))
    (hs : ∀ x, foldedSetIterable it X.env x = pure x := by intro _; rfl) : PS X (.For tg it body [] pos) (tS X.K F W (sFor wi gg B)) :=
  imS (ps_for hp hc hi hg hb hs) fun D σ H ⟨π, A, ε, N, R, z, h1, h2, h3, h4, h5⟩ => ⟨π, A, ε, _, _, R, xw_of R h5, z, fun xs J H1 ds ws p g j b wk => by
    have hl := b.length
    refine ⟨fun i m σ H => m = xs.length - i ∧ i ≤ xs.length ∧ ∃ A ε, Rel X.K F (ds ++ π.1, ws ++ π.2) A σ H ε ∧ forW gg B (xs.drop i) ε N, ⟨_, rfl, Nat.zero_le _, A, ε, (R.grow g j).pinned b, p⟩, ?_⟩
    rintro i m σ2 H2 ⟨rfl, hi, A2, ε2, R2, z2⟩
    by_cases hlt : i < xs.length
    · obtain ⟨go, yl⟩ := wk.1 A2 H2 i R2.tt (R2.unpin hl).2 hlt
      refine .inr ⟨go, fun σ' H' => ∃ A ε, Rel X.K F (ds ++ π.1, ws ++ π.2) A σ' H' ε ∧ forW gg B (xs.drop (i + 1)) ε N, fun σ' H' q => ⟨xs.length - (i + 1), by omega, rfl, hlt, q⟩, fun x H' y => ?_⟩
      obtain ⟨k1, k2⟩ := yl x H' y
      have gr : Grow F.m H2 H' := fun b o h _ => k1 b o h
      have jj : F.m.J H' := F.m.st H2 H' (fun b z => by
        cases e : H2 b with
        | none => exact absurd e (F.m.al H2 b R2.j z)
        | some o => rw [k1 b o e]) (fun b φ e => k1 b _ e) R2.j
      have R3 := R2.grow gr jj
      have hx : xs[i]? = some xs[i] := by simp [hlt]
      have dx := k2 _ hx
      rw [List.drop_eq_getElem_cons hlt] at z2
      refine ⟨_, A2, ε2, xs[i], _, R3, dx, z2, fun ε' σ' q r _ _ => ?_⟩
      exact ⟨_, A2, ε', _, r, q, fun A' ε' σ' H' n r => ⟨A', ε', r, n⟩, h2, fun A' ε' σ' H' n r => h1 A' ε' σ' H' n (r.unpin hl).1, fun A' ε' σ' H' n r => ⟨A', ε', r, n⟩, fun x A' ε' σ' H' cls dd n r e => h5 x A' ε' σ' H' cls dd n (r.unpin hl).1 e⟩
    · obtain e : i = xs.length := by omega
      subst e
      rw [List.drop_of_length_le (Nat.le_refl _)] at z2
      exact .inl ⟨wk.2 A2 H2 (R2.unpin hl).2, h1 A2 ε2 σ2 H2 z2 (R2.unpin hl).1⟩⟩
/-! ### while, by what holds of it and a measure -/
def sWhl (t : WT) (B : WS) : WS := fun ε N => ∃ I : Nat → Ev → Prop, (∃ m, I m ε) ∧ ∀ m ε, I m ε → t ε (fun c => if c = true then B ε { N with nx := fun ε' => ∃ m', m' < m ∧ I m' ε', ct := fun ε' => ∃ m', m' < m ∧ I m' ε', bk := N.nx } else N.nx ε) (fun x => N.ex x ε)
theorem psWhl {body : List Stmt} {B : WS} (hp : PassesOwn (model X.prog X.w) X.A X.env X.xe) (hc : PT X c (tT X.K F W t)) (hb : PSs X body (tS X.K F W B)) : PS X (.While c body [] pos) (tS X.K F W (sWhl t B)) :=
  imS (ps_while hp hc hb) fun D σ H ⟨π, A, ε, N, R, ⟨I, ⟨m0, i0⟩, turn⟩, h1, h2, h3, h4, h5⟩ => by
    refine ⟨fun m σ H => ∃ A ε, Rel X.K F π A σ H ε ∧ I m ε, ⟨m0, A, ε, R, i0⟩, ?_⟩
    rintro m σ2 H2 ⟨A2, ε2, R2, i2⟩
    refine ⟨π, A2, ε2, _, _, R2, xw_of R2 h5, turn m ε2 i2, fun c H' p g j => ?_⟩
    cases c with
    | true =>
      refine ⟨fun σ' H' => ∃ m', m' < m ∧ ∃ A ε, Rel X.K F π A σ' H' ε ∧ I m' ε, fun σ' H' q => q, ?_⟩
      exact ⟨π, A2, ε2, _, R2.grow g j, p, fun A' ε' σ' H' ⟨m', hm, n⟩ r => ⟨m', hm, A', ε', r, n⟩, h2, h1, fun A' ε' σ' H' ⟨m', hm, n⟩ r => ⟨m', hm, A', ε', r, n⟩, h5⟩
    | false => exact h1 A2 ε2 σ2 H' p (R2.grow g j)
end
end DW

namespace DW
open L2 PyProof.Rows PySem.Spec PySem
/-! ### objects of one's own -/
section
variable {K : PySem.W.Frag} {F : Fx} {π : List D × List V} {A A' : Addr → Prop} {σ : L2.St} {H H' : Hp} {ε : Ev}
theorem fresh_back {m : Md} {p : Addr} (g : Grow m H H') (j : m.J H') (h : H' p = none) : H p = none := by
  cases e : H p with
  | none => rfl
  | some o =>
    by_cases q : m.M p
    · exact absurd h (m.al H' p j q)
    · rw [g p o e q] at h; cases h
theorem Keeps.newG {m : Md} {p : Addr} (g : Grow m H H') (am : ∀ b, m.M b → A b) (hp : H p = none) : Keeps A H H' (fun b => A b ∨ b = p) := fun b u h n =>
  ⟨g b u h fun z => n (am b z), fun z => z.elim n (ne_of_none h hp)⟩
/-- a new own object at a slot, from an earlier heap -/
theorem Rel.newG (R : Rel K F π A σ H ε) {i : Nat} {p : Addr} {o : Ow} (g : Grow F.m H H') (j : F.m.J H') (hp : H p = none) (h' : OwnAt K (fun b => A b ∨ b = p) H' p o) :
    Rel K F π (fun b => A b ∨ b = p) (σ.set i (some (.ref p))) H' (ε.set i (some (.own o))) where
  pin := R.pin.keep (.newG g R.am hp)
  gr := R.gr.trans g
  j := j
  aa := fun b z => .inl (R.aa b z)
  tt := fun b z => by
    rcases z with z | z
    · exact (R.grow g j).tt b z
    · rw [z]; exact h'.tth
  len := by rw [List.length_set, List.length_set]; exact R.len
  dat := fun k e h1 => by
    by_cases q : i = k
    · subst q
      by_cases z : i < ε.length
      · rw [List.getElem?_set_self z] at h1; cases h1
      · rw [List.getElem?_eq_none (by rw [List.length_set]; omega)] at h1; cases h1
    · rw [List.getElem?_set_ne q] at h1
      obtain ⟨w, e1, e2⟩ := R.dat k e h1
      exact ⟨w, by rw [List.getElem?_set_ne q]; exact e1, e2.keep (.newG g R.am hp)⟩
  own := fun k o' h1 => by
    by_cases q : i = k
    · subst q
      by_cases z : i < ε.length
      · rw [List.getElem?_set_self z] at h1; cases h1
        exact ⟨p, List.getElem?_set_self (by rw [← R.len]; exact z), .inr rfl, (R.fresh hp).1, h'⟩
      · rw [List.getElem?_eq_none (by rw [List.length_set]; omega)] at h1; cases h1
    · rw [List.getElem?_set_ne q] at h1
      obtain ⟨r, e1, e2, e3, e4⟩ := R.own k o' h1
      refine ⟨r, by rw [List.getElem?_set_ne q]; exact e1, .inl e2, e3, e4.keep (.newG g R.am hp) ?_⟩
      cases e : H r with
      | none => exact absurd e (R.th r e2)
      | some u => exact g r u e (F.nm e3)
  inj := fun k l o1 o2 w h1 h2 h3 h4 => by
    have np := (R.fresh hp).2
    by_cases q : i = k
    · subst q
      by_cases q' : i = l
      · exact q'
      · by_cases z : i < ε.length
        · rw [List.getElem?_set_self (by rw [← R.len]; exact z)] at h3
          rw [List.getElem?_set_ne q'] at h2 h4
          obtain ⟨r, e1, e2, _⟩ := R.own l o2 h2
          rw [e1] at h4; cases h4; cases h3
          exact absurd e2 np
        · rw [List.getElem?_eq_none (by rw [List.length_set]; omega)] at h1; cases h1
    · by_cases q' : i = l
      · subst q'
        by_cases z : i < ε.length
        · rw [List.getElem?_set_self (by rw [← R.len]; exact z)] at h4
          rw [List.getElem?_set_ne q] at h1 h3
          obtain ⟨r, e1, e2, _⟩ := R.own k o1 h1
          rw [e1] at h3; cases h3; cases h4
          exact absurd e2 np
        · rw [List.getElem?_eq_none (by rw [List.length_set]; omega)] at h2; cases h2
      · rw [List.getElem?_set_ne q] at h1 h3
        rw [List.getElem?_set_ne q'] at h2 h4
        exact R.inj k l o1 o2 w h1 h2 h3 h4
  ll := fun k r qs xss e => by
    rcases set_at e with ⟨_, z⟩ | ⟨ne, e⟩
    · cases z
    obtain ⟨h1, h2, h3, h4⟩ := R.ll k r qs xss e
    have np : ∀ b, b ∈ r :: qs → b ≠ p := fun b hb z => (R.fresh hp).2 (z ▸ (h2.hA b hb).1)
    refine ⟨by rw [List.getElem?_set_ne ne]; exact h1, h2.keep (.newG g R.am hp) (fun b hb => ?_) fun b hb => .inl (h2.hA b hb).1, fun l o q e1 e2 => ?_, fun l p' qs' xss' e1 => ?_⟩
    · obtain ⟨vs, eb⟩ := h2.there hb
      rw [eb]; exact g b _ eb (F.nm (h2.hA b hb).2)
    · rcases set_at e1 with ⟨z, _⟩ | ⟨ne2, e1⟩
      · subst z
        have il : i < σ.length := by
          by_cases z : i < ε.length
          · rw [← R.len]; exact z
          · rw [List.getElem?_eq_none (by rw [List.length_set, ← R.len]; omega)] at e2; cases e2
        rw [List.getElem?_set_self il] at e2
        cases e2
        exact fun hb => np _ hb rfl
      rw [List.getElem?_set_ne ne2] at e2
      exact h3 l o q e1 e2
    · rcases set_at e1 with ⟨_, z⟩ | ⟨ne2, e1⟩
      · cases z
      exact h4 l p' qs' xss' e1
/-- outside of the slots something new stands at p, and what stands there may be written -/
theorem Rel.wide (R : Rel K F π A σ H ε) {p : Addr} {u : HO} (hp : H p = none) (hu : Th (some u) := by trivial) : Rel K F π (fun b => A b ∨ b = p) σ (upd H p u) ε where
  pin := R.pin.keep (.new hp)
  gr := fun b o e n => by rw [upd_ne (ne_of_none (R.gr b o e n) hp)]; exact R.gr b o e n
  j := R.fresh_j hp
  aa := fun b z => .inl (R.aa b z)
  tt := fun b z => by
    by_cases q : b = p
    · rw [q, upd_same]; exact hu
    · rw [upd_ne q]; exact R.tt b (z.resolve_right q)
  len := R.len
  dat := fun k e h1 => let ⟨w, e1, e2⟩ := R.dat k e h1; ⟨w, e1, e2.keep (.new hp)⟩
  own := fun k o h1 => by
    obtain ⟨r, e1, e2, e3, e4⟩ := R.own k o h1
    exact ⟨r, e1, .inl e2, e3, e4.keep (.new hp) (upd_ne fun z => (R.fresh hp).2 (z ▸ e2))⟩
  inj := R.inj
  ll := fun k r qs xss e => by
    obtain ⟨h1, h2, h3, h4⟩ := R.ll k r qs xss e
    exact ⟨h1, h2.keep (.new hp) (fun b hb => upd_ne fun z => (R.fresh hp).2 (z ▸ (h2.hA b hb).1)) fun b hb => .inl (h2.hA b hb).1, h3, h4⟩
theorem Rel.touch (R : Rel K F π A σ H ε) {p : Addr} {u : HO} (hp : A p) (h0 : F.H0 p = none) (hx : ∀ φ, H p ≠ some (.ext φ)) (hn : ∀ (i : Nat) (o : Ow), ε[i]? = some (some (.own o)) → σ[i]? ≠ some (some (.ref p))) (hnl : ∀ (i : Nat) (r : Addr) (qs : List Addr) (xss : List (List D)), ε[i]? = some (some (.ll r qs xss)) → p ∉ r :: qs) (hu : Th (some u) := by trivial) : Rel K F π A σ (upd H p u) ε where
  pin := R.pin.keep (.put hp)
  gr := fun b o e n => by rw [upd_ne (ne_of_none e h0)]; exact R.gr b o e n
  j := F.m.st H _ (fun b z => upd_ne fun q => F.nm h0 (q ▸ z)) (fun b φ e => (upd_ne fun (q : b = p) => hx φ (by rw [← q]; exact e)).trans e) R.j
  aa := R.aa
  tt := fun b z => by
    by_cases q : b = p
    · rw [q, upd_same]; exact hu
    · rw [upd_ne q]; exact R.tt b z
  len := R.len
  dat := fun k e h1 => let ⟨w, e1, e2⟩ := R.dat k e h1; ⟨w, e1, e2.keep (.put hp)⟩
  own := fun k o h1 => by
    obtain ⟨r, e1, e2, e3, e4⟩ := R.own k o h1
    exact ⟨r, e1, e2, e3, e4.keep (.put hp) (upd_ne fun z => hn k o h1 (by rw [e1, z]))⟩
  inj := R.inj
  ll := fun k r qs xss e => by
    obtain ⟨h1, h2, h3, h4⟩ := R.ll k r qs xss e
    exact ⟨h1, h2.keep (.put hp) (fun b hb => upd_ne fun (z : b = p) => hnl k r qs xss e (z ▸ hb)) fun b hb => (h2.hA b hb).1, h3, h4⟩
abbrev WO := Ev → (Ow → Prop) → (Ex → Prop) → Prop
/-- a value that is a new object, known to no one else -/
def tO (K : PySem.W.Frag) (F : Fx) (W : WX) (f : WO) : TE := fun σ H Q => ∃ π A ε P X, Rel K F π A σ H ε ∧ XW K F W A σ H X ∧ f ε P X ∧ ∀ o p H', P o → Grow F.m H H' → F.m.J H' → H p = none → OwnAt K (fun b => A b ∨ b = p) H' p o → Q (.ref p) H'
theorem OwnAt.dat {p : Addr} {o : Ow} (np : ¬ A p) (h : OwnAt K (fun b => A b ∨ b = p) H p o) : Dat K A H o.toD (.ref p) := by
  have ks : Keeps (fun b => A b ∨ b = p) H H A := .sub fun b z => .inl z
  cases o with
  | lst xs => obtain ⟨vs, h, hs⟩ := h; exact .lst np h (hs.keep ks)
  | dct kvs => obtain ⟨kws, h, hk, hs⟩ := h; exact .dct np h hk (hs.keep ks)
  | dtt kvs => obtain ⟨kws, h, hk, hs⟩ := h; exact .dtt np h hk (hs.keep ks)
  | ins x C fs => obtain ⟨_, dx, gs, h, hk, hs⟩ := h; exact .ins np h hk (hs.keep ks)
  | lsa q xs => obtain ⟨_, vs, h, hs⟩ := h; exact .lst np h (hs.keep ks)
end
section
variable {X : Cx} {F : Fx} {W : WX} {e a b c : Expr} {es : List Expr} {f g h : WE} {t : WT} {o : WO} {r : WA} {pos : Pos}
/-- .. as a datum -/
def wFr (o : WO) : WE := fun ε P Z => o ε (fun x => P x.toD) Z
theorem frE (p : PE X e (tO X.K F W o)) : PE X e (tE X.K F W (wFr o)) := imE p fun σ H Q ⟨π, A, ε, P, Z, R, w, z, q⟩ => ⟨π, A, ε, _, Z, R, w, z, fun x p H' h g j np ow => q _ _ H' h g j (ow.dat (R.fresh np).2)⟩
/-- name = a new object, the name's own -/
def sOwn (i : Nat) (o : WO) : WS := fun ε N => o ε (fun x => N.nx (ε.set i (some (.own x)))) (fun x => N.ex x ε)
theorem psOwn {i : Nat} {x : Str} {p2 : Pos} (hN : X.N.Nodup) (hi : X.N[i]? = some x) (hx : Loc X.env.scope x) (he : PE X e (tO X.K F W o)) (hs : swapsWith e (some (.Name x p2)) pos.line X.env = pure false := by rfl) (hf : X.fn x = true ∨ X.env.scope.names.lookup x = some .local := by first | exact .inl rfl | exact .inr rfl | assumption) :
    PS X (.Assign [.Name x p2] e pos) (tS X.K F W (sOwn i o)) :=
  imS (ps_set hN hi hx he hs hf) fun D σ H ⟨π, A, ε, N, R, z, h1, h2, h3, h4, h5⟩ => ⟨π, A, ε, _, _, R, xw_of R h5, z, fun x p H' q g j np ow => h1 _ _ _ H' q (R.newG g j np ow)⟩
/-! ### displays -/
def oLst (r : WA) : WO := fun ε P Z => r ε (fun ds => ds.length ≤ sizeLine ∧ P (.lst ds)) Z
theorem doLst (ha : PA X es (tA X.K F W r)) : PE X (.List es pos) (tO X.K F W (oLst r)) := imE (pe_lst ha) fun σ H Q ⟨π, A, ε, P, Z, R, w, z, q⟩ => ⟨π, A, ε, _, Z, R, w, z, fun ds vs H1 p g j b =>
  ⟨by rw [← b.length]; exact p.1, fun a ha => q _ a _ p.2 (g.trans (grow_new ha)) (j_new ha j) (fresh_back g j ha) ⟨vs, upd_same, b.keep (.new ha)⟩⟩⟩
def wTup (r : WA) : WE := fun ε P Z => r ε (fun ds => ds.length ≤ sizeLine ∧ P (.tup ds)) Z
theorem dTup (ha : PA X es (tA X.K F W r)) {k : Nat} : PE X (.Tuple es k pos) (tE X.K F W (wTup r)) := imE (pe_tup ha) fun σ H Q ⟨π, A, ε, P, Z, R, w, z, q⟩ => ⟨π, A, ε, _, Z, R, w, z, fun ds vs H1 p g j b =>
  ⟨by rw [← b.length]; exact p.1, fun a ha => q _ _ _ p.2 (g.trans (grow_new ha)) (j_new ha j) (.tup (.inl ⟨fun z => (R.grow g j).th a z ha, .inl upd_same⟩) (b.keep (.new' ha)))⟩⟩
/-! ### list comprehensions, one clause -/
def wipeE (ε : Ev) (vs : List Nat) : Ev := vs.foldr (fun i e => e.set i none) ε
theorem wipeE_len (ε : Ev) : ∀ vs : List Nat, (wipeE ε vs).length = ε.length
  | [] => rfl
  | v :: vs => by
    show ((wipeE ε vs).set v none).length = _
    rw [List.length_set, wipeE_len ε vs]
theorem wipeE_get {ε : Ev} {i : Nat} {s : Sl} : ∀ {vs : List Nat}, (wipeE ε vs)[i]? = some (some s) → ε[i]? = some (some s) ∧ i ∉ vs
  | [], h => ⟨h, by simp⟩
  | v :: vs, h => by
    have h : ((wipeE ε vs).set v none)[i]? = some (some s) := h
    by_cases q : v = i
    · subst q
      by_cases z : v < (wipeE ε vs).length
      · rw [List.getElem?_set_self z] at h; cases h
      · rw [List.getElem?_eq_none (by rw [List.length_set]; omega)] at h; cases h
    · rw [List.getElem?_set_ne q] at h
      obtain ⟨h1, h2⟩ := wipeE_get h
      exact ⟨h1, by simp only [List.mem_cons, not_or]; exact ⟨fun e => q e.symm, h2⟩⟩
theorem wipe_ne {σ : L2.St} {i : Nat} : ∀ {vs : List Nat}, i ∉ vs → (wipe σ vs)[i]? = σ[i]?
  | [], _ => rfl
  | v :: vs, h => by
    simp only [List.mem_cons, not_or] at h
    show ((wipe σ vs).set v none)[i]? = _
    rw [List.getElem?_set_ne (fun e => h.1 e.symm), wipe_ne h.2]
theorem wipe_in {σ : L2.St} {i : Nat} : ∀ {vs : List Nat}, i ∈ vs → i < σ.length → (wipe σ vs)[i]? = some none
  | v :: vs, h, hl => by
    show ((wipe σ vs).set v none)[i]? = _
    by_cases q : v = i
    · subst q
      rw [List.getElem?_set_self (by rw [wipe_length]; exact hl)]
    · rw [List.getElem?_set_ne q]
      exact wipe_in ((List.mem_cons.mp h).resolve_left fun e => q e.symm) hl
theorem wipe_eq {σ τ : L2.St} {vs : List Nat} (hl : τ.length = (wipe σ vs).length) (h : ∀ j, j ∉ vs → τ[j]? = (wipe σ vs)[j]?) : wipe τ vs = wipe σ vs := by
  apply List.ext_getElem?
  intro i
  by_cases q : i ∈ vs
  · rw [wipe_length] at hl
    by_cases z : i < σ.length
    · rw [wipe_in q z, wipe_in q (by rw [hl]; exact z)]
    · rw [List.getElem?_eq_none (by rw [wipe_length]; omega), List.getElem?_eq_none (by rw [wipe_length]; omega)]
  · rw [wipe_ne q]
    exact h i q
theorem Rel.wiped {K : PySem.W.Frag} {π : List D × List V} {A : Addr → Prop} {σ : L2.St} {H : Hp} {ε : Ev} (R : Rel K F π A σ H ε) (vs : List Nat) : Rel K F π A (wipe σ vs) H (wipeE ε vs) :=
  R.weak (by rw [wipeE_len, wipe_length]; exact R.len) fun i s e => let ⟨a, b⟩ := wipeE_get e; ⟨a, wipe_ne b⟩
abbrev W0 : WX := fun _ _ _ _ => False
abbrev Z0 : Ex → Prop := fun _ => False
def lcW (g : WG) (tt : WT) (te : WE) (vs : List Nat) : List D → List D → Ev → (List D → Prop) → Prop
  | [], acc, ε, P => P acc
  | x :: xs, acc, ε, P => g x (wipeE ε vs) fun ε' => tt ε' (fun b => if b = true then te ε' (fun d => acc.length < sizeLine ∧ lcW g tt te vs xs (acc ++ [d]) ε P) Z0 else lcW g tt te vs xs acc ε P) Z0
def oLc (it : WI) (g : WG) (tt : WT) (te : WE) (vs : List Nat) : WO := fun ε P Z => it ε (fun xs => lcW g tt te vs xs [] ε (fun acc => P (.lst acc))) Z
def wYes : WT := fun _ P _ => P true
theorem imTs {ifs : List Expr} {t t' : TT} (p : PTs X ifs t) (q : ∀ σ H Q, t' σ H Q → t σ H Q) : PTs X ifs t' := ⟨fun pins s σ H Q I z => p.run pins s σ H Q I (q σ H Q z)⟩
theorem tsNil : PTs X [] (tT X.K F W wYes) := imTs pts_nil fun σ H Q ⟨π, A, ε, P, Z, R, w, z, q⟩ => q true H z (.refl _ _) R.j
theorem tsOne (p : PT X c (tT X.K F W t)) : PTs X [c] (tT X.K F W t) := pts_one p
theorem lc_sound {K : PySem.W.Frag} {it : WI} {gg : WG} {tt : WT} {te : WE} {vs : List Nat} {σ : L2.St} {H : Hp} {Q : VK} (h : tO K F W (oLc it gg tt te vs) σ H Q) : tLc (tI K F W it) (tG K F vs gg) (tT K F W0 tt) (tE K F W0 te) vs σ H Q := by
  obtain ⟨π, A, ε, P, Z, R, w, z, q⟩ := h
  refine ⟨π, A, ε, _, Z, R, w, z, fun xs J H1 ds ws p g j b wk D hD => ?_⟩
  have hl := b.length
  have h0D : H D = none := fresh_back g j hD
  have R1 := (R.grow g j).pinned b
  have nA : ¬ A D := (R1.fresh hD).2
  have h0 : F.H0 D = none := (R1.fresh hD).1
  have nw : ∀ (i : Nat) (o : Ow), (wipeE ε vs)[i]? = some (some (.own o)) → (wipe σ vs)[i]? ≠ some (some (.ref D)) := fun i o e1 e2 => by
    obtain ⟨e3, e4⟩ := wipeE_get e1
    rw [wipe_ne e4] at e2
    obtain ⟨r, f1, f2, _⟩ := R.own i o e3
    rw [e2] at f1; cases f1
    exact nA f2
  have nl : ∀ (i : Nat) (r : Addr) (qs : List Addr) (xss : List (List _root_.DW.D)), (wipeE ε vs)[i]? = some (some (.ll r qs xss)) → D ∉ r :: qs := fun i r qs xss e1 hb => nA ((R.ll i r qs xss (wipeE_get e1).1).2.1.hA D hb).1
  refine ⟨fun i m H2 => m = xs.length - i ∧ i ≤ xs.length ∧ ∃ acc, Rel K F (ds ++ π.1, ws ++ π.2) (fun b => A b ∨ b = D) (wipe σ vs) H2 (wipeE ε vs) ∧ Grow F.m H H2 ∧
      (∃ vs', H2 D = some (.lst vs') ∧ Dats K (fun b => A b ∨ b = D) H2 acc vs') ∧ lcW gg tt te vs (xs.drop i) acc ε fun acc => P (.lst acc), ⟨_, rfl, Nat.zero_le _, [], (R1.wide hD).wiped vs, g.trans (grow_new hD), ⟨[], upd_same, .nil⟩, p⟩, ?_⟩
  rintro i m H2 ⟨rfl, hi, acc, R2, g2, ⟨vs', e2, d2⟩, z2⟩
  by_cases hlt : i < xs.length
  · obtain ⟨go, yl⟩ := wk.1 _ H2 i R2.tt (R2.unpin hl).2 hlt
    refine .inr ⟨go, fun H' => ∃ acc, Rel K F (ds ++ π.1, ws ++ π.2) (fun b => A b ∨ b = D) (wipe σ vs) H' (wipeE ε vs) ∧ Grow F.m H H' ∧
      (∃ vs', H' D = some (.lst vs') ∧ Dats K (fun b => A b ∨ b = D) H' acc vs') ∧ lcW gg tt te vs (xs.drop (i + 1)) acc ε fun acc => P (.lst acc), fun H' q => ⟨xs.length - (i + 1), by omega, rfl, hlt, q⟩, fun x H' y => ?_⟩
    obtain ⟨k1, k2⟩ := yl x H' y
    have gr : Grow F.m H2 H' := fun b o h _ => k1 b o h
    have jj : F.m.J H' := F.m.st H2 H' (fun b z => by
      cases e : H2 b with
      | none => exact absurd e (F.m.al H2 b R2.j z)
      | some o => rw [k1 b o e]) (fun b φ e => k1 b _ e) R2.j
    have R3 := R2.grow gr jj
    have hx : xs[i]? = some xs[i] := by simp [hlt]
    rw [List.drop_eq_getElem_cons hlt] at z2
    refine ⟨_, _, wipeE ε vs, xs[i], _, R3, k2 _ hx, z2, fun ε' σ' q' r hl' hn' => ⟨wipe_eq hl' hn', ?_⟩⟩
    refine ⟨_, _, ε', _, _, r, (fun _ _ _ _ z => z.elim), q', fun bb H3 pb g3 j3 => ?_⟩
    have gD : ∀ {Ha Hb : Hp} {vv : List V}, Grow F.m Ha Hb → Ha D = some (.lst vv) → Hb D = some (.lst vv) := fun gg' e => gg' D _ e (F.nm h0)
    cases bb with
    | true =>
      simp only [if_true] at pb ⊢
      refine ⟨_, _, ε', _, _, r.grow g3 j3, (fun _ _ _ _ z => z.elim), pb, fun d v H4 pd g4 j4 dd => ?_⟩
      have e4 : H4 D = some (.lst vs') := gD (gr.trans (g3.trans g4)) e2
      have d4 := d2.mono (gr.trans (g3.trans g4)) R2.am fun _ z => z
      refine ⟨vs', e4, by rw [← d2.length]; exact pd.1, acc ++ [d], ?_, ?_, ⟨vs' ++ [v], upd_same, (d4.app (.one dd)).keep (.put (.inr rfl))⟩, pd.2⟩
      · exact ((R3.grow g3 j3).grow g4 j4).touch (.inr rfl) h0 (fun φ z => by rw [e4] at z; cases z) nw nl
      · intro b o hb nb
        have hbd : b ≠ D := ne_of_none hb h0D
        rw [upd_ne hbd]
        exact (g2.trans (gr.trans (g3.trans g4))) b o hb nb
    | false =>
      simp only [Bool.false_eq_true, if_false] at pb ⊢
      exact ⟨acc, R3.grow g3 j3, g2.trans (gr.trans g3), ⟨vs', gD (gr.trans g3) e2, d2.mono (gr.trans g3) R2.am fun _ z => z⟩, pb⟩
  · obtain e : i = xs.length := by omega
    subst e
    rw [List.drop_of_length_le (Nat.le_refl _)] at z2
    exact .inl ⟨wk.2 _ H2 (R2.unpin hl).2, q _ D H2 z2 g2 R2.j h0D ⟨vs', e2, d2⟩⟩
theorem doLc {elt tg iter : Expr} {ifs : List Expr} {scope : Scope} {own : List (Str × Nat)} {it : WI} {gg : WG} {tt : WT} {te : WE} (hc : X.calm = true) (hN : X.N.Nodup) (hi : PI X tg iter (tI X.K F W it)) (ok : BlkOk X.N X.env.scope scope own)
    (hg : ∀ (s : Shared) (H : Hp) (C : Addr) (cl : List (Str × Addr)) (fp : List Addr), PG (X.blk s H scope (compEnvC scope cl C X.env) fp) tg (tG X.K F (own.map (·.2)) gg))
    (ht : ∀ (s : Shared) (H : Hp) (C : Addr) (cl : List (Str × Addr)) (fp : List Addr), PTs (X.blk s H scope (compEnvC scope cl C X.env) fp) ifs (tT X.K F W0 tt))
    (he : ∀ (s : Shared) (H : Hp) (C : Addr) (cl : List (Str × Addr)) (fp : List Addr), PE (X.blk s H scope (compEnvC scope cl C X.env) fp) elt (tE X.K F W0 te)) (hs : ∀ x, foldedSetIterable iter X.env x = pure x := by intro _; rfl) :
    PE X (.ListComp elt [⟨tg, iter, ifs, 0⟩] scope pos) (tO X.K F W (oLc it gg tt te (own.map (·.2)))) :=
  imE (pe_lc hc hN hi ok hg ht he hs) fun σ H Q h => lc_sound h
/-- name = [..] -/
theorem psLc {i : Nat} {y : Str} {py : Pos} {elt tg iter : Expr} {ifs : List Expr} {scope : Scope} {own : List (Str × Nat)} {spos : Pos} {it : WI} {gg : WG} {tt : WT} {te : WE} (hc : X.calm = true) (hN : X.N.Nodup) (hy : X.N[i]? = some y) (hyl : X.env.scope.names.lookup y = some .local)
    (hsw : swapsWith (.ListComp elt [⟨tg, iter, ifs, 0⟩] scope pos) (some (.Name y py)) spos.line X.env = pure true) (hi : PI X tg iter (tI X.K F W it)) (ok : BlkOk X.N X.env.scope scope own)
    (hg : ∀ (s : Shared) (H : Hp) (C : Addr) (cl : List (Str × Addr)) (fp : List Addr), PG (X.blk s H scope (compEnvC scope cl C X.env) fp) tg (tG X.K F (own.map (·.2)) gg))
    (ht : ∀ (s : Shared) (H : Hp) (C : Addr) (cl : List (Str × Addr)) (fp : List Addr), PTs (X.blk s H scope (compEnvC scope cl C X.env) fp) ifs (tT X.K F W0 tt))
    (he : ∀ (s : Shared) (H : Hp) (C : Addr) (cl : List (Str × Addr)) (fp : List Addr), PE (X.blk s H scope (compEnvC scope cl C X.env) fp) elt (tE X.K F W0 te)) (hs : ∀ x, foldedSetIterable iter X.env x = pure x := by intro _; rfl) :
    PS X (.Assign [.Name y py] (.ListComp elt [⟨tg, iter, ifs, 0⟩] scope pos) spos) (tS X.K F W (sOwn i (oLc it gg tt te (own.map (·.2))))) :=
  imS (ps_setLc hc hN hy hyl hsw hi ok hg ht he hs) fun D σ H ⟨π, A, ε, N, R, z, h1, h2, h3, h4, h5⟩ =>
    lc_sound ⟨π, A, ε, _, _, R, xw_of R h5, z, fun x p H' q g j np ow => h1 _ _ _ H' q (R.newG g j np ow)⟩
end
end DW

namespace DW
open L2 PyProof.Rows PySem.Spec PySem
/-! ### items, slices -/
def kIx : D → D → (D → Prop) → Prop
  | .lst xs, .int i, P => ∃ d, atI xs i = some d ∧ P d
  | .fro xs, .int i, P => ∃ d, atI xs i = some d ∧ P d
  | .tup xs, .int i, P => ∃ d, atI xs i = some d ∧ P d
  | .str x, .int i, P => x.length ≤ sizeLine ∧ ∃ c, atI x.cps.toList i = some c ∧ P (.str ⟨#[c]⟩)
  | _, _, _ => False
theorem atI_of {K : PySem.W.Frag} {A : Addr → Prop} {H : Hp} {ds : List D} {vs : List V} {i : Int} {d : D} (h : Dats K A H ds vs) (e : atI ds i = some d) : ∃ v, atI vs i = some v ∧ Dat K A H d v := by
  unfold atI at e ⊢
  rw [← h.length]
  cases q : ixN ds.length i with
  | none =>
    rw [q] at e
    cases e
  | some j =>
    rw [q] at e
    exact h.at (i := j) e
theorem k2Ix {K : PySem.W.Frag} : Op2 K (rIx K) kIx := fun m A H x y u v P Q am al j bx b2 k q => by
  cases x <;> try exact k.elim
  · cases y <;> try exact k.elim
    obtain ⟨hl, c, hc, k⟩ := k
    exact .inr (.inr ⟨_, _, c, bStr bx, bInt b2, hl, hc, q _ _ H k (.refl _ _) j (.str _)⟩)
  · cases y <;> try exact k.elim
    obtain ⟨d, e, k⟩ := k
    obtain ⟨p, vs, rfl, na, e1, hs⟩ := bx
    obtain ⟨w, e2, dw⟩ := atI_of hs e
    exact .inl ⟨_, _, _, w, rfl, bInt b2, .of e1, e2, q _ _ H k (.refl _ _) j dw⟩
  · cases y <;> try exact k.elim
    obtain ⟨d, e, k⟩ := k
    obtain ⟨p, vs, rfl, e1, hs⟩ := bx
    obtain ⟨w, e2, dw⟩ := atI_of hs e
    exact .inl ⟨_, _, _, w, rfl, bInt b2, e1.sq, e2, q _ _ H k (.refl _ _) j dw⟩
  · cases y <;> try exact k.elim
    obtain ⟨d, e, k⟩ := k
    obtain ⟨p, vs, rfl, e1, hs⟩ := bx
    obtain ⟨w, e2, dw⟩ := atI_of hs e
    exact .inr (.inl ⟨_, _, _, w, rfl, bInt b2, e1.sq, e2, q _ _ H k (.refl _ _) j dw⟩)
/-- what a dict holds under a key -/
def keyD : D → Option Key
  | .int i => some (.inl i)
  | .str x => some (.inr x)
  | _ => none
def valD {κ : Type} [DecidableEq κ] (kvs : List (κ × D)) (k : κ) : Option D := (kvs.find? fun p => decide (p.1 = k)).map (·.2)
theorem valD_of {κ : Type} [DecidableEq κ] {K : PySem.W.Frag} {A : Addr → Prop} {H : Hp} {k : κ} : ∀ {kvs : List (κ × D)} {kws : List (κ × V)}, kws.map (·.1) = kvs.map (·.1) → Dats K A H (kvs.map (·.2)) (kws.map (·.2)) →
    (valV kws k = none ∧ valD kvs k = none) ∨ ∃ d v, valD kvs k = some d ∧ valV kws k = some v ∧ Dat K A H d v
  | [], [], _, _ => .inl ⟨rfl, rfl⟩
  | [], _ :: _, e, _ => by cases e
  | _ :: _, [], e, _ => by cases e
  | p :: kvs, w :: kws, e, h => by
    have e1 : w.1 = p.1 := by simpa using (List.cons.inj e).1
    cases h with
    | cons h t =>
      by_cases q : p.1 = k
      · exact .inr ⟨p.2, w.2, by simp [valD, List.find?_cons, q], by simp [valV, List.find?_cons, e1, q], h⟩
      · have := valD_of (k := k) (by simpa using (List.cons.inj e).2) t
        have a1 : valD (p :: kvs) k = valD kvs k := by simp [valD, List.find?_cons, q]
        have a2 : valV (w :: kws) k = valV kws k := by simp [valV, List.find?_cons, e1, q]
        rw [a1, a2]
        exact this
theorem keyD_kV {K : PySem.W.Frag} {m : Md} {A : Addr → Prop} {H : Hp} {d : D} {v : V} {k : Key} (e : keyD d = some k) (b : Bor K m A H d v) : v = kV k := by
  cases d <;> try cases e
  · exact bInt b
  · exact bStr b
section
variable {X : Cx} {F : Fx} {W : WX} {e a b c : Expr} {es : List Expr} {f g h : WE} {t : WT} {o : WO} {r : WA} {pos : Pos}
theorem dIx (ha : PE X a (tB X.K F W f)) (hb : PE X b (tB X.K F W g)) (hs : PlainIx b := by exact fun _ _ => rfl) : PE X (.Subscript a b pos) (tE X.K F W (w2 f g kIx)) := d2 (fun p q => pe_ix ix_seq p q hs) k2Ix ha hb
/-- d[k] -/
def wGet (f g : WE) : WE := fun ε P Z => f ε (fun x => g ε (fun y => ∃ kvs k d, x = .dct kvs ∧ keyD y = some k ∧ valD kvs k = some d ∧ P d) Z) Z
theorem dGet (hu : X.A.units + 1 < cLine) (ha : PE X a (tB X.K F W f)) (hb : PE X b (tB X.K F W g)) (hs : NoSl b := by exact fun _ _ => rfl) : PE X (.Subscript a b pos) (tE X.K F W (wGet f g)) :=
  imE (pe_dget hu ha hb hs) fun σ H Q ⟨π, A, ε, P, Z, R, w, z, q⟩ => ⟨π, A, ε, _, Z, R, w, z, fun x u H1 z1 g1 j1 b1 => ⟨π, A, ε, _, Z, R.grow g1 j1, w.grow g1, z1, fun y v H2 z2 g2 j2 b2 => by
    obtain ⟨kvs, k, d, rfl, hk, hd, p⟩ := z2
    obtain ⟨p', kws, rfl, na, h1, h2, h3⟩ := b1.grow g2 R.am
    rcases valD_of (k := k) h2 h3 with ⟨_, e2⟩ | ⟨d', v', e1, e2, dd⟩
    · rw [hd] at e2; cases e2
    · rw [hd] at e1; cases e1
      exact ⟨p', v', rfl, by rw [keyD_kV hk b2, ← e2]; exact DGet.k h1, q _ _ H2 p (g1.trans g2) j2 dd⟩⟩⟩
/-- k in d, k not in d -/
def wInD (neg : Bool) (f g : WE) : WE := fun ε P Z => f ε (fun y => g ε (fun x => ∃ kvs k, x = .dct kvs ∧ keyD y = some k ∧ P (.bl (if neg then !(valD kvs k).isSome else (valD kvs k).isSome))) Z) Z
theorem pcNotInD (hu : X.A.units + 1 < cLine) (ha : PE X a (tB X.K F W f)) (hb : PE X b (tB X.K F W g)) : PC X .NotIn a b (tE X.K F W (wInD true f g)) :=
  ⟨fun pins s σ H Q I ⟨π, A, ε, P, Z, R, w, z, q⟩ => (pc_dnotin hu ha hb).run pins s σ H Q I ⟨π, A, ε, _, Z, R, w, z, fun y v H1 z1 g1 j1 b1 => ⟨π, A, ε, _, Z, R.grow g1 j1, w.grow g1, z1, fun x u H2 z2 g2 j2 b2 => by
    obtain ⟨kvs, k, rfl, hk, p⟩ := z2
    obtain ⟨p', kws, rfl, na, h1, h2, h3⟩ := b2
    refine ⟨p', valV kws k, rfl, by rw [keyD_kV hk (b1.grow g2 R.am)]; exact DGet.k h1, ?_⟩
    rcases valD_of (k := k) h2 h3 with ⟨e1, e2⟩ | ⟨d', v', e1, e2, dd⟩
    · rw [e2] at p; rw [e1]; exact q _ _ H2 p (g1.trans g2) j2 (.bl _)
    · rw [e1] at p; rw [e2]; exact q _ _ H2 p (g1.trans g2) j2 (.bl _)⟩⟩⟩
/-! ### slices: a new list -/
abbrev WP := Ev → (Option Int → Prop) → (Ex → Prop) → Prop
def tP (K : PySem.W.Frag) (F : Fx) (W : WX) (f : WP) : TO := fun σ H Q => ∃ π A ε P X, Rel K F π A σ H ε ∧ XW K F W A σ H X ∧ f ε P X ∧ ∀ i H', P i → Grow F.m H H' → F.m.J H' → Q i H'
theorem imP {e : Option Expr} {t t' : TO} (p : PO X e t) (q : ∀ σ H Q, t' σ H Q → t σ H Q) : PO X e t' := ⟨fun pins s σ H Q I z => p.run pins s σ H Q I (q σ H Q z)⟩
def pNon : WP := fun _ P _ => P none
def pSom (f : WE) : WP := fun ε P Z => f ε (fun d => ∃ i, d = .int i ∧ P (some i)) Z
theorem dpNon : PO X none (tP X.K F W pNon) := imP po_none fun σ H Q ⟨π, A, ε, P, Z, R, w, z, q⟩ => q none H z (.refl _ _) R.j
theorem dpSom (ha : PE X a (tE X.K F W f)) : PO X (some a) (tP X.K F W (pSom f)) := imP (po_some ha) fun σ H Q ⟨π, A, ε, P, Z, R, w, z, q⟩ => ⟨π, A, ε, _, Z, R, w, z, fun d v H1 p g j b => by
  obtain ⟨i, rfl, p⟩ := p
  cases b
  exact ⟨i, rfl, q _ H1 p g j⟩⟩
def cutD (xs : List D) (lo hi : Option Int) : List D := (xs.drop (HT.sIx xs.length 0 lo)).take (HT.sIx xs.length xs.length hi - HT.sIx xs.length 0 lo)
def oSl (f : WE) (l u : WP) : WO := fun ε P Z => f ε (fun x => l ε (fun i => u ε (fun k => ∃ xs, (x = .lst xs ∨ x = .fro xs) ∧ P (.lst (cutD xs i k))) Z) Z) Z
theorem doSl {lo hi : Option Expr} {l u : WP} {p2 : Pos} (ha : PE X a (tB X.K F W f)) (hl : PO X lo (tP X.K F W l)) (hu : PO X hi (tP X.K F W u)) : PE X (.Subscript a (.Slice lo hi none p2) pos) (tO X.K F W (oSl f l u)) :=
  imE (pe_slice sl_list ha hl hu) fun σ H Q ⟨π, A, ε, P, Z, R, w, z, q⟩ => ⟨π, A, ε, _, Z, R, w, z, fun x v H1 z1 g1 j1 b1 => ⟨π, A, ε, _, Z, R.grow g1 j1, w.grow g1, z1, fun i H2 z2 g2 j2 => ⟨π, A, ε, _, Z, (R.grow g1 j1).grow g2 j2, w.grow (g1.trans g2), z2, fun k H3 z3 g3 j3 => by
    obtain ⟨xs, hx, p⟩ := z3
    have b3 := (b1.grow g2 R.am).grow g3 R.am
    have key : ∃ a vs, v = .ref a ∧ SqL X.K H3 a vs ∧ Dats X.K A H3 xs vs := by
      rcases hx with rfl | rfl
      · obtain ⟨a, vs, rfl, na, e, hs⟩ := b3; exact ⟨a, vs, rfl, .of e, hs⟩
      · obtain ⟨a, vs, rfl, e, hs⟩ := b3; exact ⟨a, vs, rfl, e.sq, hs⟩
    obtain ⟨a, vs, rfl, hq, hs⟩ := key
    have gg := (g1.trans g2).trans g3
    refine ⟨a, vs, rfl, hq, fun p' hp => q _ p' _ p (gg.trans (grow_new hp)) (j_new hp j3) (fresh_back gg j3 hp) ⟨cutV vs i k, upd_same, ?_⟩⟩
    unfold cutD cutV
    rw [hs.length]
    exact ((hs.drop _).take _).keep (.new hp)⟩⟩⟩
/-! ### calls of built-ins -/
inductive Bors (K : PySem.W.Frag) (m : Md) (A : Addr → Prop) (H : Hp) : List D → List V → Prop where
  | nil : Bors K m A H [] []
  | cons {d : D} {v : V} {ds : List D} {vs : List V} (h : Bor K m A H d v) (t : Bors K m A H ds vs) : Bors K m A H (d :: ds) (v :: vs)
theorem Bors.grow {K : PySem.W.Frag} {m : Md} {A : Addr → Prop} {H H' : Hp} (g : Grow m H H') (am : ∀ b, m.M b → A b) : ∀ {ds : List D} {vs : List V}, Bors K m A H ds vs → Bors K m A H' ds vs
  | _, _, .nil => .nil
  | _, _, .cons h t => .cons (h.grow g am) (Bors.grow g am t)
def tAB (K : PySem.W.Frag) (F : Fx) (W : WX) (f : WA) : TA := fun σ H Q => ∃ π A ε P X, Rel K F π A σ H ε ∧ XW K F W A σ H X ∧ f ε P X ∧ ∀ ds vs H', P ds → Grow F.m H H' → F.m.J H' → Bors K F.m A H' ds vs → Q vs H'
theorem dbNil : PA X [] (tAB X.K F W aNil) := imA pa_nil fun σ H Q ⟨π, A, ε, P, Z, rel, w, z, q⟩ => q [] [] H z (.refl _ _) rel.j .nil
theorem dbCons (ha : PE X e (tB X.K F W f)) (hr : PA X es (tAB X.K F W r)) (hs : starEach (e :: es) X.env = (false, eval e X.env) :: starEach es X.env := by rfl) : PA X (e :: es) (tAB X.K F W (aCons f r)) :=
  imA (pa_cons ha hr hs) fun σ H Q ⟨π, A, ε, P, Z, rel, w, z, q⟩ => ⟨π, A, ε, _, Z, rel, w, z, fun d v H1 p g j b =>
    ⟨π, A, ε, _, Z, rel.grow g j, w.grow g, p, fun ds vs H2 p' g' j' b' => q _ _ H2 p' (g.trans g') j' (.cons (b.grow g' rel.am) b')⟩⟩
/-- a call of values answers one of data -/
def Cl (K : PySem.W.Frag) (r : List V → Hp → VK → Prop) (k : List D → (D → Prop) → Prop) : Prop :=
  ∀ (m : Md) (A : Addr → Prop) (H : Hp) (ds : List D) (vs : List V) (P : D → Prop) (Q : VK), (∀ b, m.M b → A b) → (∀ b, A b → H b ≠ none) → m.J H → Bors K m A H ds vs → k ds P → (∀ d w H', P d → Grow m H H' → m.J H' → Dat K A H' d w → Q w H') → r vs H Q
def wCl (r : WA) (k : List D → (D → Prop) → Prop) : WE := fun ε P Z => r ε (fun ds => k ds P) Z
theorem dCl {q : List V → Hp → VK → Prop} {k : List D → (D → Prop) → Prop} {ta : ∀ {t : TA}, PA X es t → PE X e (tCB q t)} (hk : Cl X.K q k) (ha : PA X es (tAB X.K F W r)) : PE X e (tE X.K F W (wCl r k)) :=
  imE (ta ha) fun σ H Q ⟨π, A, ε, P, Z, rel, w, z, q⟩ => ⟨π, A, ε, _, Z, rel, w, z, fun ds vs H1 p g j b =>
    hk F.m A H1 ds vs P Q rel.am (rel.grow g j).th j b p fun d w' H2 p' g' j' b' => q d w' H2 p' (g.trans g') j' b'⟩
def lenD : D → (Nat → Prop) → Prop
  | .str x, P => x.length ≤ sizeLine ∧ P x.length
  | .lst xs, P => P xs.length
  | .fro xs, P => P xs.length
  | .tup xs, P => P xs.length
  | _, _ => False
def k1 (φ : D → (D → Prop) → Prop) : List D → (D → Prop) → Prop
  | [d], P => φ d P
  | _, _ => False
def kk2 (φ : D → D → (D → Prop) → Prop) : List D → (D → Prop) → Prop
  | [d, e], P => φ d e P
  | _, _ => False
theorem bors1 {K : PySem.W.Frag} {m : Md} {A : Addr → Prop} {H : Hp} {d : D} {vs : List V} (h : Bors K m A H [d] vs) : ∃ v, vs = [v] ∧ Bor K m A H d v := by
  cases h with
  | cons h t => cases t; exact ⟨_, rfl, h⟩
theorem bors2 {K : PySem.W.Frag} {m : Md} {A : Addr → Prop} {H : Hp} {d e : D} {vs : List V} (h : Bors K m A H [d, e] vs) : ∃ v u, vs = [v, u] ∧ Bor K m A H d v ∧ Bor K m A H e u := by
  cases h with
  | cons h t =>
    obtain ⟨u, rfl, h2⟩ := bors1 t
    exact ⟨_, u, rfl, h, h2⟩
def kLen : List D → (D → Prop) → Prop := k1 fun d P => lenD d fun n => P (.int n)
theorem clLen {K : PySem.W.Frag} : Cl K (fun xs H Q => ∃ x n, xs = [x] ∧ LenV K x H n ∧ Q (.int n) H) kLen := fun m A H ds vs P Q am al j b k q => by
  match ds, b, k with
  | [d], b, k =>
    obtain ⟨v, rfl, bd⟩ := bors1 b
    have k : lenD d fun n => P (.int n) := k
    cases d <;> try exact k.elim
    · cases bStr bd
      exact ⟨_, _, rfl, ⟨k.1, rfl⟩, q _ _ H k.2 (.refl _ _) j (.int _)⟩
    · obtain ⟨a, ws, rfl, na, e, hs⟩ := bd
      exact ⟨_, _, rfl, .inl ⟨ws, .of e, rfl⟩, q _ _ H k (.refl _ _) j (by rw [hs.length]; exact .int _)⟩
    · obtain ⟨a, ws, rfl, e, hs⟩ := bd
      exact ⟨_, _, rfl, .inl ⟨ws, e.sq, rfl⟩, q _ _ H k (.refl _ _) j (by rw [hs.length]; exact .int _)⟩
    · obtain ⟨a, ws, rfl, e, hs⟩ := bd
      exact ⟨_, _, rfl, .inr ⟨ws, e.sq, rfl⟩, q _ _ H k (.refl _ _) j (by rw [hs.length]; exact .int _)⟩
theorem clInt {K : PySem.W.Frag} : Cl K (fun xs H Q => (∃ i, xs = [.int i] ∧ Q (.int i) H) ∨ ∃ k, xs = [.bl k] ∧ Q (.int (if k then 1 else 0)) H) (k1 fun d P => match d with | .int i => P (.int i) | .bl b => P (.int (if b then 1 else 0)) | _ => False) := fun m A H ds vs P Q am al j b k q => by
  match ds, b, k with
  | [d], b, k =>
    obtain ⟨v, rfl, bd⟩ := bors1 b
    cases d <;> try exact False.elim k
    · cases bBl bd
      exact .inr ⟨_, rfl, q _ _ H k (.refl _ _) j (.int _)⟩
    · cases bInt bd
      exact .inl ⟨_, rfl, q _ _ H k (.refl _ _) j (.int _)⟩
theorem clAbs {K : PySem.W.Frag} : Cl K (fun xs H Q => ∃ i, xs = [.int i] ∧ Q (.int (if i < 0 then -i else i)) H) (k1 fun d P => match d with | .int i => P (.int (if i < 0 then -i else i)) | _ => False) := fun m A H ds vs P Q am al j b k q => by
  match ds, b, k with
  | [d], b, k =>
    obtain ⟨v, rfl, bd⟩ := bors1 b
    cases d <;> try exact False.elim k
    cases bInt bd
    exact ⟨_, rfl, q _ _ H k (.refl _ _) j (.int _)⟩
theorem clMax {K : PySem.W.Frag} : Cl K (fun xs H Q => ∃ i j, xs = [.int i, .int j] ∧ Q (.int (if j > i then j else i)) H) (kk2 fun d e P => match d, e with | .int i, .int j => P (.int (if j > i then j else i)) | _, _ => False) := fun m A H ds vs P Q am al j b k q => by
  match ds, b, k with
  | [d, e], b, k =>
    obtain ⟨v, u, rfl, bd, be⟩ := bors2 b
    cases d <;> try exact False.elim k
    cases e <;> try exact False.elim k
    cases bInt bd; cases bInt be
    exact ⟨_, _, rfl, q _ _ H k (.refl _ _) j (.int _)⟩
theorem clMin {K : PySem.W.Frag} : Cl K (fun xs H Q => ∃ i j, xs = [.int i, .int j] ∧ Q (.int (if j < i then j else i)) H) (kk2 fun d e P => match d, e with | .int i, .int j => P (.int (if j < i then j else i)) | _, _ => False) := fun m A H ds vs P Q am al j b k q => by
  match ds, b, k with
  | [d, e], b, k =>
    obtain ⟨v, u, rfl, bd, be⟩ := bors2 b
    cases d <;> try exact False.elim k
    cases e <;> try exact False.elim k
    cases bInt bd; cases bInt be
    exact ⟨_, _, rfl, q _ _ H k (.refl _ _) j (.int _)⟩
/-- a call that makes a list -/
def ClO (K : PySem.W.Frag) (r : List V → Hp → VK → Prop) (k : List D → (Ow → Prop) → Prop) : Prop :=
  ∀ (m : Md) (A : Addr → Prop) (H : Hp) (ds : List D) (vs : List V) (P : Ow → Prop) (Q : VK), (∀ b, m.M b → A b) → (∀ b, A b → H b ≠ none) → m.J H → Bors K m A H ds vs → k ds P → (∀ o p H', P o → Grow m H H' → m.J H' → H p = none → OwnAt K (fun b => A b ∨ b = p) H' p o → Q (.ref p) H') → r vs H Q
def oCl (r : WA) (k : List D → (Ow → Prop) → Prop) : WO := fun ε P Z => r ε (fun ds => k ds P) Z
theorem doCl {q : List V → Hp → VK → Prop} {k : List D → (Ow → Prop) → Prop} {ta : ∀ {t : TA}, PA X es t → PE X e (tCB q t)} (hk : ClO X.K q k) (ha : PA X es (tAB X.K F W r)) : PE X e (tO X.K F W (oCl r k)) :=
  imE (ta ha) fun σ H Q ⟨π, A, ε, P, Z, rel, w, z, q⟩ => ⟨π, A, ε, _, Z, rel, w, z, fun ds vs H1 p g j b =>
    hk F.m A H1 ds vs P Q rel.am (rel.grow g j).th j b p fun o p' H2 p2 g' j' np ow => q o p' H2 p2 (g.trans g') j' (fresh_back g j np) ow⟩
def kList : List D → (Ow → Prop) → Prop
  | [.lst xs], P => P (.lst xs)
  | [.fro xs], P => P (.lst xs)
  | [.tup xs], P => P (.lst xs)
  | _, _ => False
theorem clList {K : PySem.W.Frag} : ClO K (fun xs H Q => ∃ p ys, xs = [.ref p] ∧ (SqL K H p ys ∨ SqT K H p ys) ∧ ∀ l, H l = none → Q (.ref l) (upd H l (.lst ys))) kList := fun m A H ds vs P Q am al j b k q => by
  match ds, b, k with
  | [.lst xs], b, k =>
    obtain ⟨v, rfl, bd⟩ := bors1 b
    obtain ⟨a, ws, rfl, na, e, hs⟩ := bd
    exact ⟨a, ws, rfl, .inl (.of e), fun l hl => q _ l _ k (grow_new hl) (j_new hl j) hl ⟨ws, upd_same, hs.keep (.new hl)⟩⟩
  | [.fro xs], b, k =>
    obtain ⟨v, rfl, bd⟩ := bors1 b
    obtain ⟨a, ws, rfl, e, hs⟩ := bd
    exact ⟨a, ws, rfl, .inl e.sq, fun l hl => q _ l _ k (grow_new hl) (j_new hl j) hl ⟨ws, upd_same, hs.keep (.new hl)⟩⟩
  | [.tup xs], b, k =>
    obtain ⟨v, rfl, bd⟩ := bors1 b
    obtain ⟨a, ws, rfl, e, hs⟩ := bd
    exact ⟨a, ws, rfl, .inr e.sq, fun l hl => q _ l _ k (grow_new hl) (j_new hl j) hl ⟨ws, upd_same, hs.keep (.new hl)⟩⟩
/-- tuple(a new list) -/
def kTuple : List D → (D → Prop) → Prop
  | [.lst xs], P => P (.tup xs)
  | [.fro xs], P => P (.tup xs)
  | _, _ => False
theorem clTuple {K : PySem.W.Frag} : Cl K (fun xs H Q => ∃ p ys, xs = [.ref p] ∧ ((SqL K H p ys ∧ ∀ l, H l = none → Q (.ref l) (upd H l (.tup ys))) ∨ (SqT K H p ys ∧ Q (.ref p) H))) kTuple := fun m A H ds vs P Q am al j b k q => by
  match ds, b, k with
  | [.lst xs], b, k =>
    obtain ⟨v, rfl, bd⟩ := bors1 b
    obtain ⟨a, ws, rfl, na, e, hs⟩ := bd
    exact ⟨a, ws, rfl, .inl ⟨.of e, fun l hl => q _ _ _ k (grow_new hl) (j_new hl j) (.tup (.inl ⟨fun z => al l z hl, .inl upd_same⟩) (hs.keep (.new' hl)))⟩⟩
  | [.fro xs], b, k =>
    obtain ⟨v, rfl, bd⟩ := bors1 b
    obtain ⟨a, ws, rfl, e, hs⟩ := bd
    exact ⟨a, ws, rfl, .inl ⟨e.sq, fun l hl => q _ _ _ k (grow_new hl) (j_new hl j) (.tup (.inl ⟨fun z => al l z hl, .inl upd_same⟩) (hs.keep (.new' hl)))⟩⟩
end
end DW

namespace DW
open L2 PyProof.Rows PySem.Spec PySem
/-! ### what a def promises, over data -/
abbrev Spd := List D → (D → Prop) → (Ex → Prop) → Prop
/-- nothing may change -/
def md0 : Md := ⟨fun _ => False, fun _ => True, fun _ _ _ h => h.elim, fun _ _ _ _ h => h⟩
def lift (K : PySem.W.Frag) (m : Md) (s : Spd) : Sp := fun vs H Q E => ∃ A ds P Z, (∀ b, m.M b → A b) ∧ (∀ b, A b → Th (H b)) ∧ m.J H ∧ Dats K A H ds vs ∧ s ds P Z ∧
  (∀ d v H', P d → Grow m H H' → m.J H' → Dat K A H' d v → Q v H') ∧ ∀ x cls dd H', Z x → Grow m H H' → m.J H' → ExAt K A H' x cls dd → E cls dd H'
def liftG {ι : Type} (K : PySem.W.Frag) (mf : ι → Md) (s : ι → Spd) : Sp := fun vs H Q E => ∃ i, lift K (mf i) (s i) vs H Q E
abbrev liftP (K : PySem.W.Frag) (s : Spd) : Sp := liftG K (fun _ : Unit => md0) fun _ => s
section
variable {K : PySem.W.Frag} {F : Fx} {π : List D × List V} {A : Addr → Prop} {σ : L2.St} {H H' : Hp} {ε : Ev}
theorem j0 {m : Md} (g : Grow md0 H H') (j : m.J H) : m.J H' := m.st H H' (fun b z => by
  cases e : H b with
  | none => exact absurd e (m.al H b j z)
  | some o => exact g b o e fun z => z) (fun b φ e => g b _ e fun z => z) j
/-- how a callee's way of changing stands in the caller's -/
structure Sub (m m' : Md) : Prop where
  sM : ∀ b, m.M b → m'.M b
  sj : ∀ H, m'.J H → m.J H
  su : ∀ H H', Grow m H H' → m'.J H → m.J H' → m'.J H'
theorem Sub.m {m m' : Md} (s : Sub m m') : ∀ b, m.M b → m'.M b := s.sM
theorem Sub.j {m m' : Md} (s : Sub m m') (j : m'.J H) : m.J H := s.sj _ j
theorem Sub.g {m m' : Md} (s : Sub m m') (g : Grow m H H') : Grow m' H H' := fun b o e n => g b o e fun z => n (s.sM b z)
theorem Sub.j' {m m' : Md} (s : Sub m m') (g : Grow m H H') (j : m'.J H) (j2 : m.J H') : m'.J H' := s.su _ _ g j j2
theorem sub_rfl {m : Md} : Sub m m := ⟨fun _ z => z, fun _ z => z, fun _ _ _ _ z => z⟩
theorem sub_eq {m m' : Md} (e : m' = m) : Sub m m' := by subst e; exact sub_rfl
theorem sub0 {m : Md} : Sub md0 m := ⟨fun _ z => z.elim, fun _ _ => trivial, fun _ _ g j _ => j0 g j⟩
end
/-! ### calls of defs -/
def wCall (s : Spd) (r : WA) : WE := fun ε P Z => r ε (fun ds => s ds P Z) Z
section
variable {X : Cx} {F : Fx} {W : WX} {e o : Expr} {es : List Expr} {r : WA} {f : WE} {pos p apos : Pos} {ι : Type} {mf : ι → Md} {s : ι → Spd} {x m : Str} {k : Nat} {g C : Addr} {fd : FuncData} {ps : List Str}
/-- what is known of a def that is called by its name -/
structure Clb (P : Program) (w : World) (K : PySem.W.Frag) (mg : Str → Option Value) (base : Heap) (k : Nat) (x : Str) (sp : Sp) : Prop where
  ex : ∃ (g : Addr) (fd : FuncData) (ps : List Str), FnOk P w K mg base (L2.CX P w) k g fd ps sp ∧ mg x = some (.ref g) ∧ PySem.W.keepIn K (.ref g) = true ∧ Binds K fd ps []
theorem lift_use {A : Addr → Prop} {π : List D × List V} {σ : L2.St} {H : Hp} {ε : Ev} {i : ι} {ds : List D} {vs : List V} {P : D → Prop} {Z : Ex → Prop} {Q : VK} (hm : Sub (mf i) F.m) (R : Rel X.K F π A σ H ε) (b : Dats X.K A H ds vs) (z : s i ds P Z)
    (q : ∀ d v H', P d → Grow F.m H H' → F.m.J H' → Dat X.K A H' d v → Q v H') (w : XW X.K F W A σ H Z) : liftG X.K mf s vs H Q (L2.WE W σ) :=
  ⟨i, A, ds, P, Z, fun b z => R.am b (hm.m b z), R.tt, hm.j R.j, b, z, fun d v H' p g j h => q d v H' p (hm.g g) (hm.j' g R.j j) h, fun x cls dd H' z g j e => w x cls dd H' z (hm.g g) (hm.j' g R.j j) e⟩
theorem dCall (i : ι) (hm : Sub (mf i) F.m) (c : Clb X.prog X.w X.K X.mg X.base k x (liftG X.K mf s)) (hr : Room k X.A) (tk : Takes X W) (hg : Gl X x) (ha : PA X (e :: es) (tA X.K F W r)) (hdb : (x == ("__debug__" : Str)) = false := by decide)
    (he : starEach (e :: es) X.env = (false, eval e X.env) :: starEach es X.env := by rfl) (hpl : (backTo pos (starEach es X.env)).any (·.1) = false := by rfl) : PE X (.Call (.Name x p) (e :: es) [] pos) (tE X.K F W (wCall (s i) r)) := by
  obtain ⟨g, fd, ps, Fn, hm', hk, hb⟩ := c.ex
  exact imE (pe_callS Fn hr hg hm' hk hb (fun σ => passAt tk σ) ha hdb he hpl) fun σ H Q ⟨π, A, ε, P, Z, R, w, z, q⟩ => ⟨π, A, ε, _, Z, R, w, z, fun ds vs H1 pz gr j b =>
    lift_use hm (R.grow gr j) b pz (fun d v H2 p g2 j2 h => q d v H2 p (gr.trans g2) j2 h) (w.grow gr)⟩
/-! ### a def keeps its promise -/
def startE (N : List Str) (ds : List D) : Ev := ds.map (fun d => some (Sl.dat d)) ++ List.replicate (N.length - ds.length) none
theorem rel_start {K : PySem.W.Frag} {m : Md} {A : Addr → Prop} {N : List Str} {H : Hp} {ds : List D} {vs : List V} (am : ∀ b, m.M b → A b) (al : ∀ b, A b → Th (H b)) (j : m.J H) (b : Dats K A H ds vs) :
    Rel K ⟨m, A, H, am, al⟩ ([], []) A (L2.start N vs) H (startE N ds) := by
  have hl := b.length
  refine ⟨.nil, .refl _ _, j, fun _ z => z, al, ?_, fun i d e => ?_, fun i o e => ?_, fun i k o o' v e => ?_, fun i p qs xss e => ?_⟩
  · unfold startE L2.start
    simp only [List.length_append, List.length_map, List.length_replicate]
    omega
  · unfold startE at e
    by_cases q : i < ds.length
    · rw [List.getElem?_append_left (by simpa using q), List.getElem?_map] at e
      cases e2 : ds[i]? with
      | none => rw [e2] at e; cases e
      | some d' =>
        rw [e2] at e; cases e
        obtain ⟨v, h1, h2⟩ := b.at e2
        refine ⟨v, ?_, h2⟩
        unfold L2.start
        rw [List.getElem?_append_left (by simpa using (by omega : i < vs.length)), List.getElem?_map, h1]
        rfl
    · rw [List.getElem?_append_right (by simpa using q), List.getElem?_replicate] at e
      split at e <;> cases e
  all_goals
    unfold startE at e
    by_cases q : i < ds.length
    · rw [List.getElem?_append_left (by simpa using q), List.getElem?_map] at e
      cases e2 : ds[i]? with
      | none => rw [e2] at e; cases e
      | some d' => rw [e2] at e; cases e
    · rw [List.getElem?_append_right (by simpa using q), List.getElem?_replicate] at e
      split at e <;> cases e
/-- the wish at a def's edge -/
abbrev Wd (E : XK) : WX := fun cls dd _ H => E cls dd H
theorem clb_mk {P : Program} {w : World} {K : PySem.W.Frag} {mg : Str → Option Value} {base : Heap} {sp : Sp} (Fo : FnOk P w K mg base (L2.CX P w) k g fd ps sp) (h1 : mg x = some (.ref g)) (h2 : PySem.W.keepIn K (.ref g) = true) (h3 : Binds K fd ps []) : Clb P w K mg base k x sp :=
  ⟨g, fd, ps, Fo, h1, h2, h3⟩
end
/-! ### one's own objects, written -/
section
variable {X : Cx} {F : Fx} {W : WX} {e o : Expr} {st : Stmt} {es : List Expr} {r : WA} {f g : WE} {pos p apos : Pos}
/-- x.append(e) -/
def sApp (i : Nat) (r : WA) : WS := fun ε N => ∃ xs, ε[i]? = some (some (.own (.lst xs))) ∧ r ε (fun ds => ∃ d, ds = [d] ∧ xs.length < sizeLine ∧ N.nx (ε.set i (some (.own (.lst (xs ++ [d])))))) (fun x => N.ex x ε)
theorem psApp (i : Nat) (p : PE X e (tBM X.K "list" rAppend (tVar i) (tA X.K F W r))) (hs : swapsWith e none pos.line X.env = pure false := by rfl) : PS X (.Expr e pos) (tS X.K F W (sApp i r)) :=
  imS (ps_expr p hs) fun D σ H ⟨π, A, ε, N, R, ⟨xs, hx, z⟩, h1, h2, h3, h4, h5⟩ => by
    obtain ⟨q, e1, e2, e3, vs, e5, e6⟩ := R.own i _ hx
    refine ⟨.ref q, e1, .inl ⟨rfl, _, .inl (.inl e5)⟩, π, A, ε, _, _, R, xw_of R h5, z, fun ds ws H1 pd gr j b => ?_⟩
    obtain ⟨d, rfl, hl, n⟩ := pd
    cases b with
    | cons b t =>
      cases t
      have e5' : H1 q = some (.lst vs) := gr q _ e5 (F.nm e3)
      refine ⟨q, vs, _, rfl, rfl, e5', by rw [← e6.length]; exact hl, h1 A _ σ _ n ((R.grow gr j).put hx e1 ⟨_, upd_same, ?_⟩)⟩
      exact ((e6.mono gr R.am fun _ z => z).app (.one b)).keep (.put e2)
/-- d[k] = e, d a dict -/
def putD {κ : Type} [DecidableEq κ] (kvs : List (κ × D)) (k : κ) (d : D) : List (κ × D) := if (kvs.any fun p => decide (p.1 = k)) then kvs.map fun p => if p.1 = k then (p.1, d) else p else kvs ++ [(k, d)]
theorem any_keys {κ : Type} [DecidableEq κ] {k : κ} : ∀ {kvs : List (κ × D)} {kws : List (κ × V)}, kws.map (·.1) = kvs.map (·.1) → (kws.any fun p => decide (p.1 = k)) = kvs.any fun p => decide (p.1 = k)
  | [], [], _ => rfl
  | [], _ :: _, e => by cases e
  | _ :: _, [], e => by cases e
  | p :: kvs, w :: kws, e => by
    have e1 : w.1 = p.1 := by simpa using (List.cons.inj e).1
    rw [List.any_cons, List.any_cons, e1, any_keys (by simpa using (List.cons.inj e).2)]
theorem putD_of {κ : Type} [DecidableEq κ] {K : PySem.W.Frag} {A : Addr → Prop} {H : Hp} {k : κ} {d : D} {v : V} {kvs : List (κ × D)} {kws : List (κ × V)} (hk : kws.map (·.1) = kvs.map (·.1)) (hs : Dats K A H (kvs.map (·.2)) (kws.map (·.2))) (h : Dat K A H d v) :
    (putK kws k v).map (·.1) = (putD kvs k d).map (·.1) ∧ Dats K A H ((putD kvs k d).map (·.2)) ((putK kws k v).map (·.2)) := by
  have rep : ∀ {kvs : List (κ × D)} {kws : List (κ × V)}, kws.map (·.1) = kvs.map (·.1) → Dats K A H (kvs.map (·.2)) (kws.map (·.2)) →
      (kws.map fun p => if p.1 = k then (p.1, v) else p).map (·.1) = (kvs.map fun p => if p.1 = k then (p.1, d) else p).map (·.1) ∧
      Dats K A H ((kvs.map fun p => if p.1 = k then (p.1, d) else p).map (·.2)) ((kws.map fun p => if p.1 = k then (p.1, v) else p).map (·.2)) := by
    intro kvs
    induction kvs with
    | nil => intro kws e h; cases kws with
      | nil => exact ⟨rfl, .nil⟩
      | cons _ _ => cases e
    | cons p kvs ih => intro kws e h; cases kws with
      | nil => cases e
      | cons w kws =>
        have e1 : w.1 = p.1 := by simpa using (List.cons.inj e).1
        cases h with
        | cons h t =>
          obtain ⟨i1, i2⟩ := ih (by simpa using (List.cons.inj e).2) t
          by_cases q : p.1 = k
          · simp only [List.map_cons, e1, q, if_true]
            exact ⟨by rw [← i1], .cons ‹Dat K A H d v› i2⟩
          · simp only [List.map_cons, e1, q, if_false]
            exact ⟨by rw [← i1], .cons h i2⟩
  unfold putK putD
  rw [any_keys hk]
  split
  · exact rep hk hs
  · constructor
    · simp [hk]
    · simp only [List.map_append, List.map_cons, List.map_nil]
      exact hs.app (.one h)
def sPutD (i : Nat) (f g : WE) : WS := fun ε N => ∃ kvs, ε[i]? = some (some (.own (.dct kvs))) ∧ f ε (fun d => g ε (fun y => ∃ k, keyD y = some k ∧ kvs.length < sizeLine ∧ N.nx (ε.set i (some (.own (.dct (putD kvs k d)))))) (fun x => N.ex x ε)) (fun x => N.ex x ε)
theorem psPutD (i : Nat) (p : PS X st (sDPut (tVar i) (tE X.K F W g) (tE X.K F W f))) : PS X st (tS X.K F W (sPutD i f g)) :=
  imS p fun D σ H ⟨π, A, ε, N, R, ⟨kvs, hx, z⟩, h1, h2, h3, h4, h5⟩ => by
    obtain ⟨q, e1, e2, e3, kws, e5, ek, e6⟩ := R.own i _ hx
    refine ⟨π, A, ε, _, _, R, xw_of R h5, z, fun d v H1 pd g1 j1 b1 => ?_⟩
    have R1 := R.grow g1 j1
    refine ⟨.ref q, e1, π, A, ε, _, _, R1, (xw_of R h5).grow g1, pd, fun y u H2 py g2 j2 b2 => ?_⟩
    obtain ⟨k, hk, hl, nx⟩ := py
    have gg := g1.trans g2
    have e5' : H2 q = some (.dK kws) := gg q _ e5 (F.nm e3)
    have hlen : kws.length = kvs.length := by simpa using congrArg List.length ek
    have hu : u = kV k := keyD_kV hk (b2.bor R.am)
    subst hu
    obtain ⟨k1, k2⟩ := putD_of (k := k) ek (e6.mono gg R.am fun _ z => z) (b1.mono g2 R.am fun _ z => z)
    exact ⟨q, _, rfl, DPut.k e5' (by rw [hlen]; exact hl), h1 A _ σ _ nx ((R1.grow g2 j2).put hx e1 ⟨_, upd_same, k1, k2.keep (.put e2)⟩)⟩
/-- a dict display, its keys written texts -/
def dctW (fs : List (Str × WE)) (acc : List (Key × D)) (ε : Ev) (P : List (Key × D) → Prop) (Z : Ex → Prop) : Prop := match fs with
  | [] => P acc
  | (x, f) :: r => f ε (fun d => dctW r (acc ++ [(.inr x, d)]) ε P Z) Z
def oDct (fs : List (Str × WE)) : WO := fun ε P Z => dctW fs [] ε (fun kvs => P (.dct kvs)) Z
def trsOf (K : PySem.W.Frag) (F : Fx) (W : WX) (fs : List (Str × WE)) : List (TE × TE) := fs.map fun p => (tC (.str p.1), tE K F W p.2)
theorem pairs_run {K : PySem.W.Frag} {π : List D × List V} {A : Addr → Prop} {σ : L2.St} {ε : Ev} {Z : Ex → Prop} {P : List (Key × D) → Prop} {Q : List (V × V) → Hp → Prop} : ∀ {fs : List (Str × WE)} {H : Hp} {acc : List (Key × D)} {accv : List (Key × V)}, Rel K F π A σ H ε → XW K F W A σ H Z →
    accv.map (·.1) = acc.map (·.1) → Dats K A H (acc.map (·.2)) (accv.map (·.2)) → dctW fs acc ε P Z →
    (∀ kvs (kws : List (Key × V)) (more : List (Key × V)) H', P kvs → Grow F.m H H' → F.m.J H' → kws = accv ++ more → more.map (·.1) = fs.map (fun p => Sum.inr p.1) → kws.map (·.1) = kvs.map (·.1) → Dats K A H' (kvs.map (·.2)) (kws.map (·.2)) → Q (more.map fun kv => (kV kv.1, kv.2)) H') →
    tPairs (trsOf K F W fs) σ H Q
  | [], H, acc, accv, R, w, hk, hd, z, q => q acc accv [] H z (.refl _ _) R.j (by simp) rfl hk hd
  | (x, f) :: fs, H, acc, accv, R, w, hk, hd, z, q => by
    show tPairs ((tC (.str x), tE K F W f) :: trsOf K F W fs) σ H Q
    unfold tPairs
    refine ⟨π, A, ε, _, Z, R, w, z, fun d v H1 pd g1 j1 b1 => ?_⟩
    refine pairs_run (fs := fs) (acc := acc ++ [(.inr x, d)]) (accv := accv ++ [(.inr x, v)]) (R.grow g1 j1) (w.grow g1) (by simp [hk]) (by
      simp only [List.map_append, List.map_cons, List.map_nil]
      exact (hd.mono g1 R.am fun _ z => z).app (.one b1)) pd fun kvs kws more H' p g j e1 e2 e3 e4 => ?_
    have := q kvs kws ((.inr x, v) :: more) H' p (g1.trans g) j (by rw [e1, List.append_assoc]; rfl) (by simp [e2]) e3 e4
    exact this
theorem mergeK_nodup : ∀ {more kvs : List (Key × V)}, ((kvs ++ more).map (·.1)).Nodup → mergeK kvs more = kvs ++ more
  | [], kvs, _ => by simp [mergeK]
  | p :: more, kvs, h => by
    show mergeK (putK kvs p.1 p.2) more = _
    have hn : (kvs.any fun kv => decide (kv.1 = p.1)) = false := by
      rw [List.any_eq_false]
      intro kv hkv hc
      have hc' : kv.1 = p.1 := by simpa using hc
      rw [List.map_append, List.nodup_append] at h
      exact h.2.2 kv.1 (List.mem_map.mpr ⟨kv, hkv, rfl⟩) p.1 (by simp) hc'
    have e : putK kvs p.1 p.2 = kvs ++ [p] := by
      unfold putK
      rw [hn]
      simp
    rw [e, mergeK_nodup (by simpa using h)]
    simp
theorem doDct {keys : List (Option Expr)} {values : List Expr} {fs : List (Str × WE)} (hd : (fs.map (·.1)).Nodup) (hl : fs.length ≤ 15) (p : PE X e (tDisp (trsOf X.K F W fs))) : PE X e (tO X.K F W (oDct fs)) :=
  imE p fun σ H Q ⟨π, A, ε, P, Z, R, w, z, q⟩ a ha => by
    have w' : XW X.K F W (fun b => A b ∨ b = a) σ (upd H a (.dK [])) Z := fun x cls dd H' zx g j e => w x cls dd H' zx (by
      intro b o hb nb
      exact g b o (by rw [upd_ne (ne_of_none hb ha)]; exact hb) nb) j (e.mono fun _ z => .inl z)
    refine pairs_run (π := π) (acc := []) (accv := []) (R.wide (p := a) (u := .dK []) ha) w' rfl .nil z fun kvs kws more H2 pk g j e1 e2 e3 e4 => ?_
    have nm : ¬ F.m.M a := fun z => (R.fresh ha).2 (R.am a z)
    refine ⟨g a _ upd_same nm, kws, ?_, ?_, ?_⟩
    · rw [e1]; rfl
    · have : kws.length = fs.length := by
        have := congrArg List.length e2
        rw [e1]
        simpa using this
      omega
    · have nd : (kws.map (·.1)).Nodup := by
        have : kws.map (·.1) = fs.map (fun p => (Sum.inr p.1 : Key)) := by rw [e1]; simpa using e2
        rw [this]
        have : fs.map (fun p => (Sum.inr p.1 : Key)) = (fs.map (·.1)).map Sum.inr := by simp
        rw [this]
        exact List.Pairwise.map _ (fun _ _ n e => n (Sum.inr.inj e)) hd
      rw [mergeK_nodup (by simpa using nd), List.nil_append]
      refine q _ a _ pk (fun b o hb nb => ?_) (F.m.st H2 _ (fun b z => upd_ne fun q => nm (q ▸ z)) (fun b φ e => (upd_ne fun (q : b = a) => by rw [q, g a _ upd_same nm] at e; cases e).trans e) j) ha ⟨kws, upd_same, e3, e4.keep (.put (.inr rfl))⟩
      have hba := ne_of_none hb ha
      rw [upd_ne hba]
      exact g b o (by rw [upd_ne hba]; exact hb) nb
end
end DW

namespace DW
open PySem PySem.Spec PyProof.Rows L2 Builtin Builtin.ObjectAttr
/-! ### own exception classes, over ValueError and over LookupError -/
def ecB (K : PySem.W.Frag) (C : Addr) (B newId : String) (bmB : List Value) : Bool :=
  PySem.W.excInitIn K C bmB newId && (PySem.W.excOver K C bmB && (PySem.W.hasDictIn K C && (decide (PySem.W.findIn K (.ref C) "__setattr__" = some (some (.builtin "object.__setattr__"))) &&
  (decide (PySem.W.findIn K (.ref C) "__getattribute__" = some (some (.builtin "BaseException.__getattribute__"))) && (decide (PySem.W.findIn K (.ref C) "__getattr__" = some none) &&
  (decide (PySem.W.subIn K (.ref C) (.type "BaseException") = some true) && (decide (PySem.W.subIn K (.ref C) (.type B) = some true) && (decide (PySem.W.typeIn K (.ref C) = some (.type "type")) && (PySem.W.keepIn K (.ref C) &&
  (decide (PySem.W.findIn K (.ref C) "__class__" = some (some (.builtin "object.__class__"))) && (decide (PySem.W.specialIn K (.builtin "object.__class__") "__get__" = some (some (.builtin "getset_descriptor.__get__"))) &&
  (decide (PySem.W.takesIn K (.builtin "object.__class__") = some true) && (decide (PySem.W.mroIn K C (.type "object") = some true) && decide (PySem.W.nsIn K cStatics "thirdparty.any" = some none))))))))))))))
/-- what is known of such a class C: its base B, and what the written part says (ecB) -/
structure EC (K : PySem.W.Frag) (C : Addr) (B newId initId : String) (bmB : List Value) : Prop where
  eb : ExcBaseFacts B newId initId bmB
  kx : PySem.W.KxsFacts B initId
  st : StoreFacts B bmB "object.__setattr__" "object"
  said : ecB K C B newId bmB = true
section
variable {K : PySem.W.Frag} {C : Addr} {B newId initId : String} {bmB : List Value} (T : EC K C B newId initId bmB)
include T
theorem EC.split : (PySem.W.excInitIn K C bmB newId = true ∧ PySem.W.excOver K C bmB = true ∧ PySem.W.hasDictIn K C = true ∧ PySem.W.findIn K (.ref C) "__setattr__" = some (some (.builtin "object.__setattr__"))) ∧
    (PySem.W.findIn K (.ref C) "__getattribute__" = some (some (.builtin "BaseException.__getattribute__")) ∧ PySem.W.findIn K (.ref C) "__getattr__" = some none ∧ PySem.W.subIn K (.ref C) (.type "BaseException") = some true ∧ PySem.W.subIn K (.ref C) (.type B) = some true) ∧
    (PySem.W.typeIn K (.ref C) = some (.type "type") ∧ PySem.W.keepIn K (.ref C) = true ∧ PySem.W.findIn K (.ref C) "__class__" = some (some (.builtin "object.__class__"))) ∧
    PySem.W.specialIn K (.builtin "object.__class__") "__get__" = some (some (.builtin "getset_descriptor.__get__")) ∧ PySem.W.takesIn K (.builtin "object.__class__") = some true ∧ PySem.W.mroIn K C (.type "object") = some true ∧ PySem.W.nsIn K cStatics "thirdparty.any" = some none := by
  simpa only [ecB, Bool.and_eq_true, decide_eq_true_eq, and_assoc] using T.said
theorem EC.ini : PySem.W.excInitIn K C bmB newId = true := T.split.1.1
theorem EC.ov : PySem.W.excOver K C bmB = true := T.split.1.2.1
theorem EC.hd : PySem.W.hasDictIn K C = true := T.split.1.2.2.1
theorem EC.sa : PySem.W.findIn K (.ref C) "__setattr__" = some (some (.builtin "object.__setattr__")) := T.split.1.2.2.2
theorem EC.ga : PySem.W.findIn K (.ref C) "__getattribute__" = some (some (.builtin "BaseException.__getattribute__")) := T.split.2.1.1
theorem EC.gg : PySem.W.findIn K (.ref C) "__getattr__" = some none := T.split.2.1.2.1
theorem EC.exC : PySem.W.subIn K (.ref C) (.type "BaseException") = some true := T.split.2.1.2.2.1
theorem EC.isB : PySem.W.subIn K (.ref C) (.type B) = some true := T.split.2.1.2.2.2
theorem EC.tyC : PySem.W.typeIn K (.ref C) = some (.type "type") := T.split.2.2.1.1
theorem EC.kC : PySem.W.keepIn K (.ref C) = true := T.split.2.2.1.2.1
theorem EC.cl : PySem.W.findIn K (.ref C) "__class__" = some (some (.builtin "object.__class__")) := T.split.2.2.1.2.2
theorem EC.sp : PySem.W.specialIn K (.builtin "object.__class__") "__get__" = some (some (.builtin "getset_descriptor.__get__")) := T.split.2.2.2.1
theorem EC.tk : PySem.W.takesIn K (.builtin "object.__class__") = some true := T.split.2.2.2.2.1
theorem EC.mo : PySem.W.mroIn K C (.type "object") = some true := T.split.2.2.2.2.2.1
theorem EC.op : PySem.W.nsIn K cStatics "thirdparty.any" = some none := T.split.2.2.2.2.2.2
end
theorem ec_by {K : PySem.W.Frag} {C : Addr} {B newId initId : String} {bmB : List Value} (eb : ExcBaseFacts B newId initId bmB) (kx : PySem.W.KxsFacts B initId) (st : StoreFacts B bmB "object.__setattr__" "object") (h : ecB K C B newId bmB = true) : EC K C B newId initId bmB := ⟨eb, kx, st, h⟩
theorem ec_le {K : PySem.W.Frag} {C : Addr} (h : ecB K C "LookupError" "LookupError.__new__" [.type "LookupError", .type "Exception", .type "BaseException", .type "object"] = true) :
    EC K C "LookupError" "LookupError.__new__" "LookupError.__init__" [.type "LookupError", .type "Exception", .type "BaseException", .type "object"] := ec_by PySem.F.excBase_LookupError PySem.W.kxs_LookupError PySem.F.store_LookupError h
section
variable {K : PySem.W.Frag} {C : Addr} {B newId initId : String} {bmB : List Value} {prog : Program} {w : World} {Ar : Around} {R : Result → Shared → Prop} {hp : Heap} {gs : Array GenState} {dr : Drawn} {tt : Nat} {os : OsState}
theorem osaFirst {name : Str} {tk : Tok} {v : Value} {x : Addr} {fv : Array Value} (T : EC K C B newId initId bmB) (X : K.In hp) (hx : hp.get? x = some { cls := .ref C, data := .fields fv }) (ha : PySem.W.findIn K (.ref C) name = some none)
    (hq : ∀ hp' tk' dx, (∀ b o, b ≠ x → hp.get? b = some o → hp'.get? b = some o) → hp.objs.size ≤ dx → dx ≠ x → hp'.get? x = some { cls := .ref C, dict := some dx, data := .fields fv } →
      hp'.Ns1 dx (fun y => if y = name then some v else none) → R (.ok (.ret .none)) ⟨hp', gs, dr, tk', os⟩) :
    codeAny (model prog w) Ar (.call (.builtin "object.__setattr__") ⟨[.ref x, .str name tk, v], []⟩) R ⟨hp, gs, dr, tt, os⟩ := by
  obtain ⟨cd, hcd, hh⟩ := PySem.W.any_some T.hd
  have ne : x ≠ hp.objs.size := Nat.ne_of_lt (Heap.lt_size hx)
  have lc : PySem.W.Looks (model prog w) hp (classData C) cd := PySem.W.looks_clsIn X hcd
  refine PySem.W.osa_openX (s := ⟨hp, gs, dr, tt, os⟩) (od := none) (r := none) T.st X ⟨hx, rfl, rfl, trivial⟩ T.ov (by unfold PySem.W.takerIn; rw [ha] <;> rfl) fun bb => ?_
  dsimp only
  cases cd with
  | mk c1 c2 c3 c4 c5 c6 c7 c8 c9 c10 c11 =>
    dsimp only at hh
    subst hh
    simp only [storeInOwnDict, ownDictForStores]
    repeat (first | (with_reducible refine PySem.HandSPX.store_in_new ?_ ?_) | (with_reducible refine wpAny_loadPart_at hx ?_) | (with_reducible refine lc.at ?_) | wp_step)
    · exact ⟨_, #[], _, (Heap.get?_update_ne _ _ _ _ ne.symm).trans (Heap.get?_push_at rfl rfl), rfl, fun _ z => absurd z (by simp), fun _ => rfl⟩
    · intro hp' tk' n s
      have q := Heap.get?_push_of_some ({ cls := .type "dict", data := .dict #[] } : Obj) hx
      exact hq hp' tk' _ (fun b o z e => (s.2 b (Nat.ne_of_lt (Heap.lt_size e))).trans ((Heap.get?_update_ne _ _ _ _ z).trans (Heap.get?_push_of_some _ e))) (Nat.le_refl _) ne.symm ((s.2 x ne).trans (Heap.get?_update_self _ q rfl)) n
theorem osaMore {name : Str} {tk : Tok} {v : Value} {x dx : Addr} {fv : Array Value} {m0 : Str → Option Value} {nl : List Str} (T : EC K C B newId initId bmB) (X : K.In hp) (hx : hp.get? x = some { cls := .ref C, dict := some dx, data := .fields fv })
    (hns : hp.Ns1 dx m0) (hw : Within m0 nl) (hz : nl.length ≤ 1000) (ha : PySem.W.findIn K (.ref C) name = some none)
    (hq : ∀ hp' tk', (∀ b o, b ≠ dx → hp.get? b = some o → hp'.get? b = some o) → hp'.Ns1 dx (fun y => if y = name then some v else m0 y) → R (.ok (.ret .none)) ⟨hp', gs, dr, tk', os⟩) :
    codeAny (model prog w) Ar (.call (.builtin "object.__setattr__") ⟨[.ref x, .str name tk, v], []⟩) R ⟨hp, gs, dr, tt, os⟩ := by
  obtain ⟨cd, hcd, hh⟩ := PySem.W.any_some T.hd
  obtain ⟨oD, x1, x2, hoD, _⟩ := hns.count hw
  have lc : PySem.W.Looks (model prog w) hp (classData C) cd := PySem.W.looks_clsIn X hcd
  refine PySem.W.osa_openX (s := ⟨hp, gs, dr, tt, os⟩) (od := some oD) (r := none) T.st X ⟨hx, rfl, rfl, hoD⟩ T.ov (by unfold PySem.W.takerIn; rw [ha] <;> rfl) fun bb => ?_
  dsimp only
  cases cd with
  | mk c1 c2 c3 c4 c5 c6 c7 c8 c9 c10 c11 =>
    dsimp only at hh
    subst hh
    simp only [storeInOwnDict, ownDictForStores]
    repeat (first | (with_reducible refine PySem.OEX.store_in_old hns hw hz ?_) | (with_reducible refine wpAny_loadPart_at hx ?_) | (with_reducible refine lc.at ?_) | wp_step)
    intro hp' tk' n s
    exact hq hp' tk' (fun b o z e => (s.2 b z).trans e) n
end
/-! ### self.f = v, over the abstract heap -/
section
variable {X : Cx} {pins : List (Addr × Obj)} {σ : L2.St} {H : Hp} {s : Shared} {a C dx : Addr} {f : Str} {y : V} {u : Value} {fs : List (Str × V)} {Q : Unit → Shared → Prop} {E : Value → Shared → Prop} {Ar : Around} {B newId initId : String} {bmB : List Value}
abbrev exRec (C t1 : Addr) (d : Option Addr) : Obj := { cls := .ref C, dict := d, data := .fields #[.ref t1, .none, .none, .none, .bool false, .none] }
theorem stFirst (T : EC X.K C B newId initId bmB) (I : Inv X pins σ H s) (e : H a = some (exo a C none)) (hno : PySem.W.findIn X.K (.ref C) f = some none) (ry : RelV y u)
    (h : ∀ dx s', H dx = none → dx ≠ a → Inv X pins σ (upd (upd H dx (exd dx [(f, y)])) a (exo a C (some dx))) s' → Q () s') : wpAny (model X.prog X.w) Ar (setAttr (.ref a) f u) Q E s := by
  obtain ⟨t1, ho⟩ : ∃ t1, s.heap.get? a = some (exRec C t1 _) := exo_at I.hok e
  cases s with
  | mk hp gs dr tt os =>
    refine PySem.W.set_plain (ox := exRec C t1 none) (od := none) I.kIn ⟨ho, rfl, rfl, trivial⟩ T.sa (osaFirst T I.kIn ho hno fun hp' tk' dx k dn dne hx hn => ?_)
    have fr : H dx = none := I.hok.fresh dn
    have far : ∀ b o, hp.get? b = some o → b ≠ dx := fun b o q z => absurd (Heap.lt_size q) (by rw [z]; exact Nat.not_lt.mpr dn)
    have off : ∀ b, H b = none → b ≠ a := fun b n z => by rw [z, e] at n; cases n
    have two : ∀ b o, H b = some o → exo a C none ≠ o → b ≠ a ∧ b ≠ dx := fun b o q d => ⟨at_ne e q d, fun z => by rw [z, fr] at q; cases q⟩
    have same : ∀ b, b ≠ a → b ≠ dx → upd (upd H dx (exd dx [(f, y)])) a (exo a C (some dx)) b = H b := fun b h1 h2 => by rw [upd_ne h1, upd_ne h2]
    refine h dx _ fr dne (I.un (t' := tk') ⟨fun b o q n _ _ => k b o (off b n) q, fun b o q n _ _ => ⟨o.slots, k b o (off b n) q⟩, fun b o q n _ => (same b (off b n) (far b o q)).trans n, fun b o q _ => ?_,
      fun b xs q => (same b (two b _ q exo_tup).1 (two b _ q exo_tup).2).trans q, fun b o v q => (same b (two b _ q exo_frz).1 (two b _ q exo_frz).2).trans q,
      fun b ps q => ⟨#[], by rw [same b (two b _ q exo_tbl).1 (two b _ q exo_tbl).2, q, Array.append_empty]⟩⟩ fun b o q => ?_)
    · by_cases z : b = a
      · exact ⟨_, z ▸ hx⟩
      · exact ⟨o, k b o z q⟩
    · by_cases z1 : b = a
      · subst z1
        rw [upd_same] at q; cases q
        exact exo_ok hx
      · by_cases z2 : b = dx
        · subst z2
          rw [upd_ne z1, upd_same] at q; cases q
          exact exd_ok hn (relO_put (fs := []) ry fun _ => True.intro)
        · rw [same b z1 z2] at q
          refine (I.hok b o q).stay (fun c v hc r => k c v ?_ r) (fun c hc => (same c (two c _ hc exo_own).1 (two c _ hc exo_own).2).trans hc) fun c xs hc => (same c (two c _ hc exo_tup).1 (two c _ hc exo_tup).2).trans hc
          rcases hc with hc | hc
          · rw [hc]; exact z1
          · exact (two c _ hc exo_own).1
theorem stMore (T : EC X.K C B newId initId bmB) (I : Inv X pins σ H s) (e : H a = some (exo a C (some dx))) (ed : H dx = some (exd dx fs)) (hl : fs.length ≤ 900) (hno : PySem.W.findIn X.K (.ref C) f = some none) (ry : RelV y u)
    (h : ∀ s', Inv X pins σ (upd H dx (exd dx ((f, y) :: fs))) s' → Q () s') : wpAny (model X.prog X.w) Ar (setAttr (.ref a) f u) Q E s := by
  obtain ⟨t1, ho⟩ : ∃ t1, s.heap.get? a = some (exRec C t1 _) := exo_at I.hok e
  obtain ⟨m, hns, rel⟩ := exd_at I.hok ed
  have hw := within_of rel
  obtain ⟨oD, x1, x2, hoD, _⟩ := hns.count hw
  cases s with
  | mk hp gs dr tt os =>
    refine PySem.W.set_plain (ox := exRec C t1 (some dx)) (od := some oD) I.kIn ⟨ho, rfl, rfl, hoD⟩ T.sa (osaMore T I.kIn ho hns hw (by rw [List.length_map]; omega) hno fun hp' tk' k hn => ?_)
    have hd : ∃ o, hp'.get? dx = some o := let ⟨o, _, _, q, _⟩ := hn; ⟨o, q⟩
    have ok := exd_ok (P := X.prog) (w := X.w) (H := upd H dx (exd dx ((f, y) :: fs))) hn (relO_put ry rel)
    exact h _ (I.write (t' := tk') (x := dx) (e := dx) (by rw [ed]; trivial) (.inl rfl) k hd ok)
end
end DW

namespace DW
open L2 PyProof.Rows PySem.Spec PySem
/-! ### short words for what a reading asks of the written expression, and one way to end every call -/
abbrev Lone (X : Cx) (e : Expr) (es : List Expr) : Prop := starEach (e :: es) X.env = (false, eval e X.env) :: starEach es X.env
abbrev NoStar (X : Cx) (pos : Pos) (es : List Expr) : Prop := (backTo pos (starEach es X.env)).any (·.1) = false
/-- the reading of o.m(..): o, then the method, then the arguments -/
abbrev MEq (X : Cx) (pl : Sem Bool) (o : Expr) (m : Str) (apos pos : Pos) (es : List Expr) : Prop :=
  eval (.Call (.Attribute o m apos) es [] pos) X.env = (eval o X.env >>= fun ov => standAt apos.atName >>= fun _ => holding [ov] (getMethod ov m pl) >>= fun z => callWith pos z.1 z.2 (backTo pos (starEach es X.env)) (backToKw pos (keywordEach [] X.env)))
/-- a call ends with a value or with an exception, and no other way -/
theorem cr_ends {CT : CXT} {P : Program} {w : World} {outer : List Env} {H : Hp} {s s' : Shared} {Q : VK} {E : XK} : ∀ {r : Result}, CR CT outer P w H s Q E r s' → (∃ u, r = .ok (.ret u) ∧ CE outer P w H s Q u s') ∨ ∃ er, r = .error er ∧ CT outer H s E er s'
  | .ok (.ret u), z => .inl ⟨u, rfl, z⟩
  | .error er, z => .inr ⟨er, rfl, z⟩
/-- what a callee's heap has of the written part -/
theorem e0_in {P : Program} {w : World} {K : PySem.W.Frag} {mg : Str → Option Value} {base : Heap} {A : Around} {outer : List Env} {s : Shared} {H : Hp} (z : Env0 P w K mg base A outer s H) : K.In s.heap ∧ s.heap.NoLimit :=
  ⟨z.mod.kin.keeps fun b o y => (z.bs b o y).1, z.mod.nolimit.keeps fun b o y => (z.bs b o y).1⟩
section
variable {X : Cx} {CT : CXT} {E : XK} {pins : List (Addr × Obj)} {σ : L2.St} {H : Hp} {s : Shared} {Q : VK} {kw : List (Str × Value)}
/-- what runs as a call is a call's reading -/
theorem called {f : Value} {us : List Value} (hx : PassesAt CT X σ E) (I : Inv X pins σ H s) (run : codeAny (model X.prog X.w) X.A (.call f ⟨us, kw⟩) (CR CT X.stack X.prog X.w H s Q E) s) : wpAny (model X.prog X.w) X.A (call f us kw) (EP X pins σ Q) X.xe s := by
  refine wpAny_call (codeAny_mono run fun o s' z => ?_)
  rcases cr_ends z with ⟨u, rfl, z⟩ | ⟨er, rfl, z⟩
  · exact I.after z
  · exact hx pins H s er s' I z
/-- C(..), whatever stands in the brackets: ws is what __init__ is handed -/
theorem make_at {sp : Sp} {C f : Addr} {fd : FuncData} {ps : List Str} {k : Nat} {us ws : List Value} {zs : List V} (M : Mk X.K C f) (Fn : FnOk X.prog X.w X.K X.mg X.base CT k f fd ps sp) (hr : Room (k + 1) X.A) (hx : PassesAt CT X σ E) (I : Inv X pins σ H s)
    (b : ∀ s1 : Shared, X.K.In s1.heap → BindsTo s1 fd ⟨.ref (s.heap.objs.size + 1) :: us, kw⟩ (ps.zip ws)) (rz : Vals zs ws)
    (h : sp zs (upd (upd H s.heap.objs.size (.own (s.heap.objs.size + 1))) (s.heap.objs.size + 1) (.ins C s.heap.objs.size [])) (fun v H2 => v = .non ∧ Q (.ref (s.heap.objs.size + 1)) H2) E) :
    wpAny (model X.prog X.w) X.A (call (.ref C) us kw) (EP X pins σ Q) X.xe s := by
  have J := Inv.made (C := C) I
  refine wpAny_call (make_map (f := f) I.kIn M.makes M.init (beq_iff_eq.mp M.fn) (codeAny_mono (Fn.run _ X.stack _ _ _ ws _ _ E (hr.make C us kw) (J.env0.make C us kw) (b _ J.kIn) rz h) fun o s' z => ?_))
  rcases cr_ends z with ⟨u, rfl, z⟩ | ⟨er, rfl, z⟩
  · obtain ⟨v, H', I3, rv, hv, q⟩ := J.after z
    subst hv
    exact ⟨rv, .ref _, H', I3, rfl, q⟩
  · exact hx pins _ _ er s' J z
/-- two addresses that the heap has not yet -/
theorem two_new (I : Inv X pins σ H s) : H (s.heap.objs.size + 1) = none ∧ H s.heap.objs.size = none ∧ s.heap.objs.size ≠ s.heap.objs.size + 1 :=
  ⟨I.hok.fresh (Nat.le_succ _), I.hok.fresh (Nat.le_refl _), Nat.ne_of_lt (Nat.lt_succ_self _)⟩
variable {e : Expr} {es : List Expr} {x : Str} {p pos : Pos} {g : Addr} {t : TA} {R : Value → Shared → Prop} {Q1 : List V → Hp → Prop}
/-- x(e, ..), x a name that means the object g of the written part -/
theorem named (hg : Gl X x) (hm : X.mg x = some (.ref g)) (hk : PySem.W.keepIn X.K (.ref g) = true) (ha : PA X (e :: es) t) (I : Inv X pins σ H s) (h : t σ H Q1)
    (go : ∀ us s1 vs H1, Inv X pins σ H1 s1 → Vals vs us → Q1 vs H1 → wpAny (model X.prog X.w) X.A (call (.ref g) us) R X.xe s1) (hdb : (x == ("__debug__" : Str)) = false) (he : Lone X e es) (hpl : NoStar X pos es) :
    wpAny (model X.prog X.w) X.A (eval (.Call (.Name x p) (e :: es) [] pos) X.env) R X.xe s :=
  wpAny_Call_Name_kw (ld_glob I hg hm (PySem.W.callWith_K (h₀ := X.base) I.ok.mod.kin hk (thn (ha.run pos pins s σ H _ I h) fun us s1 ⟨vs, H1, I1, r, q⟩ => ⟨I1.kIn, go us s1 vs H1 I1 r q⟩) he hpl) hdb)
end
end DW

namespace DW
open PySem PySem.Spec PyProof.Rows L2 NdefX
/-! ### super().__init__(..) -/
section
variable {X : Cx} {pins : List (Addr × Obj)} {σ : L2.St} {H : Hp} {s : Shared} {a C u : Addr} {d : Option Addr} {us : List Value} {Q : Value → Shared → Prop} {E : Value → Shared → Prop} {Ar : Around} {B newId initId : String} {bmB : List Value}
theorem callMw (T : EC X.K C B newId initId bmB) (I : Inv X pins σ H s) (e : H a = some (exo a C d)) (hu : s.heap.get? u = some (PySem.W.kxs_mw initId a)) (hl : us.length ≤ sizeLine) (h : ∀ s', Inv X pins σ H s' → Q .none s') :
    wpAny (model X.prog X.w) Ar (call (.ref u) us) Q E s := by
  obtain ⟨t1, he⟩ := exo_at I.hok e
  obtain ⟨nm, N', qn, bs, bm, hdct, sn, sub, ab, col, dd, k0, k1, k2, k3, k5, hC, hT⟩ := PySem.W.excInit_of I.kIn T.ini
  cases s with
  | mk hp gs dr tt os =>
    have c1 : (Value.type "method-wrapper" == Value.type "method" || Value.type "method-wrapper" == Value.type "builtin_function_or_method" || Value.type "method-wrapper" == Value.type "method-wrapper") = true := by decide
    suffices z : wpAny (model X.prog X.w) Ar.in1 (callAny (.ref u) ⟨us, []⟩) _ _ _ from wpAny_call (codeAny_of_tree z)
    unfold callAny
    apply wpAny_bind
    apply wpAny_load hu
    simp only [PySem.W.kxs_mw, c1, if_true]
    refine PySem.W.KFB.if_so (by decide) (wpAny_bind (PySem.W.check_bound_init T.eb.toExcCallFacts hC he rfl ?_))
    refine wpAny_bind (wpAny_pure (wpAny_pure ⟨plainId_quiet T.eb.init.plain _, codeAny_builtin T.eb.initEntry ?_⟩))
    refine PySem.W.exc_init_tree (cls := .ref C) (t0 := t1) (dv := d) (c2 := .none) (c3 := .none) (b4 := .bool false) he hl fun hp' k e' _ => ?_
    have J := I.write (t' := tt) (x := a) (e := a) (o := exo a C d) (by rw [e]; exact True.intro) (.inl rfl) k ⟨_, e'⟩ (exo_ok e')
    have eu : upd H a (exo a C d) = H := funext fun b => by
      by_cases z : b = a
      · rw [z, upd_same, e]
      · rw [upd_ne z]
    rw [eu] at J
    exact h _ J
end
/-- super().__init__(..), as it is read -/
abbrev supX (p0 p1 : Pos) : Expr := .Call (.Name "super" p0) [] [] p1
abbrev SupEq (env : Env) (pl : Sem Bool) (p0 p1 p2 pos : Pos) (es : List Expr) : Prop :=
  eval (.Call (.Attribute (supX p0 p1) "__init__" p2) es [] pos) env = (attributeBase (supX p0 p1) "__init__" env (eval (supX p0 p1) env) >>= fun ov => standAt p2.atName >>= fun _ => holding [ov] (getMethod ov "__init__" pl) >>= fun z => callWith pos z.1 z.2 (backTo pos (starEach es env)) [])
/-- the words of an own exception's __init__ -/
abbrev iNF (name qual : Str) (params : Arguments) (body : List Stmt) (scope : Scope) (cc cda : Addr) : NF := ⟨name, qual, params, body, scope, [(("__class__" : Str), cc)], cda⟩
/-- what the written part says of it: fI its def, cc the cell of its class, cda its code -/
structure InC (K : PySem.W.Frag) (mg : Str → Option Value) (P : Program) (C fI : Addr) (fd : FuncData) (F : NF) (cc : Addr) (initId : String) : Prop where
  cl : F.cl = [(("__class__" : Str), cc)]
  lk : ∃ (oc : Value) (od : Option Addr) (an : Option Addr) (dV kV doc pm ct : Value) (osl : Array (Option Value)), K.lookup fI = some ⟨oc, od, .func fd, osl⟩ ∧ fd = PySem.W.ksFn F.name F.qual F.params F.body F.scope dV kV doc pm an (.ref F.c) ct cc
  code : ∃ (ccl : Value) (cdd : Option Addr) (vs : Array Value) (ccs : Array (Option Value)) (file : Str) (tf : Tok), K.lookup F.c = some ⟨ccl, cdd, .fields vs, ccs⟩ ∧ vs[2]? = some (.str file tf) ∧ ((P.main.file : Str) == file) = true
  cell : ∃ (cl : Value) (cld : Option Addr) (csl : Array (Option Value)), K.lookup cc = some ⟨cl, cld, .cell (some (.ref C)), csl⟩
  sup : PySem.W.ks_superIn K C C "__init__" = some (some (.builtin initId))
  mro : PySem.W.mroIn K C (.ref C) = some true
  ms : mg "super" = none
  ks : F.scope.names.lookup ("super" : Str) = some .globalImplicit
  kc : F.scope.names.lookup ("__class__" : Str) = some .free
  kS : F.scope.names.lookup ("self" : Str) = some .local
  par : (F.params.posonlyargs ++ F.params.args).head?.map (·.arg) = some ("self" : Str)
  kd : F.scope.kind = .function
  top : (P.main.scope.names.lookup ("super" : Str)).isSome = false
section
variable {CX : CXT} {P : Program} {w : World} {K : PySem.W.Frag} {mg : Str → Option Value} {base : Heap} {N ps : List Str} {F : NF} {fd : FuncData} {fI cc C a : Addr} {Ar : Around} {outer : List Env} {s0 s : Shared} {H0 H : Hp} {E : XK} {σ : L2.St} {B newId initId : String} {bmB : List Value}
  {p0 p1 p2 pos : Pos} {e : Expr} {es : List Expr} {ta : TA} {D : Ends} {body rest : List Stmt}
theorem superStep (T : EC K C B newId initId bmB) (N_ : InC K mg P C fI fd F cc initId) (hN : N[0]? = some ("self" : Str)) (I : Inv (ncx CX P w K mg base N F fI Ar outer s0 H0 E) [] σ H s) (h0 : σ[0]? = some (some (.ref a))) (e0 : H a = some (exo a C none))
    (ha : PA (ncx CX P w K mg base N F fI Ar outer s0 H0 E) (e :: es) ta) (q : ta σ H fun vs H1 => vs.length ≤ 1000 ∧ H1 a = some (exo a C none) ∧ D.nx σ H1)
    (he : starEach (e :: es) (envF F fI s0.heap.objs.size) = (false, eval e (envF F fI s0.heap.objs.size)) :: starEach es (envF F fI s0.heap.objs.size) := by rfl) (hpl : (backTo pos (starEach es (envF F fI s0.heap.objs.size))).any (·.1) = false := by rfl)
    {pl : Sem Bool} (hc : SupEq (envF F fI s0.heap.objs.size) pl p0 p1 p2 pos (e :: es) := by rfl)
    (hi : interactive (envF F fI s0.heap.objs.size) = false := by rfl) (hs : swapsWith (.Call (.Attribute (.Call (.Name "super" p0) [] [] p1) "__init__" p2) (e :: es) [] pos) none pos.line (envF F fI s0.heap.objs.size) = pure false := by rfl) :
    _root_.PySem.wpAt (model P w) (Ar.deeper (envF F fI s0.heap.objs.size)) (.func F.body (envF F fI s0.heap.objs.size)) (exec (.Expr (.Call (.Attribute (.Call (.Name "super" p0) [] [] p1) "__init__" p2) (e :: es) [] pos) pos) (envF F fI s0.heap.objs.size))
      (SP (ncx CX P w K mg base N F fI Ar outer s0 H0 E) [] D) (ncx CX P w K mg base N F fI Ar outer s0 H0 E).xe s := by
  obtain ⟨oc, od, an, dV, kV, doc, pm, ct, osl, lk, rfl⟩ := N_.lk
  obtain ⟨ccl, cdd, vs, ccs, file, tf, lc, hv2, hfile⟩ := N_.code
  obtain ⟨cl, cld, csl, lcell⟩ := N_.cell
  obtain ⟨ar, har, hself⟩ := Option.map_eq_some_iff.mp N_.par
  obtain ⟨t1, ho⟩ := exo_at I.hok e0
  obtain ⟨cdC, hcd, _⟩ := PySem.W.any_some T.hd
  have KI : K.In s.heap := I.kIn
  have hkS : (envF F fI s0.heap.objs.size).kindOf "self" = some .local := N_.kS
  obtain ⟨m, hns, hl⟩ := id I.loc
  have vs0 : m "self" = some (.ref a) := by
    obtain ⟨u, ru, l⟩ := hl 0 "self" _ hN h0 (.inl N_.kS)
    cases (show u = .ref a from ru)
    rcases l with l | ⟨k, _⟩
    · exact l.2
    · have k : F.scope.names.lookup ("self" : Str) = some .cell ∨ F.scope.names.lookup ("self" : Str) = some .free := k
      rw [N_.kS] at k
      rcases k with k | k <;> cases k
  obtain ⟨oC, hC1, hC2⟩ : ∃ oC, s.heap.get? C = some oC ∧ oC.data = .cls cdC := by
    unfold PySem.W.clsIn at hcd
    split at hcd
    · rename_i ho
      cases hcd
      exact ⟨_, KI _ _ ho, rfl⟩
    · cases hcd
  have IA : PySem.W.InstAt s.heap a (exRec C t1 none) C none := ⟨ho, rfl, rfl, trivial⟩
  refine ks_wpAt_Expr_any (ks_wpAt_MethodCall ?_ hc) hi hs
  have hcl := N_.cl
  obtain ⟨Fn, Fq, Fp, Fb, Fs, Fcl, Fc⟩ := F
  dsimp only at hcl lk lc hkS N_ har
  subst hcl
  refine ks_wpAt_super_base (env := envF (iNF Fn Fq Fp Fb Fs cc Fc) fI s0.heap.objs.size) N_.ks N_.kc (by decide) rfl (KI _ _ lk) rfl har rfl (KI _ _ lc) rfl hv2 hfile N_.top ?_
  have hb := I.mod.blt
  obtain ⟨mb, hb1, hb2⟩ := hb
  refine PySem.W.ks_loadName_global N_.kd N_.ks (Calls.loadGlobal_builtin (env := envF (iNF Fn Fq Fp Fb Fs cc Fc) fI s0.heap.objs.size) (I.mod.glob.keeps I.bk) N_.ms (hb1.keeps I.bk) ((hb2 "super" (by decide)).trans (show bootBuiltins "super" = some (.type "super") from by first | boot_by_name | rfl | kernel_rfl)) ⟨rfl, ?_⟩)
  refine wpAny_loadName_free N_.kd N_.kc rfl ⟨_, KI _ _ lcell, rfl⟩ ?_
  rw [hself]
  refine wpAny_loadName_local N_.kd N_.kS hns vs0 ?_
  refine ks_wpAny_isType_cls hC1 hC2 ⟨rfl, ?_⟩
  cases s with
  | mk hp gs dr tt os =>
    refine ks_wpAny_call_super hC1 hC2 ho rfl (fun c e => by cases e) (PySem.W.looks_mroIn KI N_.mro) (fun hp' hso k => ?_)
    have I1 := I.kept (t' := tt) k
    obtain ⟨ho1, ho2⟩ := (⟨k _ _ ho, trivial⟩ : hp'.get? a = _ ∧ True)
    have IA1 : PySem.W.InstAt hp' a (exRec C t1 none) C none := ⟨ho1, rfl, rfl, trivial⟩
    have sup := N_.sup
    unfold PySem.W.ks_superIn at sup
    rw [hcd] at sup
    have KI1 : K.In hp' := I1.kIn
    refine PySem.W.kxs_getMethod T.kx (l₀ := cdC.mro) hso (PySem.W.looks_opaque KI1 T.op) (fun A Q E s k q => wpAny_bind ((PySem.W.looks_clsIn KI1 hcd) A _ E s k (wpAny_pure q))) rfl KI1 sup (IA1.type.andThen (PySem.W.looks_subIn KI1 T.isB)) (PySem.W.ks_ne KI1 IA1 hcd) (by decide) ?_
    have I2 : Inv _ [] σ H ⟨hp'.push (PySem.W.kxs_mw initId a), gs, dr, tt + 1, os⟩ := I1.kept (h' := hp'.push (PySem.W.kxs_mw initId a)) (t' := tt + 1) fun b o z => Heap.get?_push_of_some _ z
    have hu : (hp'.push (PySem.W.kxs_mw initId a)).get? hp'.objs.size = some (PySem.W.kxs_mw initId a) := Heap.get?_push_at rfl rfl
    have I3 := I2.pins_of (pins' := [(hp'.objs.size, PySem.W.kxs_mw initId a)]) fun p hp => by
      cases List.mem_singleton.mp hp
      exact ⟨hu, I1.hok.fresh (Nat.le_refl _), Nat.ne_of_gt I1.lt, I1.nofs (Nat.le_refl _), fun v z => by cases z⟩
    rw [he]
    refine PySem.W.kxs_callWith (i := initId) (x := a) (by show (false || (backTo pos (starEach es (envF (iNF Fn Fq Fp Fb Fs cc Fc) fI s0.heap.objs.size))).any (·.1)) = false; rw [hpl]; rfl) (PySem.Calls.evalArgs_plain ?_)
    have hrun : wpAny (model P w) (Ar.deeper (envF (iNF Fn Fq Fp Fb Fs cc Fc) fI s0.heap.objs.size)) (spliced (backTo pos (starEach (e :: es) (envF (iNF Fn Fq Fp Fb Fs cc Fc) fI s0.heap.objs.size)))) _ _ _ := ha.run pos _ _ σ H _ I3 q
    rw [he] at hrun
    refine thn hrun fun us s1 ⟨vs1, H1, J1, r1, hz, e1, nx⟩ => ?_
    refine ⟨(J1.pin _ (List.mem_append_right _ (List.mem_singleton.mpr rfl))).1, ?_⟩
    refine callMw T J1 e1 (J1.pin _ (List.mem_append_right _ (List.mem_singleton.mpr rfl))).1 (by show us.length ≤ sizeLine; rw [← Paired.length r1, sizeLine_eq]; omega) fun s' J2 => ?_
    exact ⟨σ, H1, J2.pins_of fun p hp => absurd hp (by simp), nx⟩
/-- an own exception's __init__ keeps its promise -/
theorem init_ok {k : Nat} {sp : Sp} (T : EC K C B newId initId bmB) (N_ : InC K mg P C fI fd F cc initId) (hcd : PySem.W.codeIn K (.ref F.c) F.qual = true) (S : NScope N ps [("__class__" : Str)] F.scope) (hN : N[0]? = some ("self" : Str)) (len : ∀ vs H Q E, sp vs H Q E → vs.length = ps.length)
    (hF : F.body = .Expr (.Call (.Attribute (.Call (.Name "super" p0) [] [] p1) "__init__" p2) (e :: es) [] pos) pos :: rest)
    (hbody : ∀ (Ar : Around) (outer : List Env) (s : Shared) (H : Hp) (vs : List V) (Q : VK) (E : XK), Room k (Ar.deeper (envF F fI s.heap.objs.size)) → sp vs H Q E → ∃ (a : Addr) (ta : TA) (t : TS), vs[0]? = some (.ref a) ∧ H a = some (exo a C none) ∧
      PA (ncx CX P w K mg base N F fI Ar outer s H E) (e :: es) ta ∧ PSs (ncx CX P w K mg base N F fI Ar outer s H E) rest t ∧
      ta (startF N vs [none]) H fun ws H1 => ws.length ≤ 1000 ∧ H1 a = some (exo a C none) ∧ t { nx := fun _ H' => Q .non H', rt := Q } (startF N vs [none]) H1)
    (he : ∀ L, starEach (e :: es) (envF F fI L) = (false, eval e (envF F fI L)) :: starEach es (envF F fI L) := by intro L; rfl) (hpl : ∀ L, (backTo pos (starEach es (envF F fI L))).any (·.1) = false := by intro L; rfl)
    {pl : Sem Bool} (hc : ∀ L, SupEq (envF F fI L) pl p0 p1 p2 pos (e :: es) := by intro L; rfl)
    (hi : ∀ L, interactive (envF F fI L) = false := by intro L; rfl) (hs : ∀ L, swapsWith (.Call (.Attribute (.Call (.Name "super" p0) [] [] p1) "__init__" p2) (e :: es) [] pos) none pos.line (envF F fI L) = pure false := by intro L; rfl) :
    FnOk P w K mg base CX (k + 1) fI fd ps sp := by
  obtain ⟨oc, od, an, dV, kV, doc, pm, ct, osl, lk, hfd⟩ := id N_.lk
  refine ⟨len, fun Ar outer s H args us vs Q E hr e0 hb r hsp => ?_⟩
  have hl := len _ _ _ _ hsp
  obtain ⟨KX, lim⟩ := e0_in e0
  obtain ⟨cl, cld, csl, lcell⟩ := N_.cell
  obtain ⟨a, ta, t, v0, ea, ha, ht, q⟩ := hbody Ar outer s H vs Q E (hr.deeper _) hsp
  have CA : CellsAt F.cl [("__class__" : Str)] [none] s.heap H := by
    rw [N_.cl]
    have one : ∀ y c, List.lookup y [(("__class__" : Str), cc)] = some c → y = ("__class__" : Str) ∧ c = cc := fun y c z => by
      have z := PySem.mem_of_lookup z
      simpa using z
    refine ⟨rfl, fun y c z => ?_, fun x y c z1 z2 => (one x c z1).1.trans (one y c z2).1.symm, fun i y z => ?_⟩
    · obtain ⟨_, rfl⟩ := one y c z
      have q := e0.bs _ _ (e0.mod.kin _ _ lcell)
      exact ⟨q.2, _, _, q.1, rfl⟩
    · match i with
      | 0 =>
        simp at z
        subst z
        exact ⟨cc, by simp [List.lookup], fun v hv => by simp at hv⟩
      | i + 1 => simp at z
  have hz : fd.scope = F.scope ∧ fd.body = .stmts F.body ∧ fd.code = .ref F.c ∧ fd.qualname = F.qual ∧ (∀ L, callEnv fd L fI = envF F fI L) := by
    have c := N_.cl
    subst hfd
    obtain ⟨f1, f2, f3, f4, f5, f6, f7⟩ := F
    dsimp only at c
    subst c
    exact ⟨rfl, rfl, rfl, rfl, fun _ => rfl⟩
  obtain ⟨z1, z2, z3, z4, z5⟩ := hz
  refine ks_codeAny_call_defAt (fd := fd) (body := F.body) (binds := ps.zip us) hr.depth (KX _ _ lk) rfl lim (by rw [z3, z4]; exact PySem.W.codeRec_of KX hcd) z2 hb (by rw [z1]; exact S.nocell) (fun x hx => by rw [z1]; exact S.par x.1 (List.of_mem_zip hx).1) (fun h₁ hns kp => ?_) (by rw [z1]; exact S.co) (by rw [z1]; exact S.gen) (by rw [z1]; exact S.kind)
  rw [z5]
  have I : Inv (ncx CX P w K mg base N F fI Ar outer s H E) [] (startF N vs [none]) H { s with heap := h₁, toks := s.toks + (ps.zip us).length } := inv_startN S hr.hd e0 hl r CA hns kp
  have s0 : (startF N vs [none])[0]? = some (some (.ref a)) := by
    unfold startF
    cases vs with
    | nil => simp at v0
    | cons v vs => simp at v0; subst v0; rfl
  rw [show execs F.body (envF F fI s.heap.objs.size) = execs (.Expr (.Call (.Attribute (.Call (.Name "super" p0) [] [] p1) "__init__" p2) (e :: es) [] pos) pos :: rest) (envF F fI s.heap.objs.size) from by rw [hF]]
  have fin : ∀ {σ' : L2.St} {H' : Hp} {v : V} {u : Value} {s' : Shared}, Inv (ncx CX P w K mg base N F fI Ar outer s H E) [] σ' H' s' → L2.RelV v u → Q v H' → CE outer P w H s Q u s' :=
    fun {σ' H' v u s'} J rv q => ⟨v, H', J.os, J.bare, J.base, J.hok, rv, q⟩
  have first := superStep (D := { nx := t { nx := fun _ H' => Q .non H', rt := Q }, rt := fun _ _ => False }) (pl := pl) T N_ hN I s0 ea ha q (he _) (hpl _) (hc _) (hi _) (hs _)
  refine ks_wpAt_execs_cons (_root_.PySem.wpAt_mono first (fun fl s' h => ?_) fun _ _ h => h)
  cases fl with
  | brk =>
    obtain ⟨_, _, _, z⟩ := h
    exact z.elim
  | cont =>
    obtain ⟨_, _, _, z⟩ := h
    exact z.elim
  | ret u =>
    obtain ⟨_, _, _, _, _, z⟩ := h
    exact z.elim
  | next =>
    obtain ⟨σ', H', J, z⟩ := h
    refine _root_.PySem.wpAt_of_wpAny (wpAny_mono (ht.run [] s' σ' H' _ J z) (fun fl s2 hs2 => ?_) fun e s' hs => hs)
    cases fl with
    | ret u =>
      obtain ⟨v, _, H2, J2, rv, q2⟩ := hs2
      exact fin J2 rv q2
    | next =>
      obtain ⟨_, H2, J2, q2⟩ := hs2
      exact fin (v := V.non) (u := Value.none) J2 rfl q2
    | brk =>
      obtain ⟨_, _, _, q2⟩ := hs2
      exact q2.elim
    | cont =>
      obtain ⟨_, _, _, q2⟩ := hs2
      exact q2.elim
end
end DW

namespace DW
open PySem PySem.Spec PyProof.Rows L2 NdefX
/-! ### texts of errors: some text, not too long -/
def Short (y : Str) : Prop := y.length ≤ 1000 ∧ ∀ c ∈ y.cps.toList, c < 0x110000
theorem hex {y : Str} (h : ∀ c ∈ y.cps.toList, c < 0x110000) : ∀ c ∈ y.cps.toList, c < 16 ^ 8 := fun c hc => Nat.lt_trans (h c hc) (by decide)
/-- a part of an f-string: some text of at most a hundred thousand signs, where ok says so -/
def tSm (ok : L2.St → Hp → Prop) : TE := fun σ H Q => ok σ H ∧ ∀ m : Str, m.length ≤ 100000 → Q (.str m) H
section
variable {X : Cx} {e : Expr} {es : List Expr} {pos p : Pos} {i : Nat}
theorem smCon {x : Str} {j : Nat} (h : x.length ≤ 100000 := by decide +kernel) : PE X (.Constant (.str x) j p) (tSm fun _ _ => True) := imE pe_str fun σ H Q ⟨_, z⟩ => z x h
theorem smRep (he : PE X e (tVar i)) : PE X (.FormattedValue e 114 none pos) (tSm fun σ _ => ∃ y, σ[i]? = some (some (.str y)) ∧ Short y) :=
  imE (pe_fmtR he) fun σ H Q ⟨⟨y, h1, h2, h3⟩, z⟩ => ⟨_, h1, .inl ⟨y, rfl, Nat.le_trans (StrLaws.reprText_len y (hex h3)) (by rw [sizeLine_eq]; omega), z _ (Nat.le_trans (StrLaws.reprText_len y (hex h3)) (by omega))⟩⟩
/-! ### the text of a list, whatever is under way -/
end
end DW

namespace DW
open PySem PySem.Spec PyProof.Rows L2 NdefX
/-! ### an own exception's __init__, over data -/
theorem js_any {σ : L2.St} {H : Hp} : ∀ (oks : List (L2.St → Hp → Prop)) (acc : Str) (Q : Str → Hp → Prop), acc.length + 100000 * oks.length ≤ sizeLine → (∀ ok ∈ oks, ok σ H) → (∀ m, Q m H) → tJs (oks.map tSm) acc σ H Q
  | [], acc, Q, _, _, q => q acc
  | ok :: oks, acc, Q, hz, h, q => by
    refine ⟨h ok List.mem_cons_self, fun m hm => ⟨m, rfl, ?_, js_any oks (acc ++ m) Q ?_ (fun o ho => h o (List.mem_cons_of_mem _ ho)) q⟩⟩
    · rw [strLen_append]; rw [List.length_cons] at hz; omega
    · rw [strLen_append]; rw [List.length_cons] at hz; omega
/-- the exception at a while it is being made: what it has so far -/
def Mk1 (a C : Addr) (H0 : Hp) (gs : List (Str × V)) (H : Hp) : Prop := (∀ b o, H0 b = some o → b ≠ a → H b = some o) ∧ ((gs = [] ∧ H a = some (exo a C none)) ∨ ∃ dx, H a = some (exo a C (some dx)) ∧ H0 dx = none ∧ dx ≠ a ∧ H dx = some (exd dx gs))
/-- self.f = e -/
def tOs (a C : Addr) (f : Str) (te : TE) : TS := fun D σ H => te σ H fun y H1 => σ[0]? = some (some (.ref a)) ∧ ((H1 a = some (exo a C none) ∧ ∀ dx, H1 dx = none → dx ≠ a → D.nx σ (upd (upd H1 dx (exd dx [(f, y)])) a (exo a C (some dx)))) ∨
    ∃ (dx : Addr) (gs : List (Str × V)), H1 a = some (exo a C (some dx)) ∧ H1 dx = some (exd dx gs) ∧ gs.length ≤ 900 ∧ D.nx σ (upd H1 dx (exd dx ((f, y) :: gs))))
section
variable {X : Cx} {a C : Addr} {e o : Expr} {te : TE} {f : Str} {p' pos : Pos} {B newId initId : String} {bmB : List Value}
theorem psSelf (T : EC X.K C B newId initId bmB) (hno : PySem.W.findIn X.K (.ref C) f = some none) (ho : PE X o (tVar 0)) (he : PE X e te) (hs : swapsWith e (some (.Attribute o f p')) pos.line X.env = pure false := by rfl) : PS X (.Assign [.Attribute o f p'] e pos) (tOs a C f te) := by
  constructor; intro pins s σ H D I h
  refine plainObj_wpAny_Assign_Attribute (thn (he.run pins s σ H _ I h) fun v s1 ⟨y, H1, I1, r1, h0, q1⟩ => thn (ho.run pins s1 σ H1 (fun x H2 => x = .ref a ∧ H2 = H1) I1 ⟨_, h0, rfl, rfl⟩) fun u s2 ⟨x, H2, I2, r2, e1, e2⟩ => ?_) hs
  subst e1 e2
  cases (show u = .ref a from r2)
  rcases q1 with ⟨ea, q⟩ | ⟨dx, gs, ea, ed, hl, q⟩
  · exact stFirst T I2 ea hno r1 fun dx s' n ne J => ⟨σ, _, J, q dx n ne⟩
  · exact stMore T I2 ea ed hl hno r1 fun s' J => ⟨σ, _, J, q⟩
theorem osStep {H0 H : Hp} {gs : List (Str × V)} {D : Ends} {σ : L2.St} (S : Mk1 a C H0 gs H) (h0 : σ[0]? = some (some (.ref a))) (hl : gs.length ≤ 900) (te_mono : ∀ {Q Q' : VK}, (∀ v H, Q v H → Q' v H) → te σ H Q → te σ H Q') (q : te σ H fun y H1 => Mk1 a C H0 gs H1 ∧ ∀ H2, Mk1 a C H0 ((f, y) :: gs) H2 → D.nx σ H2) : tOs a C f te D σ H :=
  te_mono (fun y H1 ⟨S1, k⟩ => by
    refine ⟨h0, ?_⟩
    obtain ⟨k0, ⟨rfl, ea⟩ | ⟨dx, ea, n, ne, ed⟩⟩ := S1
    · refine .inl ⟨ea, fun dx n ne => k _ ⟨fun b o e hb => ?_, .inr ⟨dx, upd_same, ?_, ne, by rw [upd_ne ne, upd_same]⟩⟩⟩
      · have q := k0 b o e hb
        rw [upd_ne hb, upd_ne (ne_of_none q n)]
        exact q
      · cases e : H0 dx with
        | none => rfl
        | some o => rw [k0 dx o e ne] at n; cases n
    · refine .inr ⟨dx, gs, ea, ed, hl, k _ ⟨fun b o e hb => ?_, .inr ⟨dx, ?_, n, ne, upd_same⟩⟩⟩
      · rw [upd_ne (ne_of_none e n)]
        exact k0 b o e hb
      · rw [upd_ne (Ne.symm ne)]
        exact ea) q
theorem osVar {H0 H : Hp} {gs : List (Str × V)} {D : Ends} {σ : L2.St} {i : Nat} {y : V} (S : Mk1 a C H0 gs H) (h0 : σ[0]? = some (some (.ref a))) (hl : gs.length ≤ 900) (hi : σ[i]? = some (some y)) (q : ∀ H2, Mk1 a C H0 ((f, y) :: gs) H2 → D.nx σ H2) : tOs a C f (tVar i) D σ H :=
  osStep S h0 hl (fun k ⟨v, h1, h2⟩ => ⟨v, h1, k _ _ h2⟩) ⟨y, hi, S, q⟩
end
/-- what C(..) with its own __init__ does: from the arguments' data to the fields, the last one first -/
def spI (K : PySem.W.Frag) (C : Addr) (G : List D → List (Str × D) → Prop) : Sp := fun vs H Q _ => ∃ (A : Addr → Prop) (a : Addr) (ws : List V) (ds : List D) (fs : List (Str × D)), vs = .ref a :: ws ∧ H a = some (exo a C none) ∧ A a ∧ Dats K A H ds ws ∧ G ds fs ∧
  ∀ H' dx (gs : List (Str × V)), (∀ b o, H b = some o → b ≠ a → H' b = some o) → H' a = some (exo a C (some dx)) → H dx = none → dx ≠ a → H' dx = some (exd dx gs) → gs.map (·.1) = fs.map (·.1) → Dats K (fun b => A b ∨ b = dx) H' (fs.map (·.2)) (gs.map (·.2)) → Q .non H'
section
variable {P : Program} {w : World} {K : PySem.W.Frag} {mg : Str → Option Value} {base : Heap} {N ps : List Str} {F : NF} {fd : FuncData} {fI cc C : Addr} {B newId initId : String} {bmB : List Value} {p0 p1 p2 pos pj : Pos} {v1 v2 : Expr} {rs : List Expr} {rest : List Stmt}
theorem exc_ok {k : Nat} {G : List D → List (Str × D) → Prop} (T : EC K C B newId initId bmB) (N_ : InC K mg P C fI fd F cc initId) (hcd : PySem.W.codeIn K (.ref F.c) F.qual = true) (S : NScope N ps [("__class__" : Str)] F.scope) (hN : N[0]? = some ("self" : Str))
    (hF : F.body = .Expr (.Call (.Attribute (.Call (.Name "super" p0) [] [] p1) "__init__" p2) [.JoinedStr (v1 :: v2 :: rs) pj] [] pos) pos :: rest) (oks : List (L2.St → Hp → Prop)) (ho : oks.length ≤ 100) (t : Addr → TS) (hlen : ∀ ds fs, G ds fs → ds.length + 1 = ps.length)
    (hPJ : ∀ (Ar : Around) (outer : List Env) (s : Shared) (H : Hp) (E : XK), Room k (Ar.deeper (envF F fI s.heap.objs.size)) → PJ (ncx (L2.CX P w) P w K mg base N F fI Ar outer s H E) (v1 :: v2 :: rs) (oks.map tSm))
    (hPS : ∀ (Ar : Around) (outer : List Env) (s : Shared) (H : Hp) (E : XK) (a : Addr), Room k (Ar.deeper (envF F fI s.heap.objs.size)) → PSs (ncx (L2.CX P w) P w K mg base N F fI Ar outer s H E) rest (t a))
    (hrun : ∀ (A : Addr → Prop) (H : Hp) (a : Addr) (ws : List V) (ds : List D) (fs : List (Str × D)) (Q : VK), A a → H a = some (exo a C none) → Dats K A H ds ws → G ds fs → (startF N (.ref a :: ws) [none])[0]? = some (some (.ref a)) →
      (∀ H' (gs : List (Str × V)), Mk1 a C H gs H' → gs ≠ [] → gs.map (·.1) = fs.map (·.1) → (∀ dx, H dx = none → Dats K (fun b => A b ∨ b = dx) H' (fs.map (·.2)) (gs.map (·.2))) → Q .non H') →
      (∀ ok ∈ oks, ok (startF N (.ref a :: ws) [none]) H) ∧ t a { nx := fun _ H' => Q .non H', rt := Q } (startF N (.ref a :: ws) [none]) H)
    {pl : Sem Bool} (hc : ∀ L, SupEq (envF F fI L) pl p0 p1 p2 pos [.JoinedStr (v1 :: v2 :: rs) pj] := by intro L; rfl)
    (hi : ∀ L, interactive (envF F fI L) = false := by intro L; rfl) (hs : ∀ L, swapsWith (.Call (.Attribute (.Call (.Name "super" p0) [] [] p1) "__init__" p2) [.JoinedStr (v1 :: v2 :: rs) pj] [] pos) none pos.line (envF F fI L) = pure false := by intro L; rfl) :
    FnOk P w K mg base (L2.CX P w) (k + 1) fI fd ps (spI K C G) := by
  refine init_ok T N_ hcd S hN (fun vs H Q E ⟨A, a, ws, ds, fs, ev, _, _, b, g, _⟩ => ?_) hF (fun Ar outer s H vs Q E hr ⟨A, a, ws, ds, fs, ev, ea, Aa, b, g, q⟩ => ?_) (hpl := fun L => rfl) (hc := hc) (hi := hi) (hs := hs)
  · subst ev
    rw [List.length_cons, ← b.length]
    exact hlen ds fs g
  · subst ev
    have s0 : (startF N (.ref a :: ws) [none])[0]? = some (some (.ref a)) := rfl
    obtain ⟨h1, h2⟩ := hrun A H a ws ds fs Q Aa ea b g s0 fun H' gs S ng hk hd => by
      obtain ⟨k0, ⟨rfl, _⟩ | ⟨dx, e1, e2, e3, e4⟩⟩ := S
      · exact absurd rfl ng
      · exact q H' dx gs k0 e1 e2 e3 e4 hk (hd dx e2)
    refine ⟨a, _, _, rfl, ea, pa_cons (pe_joined (hPJ Ar outer s H E hr)) pa_nil, hPS Ar outer s H E a hr, ?_⟩
    refine js_any oks Str.empty _ ?_ h1 fun m => ⟨?_, ea, h2⟩
    · show 0 + _ ≤ _
      rw [sizeLine_eq]; omega
    · show 1 ≤ 1000
      omega
/-- data that lay there lie there still -/
theorem mk_keep {A : Addr → Prop} {H H' : Hp} {a dx : Addr} {gs : List (Str × V)} (S : Mk1 a C H gs H') (Aa : A a) (n : H dx = none) {ds : List D} {ws : List V} (b : Dats K A H ds ws) : Dats K (fun b => A b ∨ b = dx) H' ds ws :=
  b.keep fun c o e nc => ⟨S.1 c o e fun z => nc (z ▸ Aa), fun z => z.elim nc (ne_of_none e n)⟩
end
end DW

namespace DW
open PySem PySem.Spec PyProof.Rows L2 NdefX
/-! ### exceptions as values: made, read, asked of their class -/
section
variable {X : Cx} {F : Fx} {W : WX} {e : Expr} {es : List Expr} {r : WA} {f : WE} {pos p : Pos} {x n : Str} {C fI : Addr} {fd : FuncData} {ps : List Str} {k : Nat} {B newId initId : String} {bmB : List Value} {G : List D → List (Str × D) → Prop}
theorem lk_put {β : Type} (f g : Str) (y : β) (fs : List (Str × β)) : ((f, y) :: fs).lookup g = if g = f then some y else fs.lookup g := by
  rw [List.lookup_cons]
  by_cases h : g = f
  · rw [if_pos h, h, beq_self_eq_true]
  · rw [if_neg h, beq_false_of_ne h]
theorem look_at {K : PySem.W.Frag} {A : Addr → Prop} {H : Hp} : ∀ {gs : List (Str × V)} {fs : List (Str × D)} {v : D}, gs.map (·.1) = fs.map (·.1) → Dats K A H (fs.map (·.2)) (gs.map (·.2)) → fs.lookup n = some v → ∃ u, gs.lookup n = some u ∧ Dat K A H v u
  | [], [], _, _, _, e => by cases e
  | (a, u) :: gs, (b, d) :: fs, v, hk, hs, e => by
    simp only [List.map_cons, List.cons.injEq] at hk
    obtain ⟨rfl, hk⟩ := hk
    cases hs with
    | cons h t =>
      rw [lk_put] at e ⊢
      by_cases z : n = a
      · rw [if_pos z] at e ⊢
        cases e
        exact ⟨u, rfl, h⟩
      · rw [if_neg z] at e ⊢
        exact look_at hk t e
end
end DW

namespace DW
open PySem PySem.Spec
open PyProof.Rows L2 NdefX
/-! ### exceptions that are raised -/
abbrev WM := Ev → (Ex → Prop) → (Ex → Prop) → Prop
def tM (K : PySem.W.Frag) (F : Fx) (W : WX) (f : WM) : L2.St → Hp → XK → Prop := fun σ H Q => ∃ π A ε P X, Rel K F π A σ H ε ∧ XW K F W A σ H X ∧ f ε P X ∧ ∀ x cls dd H', P x → Grow F.m H H' → F.m.J H' → ExAt K A H' x cls dd → Q cls dd H'
def sRaise (f : WM) : WS := fun ε N => f ε (fun x => N.ex x ε) (fun x => N.ex x ε)
def mMk (C : Addr) (G : List D → List (Str × D) → Prop) (r : WA) : WM := fun ε P Z => r ε (fun ds => ∃ fs, G ds fs ∧ ds.length ≤ 1000 ∧ P ⟨C, fs⟩) Z
section
variable {X : Cx} {F : Fx} {W : WX} {e : Expr} {es : List Expr} {r : WA} {f : WM} {pos p : Pos} {x : Str} {C fI : Addr} {fd : FuncData} {ps : List Str} {k : Nat} {B newId initId : String} {bmB : List Value} {G : List D → List (Str × D) → Prop}
theorem psRaise (hc : X.calm = true) (tk : Takes X W) (h : PMk X e (tM X.K F W f)) : PS X (.Raise (some e) none pos) (tS X.K F W (sRaise f)) :=
  imS (ps_raise hc tk h) fun D σ H ⟨π, A, ε, N, R, z, h1, h2, h3, h4, h5⟩ => ⟨π, A, ε, _, _, R, xw_of R h5, z, fun x cls dd H' p g j ea => h5 x A ε σ H' cls dd p (R.grow g j) ea⟩
theorem dMk (T : EC X.K C B newId initId bmB) (iC : PySem.W.findIn X.K (.ref C) "__init__" = some (some (.ref fI))) (tI : PySem.W.typeIn X.K (.ref fI) = some (.type "function")) (F1 : FnOk X.prog X.w X.K X.mg X.base (L2.CX X.prog X.w) k fI fd ps (spI X.K C G)) (hr : Room (k + 1) X.A) (hb : Binds X.K fd ps [])
    (hg : Gl X x) (hm : X.mg x = some (.ref C)) (ha : PA X (e :: es) (tA X.K F W r)) (hdb : (x == ("__debug__" : Str)) = false := by decide) (he : starEach (e :: es) X.env = (false, eval e X.env) :: starEach es X.env := by rfl) (hpl : (backTo pos (starEach es X.env)).any (·.1) = false := by rfl) :
    PMk X (.Call (.Name x p) (e :: es) [] pos) (tM X.K F W (mMk C G r)) := by
  rintro pins s σ H Q I ⟨π, A, ε, P, Z, R, wz, z, q⟩
  refine wpAny_Call_Name_kw (ld_glob I hg hm (hd := hdb) ?_)
  refine PySem.W.callWith_K (h₀ := X.base) I.ok.mod.kin T.kC (thn (ha.run pos pins s σ H (fun vs H1 => ∃ ds fs, G ds fs ∧ ds.length ≤ 1000 ∧ P ⟨C, fs⟩ ∧ Grow F.m H H1 ∧ F.m.J H1 ∧ Dats X.K A H1 ds vs) I
    ⟨π, A, ε, _, Z, R, wz, z, fun ds vs H1 ⟨fs, g1, g2, g3⟩ gr j b => ⟨ds, fs, g1, g2, g3, gr, j, b⟩⟩) fun us s1 ⟨vs, H1, I1, r1, ds, fs, g1, g2, g3, gr, j, b⟩ => ⟨I1.kIn, ?_⟩) he hpl
  show wpAny (model X.prog X.w) X.A (call (.ref C) us) _ _ _
  obtain ⟨nm, N', qn, bs, bm, hdct, sn, sub, ab, col, dd, k0, k1, k2, k3, k5, hC, hT⟩ := PySem.W.excInit_of I1.kIn T.ini
  cases s1 with
  | mk hp gs dr tk os =>
    have le1 : hp.objs.size ≤ hp.objs.size + 1 := by omega
    have free1 : H1 (hp.objs.size + 1) = none := I1.hok.fresh le1
    have up : ∀ b o, hp.get? b = some o → (Heap.push (Heap.push hp (PySem.W.kdv_tup us)) (PySem.HandSPX.excO C hp.objs.size)).get? b = some o := fun b o z => Heap.get?_push_of_some _ (Heap.get?_push_of_some _ z)
    have at1 : (Heap.push (Heap.push hp (PySem.W.kdv_tup us)) (PySem.HandSPX.excO C hp.objs.size)).get? (hp.objs.size + 1) = some (PySem.HandSPX.excO C hp.objs.size) := by heap_get
    have In : Inv X pins σ (upd H1 (hp.objs.size + 1) (exo (hp.objs.size + 1) C none)) ⟨Heap.push (Heap.push hp (PySem.W.kdv_tup us)) (PySem.HandSPX.excO C hp.objs.size), gs, dr, tk, os⟩ := I1.laid (t' := tk) up le1 (exo_ok at1)
    have R1 := R.grow gr j
    have hl := b.length.trans r1.length
    have old : ∀ b o, H1 b = some o → b ≠ hp.objs.size + 1 := fun b o e => ne_of_none e free1
    have prom : spI X.K C G (.ref (hp.objs.size + 1) :: vs) (upd H1 (hp.objs.size + 1) (exo (hp.objs.size + 1) C none)) (fun v H3 => v = .non ∧ ∃ (dx : Addr) (gs : List (Str × V)), (∀ b o, H1 b = some o → H3 b = some o) ∧ H3 (hp.objs.size + 1) = some (exo (hp.objs.size + 1) C (some dx)) ∧ H1 dx = none ∧ dx ≠ hp.objs.size + 1 ∧ H3 dx = some (exd dx gs) ∧ gs.map (·.1) = fs.map (·.1) ∧ Dats X.K (fun b => (A b ∨ b = hp.objs.size + 1) ∨ b = dx) H3 (fs.map (·.2)) (gs.map (·.2))) E0 := by
      refine ⟨fun b => A b ∨ b = hp.objs.size + 1, _, vs, ds, fs, rfl, upd_same, .inr rfl, b.keep (.new free1), g1, fun H' dx gs c1 c2 c3 c4 c5 c6 c7 => ⟨rfl, dx, gs, fun b o e => c1 b o (by rw [upd_ne (old b o e)]; exact e) (old b o e), c2, ?_, c4, c5, c6, c7⟩⟩
      rw [upd_ne c4] at c3; exact c3
    have bnd := hb _ (.ref (hp.objs.size + 1) :: us) In.kIn (by rw [List.append_nil]; exact (show (Value.ref (hp.objs.size + 1) :: us).length = ps.length from by have := F1.len _ _ _ _ prom; rw [List.length_cons] at this ⊢; rw [← this, r1.length]))
    rw [List.append_nil] at bnd
    refine wpAny_call (PySem.HandSPX.call_own T.eb hT hC (PySem.W.looks_findIn I1.kIn iC) (fun self => PySem.W.bind_fn I1.kIn self tI) (by rw [sizeLine_eq]; omega) (codeAny_mono (F1.run _ X.stack _ _ _ _ _ _ E0 (hr.make C us []) (In.env0.make C us []) bnd (show Vals (V.ref (hp.objs.size + 1) :: vs) (Value.ref (hp.objs.size + 1) :: us) from .cons rfl r1) prom) fun rr s' hq => ?_))
    cases rr with
    | error er => exact passL pins σ _ _ er s' In hq
    | ok fl =>
      cases fl with
      | ret u =>
        obtain ⟨v, H3, os2, bare2, un2, hok2, rv, ev, dx, gs2, d1, d2, d3, d4, d5, d6, d7⟩ := hq
        subst ev
        obtain ⟨h2, g2', dr2, t2, os'⟩ := s'
        refine ⟨rv, mk_end (raises_own T.exC T.tyC) I1 le1 up un2 hok2 os2 bare2 d2 d5 d3 ?_⟩
        have hne : ∀ b o, H1 b = some o → upd (del H3 (hp.objs.size + 1)) dx (.xd gs2) b = some o := fun b o z => by
          rw [upd_ne (ne_of_none z d3), del_ne (old b o z)]
          exact d1 b o z
        refine q ⟨C, fs⟩ _ _ _ g3 (gr.trans fun b o z _ => hne b o z) (F.m.st H1 _ (fun b z => ?_) (fun b φ e => hne b _ e) j) ⟨rfl, .inr ⟨dx, gs2, fun z => R1.th _ z d3, rfl, upd_same, d6, d7.keep fun b o z nb => ?_⟩⟩
        · cases e : H1 b with
          | none => exact absurd e (F.m.al H1 b j z)
          | some o => exact hne b o e
        · have nb1 : b ≠ dx := fun z => nb (.inr z)
          have nb2 : b ≠ hp.objs.size + 1 := fun z => nb (.inl (.inr z))
          exact ⟨by rw [upd_ne nb1, del_ne nb2]; exact z, fun y => nb (.inl (.inl y))⟩
      | next => exact False.elim hq
      | brk => exact False.elim hq
      | cont => exact False.elim hq
end
/-! ### try: .. except C: .. -/
/-- except C as e: the suite knows the exception's fields at e's slot -/
def sTryAs (i : Nat) (B : WS) (m : Addr → Bool → Prop) (S : Addr → Value → Option Addr → WS) : WS := fun ε N => B ε { N with ex := fun x ε' => ∃ b, m x.C b ∧ (b = true → x.fs ≠ [] ∧ ∀ a dd, S a (.ref x.C) (some dd) (ε'.set i (some (.dat (.hex a x.C dd x.fs))))
    { nx := fun ε2 => N.nx (ε2.set i none), rt := N.rt, bk := fun ε2 => N.bk (ε2.set i none), ct := fun ε2 => N.ct (ε2.set i none), ex := fun _ _ => False }) ∧ (b = false → N.ex x ε') }
/-- e.f in the suite -/
def wXf (a C : Addr) (cls : Value) (d : Option Addr) (n : Str) (f : WE) : WE := fun ε P Z => f ε (fun y => ∃ dd fs v, y = .hex a C dd fs ∧ cls = .ref C ∧ d = some dd ∧ fs.lookup n = some v ∧ P v) Z
section
variable {X : Cx} {F : Fx} {W : WX} {e : Expr} {x n : Str} {c : Value} {i : Nat} {body suite : List Stmt} {b₀ : Stmt} {np pos pos' p : Pos} {B : WS} {m : Addr → Bool → Prop} {f : WE} {C a : Addr}
theorem Rel.drop {K : PySem.W.Frag} {F : Fx} {π : List D × List V} {A : Addr → Prop} {σ : L2.St} {H : Hp} {ε : Ev} (R : Rel K F π A σ H ε) (i : Nat) : Rel K F π A (σ.set i none) H (ε.set i none) :=
  R.weak (by rw [List.length_set, List.length_set]; exact R.len) fun k s e => by
    by_cases q : i = k
    · subst q
      by_cases z : i < ε.length
      · rw [List.getElem?_set_self z] at e; cases e
      · rw [List.getElem?_eq_none (by rw [List.length_set]; omega)] at e; cases e
    · rw [List.getElem?_set_ne q] at e ⊢
      exact ⟨e, rfl⟩
theorem psTryAs {S : Addr → Value → Option Addr → WS} (hs : X.stack = X.env :: X.outer) (hf : X.env.frame = some X.env.locals) (hN : X.N.Nodup) (hi : X.N[i]? = some n) (hln : X.env.kindOf n = some .local) (hc : Names X x c) (tk : Takes X W) (hm : ∀ C b, m C b → PySem.W.exmOne X.K (.ref C) c = some b)
    (hb : ∀ (W' : WX) (pn : List (Addr × Obj)) (xe : Value → Shared → Prop), Takes (X.tr pn xe) W' → PassesOwn (model X.prog X.w) X.A X.env xe → PSs (X.tr pn xe) body (tS X.K F W' B))
    (hsu : ∀ (a : Addr) (oe : Obj) (cls : Value) (d : Option Addr) (pn : List (Addr × Obj)), Zc cls d oe → (∃ vs, oe.data = .fields vs) → PSs (X.suite a ((a, oe) :: pn)) (b₀ :: suite) (tS X.K F W0 (S a cls d))) :
    PS X (.Try body [.ExceptHandler (some (.Name x np)) (some n) (b₀ :: suite) pos'] [] [] pos) (tS X.K F W (sTryAs i B m S)) :=
  imS (ps_try_as (tb := fun W' => tS X.K F W' B) (ts := fun a cls d => tS X.K F W0 (S a cls d)) (Wout := W) hs hf hN hi hln hc tk hb hsu) fun D σ H ⟨π, A, ε, N, R, z, h1, h2, h3, h4, h5⟩ =>
    ⟨π, A, ε, _, R, z, h1, h2, h3, h4, fun y A' ε' σ' H' cls dd ⟨b, hb, s1, s2⟩ r ea => ⟨b, by rw [ea.1]; exact hm _ _ hb, fun eb a _ => by
      obtain ⟨ne, s1⟩ := s1 eb
      obtain ⟨rfl, ⟨_, e0⟩ | ⟨d, gs, nd, rfl, e1, e2, e3⟩⟩ := ea
      · exact absurd e0 ne
      · exact ⟨π, A', _, _, r.set (v := .ref a) (.hex nd e1 e2 e3), s1 a d, fun A2 ε2 σ2 H2 nx r2 => h1 A2 _ _ H2 nx (r2.drop i), h2, fun A2 ε2 σ2 H2 nx r2 => h3 A2 _ _ H2 nx (r2.drop i), fun A2 ε2 σ2 H2 nx r2 => h4 A2 _ _ H2 nx (r2.drop i), fun _ _ _ _ _ _ _ z => z.elim⟩, fun eb => h5 y A' ε' σ' H' cls dd (s2 eb) r ea⟩⟩
theorem dXf {oe : Obj} {cls : Value} {d : Option Addr} {pn : List (Addr × Obj)} (hC : XfC X.K C) (hno : PySem.W.findIn X.K (.ref C) n = some none) (hz : Zc cls d oe) (hf : ∃ vs, oe.data = .fields vs) (he : PE (X.suite a ((a, oe) :: pn)) e (tE X.K F W0 f)) (hb : attributeBase e n X.env (eval e X.env) = eval e X.env := by rfl) :
    PE (X.suite a ((a, oe) :: pn)) (.Attribute e n pos) (tE X.K F W0 (wXf a C cls d n f)) :=
  imE (pe_xf (X := X) hC hno hz hf he hb) fun σ H Q ⟨π, A, ε, P, Z, R, w, z, q⟩ => ⟨π, A, ε, _, Z, R, w, z, fun y v H1 p g j b => by
    obtain ⟨dd, fs, v', rfl, hcl, rfl, hl, p⟩ := p
    cases b with
    | hex nx hx hk hs =>
      obtain ⟨u, hu, bu⟩ := look_at hk hs hl
      exact ⟨rfl, hcl, dd, _, u, rfl, hx, hu, q v' u H1 p g j bu⟩⟩
end
end DW

namespace DW
open PySem PySem.Spec
open PyProof.Rows L2
/-! ### instances: attributes -/
/-- o.n, o an instance of one of the classes Ok -/
def wFldI (Ok : Addr → Prop) (n : Str) (f : WE) : WE := fun ε P Z => f ε (fun d => ∃ C fs v, d = .ins C fs ∧ Ok C ∧ fs.lookup n = some v ∧ P v) Z
section
variable {X : Cx} {F : Fx} {W : WX} {e o : Expr} {es : List Expr} {f g : WE} {r : WA} {pos p apos pos' : Pos} {x n m : Str} {C : Addr} {ps : List Str} {k : Nat} {Ok : Addr → Prop}
theorem dFldI (hOk : ∀ C, Ok C → Cls X.K C ∧ NoAttr X.K C n) (he : PE X e (tB X.K F W f)) (hb : attributeBase e n X.env (eval e X.env) = eval e X.env := by rfl) : PE X (.Attribute e n pos) (tE X.K F W (wFldI Ok n f)) :=
  imE (pe_fld he hb) fun σ H Q ⟨π, A, ε, P, Z, R, w, z, q⟩ => ⟨π, A, ε, _, Z, R, w, z, fun d v H1 pd gr j b => by
    obtain ⟨C, fs, y, rfl, hC, hl, pv⟩ := pd
    obtain ⟨a, dx, gs, rfl, na, h1, h2, h3⟩ := b
    obtain ⟨u, hu, bu⟩ := look_at h2 h3 hl
    exact ⟨a, C, dx, gs, u, rfl, h1, (hOk C hC).1, (hOk C hC).2, hu, q y u H1 pv gr j bu⟩⟩
/-- self.n = e, self one's own instance -/
def putFD (n : Str) (d : D) : List (Str × D) → List (Str × D)
  | [] => [(n, d)]
  | (g, x) :: r => if g = n then (g, d) :: r else (g, x) :: putFD n d r
theorem putFD_of {K : PySem.W.Frag} {A : Addr → Prop} {H : Hp} {n : Str} {d : D} {v : V} (b : Dat K A H d v) : ∀ {fs : List (Str × D)} {gs : List (Str × V)}, gs.map (·.1) = fs.map (·.1) → Dats K A H (fs.map (·.2)) (gs.map (·.2)) →
    (putF n v gs).map (·.1) = (putFD n d fs).map (·.1) ∧ Dats K A H ((putFD n d fs).map (·.2)) ((putF n v gs).map (·.2))
  | [], [], _, _ => ⟨rfl, .one b⟩
  | [], _ :: _, e, _ => by cases e
  | _ :: _, [], e, _ => by cases e
  | (a, y) :: fs, (a', u) :: gs, hk, hs => by
    simp only [List.map_cons, List.cons.injEq] at hk
    obtain ⟨rfl, hk⟩ := hk
    cases hs with
    | cons h t =>
      obtain ⟨i1, i2⟩ := putFD_of b hk t
      by_cases z : a' = n
      · simp only [putF, putFD, if_pos z, List.map_cons, hk]
        exact ⟨trivial, .cons b t⟩
      · simp only [putF, putFD, if_neg z, List.map_cons]
        exact ⟨by rw [i1], .cons h i2⟩
def sPutI (i : Nat) (Ok : Addr → Prop) (n : Str) (f : WE) : WS := fun ε N => ∃ x C fs, ε[i]? = some (some (.own (.ins x C fs))) ∧ f ε (fun d => Ok C ∧ fs.length < 1000 ∧ N.nx (ε.set i (some (.own (.ins x C (putFD n d fs)))))) (fun x => N.ex x ε)
theorem psPutI {st : Stmt} (i : Nat) (hOk : ∀ C, Ok C → Cls X.K C ∧ NoAttr X.K C n) (h : PS X st (sFld X.K (tVar i) (tE X.K F W f) n)) : PS X st (tS X.K F W (sPutI i Ok n f)) :=
  imS h fun D σ H ⟨π, A, ε, N, R, ⟨y, C, fs, hx, z⟩, h1, h2, h3, h4, h5⟩ => by
    obtain ⟨q, e1, e2, e3, ey, dx, gs, e5, ek, e6⟩ := R.own i _ hx
    have hlen : gs.length = fs.length := by simpa using congrArg List.length ek
    refine ⟨π, A, ε, _, _, R, xw_of R h5, z, fun d v H1 pd g1 j1 b1 => ?_⟩
    obtain ⟨hC, hl, nx⟩ := pd
    have e5' : H1 q = some (.ins C dx gs) := g1 q _ e5 (F.nm e3)
    obtain ⟨k1, k2⟩ := putFD_of (n := n) b1 ek (e6.mono g1 R.am fun _ z => z)
    exact ⟨.ref q, e1, q, C, dx, gs, rfl, e5', (hOk C hC).1, (hOk C hC).2, by rw [hlen]; exact hl, h1 A _ σ _ nx ((R.grow g1 j1).put hx e1 ⟨ey, dx, _, upd_same, k1, k2.keep (.put e2)⟩)⟩
/-! ### methods -/
def tMethF (Ok : Addr → Prop) (m : Str) (sp : Sp) (E : L2.St → XK) (ta : TE) (t : TA) : TE := fun σ H Q => ta σ H fun x H1 => ∃ a C dx fs, x = .ref a ∧ H1 a = some (.ins C dx fs) ∧ Ok C ∧ fs.lookup m = none ∧ t σ H1 fun vs H2 => sp (x :: vs) H2 Q (E σ)
/-- what is known of the method m of the classes Ok -/
structure Mth (P : Program) (w : World) (K : PySem.W.Frag) (mg : Str → Option Value) (base : Heap) (k : Nat) (Ok : Addr → Prop) (m : Str) (sp : Sp) : Prop where
  ex : ∀ C, Ok C → ∃ (f : Addr) (fd : FuncData) (ps : List Str), Cls K C ∧ Meth K C m f ∧ FnOk P w K mg base (L2.CX P w) k f fd ps sp ∧ Binds K fd ps []
theorem pe_methF {sp : Sp} {E : L2.St → XK} {ta : TE} {t : TA} {pl : Sem Bool} (he : PE X o ta) (M : Mth X.prog X.w X.K X.mg X.base k Ok m sp) (hr : Room k X.A) (hx : ∀ σ, PassesAt (L2.CX X.prog X.w) X σ (E σ)) (ha : PA X (e :: es) t)
    (hst : Lone X e es := by rfl) (hpl : NoStar X pos es := by rfl)
    (ht : MEq X pl o m apos pos (e :: es) := by rfl) :
    PE X (.Call (.Attribute o m apos) (e :: es) [] pos) (tMethF Ok m sp E ta t) := by
  constructor
  intro pins s σ H Q I h
  refine PySem.W.methodCall_KW (pl := pl) (thn (he.run pins s σ H _ I h) fun u s1 z => ?_) ht
  obtain ⟨_, H1, I1, ru, a, C, dx, fs, rfl, ea, hC, l, q⟩ := z
  cases (show u = .ref a from ru)
  obtain ⟨f, fd, ps, c, hm, Fn, hb⟩ := M.ex C hC
  refine getmeth_ok I1 ea c hm l (PySem.W.callWith_K (first := [.ref a]) (h₀ := X.base) I.ok.mod.kin hm.kp (thn (ha.run pos pins s1 σ H1 _ I1 q) fun us s2 z => ?_) hst hpl)
  obtain ⟨vs, H2, I2, r, z⟩ := z
  exact ⟨I2.kIn, run_fnS (us := .ref a :: us) (vs := .ref a :: vs) Fn hr hb (hx σ) I2 (.cons rfl r) z⟩
theorem pe_methF0 {sp : Sp} {E : L2.St → XK} {ta : TE} {pl : Sem Bool} (he : PE X o ta) (M : Mth X.prog X.w X.K X.mg X.base k Ok m sp) (hr : Room k X.A) (hx : ∀ σ, PassesAt (L2.CX X.prog X.w) X σ (E σ))
    (ht : MEq X pl o m apos pos [] := by rfl) :
    PE X (.Call (.Attribute o m apos) [] [] pos) (tMethF Ok m sp E ta tNil) := by
  constructor
  intro pins s σ H Q I h
  refine PySem.W.methodCall_KW (pl := pl) (thn (he.run pins s σ H _ I h) fun u s1 z => ?_) ht
  obtain ⟨_, H1, I1, ru, a, C, dx, fs, rfl, ea, hC, l, q⟩ := z
  cases (show u = .ref a from ru)
  obtain ⟨f, fd, ps, c, hm, Fn, hb⟩ := M.ex C hC
  exact getmeth_ok I1 ea c hm l (PySem.W.callWith_K0 (first := [.ref a]) I1.kIn hm.kp (run_fnS (us := [.ref a]) (vs := [.ref a]) Fn hr hb (hx σ) I1 (.cons rfl .nil) q))
/-- o.m(e, ..), o a datum -/
def wMeth (Ok : Addr → Prop) (m : Str) (s : Spd) (f : WE) (r : WA) : WE := fun ε P Z => f ε (fun d => ∃ C fs, d = .ins C fs ∧ Ok C ∧ fs.lookup m = none ∧ r ε (fun ds => s (d :: ds) P Z) Z) Z
theorem look_none_of {A : Addr → Prop} {H : Hp} : ∀ {gs : List (Str × V)} {fs : List (Str × D)}, gs.map (·.1) = fs.map (·.1) → fs.lookup m = none → gs.lookup m = none
  | [], [], _, _ => rfl
  | [], _ :: _, e, _ => by cases e
  | _ :: _, [], e, _ => by cases e
  | (a, u) :: gs, (b, d) :: fs, hk, e => by
    simp only [List.map_cons, List.cons.injEq] at hk
    obtain ⟨rfl, hk⟩ := hk
    rw [lk_put] at e ⊢
    by_cases z : m = a
    · rw [if_pos z] at e; cases e
    · rw [if_neg z] at e ⊢
      exact look_none_of (A := A) (H := H) hk e
variable {ι : Type} {mf : ι → Md} {s : ι → Spd}
theorem dMeth (i : ι) (hm : Sub (mf i) F.m) (M : Mth X.prog X.w X.K X.mg X.base k Ok m (liftG X.K mf s)) (hr : Room k X.A) (tk : Takes X W) (he : PE X o (tE X.K F W f)) (ha : PA X (e :: es) (tA X.K F W r))
    (hst : Lone X e es := by rfl) (hpl : NoStar X pos es := by rfl) {pl : Sem Bool}
    (ht : MEq X pl o m apos pos (e :: es) := by rfl) :
    PE X (.Call (.Attribute o m apos) (e :: es) [] pos) (tE X.K F W (wMeth Ok m (s i) f r)) :=
  imE (pe_methF (E := L2.WE W) he M hr (fun σ => passAt tk σ) ha hst hpl (pl := pl) ht) fun σ H Q ⟨π, A, ε, P, Z, R, w, z, q⟩ => ⟨π, A, ε, _, Z, R, w, z, fun d v H1 pd gr j b => by
    obtain ⟨C, fs, rfl, hC, hl, z2⟩ := pd
    cases b with
    | @ins a _ dx _ gs na h1 h2 h3 =>
      refine ⟨a, C, dx, gs, rfl, h1, hC, look_none_of (A := A) (H := H) h2 hl, π, A, ε, _, Z, R.grow gr j, w.grow gr, z2, fun ds vs H2 pz gr2 j2 b2 => ?_⟩
      exact lift_use hm ((R.grow gr j).grow gr2 j2) (.cons ((Dat.ins na h1 h2 h3).mono gr2 R.am fun _ z => z) b2) pz (fun d v H3 p g2 j3 h => q d v H3 p ((gr.trans gr2).trans g2) j3 h) ((w.grow gr).grow gr2)⟩
def wMeth0 (Ok : Addr → Prop) (m : Str) (s : Spd) (f : WE) : WE := fun ε P Z => f ε (fun d => ∃ C fs, d = .ins C fs ∧ Ok C ∧ fs.lookup m = none ∧ s [d] P Z) Z
theorem dMeth0 (i : ι) (hm : Sub (mf i) F.m) (M : Mth X.prog X.w X.K X.mg X.base k Ok m (liftG X.K mf s)) (hr : Room k X.A) (tk : Takes X W) (he : PE X o (tE X.K F W f)) {pl : Sem Bool}
    (ht : MEq X pl o m apos pos [] := by rfl) :
    PE X (.Call (.Attribute o m apos) [] [] pos) (tE X.K F W (wMeth0 Ok m (s i) f)) :=
  imE (pe_methF0 (E := L2.WE W) he M hr (fun σ => passAt tk σ) (pl := pl) ht) fun σ H Q ⟨π, A, ε, P, Z, R, w, z, q⟩ => ⟨π, A, ε, _, Z, R, w, z, fun d v H1 pd gr j b => by
    obtain ⟨C, fs, rfl, hC, hl, z2⟩ := pd
    cases b with
    | @ins a _ dx _ gs na h1 h2 h3 =>
      exact ⟨a, C, dx, gs, rfl, h1, hC, look_none_of (A := A) (H := H) h2 hl, lift_use hm (R.grow gr j) (.one (.ins na h1 h2 h3)) z2 (fun d v H3 p g2 j3 h => q d v H3 p (gr.trans g2) j3 h) (w.grow gr)⟩⟩
end
end DW

namespace DW
open PySem PySem.Spec PyProof.Rows L2 ClX
/-! ### __init__ over one's own instance: self is the own slot 0, with its name -/
/-- what an __init__ promises: of the class, the fields there already and the arguments, to the fields then -/
abbrev Spn := Addr → List (Str × D) → List D → (List (Str × D) → Prop) → (Ex → Prop) → Prop
def GrowX (x : Addr) (H H' : Hp) : Prop := ∀ b o, H b = some o → b ≠ x → H' b = some o
def spN (K : PySem.W.Frag) (s : Spn) : Sp := fun vs H Q E => ∃ (A : Addr → Prop) (x : Addr) (ws : List V) (C : Addr) (fs : List (Str × D)) (ds : List D) (P : List (Str × D) → Prop) (Z : Ex → Prop), vs = .ref x :: ws ∧ A x ∧ (∀ b, A b → Th (H b)) ∧
  OwnAt K A H x (.ins x C fs) ∧ Dats K A H ds ws ∧ s C fs ds P Z ∧
  (∀ fs' H', P fs' → GrowX x H H' → OwnAt K A H' x (.ins x C fs') → Q .non H') ∧
  ∀ e fs' cls dd H', Z e → GrowX x H H' → OwnAt K A H' x (.ins x C fs') → ExAt K A H' e cls dd → E cls dd H'
def startN (N : List Str) (x C : Addr) (fs : List (Str × D)) (ds : List D) : Ev := some (.own (.ins x C fs)) :: (ds.map (fun d => some (Sl.dat d)) ++ List.replicate (N.length - (ds.length + 1)) none)
def without (H : Hp) (x : Addr) : Hp := fun b => if b = x then none else H b
theorem without_ne {H : Hp} {x b : Addr} (n : b ≠ x) : without H x b = H b := if_neg n
theorem start_cons {N : List Str} {v : V} {vs : List V} : L2.start N (v :: vs) = some v :: (vs.map some ++ List.replicate (N.length - (vs.length + 1)) none) := rfl
theorem startN_at {ds : List D} {n i : Nat} {s : Sl} (e : (ds.map (fun d => some (Sl.dat d)) ++ List.replicate n (none : Option Sl))[i]? = some (some s)) : ∃ d, s = .dat d ∧ ds[i]? = some d := by
  by_cases q : i < ds.length
  · rw [List.getElem?_append_left (by simpa using q), List.getElem?_map] at e
    cases e2 : ds[i]? with
    | none => rw [e2] at e; cases e
    | some d' => rw [e2] at e; cases e; exact ⟨d', rfl, rfl⟩
  · rw [List.getElem?_append_right (by simpa using q), List.getElem?_replicate] at e
    split at e <;> cases e
theorem rel_startN {K : PySem.W.Frag} {A : Addr → Prop} {N : List Str} {H : Hp} {x C : Addr} {fs : List (Str × D)} {ds : List D} {ws : List V} (Ax : A x) (al : ∀ b, A b → Th (H b)) (o : OwnAt K A H x (.ins x C fs)) (b : Dats K A H ds ws) :
    Rel K ⟨md0, fun b => A b ∧ b ≠ x, without H x, fun _ z => z.elim, fun b z => by rw [without_ne z.2]; exact al b z.1⟩ ([], []) A (L2.start N (.ref x :: ws)) H (startN N x C fs ds) := by
  have hl := b.length
  refine ⟨.nil, fun b o e _ => ?_, trivial, fun _ z => z.1, al, ?_, fun i d e => ?_, fun i o' e => ?_, fun i k o1 o2 v e1 e2 _ _ => ?_, fun i p qs xss e => by
    cases i with
    | zero => cases e
    | succ i =>
      obtain ⟨d', e1, _⟩ := startN_at e
      cases e1⟩
  · have e' : without H x b = some o := e
    by_cases q : b = x
    · rw [show without H x b = none from if_pos q] at e'
      cases e'
    · rw [without_ne q] at e'
      exact e'
  · unfold startN
    rw [start_cons]
    simp only [List.length_cons, List.length_append, List.length_map, List.length_replicate]
    omega
  · cases i with
    | zero => cases e
    | succ i =>
      obtain ⟨d', e1, e2⟩ := startN_at e
      cases e1
      obtain ⟨v, h1, h2⟩ := b.at e2
      refine ⟨v, ?_, h2⟩
      rw [start_cons, List.getElem?_cons_succ, List.getElem?_append_left (by rw [List.length_map]; exact (List.getElem?_eq_some_iff.mp h1).1), List.getElem?_map, h1]
      rfl
  · cases i with
    | zero =>
      cases e
      exact ⟨x, rfl, Ax, if_pos rfl, o⟩
    | succ i =>
      obtain ⟨d', e1, _⟩ := startN_at e
      cases e1
  · cases i with
    | succ i =>
      obtain ⟨d', z, _⟩ := startN_at e1
      cases z
    | zero =>
      cases k with
      | zero => rfl
      | succ k =>
        obtain ⟨d', z, _⟩ := startN_at e2
        cases z
section
variable {P : Program} {w : World} {K : PySem.W.Frag} {mg : Str → Option Value} {base : Heap} {N ps : List Str} {nm qual : Str} {st : Stmt} {g : Addr} {fd : FuncData} {s : Spn}
/-- what is left at the end of such a body -/
theorem ownN {A A2 : Addr → Prop} {H H2 : Hp} {x C : Addr} {fs : List (Str × D)} {π : List D × List V} {σ : L2.St} {ε : Ev} {h1 h2}
    (R : Rel K ⟨md0, fun b => A b ∧ b ≠ x, without H x, h1, h2⟩ π A2 σ H2 ε) (e : ε[0]? = some (some (.own (.ins x C fs)))) : GrowX x H H2 ∧ OwnAt K A H2 x (.ins x C fs) ∧ ∀ b, A b → A2 b := by
  obtain ⟨p, e1, e2, e3, rfl, e4⟩ := R.own 0 _ e
  have aa : ∀ b, A b → A2 b := fun b z => by
    by_cases q : b = p
    · rw [q]; exact e2
    · exact R.aa b ⟨z, q⟩
  refine ⟨fun b o z n => R.gr b o (by rw [show (Fx.mk md0 (fun b => A b ∧ b ≠ p) (without H p) h1 h2).H0 b = H b from without_ne n]; exact z) (fun z => z), ⟨rfl, ?_⟩, aa⟩
  obtain ⟨dx, gs, z1, z2, z3⟩ := e4
  exact ⟨dx, gs, z1, z2, z3.keep fun b o e n => ⟨e, fun z => n (aa b z)⟩⟩
theorem initN_ok {k : Nat} (Fn : Fun K nm qual st g fd) (S : FnScope N ps (defScope st)) (G : WS)
    (hlen : ∀ C fs ds P Z, s C fs ds P Z → ds.length + 1 = ps.length)
    (hG : ∀ (cdv : Value) (A : Around) (outer : List Env) (sh : Shared) (H : Hp) (E : XK) (F : Fx), F.m = md0 → Room k (A.deeper (envOfC qual (defScope st) sh.heap.objs.size g cdv)) →
      PSs (cxOf (L2.CX P w) P w K mg base N qual (defScope st) g cdv A outer sh H E) (defBody st) (tS K F (Wd E) G))
    (hs : ∀ x C fs ds P Z, s C fs ds P Z → G (startN N x C fs ds) { nx := fun ε => ∃ fs', ε[0]? = some (some (.own (.ins x C fs'))) ∧ P fs', rt := fun _ => False, ex := fun e ε => Z e ∧ ∃ fs', ε[0]? = some (some (.own (.ins x C fs'))) }) :
    FnOk P w K mg base (L2.CX P w) (k + 1) g fd ps (spN K s) := by
  refine Fn.okX S (fun vs H Q E h => ?_) fun cdv A outer sh H vs Q E hr h => ?_
  · obtain ⟨A, x, ws, C, fs, ds, P, Z, rfl, _, _, _, b, z, _⟩ := h
    rw [List.length_cons, ← b.length]
    exact hlen C fs ds P Z z
  · obtain ⟨A', x, ws, C, fs, ds, P', Z, rfl, Ax, al, o, b, z, q1, q2⟩ := h
    refine ⟨_, hG cdv A outer sh H E ⟨md0, fun b => A' b ∧ b ≠ x, without H x, fun _ z => z.elim, fun b z => by rw [without_ne z.2]; exact al b z.1⟩ rfl hr, ?_⟩
    refine ⟨([], []), A', startN N x C fs ds, _, rel_startN Ax al o b, hs x C fs ds P' Z z, fun A2 ε2 σ2 H2 n r => ?_, fun d v H2 p _ _ _ => p.elim, fun _ _ _ _ n => n.elim, fun _ _ _ _ n => n.elim, fun e A2 ε2 σ2 H2 cls dd n r ex => ?_⟩
    · obtain ⟨fs', e, p⟩ := n
      obtain ⟨h1, h2, h3⟩ := ownN r e
      exact q1 fs' H2 p h1 h2
    · obtain ⟨ze, fs', e'⟩ := n
      obtain ⟨h1, h2, h3⟩ := ownN r e'
      exact q2 e fs' cls dd H2 ze h1 h2 (ex.mono h3)
end
/-! ### C(..): one's own instance is made, and is a datum then -/
section
variable {X : Cx} {F : Fx} {W : WX} {e : Expr} {es : List Expr} {kws : List Keyword} {r rk : WA} {s : Spn} {pos p : Pos} {x : Str} {C f : Addr} {fd : FuncData} {ps ks : List Str} {k n : Nat} {g : List Value → List Value → List Value} {gV : List V → List V → List V} {gD : List D → List D → List D}
theorem made_use {A : Addr → Prop} {π : List D × List V} {σ : L2.St} {H : Hp} {ε : Ev} {ds : List D} {vs : List V} {P : D → Prop} {Z : Ex → Prop} {Q : VK} {a dx : Addr} (R : Rel X.K F π A σ H ε) (b : Dats X.K A H ds vs) (z : s C [] ds (fun fs => P (.ins C fs)) Z)
    (q : ∀ d v H', P d → Grow F.m H H' → F.m.J H' → Dat X.K A H' d v → Q v H') (w : XW X.K F W A σ H Z) (ha : H a = none) (hd : H dx = none) (nd : dx ≠ a) :
    spN X.K s (.ref a :: vs) (upd (upd H dx (.own a)) a (.ins C dx [])) (fun v H2 => v = .non ∧ Q (.ref a) H2) (L2.WE W σ) := by
  have old : ∀ b o, H b = some o → b ≠ a ∧ upd (upd H dx (.own a)) a (.ins C dx []) b = some o := fun b o e => by
    have n1 : b ≠ a := ne_of_none e ha
    have n2 : b ≠ dx := ne_of_none e hd
    exact ⟨n1, by rw [upd_ne n1, upd_ne n2]; exact e⟩
  have na : ¬ A a := fun z => R.th a z ha
  have gw : ∀ H', GrowX a (upd (upd H dx (.own a)) a (.ins C dx [])) H' → (∀ b o, H b = some o → H' b = some o) ∧ Grow F.m H H' ∧ F.m.J H' := fun H' gg => by
    have k0 : ∀ b o, H b = some o → H' b = some o := fun b o e => gg b o (old b o e).2 (old b o e).1
    refine ⟨k0, fun b o e _ => k0 b o e, F.m.st H H' (fun b z => ?_) (fun b φ e => k0 b _ e) R.j⟩
    cases e : H b with
    | none => exact absurd e (F.m.al H b R.j z)
    | some o => exact k0 b o e
  refine ⟨fun b => A b ∨ b = a, a, vs, C, [], ds, _, Z, rfl, .inr rfl, fun b z => ?_, ⟨rfl, dx, [], upd_same, rfl, .nil⟩, b.keep fun c o e n => ⟨(old c o e).2, fun z => z.elim n (old c o e).1⟩, z, fun fs' H' pf gg o => ?_, fun x fs' cls dd H' ze gg o ex => ?_⟩
  · rcases z with z | rfl
    · cases e : H b with
      | none => exact absurd e (R.th b z)
      | some o => rw [(old b o e).2, ← e]; exact R.tt b z
    · rw [upd_same]; trivial
  · obtain ⟨k0, k1, k2⟩ := gw H' gg
    obtain ⟨_, dx', gs, h1, h2, h3⟩ := o
    exact ⟨rfl, q _ _ H' pf k1 k2 (.ins na h1 h2 (h3.keep (.sub fun b z => .inl z)))⟩
  · obtain ⟨k0, k1, k2⟩ := gw H' gg
    exact w x cls dd H' ze k1 k2 (ex.mono fun b z => .inl z)
/-- what is known of a class that is made by its name: mg x is the class C, whose __init__ keeps the promise s -/
structure MkI (P : Program) (w : World) (K : PySem.W.Frag) (mg : Str → Option Value) (base : Heap) (k : Nat) (C : Addr) (s : Spn) (f : Addr) (fd : FuncData) (ps : List Str) : Prop where
  cl : Mk K C f
  fn : FnOk P w K mg base (L2.CX P w) k f fd ps (spN K s)
end
/-! ### B.__init__(self, ..), off the class -/
section
variable {K : PySem.W.Frag} {F : Fx} {π : List D × List V} {A : Addr → Prop} {σ : L2.St} {H H' : Hp} {ε : Ev}
/-- an own object is changed by another -/
theorem Rel.over (R : Rel K F π A σ H ε) {i : Nat} {p : Addr} {o o' : Ow} (hi : ε[i]? = some (some (.own o))) (hs : σ[i]? = some (some (.ref p))) (g : GrowX p H H') (h' : OwnAt K A H' p o') :
    Rel K F π A σ H' (ε.set i (some (.own o'))) := by
  obtain ⟨p', e1, e2, e3, e4⟩ := R.own i o hi
  rw [hs] at e1; cases e1
  have il : i < ε.length := (List.getElem?_eq_some_iff.mp hi).1
  have ks : Keeps A H H' A := fun b o e n => ⟨g b o e fun z => n (z ▸ e2), n⟩
  have eqs : ∀ b, A b → b ≠ p → H' b = H b := fun b z n => by
    cases e : H b with
    | none => exact absurd e (R.th b z)
    | some o => exact g b o e n
  refine ⟨R.pin.keep ks, fun b o e n => g b o (R.gr b o e n) (fun z => by rw [z, e3] at e; cases e), F.m.st H H' (fun b z => eqs b (R.am b z) fun q => F.nm e3 (q ▸ z)) (fun b φ e => g b _ e fun (q : b = p) => e4.noext φ (by rw [← q]; exact e)) R.j, R.aa, fun b z => ?_, by rw [List.length_set]; exact R.len, fun k e h1 => ?_, fun k o1 h1 => ?_, fun k l o1 o2 w h1 h2 h3 h4 => ?_, fun k r qs xss h1 => ?_⟩
  · by_cases q : b = p
    · rw [q]; exact h'.tth
    · rw [eqs b z q]; exact R.tt b z
  · by_cases q : i = k
    · subst q
      rw [List.getElem?_set_self il] at h1; cases h1
    · rw [List.getElem?_set_ne q] at h1
      obtain ⟨w, f1, f2⟩ := R.dat k e h1
      exact ⟨w, f1, f2.keep ks⟩
  · by_cases q : i = k
    · subst q
      rw [List.getElem?_set_self il] at h1; cases h1
      exact ⟨p, hs, e2, e3, h'⟩
    · rw [List.getElem?_set_ne q] at h1
      obtain ⟨r, f1, f2, f3, f4⟩ := R.own k o1 h1
      refine ⟨r, f1, f2, f3, f4.keep ks (eqs r f2 fun z => q ?_)⟩
      subst z
      exact R.inj i k o o1 _ hi h1 hs f1
  · have hk : ∃ o, ε[k]? = some (some (.own o)) := by
      by_cases q : i = k
      · subst q; exact ⟨o, hi⟩
      · rw [List.getElem?_set_ne q] at h1; exact ⟨_, h1⟩
    have hl : ∃ o, ε[l]? = some (some (.own o)) := by
      by_cases q : i = l
      · subst q; exact ⟨o, hi⟩
      · rw [List.getElem?_set_ne q] at h2; exact ⟨_, h2⟩
    obtain ⟨_, hk⟩ := hk
    obtain ⟨_, hl⟩ := hl
    exact R.inj k l _ _ w hk hl h3 h4
  · rcases set_at h1 with ⟨_, z⟩ | ⟨ne, h1⟩
    · cases z
    obtain ⟨f1, f2, f3, f4⟩ := R.ll k r qs xss h1
    have np : ∀ b, b ∈ r :: qs → b ≠ p := fun b hb z => f3 i o p hi hs (z ▸ hb)
    refine ⟨f1, f2.keep ks (fun b hb => eqs b (f2.hA b hb).1 (np b hb)) fun b hb => (f2.hA b hb).1, fun l o1 q e3 e4 => ?_, fun l p' qs' xss' e3 => ?_⟩
    · rcases set_at e3 with ⟨z, _⟩ | ⟨_, e3⟩
      · subst z; exact f3 i o q hi e4
      exact f3 l o1 q e3 e4
    · rcases set_at e3 with ⟨_, z⟩ | ⟨_, e3⟩
      · cases z
      exact f4 l p' qs' xss' e3
end
section
variable {X : Cx} {F : Fx} {W : WX} {o e : Expr} {es : List Expr} {r : WA} {s : Spn} {pos p p2 apos : Pos} {x m : Str} {C f : Addr} {mc : Value} {fd : FuncData} {ps : List Str} {k : Nat} {sp : Sp} {E : L2.St → XK} {t : TA} {pl : Sem Bool}
/-- C.m(e, ..): C a class, m a def of it -/
theorem pe_off (ho : PE X o (tC (.ref C))) (rd : CRead X.K C mc) (cv : CVal X.K C mc m (.ref f) (.ref f)) (kf : PySem.W.keepIn X.K (.ref f) = true) (Fn : FnOk X.prog X.w X.K X.mg X.base (L2.CX X.prog X.w) k f fd ps sp) (hr : Room k X.A) (hb : Binds X.K fd ps [])
    (hx : ∀ σ, PassesAt (L2.CX X.prog X.w) X σ (E σ)) (ha : PA X (e :: es) t)
    (hst : Lone X e es := by rfl) (hpl : NoStar X pos es := by rfl)
    (ht : MEq X pl o m apos pos (e :: es) := by rfl) :
    PE X (.Call (.Attribute o m apos) (e :: es) [] pos) (tCallS sp E t) := by
  refine ⟨fun pins sh σ H Q I h => ?_⟩
  refine PySem.W.methodCall_KW (pl := pl) (thn (ho.run pins sh σ H (fun v H1 => v = .ref C ∧ t σ H1 fun vs H2 => sp vs H2 Q (E σ)) I ⟨rfl, h⟩) fun u s1 ⟨y, H1, I1, rx, ex, q⟩ => ?_) ht
  subst ex
  obtain rfl : u = (Value.ref C : Value) := rx
  refine PySem.W.method_cls I1.kIn rd.ga (getcval_ok I1 rd cv fun s2 I2 => ?_)
  refine PySem.W.callWith_K (first := []) (h₀ := X.base) I2.ok.mod.kin kf (thn (ha.run pos pins s2 σ H1 _ I2 q) fun us s3 ⟨vs, H2, I3, rv, q2⟩ => ⟨I3.kIn, ?_⟩) hst hpl
  exact run_fnS (us := us) (vs := vs) Fn hr hb (hx σ) I3 rv q2
def sOff (i : Nat) (s : Spn) (r : WA) : WS := fun ε N => ∃ x C fs, ε[i]? = some (some (.own (.ins x C fs))) ∧ r ε (fun ds => s C fs ds (fun fs' => N.nx (ε.set i (some (.own (.ins x C fs'))))) (fun e => ∀ fs', N.ex e (ε.set i (some (.own (.ins x C fs')))))) (fun e => N.ex e ε)
/-- B.__init__(self, ..) as a statement, self the own slot i -/
theorem psOff (i : Nat) {q q2 : Expr} (h : PE X q (tCallS (spN X.K s) (L2.WE W) (tCons (tVar i) (tA X.K F W r)))) (hs : swapsWith q none pos.line X.env = pure false := by rfl) : PS X (.Expr q pos) (tS X.K F W (sOff i s r)) :=
  imS (ps_expr h hs) fun D σ H ⟨π, A, ε, N, R, ⟨y, C, fs, hx, z⟩, h1, h2, h3, h4, h5⟩ => by
    obtain ⟨q, e1, e2, e3, e4⟩ := R.own i _ hx
    refine ⟨.ref q, e1, π, A, ε, _, _, R, xw_of R h5, z, fun ds vs H1 pz gr j b => ?_⟩
    have R1 := R.grow gr j
    obtain ⟨q', f1, _, _, f4⟩ := R1.own i _ hx
    rw [e1] at f1; cases f1
    obtain rfl : q = y := f4.1
    exact ⟨A, q, vs, C, fs, ds, _, _, rfl, e2, R1.tt, f4, b, pz, fun fs' H' p g o => h1 A _ σ H' p (R1.over hx e1 g o), fun e fs' cls dd H' z g o ex => h5 e A _ σ H' cls dd (z fs') (R1.over hx e1 g o) ex⟩
end
/-! ### calls that are lent one's own objects: they answer something flat, and raise nothing -/
def Flat : D → Prop
  | .non | .bl _ | .int _ | .str _ => True
  | _ => False
section
variable {K : PySem.W.Frag} {A : Addr → Prop} {H : Hp} {m : Md}
theorem Flat.dat {A' : Addr → Prop} {d : D} {v : V} (f : Flat d) (h : Dat K A H d v) : Dat K A' H d v := by
  cases d <;> first | exact f.elim | (cases h; first | exact .non | exact .bl _ | exact .int _ | exact .str _)
theorem Bor.lend {d : D} {v : V} (am : ∀ b, m.M b → A b) (h : Bor K m A H d v) : Dat K m.M H d v := by
  have ks : Keeps A H H m.M := .sub am
  cases d with
  | lst xs => obtain ⟨a, vs, rfl, na, h, hs⟩ := h; exact .lst na h (hs.keep ks)
  | fro xs => obtain ⟨a, vs, rfl, h, hs⟩ := h; exact .fro h (hs.keep ks)
  | tup xs => obtain ⟨a, vs, rfl, h, hs⟩ := h; exact .tup h (hs.keep ks)
  | dct kvs => obtain ⟨a, kws, rfl, na, h, hk, hs⟩ := h; exact .dct na h hk (hs.keep ks)
  | dtt kvs => obtain ⟨a, kws, rfl, na, h, hk, hs⟩ := h; exact .dtt na h hk (hs.keep ks)
  | ins C fs => obtain ⟨a, dx, gs, rfl, na, h, hk, hs⟩ := h; exact .ins na h hk (hs.keep ks)
  | key _ => exact Dat.keep ks h
  | fix _ => exact Dat.keep ks h
  | lnt _ _ => exact Dat.keep ks h
  | non => exact Dat.keep ks h
  | bl b => exact Dat.keep ks h
  | int i => exact Dat.keep ks h
  | str x => exact Dat.keep ks h
  | exc C fs => exact Dat.keep ks h
  | hex a C dd fs => exact Dat.keep ks h
  | ref a => exact Dat.keep ks h
  | ty n => exact Dat.keep ks h
  | fn F be => exact Dat.keep ks h
theorem Bors.lend (am : ∀ b, m.M b → A b) : ∀ {ds : List D} {vs : List V}, Bors K m A H ds vs → Dats K m.M H ds vs
  | _, _, .nil => .nil
  | _, _, .cons h t => .cons (h.lend am) (Bors.lend am t)
end
section
variable {X : Cx} {F : Fx} {W : WX} {e o : Expr} {es : List Expr} {f : WE} {r : WA} {pos p apos : Pos} {x m : Str} {k : Nat} {ι : Type} {mf : ι → Md} {s : ι → Spd} {Ok : Addr → Prop}
theorem lend_use {A : Addr → Prop} {π : List D × List V} {σ : L2.St} {H : Hp} {ε : Ev} {i : ι} {ds : List D} {vs : List V} {P : D → Prop} {Q : VK} {E : XK} (hm : Sub (mf i) F.m) (R : Rel X.K F π A σ H ε) (b : Bors X.K F.m A H ds vs)
    (z : s i ds (fun d => Flat d ∧ P d) Z0) (q : ∀ d v H', P d → Grow F.m H H' → F.m.J H' → Dat X.K A H' d v → Q v H') : liftG X.K mf s vs H Q E :=
  ⟨i, (mf i).M, ds, _, Z0, fun _ z => z, fun b z => (mf i).al' H b (hm.j R.j) z, hm.j R.j, (b.lend R.am).keep (.sub hm.m), z, fun d v H' p g j h => q d v H' p.2 (hm.g g) (hm.j' g R.j j) (p.1.dat h), fun x cls dd H' z g j e => z.elim⟩
/-- o.m(e, ..), all of them lent -/
def wMethB (Ok : Addr → Prop) (m : Str) (s : Spd) (f : WE) (r : WA) : WE := fun ε P Z => f ε (fun d => ∃ C fs, d = .ins C fs ∧ Ok C ∧ fs.lookup m = none ∧ r ε (fun ds => s (d :: ds) (fun y => Flat y ∧ P y) Z0) Z) Z
theorem dMethB (i : ι) (hm : Sub (mf i) F.m) (M : Mth X.prog X.w X.K X.mg X.base k Ok m (liftG X.K mf s)) (hr : Room k X.A) (tk : Takes X W) (he : PE X o (tB X.K F W f)) (ha : PA X (e :: es) (tAB X.K F W r))
    (hst : Lone X e es := by rfl) (hpl : NoStar X pos es := by rfl) {pl : Sem Bool}
    (ht : MEq X pl o m apos pos (e :: es) := by rfl) :
    PE X (.Call (.Attribute o m apos) (e :: es) [] pos) (tE X.K F W (wMethB Ok m (s i) f r)) :=
  imE (pe_methF (E := L2.WE W) he M hr (fun σ => passAt tk σ) ha hst hpl (pl := pl) ht) fun σ H Q ⟨π, A, ε, P, Z, R, w, z, q⟩ => ⟨π, A, ε, _, Z, R, w, z, fun d v H1 pd gr j b => by
    obtain ⟨C, fs, rfl, hC, hl, z2⟩ := pd
    have b0 := b
    obtain ⟨a, dx, gs, rfl, na, h1, h2, h3⟩ := b
    refine ⟨a, C, dx, gs, rfl, h1, hC, look_none_of (A := A) (H := H) h2 hl, π, A, ε, _, Z, R.grow gr j, w.grow gr, z2, fun ds vs H2 pz gr2 j2 b2 => ?_⟩
    exact lend_use hm ((R.grow gr j).grow gr2 j2) (.cons (b0.grow gr2 R.am) b2) pz fun d v H3 p g2 j3 h => q d v H3 p ((gr.trans gr2).trans g2) j3 h⟩
end
end DW

namespace DW
open L2 PyProof.Rows PySem.Spec PySem
/-! ### dict comprehensions, one clause -/
section
variable {X : Cx} {F : Fx} {W : WX} {pos : Pos}
def dcW (g : WG) (tt : WT) (tk te : WE) (vs : List Nat) : List D → List (Key × D) → Ev → (List (Key × D) → Prop) → Prop
  | [], acc, ε, P => P acc
  | x :: xs, acc, ε, P => g x (wipeE ε vs) fun ε' => tt ε' (fun b => if b = true then tk ε' (fun y => te ε' (fun d => ∃ k, keyD y = some k ∧ acc.length < sizeLine ∧ dcW g tt tk te vs xs (putD acc k d) ε P) Z0) Z0 else dcW g tt tk te vs xs acc ε P) Z0
def oDc (it : WI) (g : WG) (tt : WT) (tk te : WE) (vs : List Nat) : WO := fun ε P Z => it ε (fun xs => dcW g tt tk te vs xs [] ε (fun acc => P (.dct acc))) Z
theorem dc_sound {K : PySem.W.Frag} {it : WI} {gg : WG} {tt : WT} {tk te : WE} {vs : List Nat} {σ : L2.St} {H : Hp} {Q : VK} (h : tO K F W (oDc it gg tt tk te vs) σ H Q) : tDc (tI K F W it) (tG K F vs gg) (tT K F W0 tt) (tE K F W0 tk) (tE K F W0 te) vs σ H Q := by
  obtain ⟨π, A, ε, P, Z, R, w, z, q⟩ := h
  refine ⟨π, A, ε, _, Z, R, w, z, fun xs J H1 ds ws p g j b wk D hD => ?_⟩
  have hl := b.length
  have h0D : H D = none := fresh_back g j hD
  have R1 := (R.grow g j).pinned b
  have nA : ¬ A D := (R1.fresh hD).2
  have h0 : F.H0 D = none := (R1.fresh hD).1
  have nw : ∀ (i : Nat) (o : Ow), (wipeE ε vs)[i]? = some (some (.own o)) → (wipe σ vs)[i]? ≠ some (some (.ref D)) := fun i o e1 e2 => by
    obtain ⟨e3, e4⟩ := wipeE_get e1
    rw [wipe_ne e4] at e2
    obtain ⟨r, f1, f2, _⟩ := R.own i o e3
    rw [e2] at f1; cases f1
    exact nA f2
  have nl : ∀ (i : Nat) (r : Addr) (qs : List Addr) (xss : List (List _root_.DW.D)), (wipeE ε vs)[i]? = some (some (.ll r qs xss)) → D ∉ r :: qs := fun i r qs xss e1 hb => nA ((R.ll i r qs xss (wipeE_get e1).1).2.1.hA D hb).1
  refine ⟨fun i m H2 => m = xs.length - i ∧ i ≤ xs.length ∧ ∃ acc, Rel K F (ds ++ π.1, ws ++ π.2) (fun b => A b ∨ b = D) (wipe σ vs) H2 (wipeE ε vs) ∧ Grow F.m H H2 ∧
      (∃ vs', H2 D = some (.dK vs') ∧ vs'.map (·.1) = acc.map (·.1) ∧ Dats K (fun b => A b ∨ b = D) H2 (acc.map (·.2)) (vs'.map (·.2))) ∧ dcW gg tt tk te vs (xs.drop i) acc ε fun acc => P (.dct acc), ⟨_, rfl, Nat.zero_le _, [], (R1.wide hD).wiped vs, g.trans (grow_new hD), ⟨[], upd_same, rfl, .nil⟩, p⟩, ?_⟩
  rintro i m H2 ⟨rfl, hi, acc, R2, g2, ⟨vs', e2, ek, d2⟩, z2⟩
  have hlen : vs'.length = acc.length := by simpa using congrArg List.length ek
  by_cases hlt : i < xs.length
  · obtain ⟨go, yl⟩ := wk.1 _ H2 i R2.tt (R2.unpin hl).2 hlt
    refine .inr ⟨go, fun H' => ∃ acc, Rel K F (ds ++ π.1, ws ++ π.2) (fun b => A b ∨ b = D) (wipe σ vs) H' (wipeE ε vs) ∧ Grow F.m H H' ∧
      (∃ vs', H' D = some (.dK vs') ∧ vs'.map (·.1) = acc.map (·.1) ∧ Dats K (fun b => A b ∨ b = D) H' (acc.map (·.2)) (vs'.map (·.2))) ∧ dcW gg tt tk te vs (xs.drop (i + 1)) acc ε fun acc => P (.dct acc), fun H' q => ⟨xs.length - (i + 1), by omega, rfl, hlt, q⟩, fun x H' y => ?_⟩
    obtain ⟨k1, k2⟩ := yl x H' y
    have gr : Grow F.m H2 H' := fun b o h _ => k1 b o h
    have jj : F.m.J H' := F.m.st H2 H' (fun b z => by
      cases e : H2 b with
      | none => exact absurd e (F.m.al H2 b R2.j z)
      | some o => rw [k1 b o e]) (fun b φ e => k1 b _ e) R2.j
    have R3 := R2.grow gr jj
    have hx : xs[i]? = some xs[i] := by simp [hlt]
    rw [List.drop_eq_getElem_cons hlt] at z2
    refine ⟨_, _, wipeE ε vs, xs[i], _, R3, k2 _ hx, z2, fun ε' σ' q' r hl' hn' => ⟨wipe_eq hl' hn', ?_⟩⟩
    refine ⟨_, _, ε', _, _, r, (fun _ _ _ _ z => z.elim), q', fun bb H3 pb g3 j3 => ?_⟩
    have gD : ∀ {Ha Hb : Hp} {vv : List (Key × V)}, Grow F.m Ha Hb → Ha D = some (.dK vv) → Hb D = some (.dK vv) := fun gg' e => gg' D _ e (F.nm h0)
    cases bb with
    | true =>
      simp only [if_true] at pb ⊢
      have r3 := r.grow g3 j3
      refine ⟨_, _, ε', _, _, r3, (fun _ _ _ _ z => z.elim), pb, fun y u H4 py g4 j4 dy => ⟨_, _, ε', _, _, r3.grow g4 j4, (fun _ _ _ _ z => z.elim), py, fun d v H5 pd g5 j5 dd => ?_⟩⟩
      obtain ⟨k, hk, hl2, nx⟩ := pd
      have ga := gr.trans (g3.trans (g4.trans g5))
      have e5 : H5 D = some (.dK vs') := gD ga e2
      have d5 := d2.mono ga R2.am fun _ z => z
      have hu : u = kV k := keyD_kV hk (dy.bor R2.am)
      obtain ⟨k1', k2'⟩ := putD_of (k := k) ek d5 dd
      refine ⟨vs', k, hu, e5, by rw [hlen]; exact hl2, putD acc k d, ?_, ?_, ⟨_, upd_same, k1', k2'.keep (.put (.inr rfl))⟩, nx⟩
      · exact (((R3.grow g3 j3).grow g4 j4).grow g5 j5).touch (.inr rfl) h0 (fun φ z => by rw [e5] at z; cases z) nw nl
      · intro b o hb nb
        have hbd : b ≠ D := ne_of_none hb h0D
        rw [upd_ne hbd]
        exact (g2.trans ga) b o hb nb
    | false =>
      simp only [Bool.false_eq_true, if_false] at pb ⊢
      exact ⟨acc, R3.grow g3 j3, g2.trans (gr.trans g3), ⟨vs', gD (gr.trans g3) e2, ek, d2.mono (gr.trans g3) R2.am fun _ z => z⟩, pb⟩
  · obtain e : i = xs.length := by omega
    subst e
    rw [List.drop_of_length_le (Nat.le_refl _)] at z2
    exact .inl ⟨wk.2 _ H2 (R2.unpin hl).2, q _ D H2 z2 g2 R2.j h0D ⟨vs', e2, ek, d2⟩⟩
theorem doDc {kx vx tg iter : Expr} {ifs : List Expr} {scope : Scope} {own : List (Str × Nat)} {it : WI} {gg : WG} {tt : WT} {tk te : WE} (hc : X.calm = true) (hN : X.N.Nodup) (hi : PI X tg iter (tI X.K F W it)) (ok : BlkOk X.N X.env.scope scope own)
    (hg : ∀ (s : Shared) (H : Hp) (C : Addr) (cl : List (Str × Addr)) (fp : List Addr), PG (X.blk s H scope (compEnvC scope cl C X.env) fp) tg (tG X.K F (own.map (·.2)) gg))
    (ht : ∀ (s : Shared) (H : Hp) (C : Addr) (cl : List (Str × Addr)) (fp : List Addr), PTs (X.blk s H scope (compEnvC scope cl C X.env) fp) ifs (tT X.K F W0 tt))
    (hk : ∀ (s : Shared) (H : Hp) (C : Addr) (cl : List (Str × Addr)) (fp : List Addr), PE (X.blk s H scope (compEnvC scope cl C X.env) fp) kx (tE X.K F W0 tk))
    (he : ∀ (s : Shared) (H : Hp) (C : Addr) (cl : List (Str × Addr)) (fp : List Addr), PE (X.blk s H scope (compEnvC scope cl C X.env) fp) vx (tE X.K F W0 te)) (hs : ∀ x, foldedSetIterable iter X.env x = pure x := by intro _; rfl) :
    PE X (.DictComp kx vx [⟨tg, iter, ifs, 0⟩] scope pos) (tO X.K F W (oDc it gg tt tk te (own.map (·.2)))) :=
  imE (pe_dc hc hN hi ok hg ht hk he hs) fun σ H Q h => dc_sound h
end
end DW

namespace DW
open L2 PyProof.Rows PySem.Spec PySem
/-! ### dict(zip(xs, ys)), two lists of one length -/
theorem zip_pairs {X : Cx} : ∀ {kvs : List (Key × V)} {us ws : List Value}, Vals (kvs.map fun p => kV p.1) us → Vals (kvs.map (·.2)) ws →
    ∃ prs : List (Key × Value), KV kvs prs ∧ prs.length = kvs.length ∧ us.length = kvs.length ∧ ws.length = kvs.length ∧ ∀ (j : Nat) (k v : Value), us[j]? = some k → ws[j]? = some v → ∃ key, prs[j]? = some (key, v) ∧ (mixKind X.prog X.w).is key k = true
  | [], us, ws, r1, r2 => by
    cases r1; cases r2
    exact ⟨[], .nil, rfl, rfl, rfl, fun j k v e => by simp at e⟩
  | kv :: kvs, us, ws, r1, r2 => by
    cases r1 with
    | cons h1 t1 =>
      cases r2 with
      | @cons _ y _ _ h2 t2 =>
        obtain ⟨prs, r, hl, l1, l2, hp⟩ := zip_pairs (X := X) t1 t2
        refine ⟨(kv.1, y) :: prs, .cons ⟨rfl, h2⟩ r, by simp [hl], by simp [l1], by simp [l2], fun j k v e1 e2 => ?_⟩
        cases j with
        | zero =>
          cases Option.some.inj e1
          cases Option.some.inj e2
          exact ⟨kv.1, rfl, kV_is (P := X.prog) (w := X.w) h1⟩
        | succ j =>
          obtain ⟨key, z1, z2⟩ := hp j k v (by simpa using e1) (by simpa using e2)
          exact ⟨key, by simpa using z1, z2⟩
def tDZ (K : PySem.W.Frag) (ta : TA) : TE := fun σ H Q => ta σ H fun vs H1 => ∃ (a b : Addr) (kvs : List (Key × V)), vs = [.ref a, .ref b] ∧ SqL K H1 a (kvs.map fun p => kV p.1) ∧ SqL K H1 b (kvs.map (·.2)) ∧
  ∀ p, H1 p = none → Q (.ref p) (upd H1 p (.dK (mergeK [] kvs)))
theorem pe_dictzip {X : Cx} {e1 e2 : Expr} {ta : TA} {p p2 pos pos2 : Pos} (hc : X.calm = true) (hg : Gl X "dict") (hm : X.mg "dict" = none) (hg2 : Gl X "zip") (hm2 : X.mg "zip" = none) (ha : PA X [e1, e2] ta)
    (hs : starEach [e1, e2] X.env = (false, eval e1 X.env) :: starEach [e2] X.env := by rfl) (hpl : (backTo pos2 (starEach [e2] X.env)).any (·.1) = false := by rfl)
    (hs2 : starEach [.Call (.Name "zip" p2) [e1, e2] [] pos2] X.env = [(false, eval (.Call (.Name "zip" p2) [e1, e2] [] pos2) X.env)] := by rfl) :
    PE X (.Call (.Name "dict" p) [.Call (.Name "zip" p2) [e1, e2] [] pos2] [] pos) (tDZ X.K ta) := by
  constructor; intro pins s σ H Q I h
  refine Call_ (ld_blt I hg hm PyProof.Rows.boot_dict (PyProof.Rows.callWith_type1 ?_ hs2 rfl))
  rw [hs2]
  show wpAny _ _ (spliced ((false, eval (.Call (.Name "zip" p2) [e1, e2] [] pos2) X.env) :: [])) _ _ _
  refine Calls.spliced_cons ?_
  refine Call_ (ld_blt I hg2 hm2 PyProof.Rows.boot_zip (PyProof.Rows.callWith_type1 (thn (ha.run pos2 pins s σ H _ I h) fun us s1 ⟨vs, H1, I1, r1, q1⟩ => ?_) hs hpl))
  obtain ⟨a, b, kvs, ex, hqx, hqy, q⟩ := q1
  subst ex
  obtain ⟨u1, u2, rfl, ra, rb⟩ := vals2 r1
  cases ra
  cases rb
  obtain ⟨its, rv, pl, hz⟩ := I1.list hqx
  obtain ⟨its2, rv2, pl2, hz2⟩ := I1.list hqy
  have la : a < s1.heap.objs.size := pl.lt
  have lb : b < s1.heap.objs.size := pl2.lt
  obtain ⟨prs, rel, hl, l1, l2, hp⟩ := zip_pairs (X := X) rv rv2
  refine call_zip_2 pl.isList pl2.isList fun h' hzp hTI hTO hi1 hi2 hsz hk => ?_
  refine Calls.spliced_nil ?_
  have fresh : ∀ b o, s1.heap.get? b = some o → b ∉ [s1.heap.objs.size + 4, s1.heap.objs.size + 3, s1.heap.objs.size, s1.heap.objs.size + 1] := fun b o e => by
    have lt : b < s1.heap.objs.size := Heap.lt_size e
    have n0 : ∀ k, b ≠ s1.heap.objs.size + k := fun k => Nat.ne_of_lt (Nat.lt_of_lt_of_le lt (Nat.le_add_right _ k))
    simp only [List.mem_cons, List.not_mem_nil, or_false, not_or]
    exact ⟨n0 4, n0 3, n0 0, n0 1⟩
  refine PySem.call_dict_pairs (knd := mixKind X.prog X.w) (kvs := prs) (PairArg.zip _ _ _ _ _ _ _ (PySem.W.ktu_apart s1.heap.objs.size a b la lb) its.toArray its2.toArray) (I1.ok.hd hc)
    ⟨hzp, hTI, ⟨_, _, hTO⟩, hi1, hi2, pl.isList.at fun o e => hk _ _ e, pl2.isList.at fun o e => hk _ _ e⟩ ⟨by simp [hl, l1, l2], fun i key v ⟨z1, z2⟩ => ?_⟩ (by
      simp only [List.size_toArray, l1, l2, Nat.min_self]
      rw [← List.length_map (f := fun p : Key × V => kV p.1)]
      exact hz) fun h2 tk hd k => ?_
  · exact hp i key v (by simpa using z1) (by simpa using z2)
  · have hm : (h'.objs.size == sysModules) = false := beq_eq_false_iff_ne.mpr (by rw [hsz]; exact Nat.ne_of_gt (Nat.lt_of_lt_of_le I1.big (Nat.le_add_right _ _)))
    have few : (mergeK [] kvs).length ≤ sizeLine := by
      apply Nat.le_trans (length_mergeK kvs [])
      rw [List.length_nil, Nat.zero_add, ← List.length_map (f := fun p : Key × V => kV p.1)]
      exact hz
    have le : s1.heap.objs.size ≤ h'.objs.size := by rw [hsz]; exact Nat.le_add_right _ _
    exact ⟨.ref h'.objs.size, upd H1 h'.objs.size (.dK (mergeK [] kvs)), I1.laid (t' := tk) (fun b o e => k b o (fresh b o e) (hk b o e)) le (show ObjOk X.prog X.w _ _ _ (.dK (mergeK [] kvs)) from ⟨few, hm, merged [] prs, KV.merge rel .nil, hd⟩), rfl, q _ (I1.hok.fresh le)⟩
def mergeD (acc more : List (Key × D)) : List (Key × D) := more.foldl (fun acc kd => putD acc kd.1 kd.2) acc
section
variable {K : PySem.W.Frag} {A : Addr → Prop} {H : Hp} {m : Md}
theorem mergeD_of : ∀ {kds acc : List (Key × D)} {kvs acv : List (Key × V)}, kvs.map (·.1) = kds.map (·.1) → Dats K A H (kds.map (·.2)) (kvs.map (·.2)) → acv.map (·.1) = acc.map (·.1) → Dats K A H (acc.map (·.2)) (acv.map (·.2)) →
    (mergeK acv kvs).map (·.1) = (mergeD acc kds).map (·.1) ∧ Dats K A H ((mergeD acc kds).map (·.2)) ((mergeK acv kvs).map (·.2))
  | [], acc, [], acv, _, _, e, h => ⟨e, h⟩
  | [], _, _ :: _, _, e, _, _, _ => by cases e
  | _ :: _, _, [], _, e, _, _, _ => by cases e
  | kd :: kds, acc, kv :: kvs, acv, e, h, e2, h2 => by
    obtain ⟨k, d⟩ := kd
    obtain ⟨k', v⟩ := kv
    simp only [List.cons.injEq, List.map_cons] at e
    obtain ⟨rfl, e⟩ := e
    cases h with
    | cons h t =>
      obtain ⟨i1, i2⟩ := putD_of (k := k') e2 h2 h
      have r := mergeD_of e t i1 i2
      exact r
theorem zip_vals : ∀ {kds : List (Key × D)} {xs ys : List D} {us ws : List V}, xs.map keyD = kds.map (fun p => some p.1) → ys = kds.map (·.2) → Dats K A H xs us → Dats K A H ys ws →
    ∃ kvs : List (Key × V), us = kvs.map (fun p => kV p.1) ∧ ws = kvs.map (·.2) ∧ kvs.map (·.1) = kds.map (·.1)
  | [], [], ys, us, ws, _, e, h1, h2 => by
    subst e
    cases h1; cases h2
    exact ⟨[], rfl, rfl, rfl⟩
  | [], _ :: _, _, _, _, e, _, _, _ => by cases e
  | _ :: _, [], _, _, _, e, _, _, _ => by cases e
  | (k, d) :: kds, x :: xs, ys, us, ws, e, e2, h1, h2 => by
    subst e2
    cases h1 with
    | cons b t =>
      cases h2 with
      | @cons _ v _ _ b2 t2 =>
        simp only [List.cons.injEq, List.map_cons] at e
        obtain ⟨kvs, i1, i2, i3⟩ := zip_vals e.2 rfl t t2
        have hv := keyD_kV (m := md0) e.1 (b.bor fun _ (z : False) => z.elim)
        subst hv
        exact ⟨(k, v) :: kvs, by simp [i1], by simp [i2], by simp [i3]⟩
theorem bor_sq {x : D} {xs : List D} {v : V} (hx : x = .lst xs ∨ x = .fro xs) (b : Bor K m A H x v) : ∃ a vs, v = .ref a ∧ SqL K H a vs ∧ Dats K A H xs vs := by
  rcases hx with rfl | rfl
  · obtain ⟨a, vs, rfl, na, e, hs⟩ := b; exact ⟨a, vs, rfl, .of e, hs⟩
  · obtain ⟨a, vs, rfl, e, hs⟩ := b; exact ⟨a, vs, rfl, e.sq, hs⟩
end
section
variable {X : Cx} {F : Fx} {W : WX} {e1 e2 : Expr} {r : WA} {p p2 pos pos2 : Pos}
def oDZ (r : WA) : WO := fun ε P Z => r ε (fun ds => ∃ (x y : D) (xs ys : List D) (kds : List (Key × D)), ds = [x, y] ∧ (x = .lst xs ∨ x = .fro xs) ∧ (y = .lst ys ∨ y = .fro ys) ∧ xs.map keyD = kds.map (fun p => some p.1) ∧ ys = kds.map (·.2) ∧ P (.dct (mergeD [] kds))) Z
theorem doDZ (hc : X.calm = true) (hg : Gl X "dict") (hm : X.mg "dict" = none) (hg2 : Gl X "zip") (hm2 : X.mg "zip" = none) (ha : PA X [e1, e2] (tAB X.K F W r))
    (hs : starEach [e1, e2] X.env = (false, eval e1 X.env) :: starEach [e2] X.env := by rfl) (hpl : (backTo pos2 (starEach [e2] X.env)).any (·.1) = false := by rfl)
    (hs2 : starEach [.Call (.Name "zip" p2) [e1, e2] [] pos2] X.env = [(false, eval (.Call (.Name "zip" p2) [e1, e2] [] pos2) X.env)] := by rfl) :
    PE X (.Call (.Name "dict" p) [.Call (.Name "zip" p2) [e1, e2] [] pos2] [] pos) (tO X.K F W (oDZ r)) :=
  imE (pe_dictzip hc hg hm hg2 hm2 ha hs hpl hs2) fun σ H Q ⟨π, A, ε, P, Z, R, w, z, q⟩ => ⟨π, A, ε, _, Z, R, w, z, fun ds vs H1 pz g j b => by
    obtain ⟨x, y, xs, ys, kds, rfl, hx, hy, hk, hd, pp⟩ := pz
    obtain ⟨v, u, rfl, b1, b2⟩ := bors2 b
    obtain ⟨a, us, rfl, q1, d1⟩ := bor_sq hx b1
    obtain ⟨c, ws, rfl, q2, d2⟩ := bor_sq hy b2
    obtain ⟨kvs, i1, i2, i3⟩ := zip_vals hk hd d1 d2
    subst i1 i2 hd
    refine ⟨a, c, kvs, rfl, q1, q2, fun n hn => q _ n _ pp (g.trans (grow_new hn)) (j_new hn j) (fresh_back g j hn) ?_⟩
    obtain ⟨k1, k2⟩ := mergeD_of (acc := []) (acv := []) i3 d2 rfl .nil
    exact ⟨_, upd_same, k1, k2.keep (.new hn)⟩⟩
end
end DW

namespace DW
open L2 PyProof.Rows PySem.Spec PySem
/-! ### walks over zip(xs, ys) and enumerate(xs) -/
section
variable {K : PySem.W.Frag} {A : Addr → Prop} {H : Hp}
theorem dat_sq {x : D} {xs : List D} {v : V} (hx : x = .lst xs ∨ x = .fro xs) (b : Dat K A H x v) : ∃ a vs, v = .ref a ∧ SqL K H a vs ∧ Dats K A H xs vs := by
  rcases hx with rfl | rfl
  · cases b with
    | lst na e hs => exact ⟨_, _, rfl, .of e, hs⟩
  · cases b with
    | fro e hs => exact ⟨_, _, rfl, e.sq, hs⟩
theorem sq_one {a : Addr} {x : D} {xs : List D} {vs : List V} (hx : x = .lst xs ∨ x = .fro xs) (b : Dat K A H x (.ref a)) : ∃ vs, SqL K H a vs ∧ Dats K A H xs vs := by
  obtain ⟨a', vs, e, h1, h2⟩ := dat_sq hx b
  cases e
  exact ⟨vs, h1, h2⟩
theorem dat_pair {T : Addr} {d1 d2 : D} {v1 v2 : V} (hT : H T = none) (nT : ¬ A T) (b1 : Dat K A H d1 v1) (b2 : Dat K A H d2 v2) : Dat K A (upd H T (.tup [v1, v2])) (.tup [d1, d2]) (.ref T) :=
  .tup (.inl ⟨nT, .inl upd_same⟩) ((Dats.cons b1 (.one b2)).keep (.new' hT))
end
def zipT (xs ys : List D) : List D := List.zipWith (fun a b => D.tup [a, b]) xs ys
theorem wk_zip {K : PySem.W.Frag} {a b : Addr} {x y : D} {xs ys : List D} (hx : x = .lst xs ∨ x = .fro xs) (hy : y = .lst ys ∨ y = .fro ys) : Wk K (Itz K a b) [x, y] [.ref a, .ref b] (zipT xs ys) := by
  have key : ∀ (A : Addr → Prop) (H : Hp), Dats K A H [x, y] [.ref a, .ref b] → ∃ us ws, SqL K H a us ∧ SqL K H b ws ∧ Dats K A H xs us ∧ Dats K A H ys ws := fun A H h => by
    cases h with
    | cons h t =>
      cases t with
      | cons h2 t =>
        obtain ⟨us, h3, h4⟩ := sq_one (vs := []) hx h
        obtain ⟨ws, h5, h6⟩ := sq_one (vs := []) hy h2
        exact ⟨us, ws, h3, h5, h4, h6⟩
  refine ⟨fun A H i al h hi => ?_, fun A H h => ?_⟩
  · obtain ⟨us, ws, q1, q2, s1, s2⟩ := key A H h
    unfold zipT at hi
    rw [List.length_zipWith] at hi
    have l1 : i < us.length := by rw [← s1.length]; omega
    have l2 : i < ws.length := by rw [← s2.length]; omega
    refine ⟨⟨us, ws, us[i], ws[i], q1, q2, by simp [l1], by simp [l2]⟩, fun v H' yd => ?_⟩
    obtain ⟨T, v1, v2, rfl, hT, rfl, y1, y2⟩ := yd
    refine ⟨fun b o e => by rw [upd_ne (ne_of_none e hT)]; exact e, fun d e => ?_⟩
    unfold zipT at e
    have m1 : i < xs.length := by omega
    have m2 : i < ys.length := by omega
    rw [List.getElem?_zipWith, List.getElem?_eq_getElem m1, List.getElem?_eq_getElem m2] at e
    cases Option.some.inj e
    obtain ⟨u, f1, f2⟩ := s1.at (List.getElem?_eq_getElem m1)
    obtain ⟨u', f3, f4⟩ := s2.at (List.getElem?_eq_getElem m2)
    rw [y1 us q1] at f1; cases f1
    rw [y2 ws q2] at f3; cases f3
    exact dat_pair hT (fun z => (al T z).nn hT) f2 f4
  · obtain ⟨us, ws, q1, q2, s1, s2⟩ := key A H h
    refine ⟨us, ws, q1, q2, ?_⟩
    unfold zipT
    rw [List.length_zipWith, ← s1.length, ← s2.length]
    omega
section
variable {X : Cx} {F : Fx} {W : WX} {e e2 : Expr} {f : WE} {r : WA} {p pos tpos : Pos} {elts : List Expr} {kk : Nat}
def iZ (r : WA) : WI := fun ε P Z => r ε (fun ds => ∃ x y xs ys, ds = [x, y] ∧ (x = .lst xs ∨ x = .fro xs) ∧ (y = .lst ys ∨ y = .fro ys) ∧ P (zipT xs ys)) Z
theorem dIterZ (hg : Gl X "zip") (hm : X.mg "zip" = none) (ha : PA X [e, e2] (tA X.K F W r))
    (hs : Lone X e [e2] := by rfl) (hpl : NoStar X pos [e2] := by rfl) :
    PI X (.Tuple elts kk tpos) (.Call (.Name "zip" p) [e, e2] [] pos) (tI X.K F W (iZ r)) := imI (pi_zip hg hm ha hs hpl) fun σ H R ⟨π, A, ε, P, Z, rel, w, z, q⟩ => ⟨π, A, ε, _, Z, rel, w, z, fun ds vs H1 pz g j b => by
  obtain ⟨x, y, xs, ys, rfl, hx, hy, pp⟩ := pz
  have b0 := b
  cases b with
  | cons h t =>
    cases t with
    | cons h2 t =>
      cases t
      obtain ⟨a, us, rfl, q1, s1⟩ := dat_sq hx h
      obtain ⟨c, ws, rfl, q2, s2⟩ := dat_sq hy h2
      exact ⟨a, c, us, ws, rfl, q1, q2, q _ _ H1 _ _ pp g j b0 (wk_zip hx hy)⟩⟩
def enumT (xs : List D) : List D := xs.zipIdx.map fun p => D.tup [.int (p.2 : Int), p.1]
theorem wk_enum {K : PySem.W.Frag} {a : Addr} {x : D} {xs : List D} (hx : x = .lst xs ∨ x = .fro xs) : Wk K (Ite K a) [x] [.ref a] (enumT xs) := by
  have key : ∀ (A : Addr → Prop) (H : Hp), Dats K A H [x] [.ref a] → ∃ us, SqL K H a us ∧ Dats K A H xs us := fun A H h => by
    cases h with
    | cons h t => exact sq_one (vs := []) hx h
  refine ⟨fun A H i al h hi => ?_, fun A H h => ?_⟩
  · obtain ⟨us, q1, s1⟩ := key A H h
    unfold enumT at hi
    rw [List.length_map, List.length_zipIdx] at hi
    have l1 : i < us.length := by rw [← s1.length]; exact hi
    refine ⟨⟨us, us[i], q1, by simp [l1]⟩, fun v H' yd => ?_⟩
    obtain ⟨T, v1, rfl, hT, rfl, y1⟩ := yd
    refine ⟨fun b o e => by rw [upd_ne (ne_of_none e hT)]; exact e, fun d e => ?_⟩
    unfold enumT at e
    rw [List.getElem?_map, List.getElem?_zipIdx, List.getElem?_eq_getElem hi] at e
    have e' := Option.some.inj e
    simp only [Nat.zero_add] at e'
    subst e'
    obtain ⟨u, f1, f2⟩ := s1.at (List.getElem?_eq_getElem hi)
    rw [y1 us q1] at f1; cases f1
    exact dat_pair hT (fun z => (al T z).nn hT) (.int _) f2
  · obtain ⟨us, q1, s1⟩ := key A H h
    refine ⟨us, q1, ?_⟩
    unfold enumT
    rw [List.length_map, List.length_zipIdx, ← s1.length]
    exact Nat.le_refl _
def iEn (r : WA) : WI := fun ε P Z => r ε (fun ds => ∃ x xs, ds = [x] ∧ (x = .lst xs ∨ x = .fro xs) ∧ P (enumT xs)) Z
theorem dIterE (hg : Gl X "enumerate") (hm : X.mg "enumerate" = none) (ha : PA X [e] (tA X.K F W r)) (hs : starEach [e] X.env = [(false, eval e X.env)] := by rfl) :
    PI X (.Tuple elts kk tpos) (.Call (.Name "enumerate" p) [e] [] pos) (tI X.K F W (iEn r)) := imI (pi_enum hg hm ha hs) fun σ H R ⟨π, A, ε, P, Z, rel, w, z, q⟩ => ⟨π, A, ε, _, Z, rel, w, z, fun ds vs H1 pz g j b => by
  obtain ⟨x, xs, rfl, hx, pp⟩ := pz
  have b0 := b
  cases b with
  | cons h t =>
    cases t
    obtain ⟨a, us, rfl, q1, s1⟩ := dat_sq hx h
    exact ⟨a, us, rfl, q1, q _ _ H1 _ _ pp g j b0 (wk_enum hx)⟩⟩
end
end DW

namespace DW
open L2 PyProof.Rows PySem.Spec PySem
/-! ### C(e, .., k = v, ..) -/
section
variable {X : Cx} {F : Fx} {W : WX} {e : Expr} {es : List Expr} {kws : List Keyword} {f : WE} {r rk : WA} {s : Spn} {pos p kpos : Pos} {x : Str} {nm : Option Str} {C fI : Addr} {fd : FuncData} {ps ks : List Str} {k n : Nat} {g : List Value → List Value → List Value} {gV : List V → List V → List V} {gD : List D → List D → List D}
theorem imK {t t' : TA} (p : PK X kws t) (q : ∀ σ H Q, t' σ H Q → t σ H Q) : PK X kws t' := ⟨fun pos pins s σ H Q I z => p.run pos pins s σ H Q I (q σ H Q z)⟩
theorem dkNil : PK X [] (tA X.K F W aNil) := imK pk_nil fun σ H Q ⟨π, A, ε, P, Z, rel, w, z, q⟩ => q [] [] H z (.refl _ _) rel.j .nil
theorem dkCons (ha : PE X e (tE X.K F W f)) (hr : PK X kws (tA X.K F W r)) : PK X (⟨nm, e, kpos⟩ :: kws) (tA X.K F W (aCons f r)) :=
  imK (pk_cons ha hr) fun σ H Q ⟨π, A, ε, P, Z, rel, w, z, q⟩ => ⟨π, A, ε, _, Z, rel, w, z, fun d v H1 p g j b =>
    ⟨π, A, ε, _, Z, rel.grow g j, w.grow g, p, fun ds vs H2 p' g' j' b' => q _ _ H2 p' (g.trans g') j' (.cons (b.mono g' rel.am fun _ z => z) b')⟩⟩
/-- all of the written keywords have names, these ones -/
abbrev KwNames (X : Cx) (pos : Pos) (kws : List Keyword) (ks : List Str) : Prop := (backToKw pos (keywordEach kws X.env)).all (·.1.isSome) = true ∧ (backToKw pos (keywordEach kws X.env)).filterMap (·.1) = ks
/-- neither a starred word nor a doubly starred one -/
abbrev KwPlain (X : Cx) (pos : Pos) (es : List Expr) (kws : List Keyword) : Prop := ((backTo pos (starEach es X.env)).any (·.1) || (backToKw pos (keywordEach kws X.env)).any (·.1.isNone)) = false
/-- what __init__ is told of a new instance of C, with g the words in their order -/
abbrev InitAt (C : Addr) (sp : Sp) (E : XK) (Q : VK) (H : Hp) (g : Addr → List V) : Prop := ∀ a d, H a = none → H d = none → d ≠ a → sp (g a) (upd (upd H d (.own a)) a (.ins C d [])) (fun v H2 => v = .non ∧ Q (.ref a) H2) E
theorem run_makeKS {CX : CXT} {sp : Sp} {E : XK} {pins : List (Addr × Obj)} {σ : L2.St} {H : Hp} {sh : Shared} {Q : VK} {us ws : List Value} {vs zs : List V} (M : Mk X.K C fI) (Fn : FnOk X.prog X.w X.K X.mg X.base CX k fI fd ps sp) (hr : Room (k + 1) X.A) (hb : KBn X.K fd ps (n + 1) ks g gV)
    (hx : PassesAt CX X σ E) (I : Inv X pins σ H sh) (r : Vals vs us) (rz : Vals zs ws) (l1 : vs.length = n) (l2 : zs.length = ks.length)
    (h : InitAt C sp E Q H fun a => gV (.ref a :: vs) zs) : wpAny (model X.prog X.w) X.A (call (.ref C) us (ks.zip ws)) (EP X pins σ Q) X.xe sh := by
  obtain ⟨n1, n2, n3⟩ := two_new I
  have rv : Vals (V.ref (sh.heap.objs.size + 1) :: vs) (Value.ref (sh.heap.objs.size + 1) :: us) := .cons rfl r
  have many : (Value.ref (sh.heap.objs.size + 1) :: us).length = n + 1 := congrArg (· + 1) (r.length.symm.trans l1)
  exact make_at M Fn hr hx I (fun s1 K1 => hb.to s1 _ ws K1 many (rz.length.symm.trans l2)) (hb.rel rv rz) (h _ _ n1 n2 n3)
def wMakeK (C : Addr) (s : Spn) (n m : Nat) (gD : List D → List D → List D) (r rk : WA) : WE := fun ε P Z => r ε (fun ds => rk ε (fun es => ds.length = n ∧ es.length = m ∧ s C [] (gD ds es) (fun fs => P (.ins C fs)) Z) Z) Z
theorem dMakeK (M : MkI X.prog X.w X.K X.mg X.base k C s fI fd ps) (hb : KBn X.K fd ps (n + 1) ks g gV)
    (hD : ∀ (x : V) (vs zs : List V) (ds es : List D) (A : Addr → Prop) (H : Hp), vs.length = n → zs.length = ks.length → Dats X.K A H ds vs → Dats X.K A H es zs → ∃ ws, gV (x :: vs) zs = x :: ws ∧ Dats X.K A H (gD ds es) ws)
    (hr : Room (k + 1) X.A) (tk : Takes X W) (hg : Gl X x) (hm : X.mg x = some (.ref C)) (ha : PA X (e :: es) (tA X.K F W r)) (hkw : PK X kws (tA X.K F W rk))
    (hk : KwNames X pos kws ks := by exact ⟨rfl, rfl⟩) (hdb : (x == ("__debug__" : Str)) = false := by decide) (he : Lone X e es := by rfl) (hpl : KwPlain X pos (e :: es) kws := by rfl) : PE X (.Call (.Name x p) (e :: es) kws pos) (tE X.K F W (wMakeK C s n ks.length gD r rk)) := by
  refine ⟨fun pins sh σ H Q I ⟨π, A, ε, P, Z, R, w, z, q⟩ => wpAny_Call_Name_kw (ld_glob I hg hm ?_ hdb)⟩
  refine PySem.W.callWith_KW (h₀ := X.base) I.ok.mod.kin M.cl.kp hk.1 (thn (ha.run pos pins sh σ H (fun vs H1 => tA X.K F W rk σ H1 fun zs H2 => vs.length = n ∧ zs.length = ks.length ∧ InitAt C (spN X.K s) (L2.WE W σ) Q H2 fun a => gV (.ref a :: vs) zs) I
    ⟨π, A, ε, _, Z, R, w, z, fun ds vs H1 pz gr j b => ⟨π, A, ε, _, Z, R.grow gr j, w.grow gr, pz, fun es zs H2 pe gr2 j2 b2 => ?_⟩⟩) fun us s1 ⟨vs, H1, I1, rr, q⟩ => ?_) hpl he
  · obtain ⟨m1, m2, pe⟩ := pe
    have l1 := b.length.symm.trans m1
    have l2 := b2.length.symm.trans m2
    refine ⟨l1, l2, fun a dx h1 h2 h3 => ?_⟩
    obtain ⟨ws, e1, d1⟩ := hD (.ref a) vs zs ds es A H2 l1 l2 (b.mono gr2 R.am fun _ z => z) b2
    show spN X.K s (gV (.ref a :: vs) zs) _ _ _
    rw [e1]
    exact made_use ((R.grow gr j).grow gr2 j2) d1 pe (fun d v H' p g2 j3 h => q d v H' p ((gr.trans gr2).trans g2) j3 h) ((w.grow gr).grow gr2) h1 h2 h3
  · refine thn (hkw.run pos pins s1 σ H1 _ I1 q) fun ws s2 ⟨zs, H2, I2, rz, l1, l2, q2⟩ => ⟨I2.kIn, ?_⟩
    rw [hk.2]
    exact run_makeKS M.cl M.fn hr hb (passAt tk σ) I2 rr rz l1 l2 q2
end
end DW

namespace DW
open L2 PyProof.Rows PySem.Spec PySem
/-! ### x in o, o an instance whose class has its own __contains__ (it changes nothing, raises nothing, answers a bool) -/
section
variable {X : Cx} {F : Fx} {W : WX} {a b : Expr} {f g : WE} {pos : Pos} {k : Nat} {Ok : Addr → Prop} {sp : Sp} {s : Spd}
end
end DW

namespace DW
open L2 PyProof.Rows PySem.Spec PySem
/-! ### x == y, both instances of classes with an own __eq__ (it changes nothing, raises nothing, answers a bool) -/
section
variable {X : Cx} {F : Fx} {W : WX} {a b : Expr} {f g : WE} {pos : Pos} {k : Nat} {Ok : Addr → Prop} {sp : Sp} {s : Spd}
end
end DW

namespace DW
open L2 PyProof.Rows PySem.Spec PySem
/-! ### isinstance(x, T) of data: instances, texts, numbers, lists .. -/
/-- an own class, as isinstance takes it: the library's own InsC -/
abbrev InsT (K : PySem.W.Frag) (C : Addr) : Prop := C8.InsC K C
/-- a datum's class, as isinstance sees it -/
def tyD : D → Value
  | .non => .type "NoneType"
  | .bl _ => .type "bool"
  | .int _ => .type "int"
  | .str _ => .type "str"
  | .lst _ => .type "list"
  | .dct _ => .type "dict"
  | .ins C _ => .ref C
  | _ => .none
/-- T e t b: e the asked class, t the datum's, b the answer -/
def TabT (K : PySem.W.Frag) (T : D → Value → Bool → Prop) : Prop := ∀ e t b, T e t b → (∀ C, t = .ref C → InsT K C) ∧ t ≠ .none ∧ ((∃ D, e = .ref D ∧ PySem.W.kitOne K t (.ref D) = some b) ∨ ∃ n : String, e = .ty n ∧ PySem.W.kitOne K t (.type n) = some b)
def kIsT (T : D → Value → Bool → Prop) : List D → (D → Prop) → Prop := kk2 fun d e P => ∃ b, T e (tyD d) b ∧ P (.bl b)
theorem tyD_of {K : PySem.W.Frag} {m : Md} {A : Addr → Prop} {H : Hp} {d : D} {v : V} (h : Bor K m A H d v) (hi : ∀ C, tyD d = .ref C → InsT K C) (hn : tyD d ≠ .none) : TyX K H v (tyD d) := by
  cases d with
  | lst xs => obtain ⟨a, vs, rfl, na, e, hs⟩ := h; exact .base (.lst e)
  | dct kvs => obtain ⟨a, kws, rfl, na, e, hk, hs⟩ := h; exact .base (.dK e)
  | ins C fs => obtain ⟨a, dx, gs, rfl, na, e, hk, hs⟩ := h; exact let t := hi C rfl; .base (.ins e t.cl t.ha t.hn t.htk t.hm)
  | non => cases (show Dat K A H _ _ from h); exact .base .non
  | bl b => cases (show Dat K A H _ _ from h); exact .base (.bl _)
  | int i => cases (show Dat K A H _ _ from h); exact .base (.int _)
  | str x => cases (show Dat K A H _ _ from h); exact .base (.str _)
  | fro xs => exact absurd rfl hn
  | tup xs => exact absurd rfl hn
  | dtt kvs => exact absurd rfl hn
  | key _ => exact absurd rfl hn
  | fix _ => exact absurd rfl hn
  | lnt _ _ => exact absurd rfl hn
  | exc C fs => exact absurd rfl hn
  | hex a C dd fs => exact absurd rfl hn
  | ref a => exact absurd rfl hn
  | ty n => exact absurd rfl hn
  | fn F be => exact absurd rfl hn
theorem clIsT {K : PySem.W.Frag} {T : D → Value → Bool → Prop} (ht : TabT K T) : Cl K (rIsi K) (kIsT T) := fun m A H ds vs P Q am al j b k q => by
  match ds, b, k with
  | [d, e], b, k =>
    obtain ⟨v, u, rfl, b1, b2⟩ := bors2 b
    obtain ⟨bb, htb, hp⟩ := k
    obtain ⟨hi, hn, hk⟩ := ht e (tyD d) bb htb
    have t := tyD_of b1 hi hn
    have fin := q _ (V.bl bb) H hp (.refl _ _) j (.bl _)
    rcases hk with ⟨D, rfl, hk⟩ | ⟨n, rfl, hk⟩
    · cases (show Dat K A H (.ref D) u from b2)
      exact ⟨v, _, tyD d, .ref D, bb, rfl, .own D, t, hk, fin⟩
    · cases (show Dat K A H (.ty n) u from b2)
      exact ⟨v, _, tyD d, .type n, bb, rfl, .ty n, t, hk, fin⟩
end DW

namespace DW
open L2 PyProof.Rows PySem.Spec PySem
/-! ### all, any of a list of bools; text.join of a list of texts -/
section
variable {K : PySem.W.Frag} {A : Addr → Prop} {H : Hp} {m : Md}
theorem dats_bl : ∀ {bs : List Bool} {vs : List V}, Dats K A H (bs.map D.bl) vs → vs = bs.map V.bl
  | [], _, .nil => rfl
  | b :: bs, _, .cons h t => by
    cases h
    rw [List.map_cons, dats_bl t]
end
def kAll : List D → (D → Prop) → Prop := k1 fun d P => ∃ bs : List Bool, (d = .lst (bs.map D.bl) ∨ d = .fro (bs.map D.bl)) ∧ P (.bl (bs.all id))
theorem clAll {K : PySem.W.Frag} : Cl K (rAll K) kAll := fun m A H ds vs P Q am al j b k q => by
  match ds, b, k with
  | [d], b, k =>
    obtain ⟨v, rfl, bd⟩ := bors1 b
    obtain ⟨bs, hd, p⟩ := k
    obtain ⟨a, us, rfl, h1, h2⟩ := bor_sq hd bd
    rw [dats_bl h2] at h1
    exact ⟨a, bs, rfl, h1, q _ _ H p (.refl _ _) j (.bl _)⟩
section
variable {X : Cx} {F : Fx} {W : WX} {o e : Expr} {f g : WE} {apos pos : Pos}
end
end DW

namespace DW
open L2 PyProof.Rows PySem.Spec PySem
/-! ### list comprehensions, two clauses -/
section
variable {X : Cx} {F : Fx} {W : WX} {pos : Pos}
end
end DW

namespace DW
open LamX NdefX L2 PyProof.Rows PySem.Spec PySem
/-! ### function values: what they promise -/
structure VOk (P : Program) (w : World) (K : PySem.W.Frag) (mg : Str → Option Value) (base : Heap) (k : Nat) (d : D) (sp : Sp) : Prop where
  at_ : ∀ (A : Around) (outer : List Env) (s : Shared) (H : Hp) (A' : Addr → Prop) (v : V), Env0 P w K mg base A outer s H → Dat K A' H d v → ∃ f, v = .ref f ∧ PySem.W.FnAt f s.heap
  run : ∀ (A : Around) (outer : List Env) (s : Shared) (H : Hp) (A' : Addr → Prop) (f : Addr) (us : List Value) (vs : List V) (Q : VK) (E : XK), Room k A → Env0 P w K mg base A outer s H → Dat K A' H d (.ref f) → Vals vs us → sp vs H Q E →
    codeAny (model P w) A (.call (.ref f) ⟨us, []⟩) (CR (L2.CX P w) outer P w H s Q E) s
/-- a def by its name -/
theorem vok_def {P : Program} {w : World} {K : PySem.W.Frag} {mg : Str → Option Value} {base : Heap} {k : Nat} {g : Addr} {fd : FuncData} {ps : List Str} {sp : Sp} (Fn : FnOk P w K mg base (L2.CX P w) k g fd ps sp) (hb : Binds K fd ps []) (hk : ∃ oc od fd' sl, K.lookup g = some ⟨oc, od, .func fd', sl⟩) : VOk P w K mg base k (.ref g) sp where
  at_ := fun A outer s H A' v e0 d => by
    cases d
    obtain ⟨oc, od, fd', sl, e⟩ := hk
    exact ⟨g, rfl, oc, od, fd', sl, (e0.bs _ _ (e0.mod.kin _ _ e)).1⟩
  run := fun A outer s H A' f us vs Q E hr e0 d r h => by
    cases d
    have hl : us.length = ps.length := by rw [← r.length]; exact Fn.len _ _ _ _ h
    have kin : K.In s.heap := e0.mod.kin.keeps fun b o e => (e0.bs b o e).1
    have q := hb s us kin (by simpa using hl)
    rw [List.append_nil] at q
    exact Fn.run A outer s H ⟨us, []⟩ us vs Q E hr e0 q r h
section
variable {X : Cx} {F : Fx} {W : WX} {e : Expr} {es : List Expr} {r : WA} {pos p : Pos} {k : Nat} {x : Str}
def wCallV (V : D → Spd → Prop) (i : Nat) (r : WA) : WE := fun ε P Z => ∃ d s, ε[i]? = some (some (.dat d)) ∧ V d s ∧ r ε (fun ds => s ds P Z) Z
/-- x(e, ..), x a name that holds a function -/
theorem dCallV {V : D → Spd → Prop} (hV : ∀ d s, V d s → VOk X.prog X.w X.K X.mg X.base k d (liftP X.K s)) (i : Nat) (hr : Room k X.A) (tk : Takes X W) (hN : X.N[i]? = some x) (hv : Vis X.env.scope x) (ha : PA X (e :: es) (tA X.K F W r)) (hdb : (x == ("__debug__" : Str)) = false := by decide) (hcd : (x == ("__classdict__" : Str)) = false := by decide)
    (he : Lone X e es := by rfl) (hpl : NoStar X pos es := by rfl) : PE X (.Call (.Name x p) (e :: es) [] pos) (tE X.K F W (wCallV V i r)) := by
  refine ⟨fun pins s σ H Q I ⟨π, A, ε, P, Z, R, w, ⟨d, sp, hd, vk0, z⟩, q⟩ => ?_⟩
  have vk := hV d sp vk0
  obtain ⟨v, h1, dv⟩ := R.dat i d hd
  refine wpAny_Call_Name_kw (thn ((pe_var (pos := p) hN hv hdb hcd).run pins s σ H (fun u H1 => u = v ∧ H1 = H) I ⟨v, h1, rfl, rfl⟩) fun u s1 ⟨v', H1, I1, r1, e1, e2⟩ => ?_)
  subst e1 e2
  obtain ⟨f, e3, fa⟩ := vk.at_ _ _ _ _ _ _ I1.env0 dv
  subst e3
  cases (show u = .ref f from r1)
  refine PySem.W.callWith_F (first := []) fa (thn (ha.run pos pins s1 σ H1 (fun vs H2 => ∃ ds, sp ds P Z ∧ Grow F.m H1 H2 ∧ F.m.J H2 ∧ Dats X.K A H2 ds vs) I1 ⟨π, A, ε, _, Z, R, w, z, fun ds vs H' p g j b => ⟨ds, p, g, j, b⟩⟩) fun us s2 ⟨vs, H2, I2, rr, ds, pz, g, j, b⟩ => ?_) he hpl
  have dv2 : Dat X.K A H2 d (.ref f) := dv.mono g R.am fun _ z => z
  obtain ⟨f', e4, fa2⟩ := vk.at_ _ _ _ _ _ _ I2.env0 dv2
  cases e4
  exact ⟨fa2, called (kw := []) (passAt tk σ) I2 (vk.run X.A X.stack s2 H2 A f us vs Q (L2.WE W σ) hr I2.env0 dv2 rr (lift_use (i := ()) sub0 (R.grow g j) b pz (fun d v H' p g2 j2 h => q d v H' p (g.trans g2) j2 h) (w.grow g)))⟩
end
/-! ### a lambda is made -/
section
variable {X : Cx} {σ : L2.St} {H : Hp} {s : Shared} {pins : List (Addr × Obj)}
/-- a new function object, known from now on -/
theorem inv_fnE {F : NF} {be : Expr} {o : Obj} {t' : Nat} {pm ctv : Value} (I : Inv X pins σ H s) (ho : o = { cls := .type "function", data := .func (PySem.W.kla_fn F.name F.qual F.params be F.scope F.cl pm (.ref F.c) ctv) }) :
    Inv X pins σ (upd H s.heap.objs.size (FnE s.heap.objs.size F be)) { s with heap := s.heap.push o, toks := t' } := by
  have e : (s.heap.push o).get? s.heap.objs.size = some o := Heap.get?_push_size _ (by rw [ho]; rfl)
  refine I.laid (o := FnE s.heap.objs.size F be) (fun _ _ z => Heap.get?_push_of_some _ z) (Nat.le_refl _) ?_
  rw [ho] at e ⊢
  exact ⟨⟨_, _, pm, ctv, e⟩, ⟨_, e⟩, fun h1 h2 ⟨od, sl, p, t, z⟩ st => ⟨od, sl, p, t, st _ z⟩⟩
/-- a row more in the table at P: the other tables stay, and so do all code objects -/
theorem tabs_more {T : List (Addr × Str)} {P c' : Addr} {q : Str} {ps : Array Value} {pos : Pos} (hT : Tabs T H) (hP : H P = some (.tbl ps)) (one : ∀ p ∈ T, p.1 = P → p.2 = q) (nC : H c' = none) :
    Tabs T (upd (upd H P (.tbl (ps ++ #[rawInt pos.line, rawInt pos.col, .ref c']))) c' (CodeO c' q)) := fun p hp => by
  have stays : ∀ c o, H c = some o → c ≠ P → upd (upd H P (.tbl (ps ++ #[rawInt pos.line, rawInt pos.col, .ref c']))) c' (CodeO c' q) c = some o := fun c o z n => by
    rw [upd_ne (ne_of_none z nC), upd_ne n, z]
  have code : ∀ c n, H c = some (CodeO c n) → c ≠ P := fun c n z y => codeO_ne ps (Option.some.inj (z.symm.trans (y ▸ hP)))
  obtain ⟨qs, a, tr, am⟩ := hT p hp
  by_cases b : p.1 = P
  · obtain rfl : qs = ps := by
      rw [b, hP] at a
      exact (HO.tbl.inj (Option.some.inj a)).symm
    rw [one p hp b, b]
    rw [one p hp b] at am
    refine ⟨_, (upd_ne (ne_of_none hP nC)).trans upd_same, ?_, fun p' cv e => ?_⟩ <;> simp only [Array.toList_append] at *
    · exact PySem.TriplesOk_snoc _ _ _ _ tr
    · rcases among_app (pos := pos) _ tr e with old | new
      · obtain ⟨c, e1, e2⟩ := am p' cv old
        exact ⟨c, e1, stays c _ e2 (code c _ e2)⟩
      · exact ⟨c', new, upd_same⟩
  · refine ⟨qs, stays _ _ a b, tr, fun p' cv e => ?_⟩
    obtain ⟨c, e1, e2⟩ := am p' cv e
    exact ⟨c, e1, stays c _ e2 (code c _ e2)⟩
theorem pe_lamE {T : List (Addr × Str)} {c P : Addr} {params : Arguments} {body : Expr} {scope : Scope} {pos : Pos} (TB : TabB X.base X.mg c P) (hcode : X.env.code = .ref c)
    (hm : (P, X.env.qual ++ "<lambda>") ∈ T) (hu : ∀ p ∈ T, p.1 = P → p.2 = X.env.qual ++ "<lambda>") (hdef : defaultsOf params X.env = ([], [])) (hfree : ∀ y ∈ scope.names, y.2 = .free → X.env.scope.names.lookup y.1 = some .cell ∨ X.env.scope.names.lookup y.1 = some .free) :
    PE X (.Lambda params body scope pos) (fun σ H Q => Tabs T H ∧ ∀ (f c' : Addr) (H1 : Hp), (∀ b o, H b = some o → b ≠ P → H1 b = some o) → Tabs T H1 → H f = none → H1 f = some (FnE f ⟨"<lambda>", X.env.qual ++ "<lambda>", params, [], scope, cloFrom X.env.cells scope.names [], c'⟩ body) → H1 c' = some (CodeO c' (X.env.qual ++ "<lambda>")) → Q (.ref f) H1) := by
  refine ⟨fun pins s σ H Q I ⟨hT, h⟩ => PySem.W.kla_eval hdef ?_⟩
  obtain ⟨ps, hP, tr, am⟩ := hT _ hm
  have cells : ∀ y ∈ scope.names, y.2 = .free → ∃ c, X.env.cells.lookup y.1 = some c := fun y m z => I.ok.has _ (hfree y m z)
  -- the function's object, laid behind a heap that knows its code
  have fin : ∀ (H1 : Hp) (h' : Heap) (tk : Nat) (c' : Addr) (ctv : Value), Inv X pins σ H1 { s with heap := h', toks := tk } → (∀ b o, H b = some o → b ≠ P → H1 b = some o) → Tabs T H1 → H1 c' = some (CodeO c' (X.env.qual ++ "<lambda>")) → s.heap.objs.size ≤ h'.objs.size →
      EP X pins σ Q (.ref h'.objs.size) { s with heap := h'.push { cls := .type "function", data := .func (PySem.W.kla_fn "<lambda>" (X.env.qual ++ "<lambda>") params body scope (cloFrom X.env.cells scope.names []) ((X.mg "__name__").getD .none) (.ref c') ctv) }, toks := tk } := fun H1 h' tk c' ctv J kp T1 co le => by
    have new : H1 h'.objs.size = none := J.hok.fresh (Nat.le_refl _)
    have on : ∀ b o, H1 b = some o → upd H1 h'.objs.size (FnE h'.objs.size ⟨"<lambda>", X.env.qual ++ "<lambda>", params, [], scope, cloFrom X.env.cells scope.names [], c'⟩ body) b = some o := fun b o z => (upd_ne (ne_of_none z new)).trans z
    exact ⟨.ref h'.objs.size, _, inv_fnE (F := ⟨"<lambda>", X.env.qual ++ "<lambda>", params, [], scope, cloFrom X.env.cells scope.names [], c'⟩) (t' := tk) J rfl, rfl, h _ c' _ (fun b o z n => on b o (kp b o z n)) (T1.ext on) (I.hok.fresh le) upd_same (on _ _ co)⟩
  have glob := I.mod.glob.keeps I.bk
  have blt := TB.bm.keeps I.bk
  have atP := I.hok P _ hP
  have head := TB.code.keeps I.bk
  cases had : codeAmong pos ps.toList with
  | some cv =>
    obtain ⟨c', rfl, co⟩ := am pos cv had
    exact PySem.W.kla_makeFunctionHit (closure_ok cells) I.ok.glob glob hcode head atP tr had blt fun ctv h' tk hx le => fin H h' tk c' ctv (I.kept hx) (fun _ _ z _ => z) hT co le
  | none =>
    refine PySem.W.kla_makeFunction (closure_ok cells) I.ok.glob glob hcode head atP tr had TB.gP blt fun c' ctv h' tk hx ge lt rec tb => ?_
    obtain ⟨c2, oc, vs, t, e2, hoc, hd, hv⟩ := rec
    cases e2
    have nC : H c' = none := I.hok.fresh ge
    exact fin _ h' tk c' ctv (inv_table (q := X.env.qual ++ "<lambda>") (t' := tk) I hP hx tb ge ⟨oc, vs, t, hoc, hd, hv⟩) (fun b o z n => (upd_ne (ne_of_none z nC)).trans ((upd_ne n).trans z)) (tabs_more hT hP hu nC) upd_same (Nat.le_trans ge (Nat.le_of_lt lt))
end
section
variable {X : Cx} {F : Fx} {W : WX}
def wLam (mk : Addr → NF) (be : Expr) : WE := fun ε P _ => ∀ c', P (.fn (mk c') be)
/-- the way of changing knows the table of the def at P -/
structure MdT (m : Md) (T : List (Addr × Str)) (P : Addr) : Prop where
  M : m.M P
  j : ∀ H, m.J H → Tabs T H
  j' : ∀ H H1, m.J H → (∀ b o, H b = some o → b ≠ P → H1 b = some o) → Tabs T H1 → m.J H1
theorem dLam {T : List (Addr × Str)} {c P : Addr} {params : Arguments} {body : Expr} {scope : Scope} {pos : Pos} (hT : MdT F.m T P) (TB : TabB X.base X.mg c P) (hcode : X.env.code = .ref c)
    (hm : (P, X.env.qual ++ "<lambda>") ∈ T) (hu : ∀ p ∈ T, p.1 = P → p.2 = X.env.qual ++ "<lambda>") (hdef : defaultsOf params X.env = ([], [])) (hfree : ∀ y ∈ scope.names, y.2 = .free → X.env.scope.names.lookup y.1 = some .cell ∨ X.env.scope.names.lookup y.1 = some .free) :
    PE X (.Lambda params body scope pos) (tE X.K F W (wLam (fun c' => ⟨"<lambda>", X.env.qual ++ "<lambda>", params, [], scope, cloFrom X.env.cells scope.names [], c'⟩) body)) :=
  imE (pe_lamE TB hcode hm hu hdef hfree) fun σ H Q ⟨π, A, ε, P', Z, R, w, z, q⟩ => ⟨hT.j _ R.j, fun f c' H1 k t nf hf hc => by
    have g : Grow F.m H H1 := fun b o e n => k b o e fun (q : b = P) => n (by rw [q]; exact hT.M)
    have j : F.m.J H1 := hT.j' H H1 R.j k t
    exact q _ _ H1 (z c') g j (.fn (fun z => R.th f z nf) hf (fun z => ((R.grow g j).tt c' z).nx hc) hc)⟩
end
/-! ### captured cells lie in the base -/
abbrev CellB (base : Heap) (cl : List (Str × Addr)) (fr : List Str) (ws : List (Option V)) : Prop := CellsAt cl fr ws base fun _ => none
theorem cells_to {cl : List (Str × Addr)} {fr : List Str} {ws : List (Option V)} {h h' : Heap} {H H' : Hp} (C : CellsAt cl fr ws h H) (to : ∀ y c, cl.lookup y = some c → H' c = none ∧ ∀ v, h.IsCell c v → h'.IsCell c v) : CellsAt cl fr ws h' H' where
  len := C.len
  all := fun y c e => by
    obtain ⟨_, v, z⟩ := C.all y c e
    exact ⟨(to y c e).1, v, (to y c e).2 v z⟩
  inj := C.inj
  has := fun i y e => by
    obtain ⟨c, a, b⟩ := C.has i y e
    refine ⟨c, a, fun v ev => ?_⟩
    obtain ⟨u, r, z⟩ := b v ev
    exact ⟨u, r, (to y c a).2 _ z⟩
theorem cells_up {P : Program} {w : World} {K : PySem.W.Frag} {mg : Str → Option Value} {base : Heap} {A : Around} {outer : List Env} {s : Shared} {H : Hp} {cl : List (Str × Addr)} {fr : List Str} {ws : List (Option V)} (C : CellB base cl fr ws) (e0 : Env0 P w K mg base A outer s H) : CellsAt cl fr ws s.heap H :=
  cells_to C fun y c e => by
    obtain ⟨_, _, o, ho, _⟩ := C.all y c e
    exact ⟨(e0.bs _ _ ho).2, fun v ⟨o', ho', hd⟩ => ⟨o', (e0.bs _ _ ho').1, hd⟩⟩
/-- what a base that has the cells of X's frame tells -/
structure BX (X : Cx) (ε : Ev) (B : Heap) : Prop where
  sub : ∀ b o, X.base.get? b = some o → B.get? b = some o
  cells : ∀ (scope : Scope) (fr : List Str) (js : List Nat) (ns : List Int), (∀ y ∈ scope.names, y.2 = .free → X.env.scope.names.lookup y.1 = some .cell ∨ X.env.scope.names.lookup y.1 = some .free) → (∀ y ∈ fr, (y, NameKind.free) ∈ scope.names) → js.map (fun j => X.N[j]?) = fr.map some →
    js.map (fun j => ε[j]?) = ns.map (fun n => some (some (Sl.dat (.int n)))) → CellB B (cloFrom X.env.cells scope.names []) fr (ns.map fun n => some (V.int n))
section
variable {X : Cx} {F : Fx} {W : WX} {pins : List (Addr × Obj)} {σ : L2.St} {H : Hp} {s : Shared} {π : List D × List V} {A : Addr → Prop} {ε : Ev}
theorem slots_ns (R : Rel X.K F π A σ H ε) : ∀ {js : List Nat} {ns : List Int}, js.map (fun j => ε[j]?) = ns.map (fun n => some (some (Sl.dat (.int n)))) → js.map (slotAt σ) = ns.map fun n => some (V.int n)
  | [], [], _ => rfl
  | [], _ :: _, h => nomatch h
  | _ :: _, [], h => nomatch h
  | j :: js, n :: ns, h => by
    obtain ⟨h1, h2⟩ := List.cons.inj h
    obtain ⟨v, a, b⟩ := R.dat j _ h1
    cases b
    show slotAt σ j :: js.map (slotAt σ) = _ :: _
    rw [slotAt_of a, slots_ns R h2]
theorem bx_make (hfn : ∀ y, X.fn y = true) (I : Inv X pins σ H s) (R : Rel X.K F π A σ H ε) : ∃ B, BX X ε B ∧ Env0 X.prog X.w X.K X.mg B X.A X.stack s H := by
  let p : Addr → Bool := fun b => (X.base.get? b).isSome || (X.env.cells.map (·.1)).any fun y => decide (X.env.cells.lookup y = some b)
  let l : List Addr := (List.range s.heap.objs.size).filter fun b => !p b
  have pc : ∀ y b, X.env.cells.lookup y = some b → p b = true := fun y b e => by
    show ((X.base.get? b).isSome || (X.env.cells.map (·.1)).any fun y => decide (X.env.cells.lookup y = some b)) = true
    rw [Bool.or_eq_true]
    refine .inr (List.any_eq_true.mpr ⟨y, ?_, by simpa using e⟩)
    exact List.mem_map.mpr ⟨(y, b), PySem.mem_of_lookup e, rfl⟩
  have pb : ∀ b o, X.base.get? b = some o → p b = true := fun b o e => by
    show ((X.base.get? b).isSome || (X.env.cells.map (·.1)).any fun y => decide (X.env.cells.lookup y = some b)) = true
    rw [e]; rfl
  have pn : ∀ b, p b = true → (∃ o, X.base.get? b = some o) ∨ ∃ y, X.env.cells.lookup y = some b := fun b z => by
    have z : ((X.base.get? b).isSome || (X.env.cells.map (·.1)).any fun y => decide (X.env.cells.lookup y = some b)) = true := z
    rw [Bool.or_eq_true] at z
    rcases z with z | z
    · exact .inl (Option.isSome_iff_exists.mp z)
    · obtain ⟨y, _, hy⟩ := List.any_eq_true.mp z
      exact .inr ⟨y, by simpa using hy⟩
  have nl : ∀ b, p b = true → b ∉ l := fun b z hb => by
    have := (List.mem_filter.mp hb).2
    rw [z] at this; cases this
  have get : ∀ b o, s.heap.get? b = some o → p b = true → (PySem.W.hideAll s.heap l).get? b = some o := fun b o e z => PySem.W.hideAll_get l e (nl b z)
  have back : ∀ b o, (PySem.W.hideAll s.heap l).get? b = some o → s.heap.get? b = some o ∧ p b = true := fun b o e => by
    have e1 := PySem.W.of_hideAll l e
    refine ⟨e1, ?_⟩
    cases z : p b with
    | true => rfl
    | false =>
      have hb : b ∈ l := List.mem_filter.mpr ⟨List.mem_range.mpr (Heap.lt_size e1), by rw [z]; rfl⟩
      rw [PySem.W.hideAll_none l hb] at e; cases e
  have sub : ∀ b o, X.base.get? b = some o → (PySem.W.hideAll s.heap l).get? b = some o := fun b o e => get b o (I.bk b o e) (pb b o e)
  refine ⟨PySem.W.hideAll s.heap l, ⟨sub, fun scope fr js ns q1 q2 q3 hj => ?_⟩, I.ok.frames, ⟨I.ok.mod.kin.keeps sub, I.ok.mod.glob.keeps sub, ?_, I.ok.mod.nolimit.keeps sub⟩, fun b o e => ?_, Nat.le_of_eq (PySem.W.hideAll_size l _), ?_, I.stkFree, I.hok, I.bare⟩
  · have c := Caps.made I.ok q1 q2 q3
    have C := cells_of I c
    rw [slots_ns R hj] at C
    exact cells_to C fun y a e => ⟨rfl, fun v ⟨o, ho, hd⟩ => ⟨o, get _ _ ho (pc y a (c.sub y a e)), hd⟩⟩
  · obtain ⟨mb, h1, h2⟩ := I.ok.mod.blt
    exact ⟨mb, h1.keeps sub, h2⟩
  · obtain ⟨e1, z⟩ := back b o e
    refine ⟨e1, ?_⟩
    rcases pn b z with ⟨o', e'⟩ | ⟨y, e'⟩
    · exact (I.bs b o' e').2
    · exact I.freeC y b e'
  · have ff := I.stack
    have cellNot : ∀ y c, X.env.cells.lookup y = some c → ∀ o, s.heap.get? c = some o → ∃ v, o.data = .cell v := fun y c e o ho => by
      obtain ⟨v, o', ho', hd⟩ := I.cell y c e
      rw [ho] at ho'; cases ho'
      exact ⟨v, hd⟩
    have all : ∀ (ls : List Env), s.heap.FunFrames X.base ls → (∀ env ∈ ls, ∀ L, env.frame = some L → ∀ y, X.env.cells.lookup y ≠ some L) → s.heap.FunFrames (PySem.W.hideAll s.heap l) ls := by
      intro ls
      induction ls with
      | nil => intro _ _; trivial
      | cons env r ih =>
        intro hl hn
        obtain ⟨hk, ⟨L, o, hf, hb, ho, hd⟩, hr⟩ := hl
        refine ⟨hk, ⟨L, o, hf, ?_, ho, hd⟩, ih hr fun e he => hn e (List.mem_cons_of_mem _ he)⟩
        cases q : (PySem.W.hideAll s.heap l).get? L with
        | none => rfl
        | some o' =>
          obtain ⟨_, z⟩ := back L o' q
          rcases pn L z with ⟨o2, e'⟩ | ⟨y, e'⟩
          · rw [hb] at e'; cases e'
          · exact absurd e' (hn env List.mem_cons_self L hf y)
    refine all _ ff fun env he L hf y e => ?_
    have hL : L ∈ frs X.stack := List.mem_filterMap.mpr ⟨env, he, hf⟩
    rcases List.mem_cons.mp (I.stkSub L hL) with e' | hL'
    · exact I.cne y L e e'
    · obtain ⟨_, o, ho, _⟩ := I.ok.funs.mem hL'
      have h1 := I.ok.cab y L (hfn y) e
      exact absurd (Heap.lt_size ho) (Nat.not_lt.mpr h1)
end
/-! ### a def that is given functions: its promise tells of the base -/
section
variable {X : Cx} {F : Fx} {W : WX} {e : Expr} {es : List Expr} {r : WA} {pos p : Pos} {ι : Type} {mf : ι → Md} {s : Heap → ι → Spd} {x : Str} {k : Nat}
end
/-! ### a lambda keeps its promise -/
def startL (N : List Str) (ds : List D) (ns : List Int) : Ev := ds.map (fun d => some (Sl.dat d)) ++ (ns.map (fun n => some (Sl.dat (.int n))) ++ List.replicate (N.length - ds.length - ns.length) none)
/-- all that stands there is a datum -/
theorem startL_dat {N : List Str} {ds : List D} {ns : List Int} {i : Nat} {x : Sl} (e : (startL N ds ns)[i]? = some (some x)) : ∃ d, x = .dat d := by
  have m := List.mem_of_getElem? e
  simp only [startL, List.mem_append, List.mem_map, List.mem_replicate] at m
  rcases m with ⟨d, _, z⟩ | ⟨n, _, z⟩ | ⟨_, z⟩ <;> cases z <;> exact ⟨_, rfl⟩
theorem rel_startL {K : PySem.W.Frag} {m : Md} {A : Addr → Prop} {N : List Str} {H : Hp} {ds : List D} {vs : List V} {ns : List Int} (am : ∀ b, m.M b → A b) (al : ∀ b, A b → Th (H b)) (j : m.J H) (b : Dats K A H ds vs) :
    Rel K ⟨m, A, H, am, al⟩ ([], []) A (startF N vs (ns.map fun n => some (V.int n))) H (startL N ds ns) := by
  have hl := b.length
  have noown : ∀ (i : Nat) (o : Ow), (startL N ds ns)[i]? ≠ some (some (.own o)) := fun i o e => by
    obtain ⟨d, z⟩ := startL_dat e
    cases z
  refine ⟨.nil, .refl _ _, j, fun _ z => z, al, ?_, fun i d e => ?_, fun i o e => absurd e (noown i o), fun i k o o' v e => absurd e (noown i o), fun i p qs xss e => by
    obtain ⟨d, z⟩ := startL_dat e
    cases z⟩
  · unfold startL startF
    simp only [List.length_append, List.length_map, List.length_replicate]
    omega
  · unfold startL at e
    unfold startF
    by_cases q : i < ds.length
    · rw [List.getElem?_append_left (by simpa using q), List.getElem?_map] at e
      cases e2 : ds[i]? with
      | none => rw [e2] at e; cases e
      | some d' =>
        rw [e2] at e; cases e
        obtain ⟨v, h1, h2⟩ := b.at e2
        refine ⟨v, ?_, h2⟩
        rw [List.getElem?_append_left (by simpa using (by omega : i < vs.length)), List.getElem?_map, h1]
        rfl
    · rw [List.getElem?_append_right (by simpa using q)] at e
      rw [List.getElem?_append_right (by simpa using (by omega : vs.length ≤ i))]
      simp only [List.length_map] at e ⊢
      rw [← hl]
      by_cases q2 : i - ds.length < ns.length
      · rw [List.getElem?_append_left (by simpa using q2), List.getElem?_map] at e
        rw [List.getElem?_append_left (by simpa using q2), List.getElem?_map]
        cases e2 : ns[i - ds.length]? with
        | none => rw [e2] at e; cases e
        | some n =>
          rw [e2] at e; cases e
          exact ⟨_, rfl, .int n⟩
      · rw [List.getElem?_append_right (by simpa using q2), List.getElem?_replicate] at e
        split at e <;> cases e
theorem vok_lam {P : Program} {w : World} {K : PySem.W.Frag} {mg : Str → Option Value} {base : Heap} {N ps fr : List Str} {F : NF} {be : Expr} {ns : List Int} {s : Spd} {k : Nat} (S : NScope N ps fr F.scope) (C : CellB base F.cl fr (ns.map fun n => some (V.int n)))
    (hb : ∀ (pm ctv : Value) (us : List Value), us.length = ps.length → bindArgs (PySem.W.kla_fn F.name F.qual F.params be F.scope F.cl pm (.ref F.c) ctv) ⟨us, []⟩ = pure (ps.zip us)) (hlen : ∀ ds P Z, s ds P Z → ds.length = ps.length)
    (hG : ∀ (f : Addr) (A : Around) (outer : List Env) (sh : Shared) (H : Hp) (E : XK) (Fx0 : Fx) (ds : List D) (Q : D → Prop) (Z : Ex → Prop), Fx0.m = md0 → Room k (A.deeper (envF F f sh.heap.objs.size)) → s ds Q Z →
      ∃ g : WE, PE (ncx (L2.CX P w) P w K mg base N F f A outer sh H E) be (tE K Fx0 (Wd E) g) ∧ g (startL N ds ns) Q Z) : VOk P w K mg base (k + 1) (.fn F be) (liftP K s) where
  at_ := fun A outer s H A' v e0 d => by
    cases d with
    | fn na h nc hc =>
      obtain ⟨⟨od, sl, pm, ctv, ho⟩, _, _⟩ := e0.hok _ _ h
      exact ⟨_, rfl, _, od, _, sl, ho⟩
  run := fun A outer sh H A' f us vs Q E hr e0 d r h => by
    cases d with
    | fn na hf nc hc =>
      obtain ⟨⟨od, sl, pm, ctv, ho⟩, _, _⟩ := e0.hok _ _ hf
      obtain ⟨_, A2, ds, P2, Z, am, al, j, b, z, q1, q2⟩ := h
      have hl : vs.length = ps.length := by rw [← b.length]; exact hlen _ _ _ z
      have lim : sh.heap.NoLimit := e0.mod.nolimit.keeps fun b o e => (e0.bs b o e).1
      refine PySem.W.kla_callFunE hr.depth ho rfl S.co S.gen rfl (codeO_at e0.hok hc) ?_
      rw [hb pm ctv us (by rw [← r.length]; exact hl)]
      refine wpAny_pure ?_
      refine wpAny_newFunctionEnv S.nocell (fun z m => S.par z.1 (List.of_mem_zip m).1) (fun h₁ hns hsb => ?_) S.kind
      refine ⟨lim.fresh _ hsb, ?_⟩
      show codeAny _ _ (.expr be (envF F f sh.heap.objs.size)) _ _
      have kp : ∀ b o, sh.heap.get? b = some o → h₁.get? b = some o := fun b o e => hsb.extBut b o (Nat.ne_of_lt (Heap.lt_size e)) (Heap.get?_push_of_some _ e)
      obtain ⟨g, hg, gz⟩ := hG f A outer sh H E ⟨md0, A2, H, am, al⟩ ds P2 Z rfl (hr.deeper _) z
      have I : Inv (ncx (L2.CX P w) P w K mg base N F f A outer sh H E) [] (startF N vs (ns.map fun n => some (V.int n))) H { sh with heap := h₁, toks := sh.toks + (ps.zip us).length } := inv_startN S hr.hd e0 hl r (cells_up C e0) hns kp
      refine PySem.W.kla_codeExpr (wpAny_mono (hg.run [] _ _ H Q I ⟨([], []), A2, _, P2, Z, rel_startL am al j b, fun x cls dd H' zx gg jj ex => q2 x cls dd H' zx gg jj ex, gz, fun d v H' p gg jj h => q1 d v H' p gg jj h⟩) (fun v s' ⟨a, H', J, rv, z⟩ => ⟨a, H', J.os, J.bare, J.base, J.hok, rv, z⟩) fun e s' hq => hq)
/-! ### a def that makes lambdas: its code object is known -/
theorem Fun.okXC {P : Program} {w : World} {K : PySem.W.Frag} {mg : Str → Option Value} {base : Heap} {x qual : Str} {st : Stmt} {f : Addr} {fd : FuncData} {N ps : List Str} {k : Nat} {sp : Sp} (F : Fun K x qual st f fd) (S : FnScope N ps (defScope st)) (len : ∀ vs H Q E, sp vs H Q E → vs.length = ps.length)
    (hbody : ∀ (cdv : Value) (A : Around) (outer : List Env) (s : Shared) (H : Hp) (vs : List V) (Q : VK) (E : XK), cdv = fd.code → Room k (A.deeper (envOfC qual (defScope st) s.heap.objs.size f cdv)) → sp vs H Q E →
      ∃ t, PSs (cxOf (L2.CX P w) P w K mg base N qual (defScope st) f cdv A outer s H E) (defBody st) t ∧ t { nx := fun _ H' => Q .non H', rt := Q } (L2.start N vs) H) : FnOk P w K mg base (L2.CX P w) (k + 1) f fd ps sp := by
  rcases F.ex with ⟨_, _, _, _, _, _, cdv, _, _, rfl, lk, hcd⟩
  exact fn_of lk hcd S len fun A outer s H vs Q E hr hsp => hbody cdv A outer s H vs Q E rfl hr hsp
theorem def_okC {ι : Type} {mf : ι → Md} {s : ι → Spd} {P : Program} {w : World} {K : PySem.W.Frag} {mg : Str → Option Value} {base : Heap} {x qual : Str} {st : Stmt} {N ps : List Str} {g : Addr} {fd : FuncData} {k : Nat} (Fn : Fun K x qual st g fd) (S : FnScope N ps (defScope st))
    (hlen : ∀ i ds P Z, s i ds P Z → ds.length = ps.length)
    (hG : ∀ (cdv : Value) (A : Around) (outer : List Env) (sh : Shared) (H : Hp) (E : XK) (F : Fx) (i : ι) (ds : List D) (Q : D → Prop) (Z : Ex → Prop), cdv = fd.code → F.m = mf i → Room k (A.deeper (envOfC qual (defScope st) sh.heap.objs.size g cdv)) → s i ds Q Z →
      ∃ G : WS, PSs (cxOf (L2.CX P w) P w K mg base N qual (defScope st) g cdv A outer sh H E) (defBody st) (tS K F (Wd E) G) ∧ G (startE N ds) { nx := fun _ => Q .non, rt := Q, ex := fun x _ => Z x }) : FnOk P w K mg base (L2.CX P w) (k + 1) g fd ps (liftG K mf s) := by
  refine Fun.okXC Fn S (fun vs H Q E h => ?_) fun cdv A outer sh H vs Q E hcd hr h => ?_
  · obtain ⟨i, A, ds, P, Z, am, al, j, b, z, _⟩ := h
    rw [← b.length]
    exact hlen i ds P Z z
  · obtain ⟨i, A', ds, P', Z, am, al, j, b, z, q1, q2⟩ := h
    obtain ⟨G, h1, h2⟩ := hG cdv A outer sh H E ⟨mf i, A', H, am, al⟩ i ds P' Z hcd rfl hr z
    refine ⟨_, h1, ?_⟩
    exact ⟨([], []), A', startE N ds, _, rel_start am al j b, h2, fun A2 ε2 σ2 H2 n r => q1 _ _ H2 n r.gr r.j .non, fun d v H2 p g2 j2 h2 => q1 d v H2 p g2 j2 h2, fun _ _ _ _ n => n.elim, fun _ _ _ _ n => n.elim, fun x A2 ε2 σ2 H2 cls dd n r ex => q2 x cls dd H2 n r.gr r.j (ex.mono r.aa)⟩
end DW

namespace DW
open L2 PyProof.Rows PySem.Spec PySem
/-! ### xs.index(y); list(range(n)); [..] * n; xs + ys, a if c else b as new objects -/
theorem pds_at (xs : List D) (i : Nat) : (pds xs)[i]? = (xs[i]?).map D.pd := by rw [pds_map, List.getElem?_map]
section
variable {X : Cx} {F : Fx} {W : WX} {e o a b c : Expr} {es : List Expr} {f g : WE} {t : WT} {p q : WO} {r : WA} {pos apos pp : Pos}
def ixOk (xs : List D) (y : D) (P : D → Prop) : Prop := SeqAt.shaped y.pd = true ∧ SeqAt.shaped (PyData.list (pds xs)) = true ∧ ∃ (j : Nat) (z : D), xs[j]? = some z ∧ PyData.eqv z.pd y.pd = true ∧ (∀ (m : Nat) (z' : D), m < j → xs[m]? = some z' → PyData.eqv z'.pd y.pd = false) ∧ P (.int (j : Nat))
def wIdx (f g : WE) : WE := fun ε P Z => f ε (fun x => ∃ xs, (x = .lst xs ∨ x = .fro xs) ∧ g ε (fun y => ixOk xs y P) Z) Z
/-- plain words in the brackets, and not many -/
abbrev FewPlain (X : Cx) (pos : Pos) (es : List Expr) : Prop := ((backTo pos (starEach es X.env)).all (fun x => !x.1) && (backToKw pos (keywordEach [] X.env)).all (fun x => x.1.isSome) && decide (es.length + ([] : List Keyword).length + (if ([] : List Keyword).isEmpty then 0 else 1) < 30)) = true
theorem dIdx (hu : X.A.units + 65 < cLine) (ho : PE X o (tB X.K F W f)) (ha : PE X e (tB X.K F W g)) (hbase : attributeBase o "index" X.env (eval o X.env) = eval o X.env := by rfl)
    (hfew : FewPlain X pos [e] := by rfl)
    (hline : (apos.endLine == pos.line) = true := by rfl) (hs : starEach [e] X.env = (false, eval e X.env) :: starEach [] X.env := by rfl) (hplain : (backTo pos (starEach [] X.env)).any (·.1) = false := by rfl) :
    PE X (.Call (.Attribute o "index" apos) [e] [] pos) (tE X.K F W (wIdx f g)) :=
  imE (pe_bm PySem.F.plainAttrs_list PySem.F.slot_list_index PySem.F.type_list_index (mt_indexD hu) ho (dbCons (F := F) (W := W) ha dbNil hs) hbase hfew hline hs hplain) fun σ H Q ⟨π, A, ε, P, Z, R, w, z, k⟩ => ⟨π, A, ε, _, Z, R, w, z, fun x v H1 pz gr j bx => by
    obtain ⟨xs, hx, z2⟩ := pz
    obtain ⟨l, vs, rfl, hq, hd⟩ := bor_sq hx bx
    refine ⟨.inl ⟨rfl, _, hq⟩, π, A, ε, fun ds => match ds with | [y] => ixOk xs y P | _ => False, Z, R.grow gr j, w.grow gr, z2, fun ds us H2 pd gr2 j2 b2 => ?_⟩
    match ds, b2, pd with
    | [y], b2, pd =>
      obtain ⟨sy, sx, i, zz, hi, hz, hno, hp⟩ := pd
      obtain ⟨u, rfl, by_⟩ := bors1 b2
      have bx2 := bx.grow gr2 R.am
      have cx : x.pd.canLay0 = true := by
        rcases hx with rfl | rfl
        · rw [D.pd]; exact SeqAt.canLay_of_shaped sx
        · rw [D.pd]; exact SeqAt.canLay_of_shaped sx
      have dx : Dp X.K H2 (.ref l) (.list (pds xs)) := by
        have := bx2.dp cx
        rcases hx with rfl | rfl
        · rw [D.pd] at this; exact this
        · rw [D.pd] at this; exact this
      refine ⟨l, u, y.pd, pds xs, i, zz.pd, rfl, rfl, dx, by_.dp (SeqAt.canLay_of_shaped sy), sx, sy, by rw [pds_at, hi]; rfl, hz, fun m z' hm e => ?_, k _ _ H2 hp (gr.trans gr2) j2 (.int _)⟩
      rw [pds_at] at e
      cases q : xs[m]? with
      | none => rw [q] at e; nomatch e
      | some z'' => rw [q] at e; cases e; exact hno m z'' hm q⟩
def oLr (f : WE) : WO := fun ε P Z => f ε (fun d => ∃ n, d = .int n ∧ 0 ≤ n ∧ n ≤ 16777216 ∧ P (.lst (rngD 0 n.toNat))) Z
theorem rgV_dats {K : PySem.W.Frag} {A : Addr → Prop} {H : Hp} (n : Int) : Dats K A H (rngD 0 n.toNat) (rgV 0 n) := by
  unfold rngD rgV
  rw [Int.sub_zero]
  have : ∀ l : List Nat, Dats K A H (l.map fun (i : Nat) => D.int (0 + (i : Int))) (l.map fun i => V.int (0 + (i : Nat))) := by
    intro l
    induction l with
    | nil => exact .nil
    | cons x xs ih => exact .cons (.int _) ih
  exact this _
theorem doLr {p1 p2 pos2 : Pos} (hc : X.calm = true) (hg : Gl X "list") (hm : X.mg "list" = none) (hg2 : Gl X "range") (hm2 : X.mg "range" = none) (he : PE X e (tE X.K F W f)) (na : starEach [e] X.env = (false, eval e X.env) :: starEach [] X.env := by rfl)
    (na2 : starEach [.Call (.Name "range" p2) [e] [] pos2] X.env = (false, eval (.Call (.Name "range" p2) [e] [] pos2) X.env) :: starEach [] X.env := by rfl) : PE X (.Call (.Name "list" p1) [.Call (.Name "range" p2) [e] [] pos2] [] pos) (tO X.K F W (oLr f)) :=
  imE (pe_listRg hc hg hm (prg_1 hg2 hm2 he na) na2) fun σ H Q ⟨π, A, ε, P, Z, R, w, z, k⟩ => ⟨π, A, ε, _, Z, R, w, z, fun d v H1 pd gr j bd => by
    obtain ⟨n, rfl, h0, h1, p⟩ := pd
    cases bd
    exact ⟨n, rfl, .of_le (Int.le_refl 0) h1 (by omega) h0, fun q hq => k _ q _ p (gr.trans (grow_new hq)) (j_new hq j) (fresh_back gr j hq) ⟨_, upd_same, rgV_dats n⟩⟩⟩
/-- xs * n, xs a list -/
def oRep (f g : WE) : WO := fun ε P Z => f ε (fun x => g ε (fun y => ∃ xs n, x = .lst xs ∧ y = .int n ∧ 0 ≤ n ∧ n < 2 ^ 63 ∧ xs.length * n.toNat ≤ sizeLine ∧ P (.lst (List.replicate n.toNat xs).flatten)) Z) Z
theorem dats_rep {K : PySem.W.Frag} {A : Addr → Prop} {H : Hp} {xs : List D} {vs : List V} (h : Dats K A H xs vs) : ∀ n : Nat, Dats K A H (List.replicate n xs).flatten (List.replicate n vs).flatten
  | 0 => .nil
  | n + 1 => by
    iterate 2 rw [List.replicate_succ, List.flatten_cons]
    exact h.app (dats_rep h n)
theorem doRep (ha : PE X a (tB X.K F W f)) (hb : PE X b (tB X.K F W g)) : PE X (.BinOp a .Mult b pos) (tO X.K F W (oRep f g)) :=
  imE (pe_op op_rep ha hb) fun σ H Q ⟨π, A, ε, P, Z, R, w, z, k⟩ => ⟨π, A, ε, _, Z, R, w, z, fun x u H1 z1 g1 j1 b1 => ⟨π, A, ε, _, Z, R.grow g1 j1, w.grow g1, z1, fun y v H2 z2 g2 j2 b2 => by
    obtain ⟨xs, n, rfl, rfl, h0, h1, h2, p⟩ := z2
    obtain ⟨l, vs, rfl, na, e, hs⟩ := b1.grow g2 R.am
    cases bInt b2
    exact ⟨l, n, vs, rfl, rfl, e, by omega, h1, by rw [← hs.length]; exact h2, fun q hq => k _ q _ p ((g1.trans g2).trans (grow_new hq)) (j_new hq j2) (fresh_back (g1.trans g2) j2 hq) ⟨_, upd_same, (dats_rep hs _).keep (.new hq)⟩⟩⟩⟩
/-- xs + ys, two lists -/
def oCat (f g : WE) : WO := fun ε P Z => f ε (fun x => g ε (fun y => ∃ xs ys, x = .lst xs ∧ y = .lst ys ∧ xs.length + ys.length ≤ sizeLine ∧ P (.lst (xs ++ ys))) Z) Z
theorem doCat (ha : PE X a (tB X.K F W f)) (hb : PE X b (tB X.K F W g)) : PE X (.BinOp a .Add b pos) (tO X.K F W (oCat f g)) :=
  imE (pe_op op_cat ha hb) fun σ H Q ⟨π, A, ε, P, Z, R, w, z, k⟩ => ⟨π, A, ε, _, Z, R, w, z, fun x u H1 z1 g1 j1 b1 => ⟨π, A, ε, _, Z, R.grow g1 j1, w.grow g1, z1, fun y v H2 z2 g2 j2 b2 => by
    obtain ⟨xs, ys, rfl, rfl, h1, p⟩ := z2
    obtain ⟨l, vs, rfl, na, e, hs⟩ := b1.grow g2 R.am
    obtain ⟨l2, ws, rfl, na2, e2, hs2⟩ := b2
    exact ⟨l, l2, vs, ws, rfl, rfl, e, e2, by rw [← hs.length, ← hs2.length]; exact h1, fun q hq => k _ q _ p ((g1.trans g2).trans (grow_new hq)) (j_new hq j2) (fresh_back (g1.trans g2) j2 hq) ⟨_, upd_same, (hs.app hs2).keep (.new hq)⟩⟩⟩⟩
def oIf (t : WT) (f g : WO) : WO := fun ε P Z => t ε (fun c => if c = true then f ε P Z else g ε P Z) Z
theorem doIf (hc : PT X c (tT X.K F W t)) (ha : PE X a (tO X.K F W p)) (hb : PE X b (tO X.K F W q)) : PE X (.IfExp c a b pos) (tO X.K F W (oIf t p q)) :=
  imE (pe_ifExp hc ha hb) fun σ H Q ⟨π, A, ε, P, Z, R, w, z, q⟩ => ⟨π, A, ε, _, Z, R, w, z, fun c H1 p g j => by
    have up : ∀ {H' : Hp} {pp : Addr}, Grow F.m H1 H' → F.m.J H' → H1 pp = none → H pp = none := fun g' j' e => fresh_back g j e
    cases c with
    | true => exact ⟨π, A, ε, P, Z, R.grow g j, w.grow g, p, fun d v H' p' g' j' n b' => q d v H' p' (g.trans g') j' (up g' j' n) b'⟩
    | false => exact ⟨π, A, ε, P, Z, R.grow g j, w.grow g, p, fun d v H' p' g' j' n b' => q d v H' p' (g.trans g') j' (up g' j' n) b'⟩⟩
end
/-! ### defs that answer a new object -/
abbrev Spo := List D → (Ow → Prop) → (Ex → Prop) → Prop
def liftO {ι : Type} (K : PySem.W.Frag) (mf : ι → Md) (s : ι → Spo) : Sp := fun vs H Q E => ∃ i A ds P Z, (∀ b, (mf i).M b → A b) ∧ (∀ b, A b → Th (H b)) ∧ (mf i).J H ∧ Dats K A H ds vs ∧ s i ds P Z ∧
  (∀ o p H', P o → Grow (mf i) H H' → (mf i).J H' → H p = none → OwnAt K (fun b => A b ∨ b = p) H' p o → Q (.ref p) H') ∧ ∀ x cls dd H', Z x → Grow (mf i) H H' → (mf i).J H' → ExAt K A H' x cls dd → E cls dd H'
def tR (K : PySem.W.Frag) (F : Fx) (W : WX) (o : WO) : TS := fun D σ H => ∃ π A ε P Z, Rel K F π A σ H ε ∧ XW K F W A σ H Z ∧ o ε P Z ∧ ∀ x p H', P x → Grow F.m F.H0 H' → F.m.J H' → F.H0 p = none → OwnAt K (fun b => F.A0 b ∨ b = p) H' p x → D.rt (.ref p) H'
/-- statements, then such a return -/
def tL (K : PySem.W.Frag) (F : Fx) (W : WX) (G : WS) (o : WO) : TS := fun D σ H => ∃ π A ε P Z, Rel K F π A σ H ε ∧
  (∀ x A' ε' σ' H' cls dd, Z x → Rel K F π A' σ' H' ε' → ExAt K A' H' x cls dd → W cls dd σ' H') ∧
  G ε { nx := fun ε' => o ε' P Z, rt := fun _ => False, ex := fun x _ => Z x } ∧ ∀ x p H', P x → Grow F.m F.H0 H' → F.m.J H' → F.H0 p = none → OwnAt K (fun b => F.A0 b ∨ b = p) H' p x → D.rt (.ref p) H'
section
variable {X : Cx} {F : Fx} {W : WX} {e : Expr} {es : List Expr} {st : Stmt} {sts : List Stmt} {G G' : WS} {o : WO} {r : WA} {pos p : Pos} {ι : Type} {mf : ι → Md} {s : ι → Spo} {x : Str} {k : Nat}
theorem psRetO (he : PE X e (tO X.K F W o)) : PS X (.Return (some e) pos) (tR X.K F W o) :=
  ⟨fun pins s σ H D I ⟨π, A, ε, P, Z, R, w, z, k⟩ => (ps_ret he).run pins s σ H D I ⟨π, A, ε, P, Z, R, w, z, fun x p H' px g j np ow => k x p H' px (R.gr.trans g) j (R.fresh np).1 (ow.keep (.sub fun b z => z.imp (R.aa b) id) rfl)⟩⟩
theorem slRet (h : PS X st (tR X.K F W o)) : PSs X [st] (tL X.K F W sNil o) :=
  ⟨fun pins s σ H D I ⟨π, A, ε, P, Z, R, w, z, k⟩ => (pss_one h).run pins s σ H D I ⟨π, A, ε, P, Z, R, fun x cls dd H' zx g j e => w x A ε σ H' cls dd zx (R.grow g j) e, z, k⟩⟩
theorem slCons (h : PS X st (tS X.K F W G)) (r : PSs X sts (tL X.K F W G' o)) : PSs X (st :: sts) (tL X.K F W (sSeq G G') o) :=
  ⟨fun pins s σ H D I ⟨π, A, ε, P, Z, R, w, z, k⟩ => (pss_cons h r).run pins s σ H D I ⟨π, A, ε, _, R, z, fun A' ε' σ' H' n R' => ⟨π, A', ε', P, Z, R', w, n, k⟩, fun _ _ _ n => n.elim, fun _ _ _ _ n => n.elim, fun _ _ _ _ n => n.elim, fun x A' ε' σ' H' cls dd n R' e => w x A' ε' σ' H' cls dd n R' e⟩⟩
theorem slFrz (i : Nat) (r : PSs X sts (tL X.K F W G' o)) : PSs X sts (tL X.K F W (sFrz i G') o) :=
  ⟨fun pins s σ H D I ⟨π, A, ε, P, Z, R, w, ⟨ow, ho, z⟩, k⟩ => by
    obtain ⟨A', R'⟩ := R.frz ho
    exact r.run pins s σ H D I ⟨π, A', _, P, Z, R', w, z, k⟩⟩
def oCall (s : Spo) (r : WA) : WO := fun ε P Z => r ε (fun ds => s ds P Z) Z
theorem liftO_use {A : Addr → Prop} {π : List D × List V} {σ : L2.St} {H : Hp} {ε : Ev} {i : ι} {ds : List D} {vs : List V} {P : Ow → Prop} {Z : Ex → Prop} {Q : VK} (hm : Sub (mf i) F.m) (R : Rel X.K F π A σ H ε) (b : Dats X.K A H ds vs) (z : s i ds P Z)
    (q : ∀ o p H', P o → Grow F.m H H' → F.m.J H' → H p = none → OwnAt X.K (fun b => A b ∨ b = p) H' p o → Q (.ref p) H') (w : XW X.K F W A σ H Z) : liftO X.K mf s vs H Q (L2.WE W σ) :=
  ⟨i, A, ds, P, Z, fun b z => R.am b (hm.m b z), R.tt, hm.j R.j, b, z, fun o p H' po g j n h => q o p H' po (hm.g g) (hm.j' g R.j j) n h, fun x cls dd H' z g j e => w x cls dd H' z (hm.g g) (hm.j' g R.j j) e⟩
theorem doCall (i : ι) (hm : Sub (mf i) F.m) (c : Clb X.prog X.w X.K X.mg X.base k x (liftO X.K mf s)) (hr : Room k X.A) (tk : Takes X W) (hg : Gl X x) (ha : PA X (e :: es) (tA X.K F W r)) (hdb : (x == ("__debug__" : Str)) = false := by decide)
    (he : starEach (e :: es) X.env = (false, eval e X.env) :: starEach es X.env := by rfl) (hpl : (backTo pos (starEach es X.env)).any (·.1) = false := by rfl) : PE X (.Call (.Name x p) (e :: es) [] pos) (tO X.K F W (oCall (s i) r)) := by
  obtain ⟨g, fd, ps, Fn, hm', hk, hb⟩ := c.ex
  exact imE (pe_callS Fn hr hg hm' hk hb (fun σ => passAt tk σ) ha hdb he hpl) fun σ H Q ⟨π, A, ε, P, Z, R, w, z, q⟩ => ⟨π, A, ε, _, Z, R, w, z, fun ds vs H1 pz gr j b =>
    liftO_use hm (R.grow gr j) b pz (fun o p H2 po g2 j2 n h => q o p H2 po (gr.trans g2) j2 (fresh_back gr j n) h) (w.grow gr)⟩
def oCallX (X : Cx) (s : Heap → Spo) (r : WA) : WO := fun ε P Z => r ε (fun ds => ∀ B, BX X ε B → s B ds P Z) Z
theorem doCallX {s : Heap → ι → Spo} (i : ι) (hm : Sub (mf i) F.m) (c : ∀ B, (∀ b o, X.base.get? b = some o → B.get? b = some o) → Clb X.prog X.w X.K X.mg B k x (liftO X.K mf (s B))) (hfn : ∀ y, X.fn y = true) (hr : Room k X.A) (tk : Takes X W) (hg : Gl X x) (ha : PA X (e :: es) (tA X.K F W r)) (hdb : (x == ("__debug__" : Str)) = false := by decide)
    (he : starEach (e :: es) X.env = (false, eval e X.env) :: starEach es X.env := by rfl) (hpl : (backTo pos (starEach es X.env)).any (·.1) = false := by rfl) : PE X (.Call (.Name x p) (e :: es) [] pos) (tO X.K F W (oCallX X (fun B => s B i) r)) := by
  refine ⟨fun pins sh σ H Q I ⟨π, A, ε, P, Z, R, w, z, q⟩ => ?_⟩
  obtain ⟨g, fd, ps, _, hm', hk, _⟩ := c X.base fun _ _ e => e
  refine wpAny_Call_Name_kw (ld_glob I hg hm' ?_ hdb)
  refine PySem.W.callWith_K (h₀ := X.base) I.ok.mod.kin hk (thn (ha.run pos pins sh σ H (fun vs H1 => ∃ ds, (∀ B, BX X ε B → s B i ds P Z) ∧ Grow F.m H H1 ∧ F.m.J H1 ∧ Dats X.K A H1 ds vs) I ⟨π, A, ε, _, Z, R, w, z, fun ds vs H' p g j b => ⟨ds, p, g, j, b⟩⟩) fun us s1 ⟨vs, H1, I1, rr, ds, pz, gr, j, b⟩ => ⟨I1.kIn, ?_⟩) he hpl
  have R1 := R.grow gr j
  obtain ⟨B, bx, e0⟩ := bx_make hfn I1 R1
  obtain ⟨g', fd', ps', Fn, hm2, hk2, hb2⟩ := c B bx.sub
  rw [hm'] at hm2
  cases hm2
  have hs : liftO X.K mf (s B) vs H1 Q (L2.WE W σ) := liftO_use hm R1 b (pz B bx) (fun o p H' po g2 j2 n h => q o p H' po (gr.trans g2) j2 (fresh_back gr j n) h) (w.grow gr)
  have hl : us.length = ps'.length := by rw [← rr.length]; exact Fn.len _ _ _ _ hs
  have hbd := hb2 s1 us I1.kIn (by simpa using hl)
  rw [List.append_nil] at hbd
  show wpAny _ _ (call (.ref g) us) _ _ _
  refine wpAny_call (codeAny_mono (Fn.run X.A X.stack s1 H1 ⟨us, []⟩ us vs Q _ hr e0 hbd rr hs) fun r s' hq => ?_)
  cases r with
  | error e => exact (passAt tk σ) pins H1 s1 e s' I1 hq
  | ok fl =>
    cases fl with
    | ret u => exact I1.after hq
    | next => exact False.elim hq
    | brk => exact False.elim hq
    | cont => exact False.elim hq
end
theorem defO_ok {ι : Type} {mf : ι → Md} {s : ι → Spo} {P : Program} {w : World} {K : PySem.W.Frag} {mg : Str → Option Value} {base : Heap} {x qual : Str} {st : Stmt} {N ps : List Str} {g : Addr} {fd : FuncData} {k : Nat} (Fn : Fun K x qual st g fd) (S : FnScope N ps (defScope st))
    (hlen : ∀ i ds P Z, s i ds P Z → ds.length = ps.length)
    (hG : ∀ (cdv : Value) (A : Around) (outer : List Env) (sh : Shared) (H : Hp) (E : XK) (F : Fx) (i : ι) (ds : List D) (Q : Ow → Prop) (Z : Ex → Prop), cdv = fd.code → F.m = mf i → Room k (A.deeper (envOfC qual (defScope st) sh.heap.objs.size g cdv)) → s i ds Q Z →
      ∃ (G : WS) (o : WO), PSs (cxOf (L2.CX P w) P w K mg base N qual (defScope st) g cdv A outer sh H E) (defBody st) (tL K F (Wd E) G o) ∧ G (startE N ds) { nx := fun ε' => o ε' Q Z, rt := fun _ => False, ex := fun x _ => Z x }) : FnOk P w K mg base (L2.CX P w) (k + 1) g fd ps (liftO K mf s) := by
  refine Fun.okXC Fn S (fun vs H Q E h => ?_) fun cdv A outer sh H vs Q E hcd hr h => ?_
  · obtain ⟨i, A, ds, P, Z, am, al, j, b, z, _⟩ := h
    rw [← b.length]
    exact hlen i ds P Z z
  · obtain ⟨i, A', ds, P', Z, am, al, j, b, z, q1, q2⟩ := h
    obtain ⟨G, o, h1, h2⟩ := hG cdv A outer sh H E ⟨mf i, A', H, am, al⟩ i ds P' Z hcd rfl hr z
    exact ⟨_, h1, ([], []), A', startE N ds, P', Z, rel_start am al j b, fun x A2 ε2 σ2 H2 cls dd n r ex => q2 x cls dd H2 n r.gr r.j (ex.mono r.aa), h2, fun x p H2 px g2 j2 np ow => q1 x p H2 px g2 j2 np ow⟩
end DW

namespace DW
open L2 PyProof.Rows PySem.Spec PySem
theorem all_c {α : Type} {p : α → Prop} {a : α} {l : List α} (h : p a) (t : ∀ x ∈ l, p x) : ∀ x ∈ a :: l, p x := List.forall_mem_cons.mpr ⟨h, t⟩
theorem all_n {α : Type} {p : α → Prop} : ∀ x ∈ ([] : List α), p x := fun _ h => nomatch h
section
variable {P : Program} {w : World} {K : PySem.W.Frag} {mg : Str → Option Value} {base : Heap} {f : Addr} {fd : FuncData}
theorem owns_cx {CX : CXT} {N : List Str} {qual : Str} {scope : Scope} {cd : Value} {A : Around} {outer : List Env} {s : Shared} {H : Hp} {E : XK} : PassesOwn (model P w) (cxOf CX P w K mg base N qual scope f cd A outer s H E).A (cxOf CX P w K mg base N qual scope f cd A outer s H E).env (cxOf CX P w K mg base N qual scope f cd A outer s H E).xe :=
  passes_of (X := cxOf CX P w K mg base N qual scope f cd A outer s H E) rfl
theorem takes_cx {N : List Str} {qual : Str} {scope : Scope} {cd : Value} {A : Around} {outer : List Env} {s : Shared} {H : Hp} {E : XK} : Takes (cxOf (L2.CX P w) P w K mg base N qual scope f cd A outer s H E) (Wd E) := takes_of rfl rfl rfl rfl
end
theorem def_okE {ι : Type} {mf : ι → Md} {s : ι → Spd} {P : Program} {w : World} {K : PySem.W.Frag} {mg : Str → Option Value} {base : Heap} {x qual : Str} {st : Stmt} {N ps : List Str} {g : Addr} {fd : FuncData} {k : Nat} (Fn : Fun K x qual st g fd) (S : FnScope N ps (defScope st))
    (hlen : ∀ i ds P Z, s i ds P Z → ds.length = ps.length)
    (hG : ∀ (cdv : Value) (A : Around) (outer : List Env) (sh : Shared) (H : Hp) (E : XK) (F : Fx) (i : ι) (ds : List D) (Q : D → Prop) (Z : Ex → Prop), F.m = mf i → Room k (A.deeper (envOfC qual (defScope st) sh.heap.objs.size g cdv)) → s i ds Q Z →
      ∃ G : WS, PSs (cxOf (L2.CX P w) P w K mg base N qual (defScope st) g cdv A outer sh H E) (defBody st) (tS K F (Wd E) G) ∧ G (startE N ds) { nx := fun _ => Q .non, rt := Q, ex := fun x _ => Z x }) : FnOk P w K mg base (L2.CX P w) (k + 1) g fd ps (liftG K mf s) := by
  refine Fn.okX S (fun vs H Q E h => ?_) fun cdv A outer sh H vs Q E hr h => ?_
  · obtain ⟨i, A, ds, P, Z, am, al, j, b, z, _⟩ := h
    rw [← b.length]
    exact hlen i ds P Z z
  · obtain ⟨i, A', ds, P', Z, am, al, j, b, z, q1, q2⟩ := h
    obtain ⟨G, h1, h2⟩ := hG cdv A outer sh H E ⟨mf i, A', H, am, al⟩ i ds P' Z rfl hr z
    refine ⟨_, h1, ?_⟩
    exact ⟨([], []), A', startE N ds, _, rel_start am al j b, h2, fun A2 ε2 σ2 H2 n r => q1 _ _ H2 n r.gr r.j .non, fun d v H2 p g2 j2 h2 => q1 d v H2 p g2 j2 h2, fun _ _ _ _ n => n.elim, fun _ _ _ _ n => n.elim, fun x A2 ε2 σ2 H2 cls dd n r ex => q2 x cls dd H2 n r.gr r.j (ex.mono r.aa)⟩
/-! ### loops over data -/
theorem forW_ind {g : WG} {B : WS} {N : En} (I : Ev → Prop) (last : ∀ ε, I ε → N.nx ε) : ∀ {xs : List D} {ε : Ev}, I ε →
    (∀ x ∈ xs, ∀ ε, I ε → ∀ K : Ev → Prop, (∀ ε', I ε' → K ε') → g x ε fun ε' => B ε' { N with nx := K, ct := K, bk := N.nx }) → forW g B xs ε N
  | [], ε, i, _ => last ε i
  | x :: xs, ε, i, h => h x List.mem_cons_self ε i _ fun ε' i' => forW_ind I last i' fun y hy => h y (List.mem_cons_of_mem _ hy)
theorem lc_ind {g : WG} {tt : WT} {te : WE} {vs : List Nat} {ε : Ev} {P : List D → Prop} (J : List D → Prop) (last : ∀ acc, J acc → P acc) : ∀ {xs acc : List D}, J acc → acc.length + xs.length ≤ sizeLine →
    (∀ x ∈ xs, ∀ acc, J acc → ∀ (S : D → Prop) (T : Prop), (∀ d, J (acc ++ [d]) → S d) → (J acc → T) → g x (wipeE ε vs) fun ε' => tt ε' (fun b => if b = true then te ε' S Z0 else T) Z0) → lcW g tt te vs xs acc ε P
  | [], acc, j, _, _ => last acc j
  | x :: xs, acc, j, hl, h => by
    rw [List.length_cons] at hl
    refine h x List.mem_cons_self acc j _ _ (fun d jd => ⟨by omega, lc_ind J last jd (by rw [List.length_append, List.length_singleton]; omega) fun y hy => h y (List.mem_cons_of_mem _ hy)⟩) fun jd => lc_ind J last jd (by omega) fun y hy => h y (List.mem_cons_of_mem _ hy)
theorem lc_flt {g : WG} {tt : WT} {te : WE} {vs : List Nat} {ε : Ev} {P : List D → Prop} (p : D → Bool) (φ : D → D) : ∀ {xs acc : List D}, acc.length + xs.length ≤ sizeLine →
    (∀ x ∈ xs, ∀ (S : D → Prop) (T : Prop), (p x = true → S (φ x)) → (p x = false → T) → g x (wipeE ε vs) fun ε' => tt ε' (fun b => if b = true then te ε' S Z0 else T) Z0) → P (acc ++ (xs.filter p).map φ) → lcW g tt te vs xs acc ε P
  | [], acc, _, _, q => by
    have q' : P acc := by simpa using q
    exact q'
  | x :: xs, acc, hl, h, q => by
    rw [List.length_cons] at hl
    refine h x List.mem_cons_self _ _ (fun e => ⟨by omega, lc_flt p φ (by rw [List.length_append, List.length_singleton]; omega) (fun y hy => h y (List.mem_cons_of_mem _ hy)) ?_⟩) fun e => lc_flt p φ (by omega) (fun y hy => h y (List.mem_cons_of_mem _ hy)) ?_
    · simpa [List.filter_cons, e] using q
    · simpa [List.filter_cons, e] using q
theorem lc_map {g : WG} {te : WE} {vs : List Nat} {ε : Ev} {P : List D → Prop} (φ : D → D) {xs acc : List D} (hl : acc.length + xs.length ≤ sizeLine) (h : ∀ x ∈ xs, ∀ S : D → Prop, S (φ x) → g x (wipeE ε vs) fun ε' => te ε' S Z0) (q : P (acc ++ xs.map φ)) : lcW g wYes te vs xs acc ε P :=
  lc_flt (fun _ => true) φ hl (fun x hx S T s t => by
    have := h x hx S (s rfl)
    exact this) (by rw [List.filter_eq_self.mpr (fun _ _ => rfl)]; exact q)
/-- the pairs of a dict display -/
structure DF (X : Cx) (F : Fx) (W : WX) (pos : Pos) (ks : List (Option Expr)) (vs : List Expr) (fs : List (Str × WE)) (nms : List Str) : Prop where
  run : PPs X pos ks vs (trsOf X.K F W fs)
  nm : fs.map (·.1) = nms
  all : ks.all (·.isSome) = true
  len : ks.length = vs.length
  len2 : ks.length = nms.length
section
variable {X : Cx} {F : Fx} {W : WX} {pos p2 : Pos} {ks : List (Option Expr)} {vs : List Expr} {fs : List (Str × WE)} {nms : List Str} {v : Expr} {f : WE} {x : Str} {j : Nat}
theorem dfNil : DF X F W pos [] [] [] [] := ⟨pps_nil, rfl, rfl, rfl, rfl⟩
theorem dfCons (h : PE X v (tE X.K F W f)) (r : DF X F W pos ks vs fs nms) : DF X F W pos (some (.Constant (.str x) j p2) :: ks) (v :: vs) ((x, f) :: fs) (x :: nms) :=
  ⟨pps_cons pe_str h r.run, by rw [List.map_cons, r.nm], by rw [List.all_cons, r.all]; rfl, by rw [List.length_cons, List.length_cons, r.len], by rw [List.length_cons, List.length_cons, r.len2]⟩
theorem doDict {k : Option Expr} (r : DF X F W pos (k :: ks) vs fs nms) (hd : nms.Nodup := by decide +kernel) (hl : nms.length ≤ 15 := by decide) : PE X (.Dict (k :: ks) vs pos) (tO X.K F W (oDct fs)) :=
  doDct (keys := []) (values := []) (by rw [r.nm]; exact hd) (by rw [← List.length_map (f := (·.1)), r.nm]; exact hl) (pe_disp r.run r.all r.len (fun z => by cases z) (by rw [r.len2]; exact hl))
end
def Sh (n : Nat) (d : D) : Prop := d.pd.canLay0 = true ∧ d.pd.depth ≤ n
theorem Sh.str {y : Str} (h : Short y) : Sh 0 (.str y) := by
  unfold Sh; rw [D.pd]
  refine ⟨?_, by simp [PyData.depth]⟩
  rw [PyData.canLay0]
  unfold PyData.strOk
  rw [← Array.all_toList]; rw [List.all_eq_true]
  exact fun c hc => decide_eq_true (h.2 c hc)
theorem Sh.bl (y : Bool) : Sh 0 (.bl y) := by unfold Sh; rw [D.pd]; simp [PyData.canLay0, PyData.depth]
theorem Sh.int (y : Int) : Sh 0 (.int y) := by unfold Sh; rw [D.pd]; simp [PyData.canLay0, PyData.depth]
theorem Sh.non : Sh 0 .non := by unfold Sh; rw [D.pd]; simp [PyData.canLay0, PyData.depth]
theorem Sh.all {n : Nat} : ∀ {xs : List D}, (∀ x ∈ xs, Sh n x) → PyData.canLayAll0 (pds xs) = true ∧ PyData.depthAll (pds xs) ≤ n
  | [], _ => by simp [pds, PyData.canLayAll0, PyData.depthAll]
  | x :: xs, h => by
    have h1 := h x List.mem_cons_self
    have h2 := Sh.all fun y hy => h y (List.mem_cons_of_mem _ hy)
    simp [pds, PyData.canLayAll0, PyData.depthAll, h1.1, h2.1]
    have a1 := h1.2
    have a2 := h2.2
    omega
theorem Sh.lst {n : Nat} {xs : List D} (h : ∀ x ∈ xs, Sh n x) : Sh (n + 1) (.lst xs) := by
  have := Sh.all h
  unfold Sh; rw [D.pd]; simp [PyData.canLay0, PyData.depth, this.1]; omega
theorem Sh.tup {n : Nat} {xs : List D} (h : ∀ x ∈ xs, Sh n x) : Sh (n + 1) (.tup xs) := by
  have := Sh.all h
  unfold Sh; rw [D.pd]; simp [PyData.canLay0, PyData.depth, this.1]; omega
theorem Sh.ok {n : Nat} {d : D} (h : Sh n d) (hn : n ≤ 64 := by decide) : SeqAt.shaped d.pd = true := by
  unfold SeqAt.shaped
  rw [h.1, Bool.true_and]
  exact decide_eq_true (Nat.le_trans h.2 hn)
theorem Sh.eqv {n : Nat} {d : D} (h : Sh n d) : PyData.eqv d.pd d.pd = true := SeqAt.eqv_refl _ h.1
theorem Sh.okL {n : Nat} {xs : List D} (h : ∀ x ∈ xs, Sh n x) (hn : n + 1 ≤ 64 := by decide) : SeqAt.shaped (PyData.list (pds xs)) = true := by
  have := (Sh.lst h).ok hn
  rw [D.pd] at this
  exact this

section
variable {X : Cx} {F : Fx} {W : WX} {pos : Pos} {x : Str} {C : Addr}
theorem dGlo (hg : Gl X x) (hm : X.mg x = some (.ref C)) (hd : (x == ("__debug__" : Str)) = false := by decide) : PE X (.Name x pos) (tE X.K F W (wC (.ref C))) := dC (pe_glob hg hm (v := .ref C) rfl hd) fun _ _ _ => .ref C
end
end DW

namespace DW
open L2 PyProof.Rows PySem.Spec PySem
def top (i : Nat) : Stmt := PySem.Challenge.pw_farscale_k04_whole_quotients_of_grades.main.body.getD i (.Pass ⟨0, 0, 0, 0⟩)
abbrev PP : Program := PySem.Challenge.rw_farscale_k04_whole_quotients_of_grades.prog
abbrev topU : Nat := 5
abbrev s_is_plain_name : Stmt := top 10
abbrev s_check_count : Stmt := top 11
abbrev s__check_names : Stmt := top 12
abbrev s__check_rows : Stmt := top 13
abbrev s__by_name : Stmt := top 14
abbrev s__entry : Stmt := top 15
abbrev s_Scale___init__ : Stmt := inClass (top 16) 0
abbrev s_Scale__meet : Stmt := inClass (top 16) 1
abbrev s_Scale__under : Stmt := inClass (top 16) 2
abbrev s_Scale__over : Stmt := inClass (top 16) 3
abbrev s_Scale_grades : Stmt := inClass (top 16) 4
abbrev s_Scale_join : Stmt := inClass (top 16) 5
abbrev s_Scale_within : Stmt := inClass (top 16) 7
abbrev s_Scale_meet : Stmt := inClass (top 16) 8
abbrev s_Scale_under : Stmt := inClass (top 16) 9
abbrev s_Scale_over : Stmt := inClass (top 16) 10
abbrev s_Scale_joined : Stmt := inClass (top 16) 11
abbrev s_TableScale___init__ : Stmt := inClass (top 17) 0
abbrev s__law_source : Stmt := top 19
abbrev s__law_pick : Stmt := top 20
abbrev s__law_names : Stmt := top 21
abbrev s__law_relation : Stmt := top 22
abbrev s__law_union : Stmt := top 23
abbrev s__law_tables : Stmt := top 24
abbrev s__law_relations : Stmt := top 25
abbrev s__law_scale : Stmt := top 26
abbrev s__law_words : Stmt := top 27
abbrev s__law_made_scale : Stmt := top 28
abbrev s__law_within : Stmt := top 29
abbrev s__law_every : Stmt := top 31
abbrev s__law_greatest : Stmt := top 35
abbrev s__law_said : Stmt := top 36
abbrev s_law : Stmt := top 37
end DW

namespace DW
open L2 PyProof.Rows PySem.Spec PySem
abbrev sSource : Stmt := s__law_source
abbrev sPick : Stmt := s__law_pick
def srcK (co : Addr) (l m t : Int) : List (Key × V) := [(.inr "cells", .ref co), (.inr "left", .int l), (.inr "mixed", .int m), (.inr "turn", .int t)]
theorem src_cells (co : Addr) (l m t : Int) : valV (srcK co l m t) (.inr "cells") = some (.ref co) := by
  unfold srcK valV
  rfl
theorem src_left (co : Addr) (l m t : Int) : valV (srcK co l m t) (.inr "left") = some (.int l) := by
  simp [srcK, valV, List.find?, show ¬ (("cells" : Str) = "left") by decide +kernel]
theorem src_mixed (co : Addr) (l m t : Int) : valV (srcK co l m t) (.inr "mixed") = some (.int m) := by
  simp [srcK, valV, List.find?, show ¬ (("cells" : Str) = "mixed") by decide +kernel, show ¬ (("left" : Str) = "mixed") by decide +kernel]
theorem src_turn (co : Addr) (l m t : Int) : valV (srcK co l m t) (.inr "turn") = some (.int t) := by
  simp [srcK, valV, List.find?, show ¬ (("cells" : Str) = "turn") by decide +kernel, show ¬ (("left" : Str) = "turn") by decide +kernel, show ¬ (("mixed" : Str) = "turn") by decide +kernel]
theorem put_left (co : Addr) (l m t l' : Int) : putK (srcK co l m t) (.inr "left") (.int l') = srcK co l' m t := by
  simp [srcK, putK, show ¬ (("cells" : Str) = "left") by decide +kernel, show ¬ (("mixed" : Str) = "left") by decide +kernel, show ¬ (("turn" : Str) = "left") by decide +kernel]
theorem put_turn (co : Addr) (l m t t' : Int) : putK (srcK co l m t) (.inr "turn") (.int t') = srcK co l m t' := by
  simp [srcK, putK, show ¬ (("cells" : Str) = "turn") by decide +kernel, show ¬ (("left" : Str) = "turn") by decide +kernel, show ¬ (("mixed" : Str) = "turn") by decide +kernel]
section
variable {H : Hp} {so co : Addr} {l m t : Int}
theorem gCells (hs : H so = some (.dK (srcK co l m t))) : DGet H so (.str "cells") (some (.ref co)) := by
  have q := DGet.k (k := (.inr "cells" : Key)) hs
  rw [src_cells] at q; exact q
theorem gLeft (hs : H so = some (.dK (srcK co l m t))) : DGet H so (.str "left") (some (.int l)) := by
  have q := DGet.k (k := (.inr "left" : Key)) hs
  rw [src_left] at q; exact q
theorem gMixed (hs : H so = some (.dK (srcK co l m t))) : DGet H so (.str "mixed") (some (.int m)) := by
  have q := DGet.k (k := (.inr "mixed" : Key)) hs
  rw [src_mixed] at q; exact q
theorem gTurn (hs : H so = some (.dK (srcK co l m t))) : DGet H so (.str "turn") (some (.int t)) := by
  have q := DGet.k (k := (.inr "turn" : Key)) hs
  rw [src_turn] at q; exact q
theorem pLeft {l' : Int} (hs : H so = some (.dK (srcK co l m t))) : DPut H so (.str "left") (.int l') (upd H so (.dK (srcK co l' m t))) := by
  have q := DPut.k (k := (.inr "left" : Key)) (v := .int l') hs (by show 4 < sizeLine; decide)
  rw [put_left] at q; exact q
theorem pTurn {t' : Int} (hs : H so = some (.dK (srcK co l m t))) : DPut H so (.str "turn") (.int t') (upd H so (.dK (srcK co l m t'))) := by
  have q := DPut.k (k := (.inr "turn" : Key)) (v := .int t') hs (by show 4 < sizeLine; decide)
  rw [put_turn] at q; exact q
end
/-- the source at so, its cells at co -/
def Src (so co : Addr) (t : Int) (H : Hp) : Prop := ∃ (l m : Int) (ns : List Int), H so = some (.dK (srcK co l m t)) ∧ H co = some (.lst (ns.map V.int)) ∧ 0 ≤ t
def spPick : Sp := fun vs H Q _ => ∃ (so co : Addr) (n t : Int), vs = [.ref so, .int n] ∧ Src so co t H ∧ n < 1073741824 ∧ (10000000 < n → t < 1000000000) ∧
  ∀ k H', 0 ≤ k → (k < n ∨ k = 0) → (∀ b o, H b = some o → b ≠ so → b ≠ co → H' b = some o) → (∃ t', t' ≤ t + 1 ∧ Src so co t' H') → Q (.int k) H'
section
variable {P : Program} {w : World} {K : PySem.W.Frag} {mg : Str → Option Value} {base : Heap} {f : Addr} {fd : FuncData}
theorem scPick : FnScope ["source", "many", "cells", "left", "turn", "mixed"] ["source", "many"] (defScope sPick) := ⟨rfl, rfl, rfl, by decide +kernel, rfl, by decide +kernel, by decide +kernel⟩
theorem ok_pick (Fn : Fun K "_law_pick" "_law_pick" sPick f fd) (gLen : mg "len" = none) (gInt : mg "int" = none) : FnOk P w K mg base (L2.CX P w) 1 f fd ["source", "many"] spPick := by
  refine Fn.okX scPick (fun vs H Q E ⟨so, co, n, t, e, _⟩ => by rw [e]; rfl) ?_
  rintro cdv A outer s H vs Q E hr ⟨so, co, n, t, ev, S, hn, ht, q⟩
  refine' ⟨_, ?d, ?p⟩
  case d =>
    have hu := hu_of hr
    have hp := @owns_cx P w K mg base f (L2.CX P w) ["source", "many", "cells", "left", "turn", "mixed"] "_law_pick" (defScope sPick) cdv A outer s H E
    refine' pss_cons ?s1 (pss_cons ?s2 (pss_cons ?s3 (pss_cons ?s4 (pss_cons ?s5 (pss_cons ?s6 (pss_cons ?s7 (pss_cons ?s8 (pss_cons ?s9 (pss_cons ?s10 (pss_one ?s11))))))))))
    case s1 => exact ps_if (pt_cmpR op_lt (pv 1) pe_int (nomark _)) (pss_one (ps_ret pe_int)) pss_nil
    case s2 => exact ps_set scPick.nd (i := 2) (by rfl) (by exact Or.inl rfl) (pe_dget hu (pv 0) pe_str (fun _ _ => rfl))
    case s3 => exact ps_while (by exact hp) (PW.pt (pw_and (pt_cmpR op_lt (pe_dget hu (pv 0) pe_str (fun _ _ => rfl)) pe_int (nomark _)) (pw_and1 (pt_cmpR op_gt (pe_callB call_len (by rfl) gLen boot_len (pa_cons (pv 2) pa_nil)) pe_int (nomark _))))) (pss_one (ps_dput hu (pv 0) pe_str (pe_bm0 PySem.F.plainAttrs_list PySem.F.slot_list_pop PySem.F.type_list_pop mt_pop (pv 2)) rfl))
    case s4 => exact ps_set scPick.nd (i := 3) (by rfl) (by exact Or.inl rfl) (pe_dget hu (pv 0) pe_str (fun _ _ => rfl))
    case s5 => exact ps_if (pt_cmpR op_gt (pv 3) pe_int (nomark _)) (pss_cons (ps_dput hu (pv 0) pe_str (pe_op op_fdiv (pv 3) (pv 1)) rfl) (pss_one (ps_ret (pe_op op_mod (pe_callTy call_int1 (by rfl) gInt boot_int (pa_cons (pv 3) pa_nil)) (pv 1))))) pss_nil
    case s6 => exact ps_dput hu (pv 0) pe_str (pe_op op_add (pe_dget hu (pv 0) pe_str (fun _ _ => rfl)) pe_int) rfl
    case s7 => exact ps_set scPick.nd (i := 4) (by rfl) (by exact Or.inl rfl) (pe_dget hu (pv 0) pe_str (fun _ _ => rfl))
    case s8 => exact ps_set scPick.nd (i := 5) (by rfl) (by exact Or.inl rfl) (pe_op op_mod (pe_callTy call_int1 (by rfl) gInt boot_int (pa_cons (pe_op op_add (pe_dget hu (pv 0) pe_str (fun _ _ => rfl)) (pe_op op_mul (pv 4) pe_int)) pa_nil)) pe_int)
    case s9 => exact ps_set scPick.nd (i := 5) (by rfl) (by exact Or.inl rfl) (pe_op op_mod (pe_callTy call_int1 (by rfl) gInt boot_int (pa_cons (pe_op op_add (pe_op op_mul (pv 5) (pv 5)) (pe_op op_mul (pv 4) pe_int)) pa_nil)) pe_int)
    case s10 => exact ps_if (pt_cmpR op_gt (pv 1) (pe_op op_pow pe_int pe_int) (nomark _)) (pss_one (ps_set scPick.nd (i := 5) (by rfl) (by exact Or.inl rfl) (pe_op op_pow (pe_callTy call_int1 (by rfl) gInt boot_int (pa_cons (pe_op op_add (pe_op op_mul (pv 5) pe_int) (pv 4)) pa_nil)) pe_int))) pss_nil
    case s11 => exact ps_ret (pe_op op_mod (pe_callTy call_int1 (by rfl) gInt boot_int (pa_cons (pe_op op_fdiv (pv 5) pe_int) pa_nil)) (pv 1))
  case p =>
    obtain ⟨l, m, ns, hs, hc, h0⟩ := S
    subst ev
    have nsc : so ≠ co := fun z => by rw [z, hc] at hs; cases hs
    refine ⟨_, rfl, _, _, rfl, rfl, _, rfl, ite2 (fun h => ?_) fun h => ?_⟩
    · exact q 0 H (by omega) (.inr rfl) (fun b o h _ _ => h) ⟨t, by omega, l, m, ns, hs, hc, h0⟩
    have hn2 : 2 ≤ n := by
      have : ¬ n < 2 := fun z => h (decide_eq_true z)
      omega
    refine ⟨_, rfl, so, _, rfl, gCells hs, ?_⟩
    refine ⟨fun k σ' H' => σ' = [some (.ref so), some (.int n), some (.ref co), none, none, none] ∧ ∃ (l : Int) (ns : List Int), ns.length = k ∧ H' so = some (.dK (srcK co l m t)) ∧ H' co = some (.lst (ns.map V.int)) ∧ ∀ b o, H b = some o → b ≠ so → b ≠ co → H' b = some o, ⟨_, rfl, l, ns, rfl, hs, hc, fun b o h _ _ => h⟩, ?_⟩
    rintro k σ' H1 ⟨rfl, l, ns, rfl, hs, hc, k1⟩
    refine ⟨_, rfl, so, _, rfl, gLeft hs, _, _, rfl, rfl, _, rfl, ?_⟩
    refine ite2 (fun h2 => ⟨_, rfl, _, _, rfl, .inl ⟨_, .of hc, rfl⟩, _, _, rfl, rfl, _, rfl, ite2 (fun h3 => ?a) fun h3 => ?b⟩) fun h2 => ?c
    case a =>
      rcases List.eq_nil_or_concat ns with rfl | ⟨ns', z, rfl⟩
      · simp at h3
      · refine ⟨fun σ' H' => σ' = [some (.ref so), some (.int n), some (.ref co), none, none, none] ∧ ∃ (l : Int) (ns : List Int), ns.length = ns'.length ∧ H' so = some (.dK (srcK co l m t)) ∧ H' co = some (.lst (ns.map V.int)) ∧ ∀ b o, H b = some o → b ≠ so → b ≠ co → H' b = some o, fun σ' H' z => ⟨ns'.length, by simp, z⟩, ?_⟩
        have hl : (List.map V.int (ns'.concat z)).dropLast = List.map V.int ns' := by simp
        refine ⟨_, rfl, .inl ⟨rfl, _, .inl (.inl hc)⟩, co, _, .int z, rfl, rfl, hc, by simp, _, rfl, so, _, rfl, pLeft (l := l) (m := m) (t := t) (by rw [upd_ne nsc]; exact hs), rfl, z, ns', rfl, upd_same, ?_, fun b o e b1 b2 => ?_⟩
        · rw [upd_ne nsc.symm, upd_same, hl]
        · rw [upd_ne b1, upd_ne b2]; exact k1 b o e b1 b2
    all_goals
      refine ⟨_, rfl, so, _, rfl, gLeft hs, ?_⟩
      refine ⟨_, rfl, _, _, rfl, rfl, _, rfl, ite2 (fun h4 => ?_) fun h4 => ?_⟩
      · refine ⟨_, rfl, _, rfl, _, _, rfl, rfl, ⟨by omega, hn⟩, _, rfl, so, _, rfl, pLeft hs, ?_⟩
        refine ⟨_, rfl, .inl ⟨_, rfl, _, rfl, _, _, rfl, rfl, by omega, ?_⟩⟩
        refine q (l % n) _ (Int.emod_nonneg _ (by omega)) (.inl (Int.emod_lt_of_pos _ (by omega))) (fun b o e b1 b2 => ?_) ⟨t, by omega, _, m, ns, upd_same, ?_, h0⟩
        · rw [upd_ne b1]; exact k1 b o e b1 b2
        · rw [upd_ne nsc.symm]; exact hc
      · refine ⟨_, rfl, so, _, rfl, gTurn hs, _, _, rfl, rfl, _, rfl, so, _, rfl, pTurn hs, ?_⟩
        have hs2 : upd H1 so (.dK (srcK co l m (t + 1))) so = some (.dK (srcK co l m (t + 1))) := upd_same
        have hc2 : upd H1 so (.dK (srcK co l m (t + 1))) co = some (.lst (ns.map V.int)) := by rw [upd_ne nsc.symm]; exact hc
        have k2 : ∀ b o, H b = some o → b ≠ so → b ≠ co → upd H1 so (.dK (srcK co l m (t + 1))) b = some o := fun b o e b1 b2 => by rw [upd_ne b1]; exact k1 b o e b1 b2
        have fin : ∀ k, 0 ≤ k → k < n → Q (.int k) (upd H1 so (.dK (srcK co l m (t + 1)))) := fun k c1 c2 => q k _ c1 (.inl c2) k2 ⟨t + 1, by omega, l, m, ns, hs2, hc2, by omega⟩
        generalize upd H1 so (.dK (srcK co l m (t + 1))) = H2 at *
        refine ⟨_, rfl, so, _, rfl, gTurn hs2, ?_⟩
        refine ⟨_, rfl, so, _, rfl, gMixed hs2, _, rfl, _, _, rfl, rfl, .inr ⟨by decide, by decide⟩, _, _, rfl, rfl, .inl ⟨_, rfl, _, _, rfl, rfl, (by show (0 : Int) < _; decide), ?_⟩⟩
        have b1 : 0 ≤ (m + (t + 1) * 104729) % 998244353 := Int.emod_nonneg _ (by decide)
        have b2 : (m + (t + 1) * 104729) % 998244353 < 998244353 := Int.emod_lt_of_pos _ (by decide)
        generalize (m + (t + 1) * 104729) % 998244353 = x1 at *
        refine ⟨_, rfl, _, rfl, _, _, rfl, rfl, .inl ⟨by omega, by omega⟩, _, rfl, _, _, rfl, rfl, .inr ⟨by decide, by decide⟩, _, _, rfl, rfl, .inl ⟨_, rfl, _, _, rfl, rfl, (by show (0 : Int) < _; decide), ?_⟩⟩
        have b3 : 0 ≤ (x1 * x1 + (t + 1) * 17) % 2147483647 := Int.emod_nonneg _ (by decide)
        have b4 : (x1 * x1 + (t + 1) * 17) % 2147483647 < 2147483647 := Int.emod_lt_of_pos _ (by decide)
        generalize (x1 * x1 + (t + 1) * 17) % 2147483647 = x2 at *
        refine ⟨_, rfl, _, _, rfl, rfl, ⟨by decide, by decide, by decide⟩, _, _, rfl, rfl, _, rfl, ite2 (fun h5 => ?_) fun h5 => ?_⟩
        · have h6 : 10000000 < n := by
            have := of_decide_eq_true h5
            have e : (10 : Int) ^ (7 : Int).toNat = 10000000 := by decide
            rw [e] at this
            exact this
          have h7 := ht h6
          refine ⟨_, rfl, _, _, rfl, rfl, .inr ⟨by decide, by decide⟩, _, rfl, _, _, rfl, rfl, .inl ⟨_, rfl, _, _, rfl, rfl, ⟨by decide, by decide, by omega⟩, ?_⟩⟩
          exact ⟨_, rfl, _, _, rfl, rfl, ⟨by decide, by decide⟩, .inl ⟨_, rfl, _, rfl, _, _, rfl, rfl, by omega, fin _ (Int.emod_nonneg _ (by omega)) (Int.emod_lt_of_pos _ (by omega))⟩⟩
        · exact ⟨_, rfl, _, _, rfl, rfl, ⟨by decide, by decide⟩, .inl ⟨_, rfl, _, rfl, _, _, rfl, rfl, by omega, fin _ (Int.emod_nonneg _ (by omega)) (Int.emod_lt_of_pos _ (by omega))⟩⟩
end
/-- abs of a datum -/
def absD : D → D
  | .int i => .int (if i < 0 then -i else i)
  | d => d
def srcD (cs : List Int) (m : Int) : List (Key × D) := [(.inr "cells", .lst (cs.map D.int)), (.inr "left", .int 1), (.inr "mixed", .int m), (.inr "turn", .int 0)]
def spSource : Spd := fun ds P _ => ∃ ns : List Int, ds = [.fro (ns.map D.int)] ∧ ns.length ≤ 1000 ∧ ∀ cs m, P (.dct (srcD cs m))
section
variable {P : Program} {w : World} {K : PySem.W.Frag} {mg : Str → Option Value} {base : Heap} {f : Addr} {fd : FuncData}
abbrev nSource : List Str := ["script", "mixed", "cell", "cells", "k"]
theorem scSource : FnScope nSource ["script"] (defScope sSource) := ⟨rfl, rfl, rfl, by decide +kernel, rfl, by decide +kernel, by decide +kernel⟩
theorem ok_source (Fn : Fun K "_law_source" "_law_source" sSource f fd) (gLen : mg "len" = none) (gInt : mg "int" = none) (gAbs : mg "abs" = none) (gRange : mg "range" = none) : FnOk P w K mg base (L2.CX P w) 2 f fd ["script"] (liftP K spSource) := by
  refine def_okE Fn scSource ?len ?body
  case len =>
    rintro i ds P Z ⟨ns, rfl, _⟩
    rfl
  case body =>
    rintro cdv A outer sh H E F i ds Q Z hm hr ⟨ns, rfl, hl, q⟩
    have hu := hu_of hr
    have hp := @owns_cx P w K mg base f (L2.CX P w) nSource "_law_source" (defScope sSource) cdv A outer sh H E
    refine' ⟨_, ssCons ?s1 (ssCons ?s2 (ssCons ?s3 (ssOne ?s4))), ?p⟩
    case s1 => exact psSet scSource.nd (i := 1) (by rfl) (by exact Or.inl rfl) dInt
    case s2 => exact psFor (by exact hp) (by rfl) (dIterL (dVar 0 (pv 0))) (tgName (pg_name scSource.nd (i := 2) (by rfl) (by exact Or.inl rfl))) (ssOne (psSet scSource.nd (i := 1) (by rfl) (by exact Or.inl rfl) (dMod (bor (dCl (ta := fun p => pe_callTy call_int1 (by rfl) gInt boot_int p) clInt (dbCons (bor (dAdd (bor (dAdd (bor (dMulI (bor (dVar 1 (pv 1))) (bor dInt))) (bor (dMulI (bor (dVar 2 (pv 2))) (bor dInt))))) (bor dInt))) dbNil))) (bor dInt))))
    case s3 => exact psOwn scSource.nd (i := 3) (by rfl) (by exact Or.inr rfl) (doLc (by rfl) scSource.nd (dIterL (dVar 0 (pv 0))) (own := [("cell", 2)]) (by exact blkOk_by (show blkC nSource (defScope sSource) _ _ = true from by decide +kernel)) (fun _ _ _ _ _ => tgName (pg_name scSource.nd (i := 2) (by rfl) (by exact Or.inl rfl))) (fun _ _ _ _ _ => tsNil) (fun _ _ _ _ _ => dCl (ta := fun p => pe_callB call_abs (by rfl) gAbs boot_abs p) clAbs (dbCons (bor (dVar 2 (pv 2))) dbNil)))
    case s4 =>
      exact psRet (frE (doDict (dfCons (frE (doLc (by rfl) scSource.nd (dIterR1 (by rfl) gRange (daCons (dCl (ta := fun p => pe_callB call_len (by rfl) gLen boot_len p) clLen (dbCons (dOwn 3 (pv 3)) dbNil)) daNil)) (own := [("k", 4)]) (by exact blkOk_by (show blkC nSource (defScope sSource) _ _ = true from by decide +kernel)) (fun _ _ _ _ _ => tgName (pg_name scSource.nd (i := 4) (by rfl) (by exact Or.inl rfl))) (fun _ _ _ _ _ => tsNil) (fun _ _ _ _ _ => dIx (dOwn 3 (pv 3)) (bor (dSub (bor (dSub (bor (dCl (ta := fun p => pe_callB call_len (by rfl) gLen boot_len p) clLen (dbCons (dOwn 3 (pv 3)) dbNil))) (bor dInt))) (bor (dVar 4 (pv 4)))))))) (dfCons dInt (dfCons (dVar 1 (pv 1)) (dfCons dInt dfNil))))))
    case p =>
      refine ⟨_, rfl, _, .inr rfl, forW_ind (fun ε => ∃ m c, ε = [some (.dat (.fro (ns.map D.int))), some (.dat (.int m)), c, none, none]) ?_ ⟨11, none, rfl⟩ ?_⟩
      · rintro ε ⟨m, c, rfl⟩
        refine ⟨_, rfl, _, .inr rfl, lc_map absD (by simp; rw [sizeLine_eq]; omega) (fun x hx S hS => ?_) ?_⟩
        · obtain ⟨z, _, rfl⟩ := List.mem_map.mp hx
          exact ⟨_, rfl, hS⟩
        · have e : (ns.map D.int).map absD = (ns.map fun i => if i < 0 then -i else i).map D.int := by rw [List.map_map, List.map_map]; rfl
          rw [List.nil_append, e]
          have hl2 : (ns.map fun i : Int => if i < 0 then -i else i).length = ns.length := by simp
          generalize (ns.map fun i : Int => if i < 0 then -i else i) = cs at *
          have hlc : (cs.map D.int).length = cs.length := by simp
          refine ⟨_, rfl, _, rfl, by omega, by omega, lc_ind (fun acc => ∃ cs : List Int, acc = cs.map D.int) ?_ ⟨[], rfl⟩ (by simp [rngD]; rw [sizeLine_eq]; omega) ?_⟩
          · rintro acc ⟨cs', rfl⟩
            exact ⟨_, rfl, q cs' m⟩
          · rintro x hx acc ⟨cs', rfl⟩ S T hS _
            obtain ⟨i, hi, rfl⟩ := List.mem_map.mp hx
            have hi' : i < cs.length := by
              have := List.mem_range.mp hi
              omega
            have hj : cs.length - 1 - i < cs.length := by omega
            refine ⟨_, rfl, _, rfl, trivial, _, rfl, trivial, .int cs[cs.length - 1 - i], ?_, hS _ ⟨cs' ++ [cs[cs.length - 1 - i]], by simp⟩⟩
            have e2 : ((cs.map D.int).length : Int) - 1 - (0 + (i : Int)) = ((cs.length - 1 - i : Nat) : Int) := by omega
            show atI (cs.map D.int) (((cs.map D.int).length : Int) - 1 - (0 + (i : Int))) = _
            rw [e2]
            exact atI_nat (by simp [hj])
      · intro x hx ε hε Kk hK
        obtain ⟨m, c, rfl⟩ := hε
        obtain ⟨z, _, rfl⟩ := List.mem_map.mp hx
        refine ⟨_, rfl, .inr ⟨by decide, by decide⟩, _, rfl, .inr ⟨by decide, by decide⟩, (by show (0 : Int) < _; decide), hK _ ⟨_, _, rfl⟩⟩
end
end DW


namespace DW
open LamX L2 PyProof.Rows PySem.Spec PySem
/-! ### the source, and tables of code objects, as what may change -/
abbrev Tb := List (Addr × Str)
def mdS (so co : Addr) (T : Tb) : Md where
  M := fun b => b = so ∨ b = co ∨ ∃ p ∈ T, b = p.1
  J := fun H => (∃ t, Src so co t H) ∧ Tabs T H
  al' := fun H b ⟨⟨t, l, m, ns, e1, e2, _⟩, hT⟩ z => by
    rcases z with rfl | rfl | ⟨p, hp, rfl⟩
    · rw [e1]; trivial
    · rw [e2]; trivial
    · obtain ⟨ps, e, _⟩ := hT p hp
      rw [e]; trivial
  st := fun H H' k x ⟨⟨t, l, m, ns, e1, e2, e3⟩, hT⟩ => by
    refine ⟨⟨t, l, m, ns, (k so (.inl rfl)).trans e1, (k co (.inr (.inl rfl))).trans e2, e3⟩, fun p hp => ?_⟩
    obtain ⟨ps, h1, h2, h3⟩ := hT p hp
    refine ⟨ps, (k _ (.inr (.inr ⟨p, hp, rfl⟩))).trans h1, h2, fun pos cv hc => ?_⟩
    obtain ⟨c, a1, a2⟩ := h3 pos cv hc
    exact ⟨c, a1, x _ _ a2⟩
theorem tabs_grow {so co : Addr} {T : Tb} {H H' : Hp} (S : ∃ t, Src so co t H) (hT : Tabs T H) (k : ∀ b o, H b = some o → b ≠ so → b ≠ co → H' b = some o) : Tabs T H' := fun p hp => by
  obtain ⟨t, l, m, ns, e1, e2, _⟩ := S
  obtain ⟨ps, h1, h2, h3⟩ := hT p hp
  refine ⟨ps, k _ _ h1 (fun q => by rw [q, e1] at h1; cases h1) (fun q => by rw [q, e2] at h1; cases h1), h2, fun pos cv hc => ?_⟩
  obtain ⟨c, a1, a2⟩ := h3 pos cv hc
  exact ⟨c, a1, k _ _ a2 (fun q => by rw [q, e1] at a2; unfold CodeO at a2; cases a2) (fun q => by rw [q, e2] at a2; unfold CodeO at a2; cases a2)⟩
theorem subS {so co : Addr} {T : Tb} : Sub (mdS so co []) (mdS so co T) where
  sM := fun b z => by
    rcases z with z | z | ⟨p, hp, _⟩
    · exact .inl z
    · exact .inr (.inl z)
    · cases hp
  sj := fun H ⟨S, _⟩ => ⟨S, fun p hp => by cases hp⟩
  su := fun H H' g ⟨S, hT⟩ ⟨S', _⟩ => ⟨S', tabs_grow S hT fun b o e n1 n2 => g b o e fun z => by
    rcases z with z | z | ⟨p, hp, _⟩
    · exact n1 z
    · exact n2 z
    · cases hp⟩
theorem mdT {so co : Addr} {T : Tb} {P : Addr} {q : Str} (hp : (P, q) ∈ T) : MdT (mdS so co T) T P where
  M := .inr (.inr ⟨_, hp, rfl⟩)
  j := fun H h => h.2
  j' := fun H H1 ⟨⟨t, l, m, ns, e1, e2, e3⟩, hT⟩ k t1 => by
    obtain ⟨ps, h1, _⟩ := hT _ hp
    have n1 : so ≠ P := fun z => by rw [z, h1] at e1; cases e1
    have n2 : co ≠ P := fun z => by rw [z, h1] at e2; cases e2
    exact ⟨⟨t, l, m, ns, k so _ e1 n1, k co _ e2 n2, e3⟩, t1⟩
/-- no built-in's name is taken -/
structure Bi (mg : Str → Option Value) : Prop where
  len : mg "len" = none
  int : mg "int" = none
  abs : mg "abs" = none
  range : mg "range" = none
  min : mg "min" = none
  max : mg "max" = none
  tuple : mg "tuple" = none
  list : mg "list" = none
  all : mg "all" = none
  zip : mg "zip" = none
  enumerate : mg "enumerate" = none
  dict : mg "dict" = none
  isinstance : mg "isinstance" = none
def spPickD : Addr × Addr → Spd := fun i ds P _ => ∃ n, ds = [.ref i.1, .int n] ∧ n ≤ 10000000 ∧ ∀ k, 0 ≤ k → (k < n ∨ k = 0) → P (.int k)
abbrev mfP : Addr × Addr → Md := fun i => mdS i.1 i.2 []
section
variable {P : Program} {w : World} {K : PySem.W.Frag} {mg : Str → Option Value} {base : Heap} {f : Addr} {fd : FuncData}
theorem ok_pickD (Fn : Fun K "_law_pick" "_law_pick" sPick f fd) (b : Bi mg) : FnOk P w K mg base (L2.CX P w) 1 f fd ["source", "many"] (liftG K mfP spPickD) := by
  refine (ok_pick Fn b.len b.int).imp fun vs H Q E h => ?_
  obtain ⟨⟨so, co⟩, A, ds, P', Z, am, al, ⟨⟨t, S⟩, hT⟩, bd, ⟨n, rfl, hn, z⟩, q, _⟩ := h
  cases bd with
  | cons b1 t1 =>
    cases t1 with
    | cons b2 t2 =>
      cases t2; cases b1; cases b2
      refine ⟨so, co, n, t, rfl, S, by omega, fun h => by omega, fun k H' k0 k1 kp ⟨t', _, S'⟩ => ?_⟩
      refine q (.int k) _ H' (z k k0 k1) (fun b o e nb => kp b o e (fun z => nb (.inl z)) fun z => nb (.inr (.inl z))) ⟨⟨t', S'⟩, fun p hp => by cases hp⟩ (.int _)
end
end DW


namespace DW
open L2 PyProof.Rows PySem.Spec PySem
/-! ### loops and comprehensions, by the number of the turn -/
theorem forW_idx {g : WG} {B : WS} {N : En} (I : Nat → Ev → Prop) : ∀ {xs : List D} {n : Nat} {ε : Ev}, I n ε → (∀ ε, I (n + xs.length) ε → N.nx ε) →
    (∀ i x, xs[i]? = some x → ∀ ε, I (n + i) ε → ∀ K : Ev → Prop, (∀ ε', I (n + i + 1) ε' → K ε') → g x ε fun ε' => B ε' { N with nx := K, ct := K, bk := N.nx }) → forW g B xs ε N
  | [], n, ε, i, last, _ => last ε i
  | x :: xs, n, ε, i, last, h => h 0 x rfl ε i _ fun ε' i' => forW_idx I (xs := xs) (n := n + 1) i' (fun ε2 z => last ε2 (by rw [List.length_cons, ← Nat.add_assoc, Nat.add_right_comm]; exact z))
      fun k y hk ε2 i2 K hK => h (k + 1) y (by simpa using hk) ε2 (by rw [show n + (k + 1) = n + 1 + k from by omega]; exact i2) K fun ε3 i3 => hK ε3 (by rw [show n + 1 + k + 1 = n + (k + 1) + 1 from by omega]; exact i3)
theorem forW_rng {g : WG} {B : WS} {N : En} {n : Nat} (I : Nat → Ev → Prop) {ε : Ev} (h0 : I 0 ε) (last : ∀ ε, I n ε → N.nx ε)
    (h : ∀ i, i < n → ∀ ε, I i ε → ∀ K : Ev → Prop, (∀ ε', I (i + 1) ε' → K ε') → g (.int (i : Int)) ε fun ε' => B ε' { N with nx := K, ct := K, bk := N.nx }) : forW g B (rngD 0 n) ε N := by
  refine forW_idx I h0 (fun ε z => last ε (by simpa [rngD] using z)) fun i x hx ε z K hK => ?_
  have hi : i < n := by
    have := (List.getElem?_eq_some_iff.mp hx).1
    simpa [rngD] using this
  have e : x = .int (i : Int) := by
    rw [rngD, List.getElem?_map, List.getElem?_range hi] at hx
    have := Option.some.inj hx
    rw [← this]; show D.int (0 + (i : Int)) = .int (i : Int); rw [Int.zero_add]
  subst e
  exact h i hi ε (by simpa using z) K fun ε' z' => hK ε' (by simpa using z')
/-- a comprehension without a test: the i-th item is φ i -/
theorem lc_at {g : WG} {te : WE} {vs : List Nat} {ε : Ev} {P : List D → Prop} (φ : Nat → D) {xs : List D} (hl : xs.length ≤ sizeLine)
    (h : ∀ i x, xs[i]? = some x → ∀ S : D → Prop, S (φ i) → g x (wipeE ε vs) fun ε' => te ε' S Z0) (q : P ((List.range xs.length).map φ)) : lcW g wYes te vs xs [] ε P := by
  have key : ∀ (xs acc : List D) (n : Nat), acc = (List.range n).map φ → n + xs.length ≤ sizeLine → (∀ i x, xs[i]? = some x → ∀ S : D → Prop, S (φ (n + i)) → g x (wipeE ε vs) fun ε' => te ε' S Z0) → P ((List.range (n + xs.length)).map φ) → lcW g wYes te vs xs acc ε P := by
    intro xs
    induction xs with
    | nil => intro acc n e _ _ q; rw [e]; exact q
    | cons x xs ih =>
      intro acc n e hl h q
      rw [List.length_cons] at hl q
      have := h 0 x rfl (fun d => acc.length < sizeLine ∧ lcW g wYes te vs xs (acc ++ [d]) ε P) ⟨by rw [e]; simp; omega, ih (acc ++ [φ (n + 0)]) (n + 1) (by rw [e, List.range_succ]; simp) (by omega) (fun i y hy S hS => h (i + 1) y (by simpa using hy) S (by rw [show n + (i + 1) = n + 1 + i from by omega]; exact hS)) (by rw [show n + 1 + xs.length = n + (xs.length + 1) from by omega]; exact q)⟩
      exact this
  exact key xs [] 0 rfl (by omega) (fun i x hx S hS => h i x hx S (by rw [Nat.zero_add] at hS; exact hS)) (by rw [Nat.zero_add]; exact q)
theorem lc_rng {g : WG} {te : WE} {vs : List Nat} {ε : Ev} {P : List D → Prop} {n : Nat} (φ : Nat → D) (hl : n ≤ 16777216)
    (h : ∀ i, i < n → ∀ S : D → Prop, S (φ i) → g (.int (i : Int)) (wipeE ε vs) fun ε' => te ε' S Z0) (q : P ((List.range n).map φ)) : lcW g wYes te vs (rngD 0 n) [] ε P := by
  have hn : (rngD 0 n).length = n := by simp [rngD]
  refine lc_at φ (by rw [hn, sizeLine_eq]; omega) (fun i x hx S hS => ?_) (by rw [hn]; exact q)
  have hi : i < n := by
    have := (List.getElem?_eq_some_iff.mp hx).1
    rw [hn] at this; exact this
  have e : x = .int (i : Int) := by
    rw [rngD, List.getElem?_map, List.getElem?_range hi] at hx
    have := Option.some.inj hx
    rw [← this]; show D.int (0 + (i : Int)) = .int (i : Int); rw [Int.zero_add]
  subst e
  exact h i hi S hS
/-- a comprehension over map f l -/
theorem lc_list {α : Type} {g : WG} {te : WE} {vs : List Nat} {ε : Ev} {P : List D → Prop} {l : List α} (f φ : α → D) (hl : l.length ≤ 16777216)
    (h : ∀ a ∈ l, ∀ S : D → Prop, S (φ a) → g (f a) (wipeE ε vs) fun ε' => te ε' S Z0) (q : P (l.map φ)) : lcW g wYes te vs (l.map f) [] ε P := by
  have key : ∀ (l : List α) (acc : List D), acc.length + l.length ≤ sizeLine → (∀ a ∈ l, ∀ S : D → Prop, S (φ a) → g (f a) (wipeE ε vs) fun ε' => te ε' S Z0) → P (acc ++ l.map φ) → lcW g wYes te vs (l.map f) acc ε P := by
    intro l
    induction l with
    | nil => intro acc _ _ q; have q' : P acc := by simpa using q
             exact q'
    | cons a l ih =>
      intro acc hl h q
      rw [List.length_cons] at hl
      exact h a List.mem_cons_self (fun d => acc.length < sizeLine ∧ lcW g wYes te vs (l.map f) (acc ++ [d]) ε P) ⟨by omega, ih (acc ++ [φ a]) (by simp; omega) (fun b hb => h b (List.mem_cons_of_mem _ hb)) (by simpa using q)⟩
  exact key l [] (by rw [sizeLine_eq]; simp; omega) h (by simpa using q)
/-- .. with a test -/
theorem lc_lflt {α : Type} {g : WG} {tt : WT} {te : WE} {vs : List Nat} {ε : Ev} {P : List D → Prop} {l : List α} (p : α → Bool) (f φ : α → D) (hl : l.length ≤ 16777216)
    (h : ∀ a ∈ l, ∀ (S : D → Prop) (T : Prop), (p a = true → S (φ a)) → (p a = false → T) → g (f a) (wipeE ε vs) fun ε' => tt ε' (fun b => if b = true then te ε' S Z0 else T) Z0) (q : P ((l.filter p).map φ)) : lcW g tt te vs (l.map f) [] ε P := by
  have key : ∀ (l : List α) (acc : List D), acc.length + l.length ≤ sizeLine → (∀ a ∈ l, ∀ (S : D → Prop) (T : Prop), (p a = true → S (φ a)) → (p a = false → T) → g (f a) (wipeE ε vs) fun ε' => tt ε' (fun b => if b = true then te ε' S Z0 else T) Z0) → P (acc ++ (l.filter p).map φ) → lcW g tt te vs (l.map f) acc ε P := by
    intro l
    induction l with
    | nil => intro acc _ _ q; have q' : P acc := by simpa using q
             exact q'
    | cons a l ih =>
      intro acc hl h q
      rw [List.length_cons] at hl
      refine h a List.mem_cons_self (fun d => acc.length < sizeLine ∧ lcW g tt te vs (l.map f) (acc ++ [d]) ε P) _ (fun e => ⟨by omega, ih (acc ++ [φ a]) (by simp; omega) (fun b hb => h b (List.mem_cons_of_mem _ hb)) ?_⟩) fun e => ih acc (by omega) (fun b hb => h b (List.mem_cons_of_mem _ hb)) ?_
      · simpa [List.filter_cons, e] using q
      · simpa [List.filter_cons, e] using q
  exact key l [] (by rw [sizeLine_eq]; simp; omega) h (by simpa using q)
theorem forW_list {α : Type} {g : WG} {B : WS} {N : En} {l : List α} (f : α → D) (I : List α → Ev → Prop) {ε : Ev} (h0 : I [] ε) (last : ∀ ε, I l ε → N.nx ε)
    (h : ∀ done a, (∃ r, done ++ a :: r = l) → ∀ ε, I done ε → ∀ K : Ev → Prop, (∀ ε', I (done ++ [a]) ε' → K ε') → g (f a) ε fun ε' => B ε' { N with nx := K, ct := K, bk := N.nx }) : forW g B (l.map f) ε N := by
  have key : ∀ (r done : List α) (ε : Ev), done ++ r = l → I done ε → forW g B (r.map f) ε N := by
    intro r
    induction r with
    | nil => intro done ε e i; exact last ε (by rw [← e, List.append_nil]; exact i)
    | cons a r ih => intro done ε e i; exact h done a ⟨r, e⟩ ε i _ fun ε' i' => ih (done ++ [a]) ε' (by rw [← e]; simp) i'
  exact key l [] ε rfl h0
end DW

namespace DW
open LamX L2 PyProof.Rows PySem.Spec PySem
/-! ### readings at plain numbers -/
theorem kEqN {i j : Int} {P : D → Prop} (h : P (.bl (decide (i = j)))) : kEq false (.int i) (.int j) P := by
  refine ⟨(Sh.int i).ok, (Sh.int j).ok, ?_⟩
  have e : PyData.eqv (D.int i).pd (D.int j).pd = decide (i = j) := by
    simp [D.pd, PyData.eqv, BEq.beq]
  rw [if_neg (by decide), e]
  exact h
theorem kEqB {b : Bool} {P : D → Prop} (h : P (.bl b)) : kEq false (.int (if b then 1 else 0)) (.int 1) P := kEqN (by rw [show decide ((if b then (1 : Int) else 0) = 1) = b from by cases b <;> rfl]; exact h)
theorem wEqN {i j : Int} {P : D → Prop} {ε : Ev} {Z : Ex → Prop} (h : P (.bl (decide (i = j)))) : wC (.int j) ε (fun y => kEq false (.int i) y P) Z := kEqN h
theorem kIxT {xs : List D} {i : Int} {d : D} {P : D → Prop} (j : Nat) (e : i = (j : Int)) (h : xs[j]? = some d) (p : P d) : kIx (.tup xs) (.int i) P := ⟨d, by rw [e]; exact atI_nat h, p⟩
theorem kIxL {xs : List D} {i : Int} {d : D} {P : D → Prop} (j : Nat) (e : i = (j : Int)) (h : xs[j]? = some d) (p : P d) : kIx (.lst xs) (.int i) P := ⟨d, by rw [e]; exact atI_nat h, p⟩
theorem mulOk {a b : Nat} (h : a < 1000000) : CMul (a : Int) (b : Int) := .inl ⟨by omega, by omega⟩
/-! ### relations as rows of bits -/
def bitD (b : Bool) : D := .int (if b then 1 else 0)
def bitsD (a : List Bool) : D := .tup (a.map bitD)
def relB (s : Nat) (a b : List Bool) : List Bool := (List.range (s * s)).map fun p => (List.range s).any fun j => a.getD (p / s * s + j) false && b.getD (j * s + p % s) false
def uniB (a b : List Bool) : List Bool := (List.range a.length).map fun k => a.getD k false || b.getD k false
theorem bits_at {a : List Bool} {k : Nat} (h : k < a.length) : (a.map bitD)[k]? = some (bitD (a.getD k false)) := by
  rw [List.getElem?_map, List.getD_eq_getElem?_getD, List.getElem?_eq_getElem h]
  rfl
theorem wEqB {b : Bool} {P : D → Prop} {ε : Ev} {Z : Ex → Prop} (h : P (.bl b)) : wC (.int 1) ε (fun y => kEq false (bitD b) y P) Z := kEqB h
def spRelation : Spd := fun ds P _ => ∃ (s : Nat) (a b : List Bool), ds = [.int (s : Int), bitsD a, bitsD b] ∧ s ≤ 16 ∧ a.length = s * s ∧ b.length = s * s ∧ P (bitsD (relB s a b))
def spUnion : Spd := fun ds P _ => ∃ (a b : List Bool), ds = [bitsD a, bitsD b] ∧ a.length ≤ 256 ∧ a.length = b.length ∧ P (bitsD (uniB a b))
section
variable {P : Program} {w : World} {K : PySem.W.Frag} {mg : Str → Option Value} {base : Heap} {f : Addr} {fd : FuncData}
theorem sc__law_relation : FnScope ["states", "first", "second", "found", "i", "k", "met", "j"] ["states", "first", "second"] (defScope s__law_relation) := ⟨rfl, rfl, rfl, by decide +kernel, rfl, by decide +kernel, by decide +kernel⟩
theorem ok__law_relation (Fn : Fun K "_law_relation" "_law_relation" s__law_relation f fd) (bi : Bi mg)  : FnOk P w K mg base (L2.CX P w) 2 f fd ["states", "first", "second"] (liftP K (spRelation)) := by
  have sc := sc__law_relation
  refine def_okC Fn sc ?len ?body
  case len =>
    rintro i ds P Z ⟨s, a, b, rfl, _⟩
    rfl
  case body =>
    rintro cdv A outer sh H E F i ds Q Z hcd hm hr ⟨s, a, b, rfl, hs, ha, hb, q⟩
    have hu := hu_of hr
    have hu4 := hr.units
    have hu5 : (A.deeper (envOfC "_law_relation" (defScope s__law_relation) sh.heap.objs.size f cdv)).units + 65 < cLine := by have := hr.un; omega
    have hp := @owns_cx P w K mg base f (L2.CX P w) ["states", "first", "second", "found", "i", "k", "met", "j"] "_law_relation" (defScope s__law_relation) cdv A outer sh H E
    have tk := @takes_cx P w K mg base f ["states", "first", "second", "found", "i", "k", "met", "j"] "_law_relation" (defScope s__law_relation) cdv A outer sh H E
    refine' ⟨_, ssCons ?s1 (ssCons ?s2 (ssFrz 3 (ssOne ?s3))), ?fin⟩
    case s1 => exact psOwn sc.nd (i := 3) (by rfl) (by first | exact Or.inl rfl | exact Or.inr rfl) (doLst (daNil))
    case s2 => exact psFor (by exact hp) (by rfl) (dIterR1 (by rfl) (by exact bi.range) (daCons (dVar 0 (pv 0)) (daNil))) (tgName (pg_name sc.nd (i := 4) (by rfl) (by first | exact Or.inl rfl | exact Or.inr rfl))) (ssOne (psFor (by exact hp) (by rfl) (dIterR1 (by rfl) (by exact bi.range) (daCons (dVar 0 (pv 0)) (daNil))) (tgName (pg_name sc.nd (i := 5) (by rfl) (by first | exact Or.inl rfl | exact Or.inr rfl))) (ssCons (psLc (by rfl) sc.nd (i := 6) (by rfl) (by rfl) (by rfl) (dIterR1 (by rfl) (by exact bi.range) (daCons (dVar 0 (pv 0)) (daNil))) (own := [("j", 7)]) (by exact blkOk_by (show blkC ["states", "first", "second", "found", "i", "k", "met", "j"] (defScope s__law_relation) _ _ = true from by decide +kernel)) (fun _ _ _ _ _ => tgName (pg_name sc.nd (i := 7) (by rfl) (by first | exact Or.inl rfl | exact Or.inr rfl))) (fun _ _ _ _ _ => tsOne (PW.pt (wwAnd (tEq (by exact hu4) (bor (dIx (bor (dVar 1 (pv 1))) (bor (dAdd (bor (dMulI (bor (dVar 4 (pv 4))) (bor (dVar 0 (pv 0))))) (bor (dVar 7 (pv 7))))))) (bor (dInt))) (wwAnd1 (tEq (by exact hu4) (bor (dIx (bor (dVar 2 (pv 2))) (bor (dAdd (bor (dMulI (bor (dVar 7 (pv 7))) (bor (dVar 0 (pv 0))))) (bor (dVar 5 (pv 5))))))) (bor (dInt))))))) (fun _ _ _ _ _ => dInt)) (ssFrz 6 (ssOne (psApp 3 (pe_bm PySem.F.plainAttrs_list PySem.F.slot_list_append PySem.F.type_list_append mt_append (pv 3) (daCons (dCl (ta := fun p => pe_callTy call_int1 (by rfl) (by exact bi.int) boot_int p) clInt (dbCons (bor (dNe (by exact hu4) (bor (dVar 6 (pv 6))) (bor (frE (doLst (daNil)))))) (dbNil))) (daNil)))))))))
    case s3 => exact psRet (dCl (ta := fun p => pe_callTy call_tuple_of (by rfl) (by exact bi.tuple) boot_tuple p) clTuple (dbCons (bor (dVar 3 (pv 3))) (dbNil)))
    case fin =>
      have hss : s * s ≤ 256 := Nat.mul_le_mul hs hs
      refine ⟨by show 0 ≤ _; omega, _, rfl, _, rfl, by omega, by omega, ?_⟩
      refine forW_rng (n := s) (fun i ε => ∃ c4 c5 c6 c7, ε = [some (.dat (.int (s : Int))), some (.dat (bitsD a)), some (.dat (bitsD b)), some (.own (.lst ((List.range (i * s)).map fun p => bitD ((List.range s).any fun j => a.getD (p / s * s + j) false && b.getD (j * s + p % s) false)))), c4, c5, c6, c7]) ?_ ?_ ?_
      · exact ⟨none, none, none, none, by rw [Nat.zero_mul]; rfl⟩
      · rintro ε ⟨c4, c5, c6, c7, rfl⟩
        refine ⟨_, rfl, _, rfl, ?_⟩
        show Q (.tup _)
        have := q
        unfold bitsD relB at this
        rw [List.map_map] at this
        exact this
      · rintro i hi ε ⟨c4, c5, c6, c7, rfl⟩ KK hK
        refine ⟨_, rfl, _, rfl, by omega, by omega, ?_⟩
        refine forW_rng (n := s) (fun k ε => ∃ c5 c6 c7, ε = [some (.dat (.int (s : Int))), some (.dat (bitsD a)), some (.dat (bitsD b)), some (.own (.lst ((List.range (i * s + k)).map fun p => bitD ((List.range s).any fun j => a.getD (p / s * s + j) false && b.getD (j * s + p % s) false)))), some (.dat (.int (i : Int))), c5, c6, c7]) ?_ ?_ ?_
        · exact ⟨c5, c6, c7, rfl⟩
        · rintro ε ⟨c5, c6, c7, rfl⟩
          refine hK _ ⟨some (.dat (.int (i : Int))), c5, c6, c7, ?_⟩
          rw [Nat.add_mul, Nat.one_mul]
        · rintro k hk ε ⟨c5, c6, c7, rfl⟩ K2 hK2
          have hsp : 0 < s := by omega
          have e1 : (i * s + k) / s = i := by rw [Nat.mul_comm, Nat.mul_add_div hsp, Nat.div_eq_of_lt hk, Nat.add_zero]
          have e2 : (i * s + k) % s = k := by rw [Nat.mul_comm, Nat.mul_add_mod, Nat.mod_eq_of_lt hk]
          have hi2 : i * s + s ≤ s * s := by
            have : (i + 1) * s ≤ s * s := Nat.mul_le_mul_right s hi
            rw [Nat.add_mul, Nat.one_mul] at this; exact this
          refine ⟨_, rfl, _, rfl, by omega, by omega, ?_⟩
          refine lc_lflt (l := List.range s) (fun j => a.getD (i * s + j) false && b.getD (j * s + k) false) (fun (j : Nat) => D.int (0 + (j : Int))) (fun _ => .int 1) (by simp; omega) ?_ ?_
          · intro j hj S T hS hT
            have hj : j < s := List.mem_range.mp hj
            have hj2 : j * s + s ≤ s * s := by
              have : (j + 1) * s ≤ s * s := Nat.mul_le_mul_right s hj
              rw [Nat.add_mul, Nat.one_mul] at this; exact this
            refine ⟨_, rfl, _, rfl, _, rfl, mulOk (by omega), _, rfl, kIxT (i * s + j) (by push_cast; omega) (bits_at (by omega)) ?_⟩
            refine wEqB ⟨_, rfl, ite2 (fun z => ?_) fun z => ?_⟩
            · refine ⟨_, rfl, _, rfl, _, rfl, .inr ⟨by omega, by omega⟩, _, rfl, kIxT (j * s + k) (by rw [Int.zero_add]; push_cast; rfl) (bits_at (by omega)) ?_⟩
              refine wEqB ⟨_, rfl, ite2 (fun z2 => ?_) fun z2 => ?_⟩
              · exact hS (by show (_ && _) = true; rw [z, z2]; rfl)
              · exact hT (by show (_ && _) = false; rw [z, Bool.true_and]; exact Bool.eq_false_iff.mpr z2)
            · exact hT (by show (_ && _) = false; rw [Bool.eq_false_iff.mpr z]; rfl)
          · have hsh : ∀ x ∈ ((List.range s).filter fun j => a.getD (i * s + j) false && b.getD (j * s + k) false).map fun _ => D.int 1, Sh 0 x := fun x hx => by
              obtain ⟨_, _, rfl⟩ := List.mem_map.mp hx
              exact Sh.int 1
            refine ⟨_, rfl, _, rfl, _, rfl, by show 0 ≤ _; omega, (Sh.lst hsh).ok, (Sh.lst (n := 0) all_n).ok, ?_⟩
            have e3 : (if (if true = true then !PyData.eqv (D.lst (((List.range s).filter fun j => a.getD (i * s + j) false && b.getD (j * s + k) false).map fun _ => D.int 1)).pd (D.lst []).pd else PyData.eqv (D.lst (((List.range s).filter fun j => a.getD (i * s + j) false && b.getD (j * s + k) false).map fun _ => D.int 1)).pd (D.lst []).pd) = true then (1 : Int) else 0) = if ((List.range s).any fun j => a.getD (i * s + j) false && b.getD (j * s + k) false) = true then 1 else 0 := by
              rw [if_pos rfl]
              cases hf : (List.range s).filter fun j => a.getD (i * s + j) false && b.getD (j * s + k) false with
              | nil =>
                have : (List.range s).any (fun j => a.getD (i * s + j) false && b.getD (j * s + k) false) = false := by
                  rw [List.any_eq_false]
                  intro j hj z
                  have : j ∈ (List.range s).filter fun j => a.getD (i * s + j) false && b.getD (j * s + k) false := List.mem_filter.mpr ⟨hj, z⟩
                  rw [hf] at this; cases this
                rw [this]
                simp [D.pd, pds, PyData.eqv, PyData.eqvAll]
              | cons x xs =>
                have : (List.range s).any (fun j => a.getD (i * s + j) false && b.getD (j * s + k) false) = true := by
                  have hx : x ∈ (List.range s).filter fun j => a.getD (i * s + j) false && b.getD (j * s + k) false := by rw [hf]; exact List.mem_cons_self
                  exact List.any_eq_true.mpr ⟨x, (List.mem_filter.mp hx).1, (List.mem_filter.mp hx).2⟩
                rw [this]
                simp [D.pd, pds, PyData.eqv, PyData.eqvAll]
            rw [show i * s + (k + 1) = (i * s + k) + 1 from rfl, List.range_succ, List.map_append, List.map_singleton, e1, e2] at hK2
            have e4 : bitD ((List.range s).any fun j => a.getD (i * s + j) false && b.getD (j * s + k) false) = D.int _ := congrArg D.int e3.symm
            rw [e4] at hK2
            exact ⟨_, rfl, by rw [sizeLine_eq]; simp; omega, hK2 _ ⟨_, _, _, rfl⟩⟩
theorem sc__law_union : FnScope ["first", "second", "k"] ["first", "second"] (defScope s__law_union) := ⟨rfl, rfl, rfl, by decide +kernel, rfl, by decide +kernel, by decide +kernel⟩
theorem ok__law_union (Fn : Fun K "_law_union" "_law_union" s__law_union f fd) (bi : Bi mg)  : FnOk P w K mg base (L2.CX P w) 2 f fd ["first", "second"] (liftP K (spUnion)) := by
  have sc := sc__law_union
  refine def_okC Fn sc ?len ?body
  case len =>
    rintro i ds P Z ⟨a, b, rfl, _⟩
    rfl
  case body =>
    rintro cdv A outer sh H E F i ds Q Z hcd hm hr ⟨a, b, rfl, ha, hb, q⟩
    have hu := hu_of hr
    have hu4 := hr.units
    have hu5 : (A.deeper (envOfC "_law_union" (defScope s__law_union) sh.heap.objs.size f cdv)).units + 65 < cLine := by have := hr.un; omega
    have hp := @owns_cx P w K mg base f (L2.CX P w) ["first", "second", "k"] "_law_union" (defScope s__law_union) cdv A outer sh H E
    have tk := @takes_cx P w K mg base f ["first", "second", "k"] "_law_union" (defScope s__law_union) cdv A outer sh H E
    refine' ⟨_, ssOne ?s1, ?fin⟩
    case s1 => exact psRet (dCl (ta := fun p => pe_callTy call_tuple_of (by rfl) (by exact bi.tuple) boot_tuple p) clTuple (dbCons (bor (frE (doLc (by rfl) sc.nd (dIterR1 (by rfl) (by exact bi.range) (daCons (dCl (ta := fun p => pe_callB call_len (by rfl) (by exact bi.len) boot_len p) clLen (dbCons (bor (dVar 0 (pv 0))) (dbNil))) (daNil))) (own := [("k", 2)]) (by exact blkOk_by (show blkC ["first", "second", "k"] (defScope s__law_union) _ _ = true from by decide +kernel)) (fun _ _ _ _ _ => tgName (pg_name sc.nd (i := 2) (by rfl) (by first | exact Or.inl rfl | exact Or.inr rfl))) (fun _ _ _ _ _ => tsNil) (fun _ _ _ _ _ => dCl (ta := fun p => pe_callTy call_int1 (by rfl) (by exact bi.int) boot_int p) clInt (dbCons (bor (dGt (bor (dAdd (bor (dIx (bor (dVar 0 (pv 0))) (bor (dVar 2 (pv 2))))) (bor (dIx (bor (dVar 1 (pv 1))) (bor (dVar 2 (pv 2))))))) (bor (dInt)))) (dbNil)))))) (dbNil)))
    case fin =>
      refine ⟨_, rfl, _, rfl, by omega, by simp; omega, ?_⟩
      refine lc_rng (n := (a.map bitD).length) (fun k => bitD (a.getD k false || b.getD k false)) (by simp; omega) (fun k hk S hS => ?_) ?_
      · have hk : k < a.length := by simpa using hk
        refine ⟨_, rfl, _, rfl, kIxT k rfl (bits_at hk) ⟨_, rfl, _, rfl, kIxT k rfl (bits_at (by omega)) ?_⟩⟩
        show _ ∧ _
        refine ⟨trivial, ?_⟩
        have : (if decide ((0 : Int) < (if a.getD k false then 1 else 0) + (if b.getD k false then 1 else 0)) = true then (1 : Int) else 0) = if (a.getD k false || b.getD k false) = true then 1 else 0 := by
          cases a.getD k false <;> cases b.getD k false <;> rfl
        show S (.int _)
        rw [this]
        exact hS
      · show Q (.tup _)
        have := q
        unfold bitsD uniB at this
        rw [List.map_map] at this
        rw [List.length_map]
        exact this
end
end DW


namespace DW
open LamX L2 PyProof.Rows PySem.Spec PySem
/-! ### drawn names -/
def lowC (c : Nat) : Prop := 97 ≤ c ∧ c ≤ 122
def digC (c : Nat) : Prop := 48 ≤ c ∧ c ≤ 57
/-- a letter, two figures that make d, up to nine further signs -/
def LNm0 (y : Str) (d : Nat) : Prop := ∃ (l a b : Nat) (r : List Nat), y.cps.toList = l :: a :: b :: r ∧ lowC l ∧ digC a ∧ digC b ∧ d = (a - 48) * 10 + (b - 48) ∧ r.length ≤ 9 ∧ ∀ c ∈ r, lowC c ∨ digC c
def sgn : Str := "abcdefghijklmnopqrstuvwxyz0123456789"
def sgC (i : Nat) : Nat := if i < 26 then 97 + i else 48 + (i - 26)
theorem sgn_at (i : Nat) (h : i < 36) : sgn.cps.toList[i]? = some (sgC i) := by
  have : ∀ i : Fin 36, sgn.cps.toList[i.val]? = some (sgC i.val) := by decide +kernel
  exact this ⟨i, h⟩
theorem sgn_len : sgn.length ≤ sizeLine := by rw [sizeLine_eq]; decide +kernel
theorem sgC_ok {i : Nat} (h : i < 36) : lowC (sgC i) ∨ digC (sgC i) := by
  unfold sgC lowC digC
  split <;> omega
theorem kIxS {i : Int} {P : D → Prop} (j : Nat) (e : i = (j : Int)) (h : j < 36) (p : P (.str ⟨#[sgC j]⟩)) : kIx (.str sgn) (.int i) P := ⟨sgn_len, sgC j, by rw [e]; exact atI_nat (sgn_at j h), p⟩
theorem kIxA {i : Int} {P : D → Prop} (j : Nat) (e : 26 + i = (j : Int)) (h : j < 36) (p : P (.str ⟨#[sgC j]⟩)) : kAdd (.int 26) (.int i) (fun y => kIx (.str sgn) y P) := kIxS j e h p
theorem truBl {b : Bool} {P : Bool → Prop} (h : P b) : truD (.bl b) P := h
def spNames : Addr × Addr → Spd := fun i ds P _ => ∃ n : Nat, ds = [.ref i.1, .int (n : Int)] ∧ n ≤ 64 ∧ ∀ ys : List Str, ys.length = n → (∀ y ∈ ys, ∃ d, LNm0 y d) → ys.Nodup → P (.lst (ys.map D.str))
theorem names_nodup {s : Nat} {ys : List Str} (hl : ys.length ≤ 64) (h : ∀ (i : Nat) (y : Str), ys[i]? = some y → LNm0 y ((s + 37 * i) % 100)) : ys.Nodup := by
  refine List.pairwise_iff_getElem.mpr fun i j hi hj hij e => ?_
  obtain ⟨l, a, b, r, e1, h1, h2, h3, h4, _⟩ := h i _ (List.getElem?_eq_getElem hi)
  obtain ⟨l', a', b', r', e1', h1', h2', h3', h4', _⟩ := h j _ (List.getElem?_eq_getElem hj)
  rw [← e, e1] at e1'
  injection e1' with q1 q2
  injection q2 with q2 q3
  injection q3 with q3 q4
  subst q2; subst q3
  rw [← h4'] at h4
  omega
theorem pickN {k n : Int} (h0 : 0 ≤ k) (h1 : k < n ∨ k = 0) (hn : 0 < n) : ∃ m : Nat, k = (m : Int) ∧ (m : Int) < n := by
  refine ⟨k.toNat, by omega, by omega⟩
section
variable {P : Program} {w : World} {K : PySem.W.Frag} {mg : Str → Option Value} {base : Heap} {f : Addr} {fd : FuncData}
theorem sc__law_names : FnScope ["source", "many", "signs", "shift", "long", "names", "k", "number", "name", "n"] ["source", "many"] (defScope s__law_names) := ⟨rfl, rfl, rfl, by decide +kernel, rfl, by decide +kernel, by decide +kernel⟩
theorem ok__law_names (Fn : Fun K "_law_names" "_law_names" s__law_names f fd) (bi : Bi mg) (cPick : Clb P w K mg base 1 "_law_pick" (liftG K mfP spPickD)) : FnOk P w K mg base (L2.CX P w) 3 f fd ["source", "many"] (liftG K (mfP) (spNames)) := by
  have sc := sc__law_names
  refine def_okC Fn sc ?len ?body
  case len =>
    rintro i ds P Z ⟨n, rfl, _⟩
    rfl
  case body =>
    rintro cdv A outer sh H E F ix ds Q Z hcd hm hr ⟨n, rfl, hn, q⟩
    have hsub : Sub (mfP ix) F.m := sub_eq hm
    have hu := hu_of hr
    have hu4 := hr.units
    have hu5 : (A.deeper (envOfC "_law_names" (defScope s__law_names) sh.heap.objs.size f cdv)).units + 65 < cLine := by have := hr.un; omega
    have hp := @owns_cx P w K mg base f (L2.CX P w) ["source", "many", "signs", "shift", "long", "names", "k", "number", "name", "n"] "_law_names" (defScope s__law_names) cdv A outer sh H E
    have tk := @takes_cx P w K mg base f ["source", "many", "signs", "shift", "long", "names", "k", "number", "name", "n"] "_law_names" (defScope s__law_names) cdv A outer sh H E
    refine' ⟨_, ssCons ?s1 (ssCons ?s2 (ssCons ?s3 (ssCons ?s4 (ssCons ?s5 (ssFrz 5 (ssOne ?s6)))))), ?fin⟩
    case s1 => exact psSet sc.nd (i := 2) (by rfl) (by first | exact Or.inl rfl | exact Or.inr rfl) (dStr)
    case s2 => exact psSet sc.nd (i := 3) (by rfl) (by first | exact Or.inl rfl | exact Or.inr rfl) (dCall (mf := mfP) (s := spPickD) ix (by exact hsub) (by exact cPick) (by exact hr.mono (by decide)) (by exact tk) (by rfl) (daCons (dVar 0 (pv 0)) (daCons (dInt) (daNil))))
    case s3 => exact psSet sc.nd (i := 4) (by rfl) (by first | exact Or.inl rfl | exact Or.inr rfl) (dEq (by exact hu4) (bor (dCall (mf := mfP) (s := spPickD) ix (by exact hsub) (by exact cPick) (by exact hr.mono (by decide)) (by exact tk) (by rfl) (daCons (dVar 0 (pv 0)) (daCons (dInt) (daNil))))) (bor (dInt)))
    case s4 => exact psOwn sc.nd (i := 5) (by rfl) (by first | exact Or.inl rfl | exact Or.inr rfl) (doLst (daNil))
    case s5 => exact psFor (by exact hp) (by rfl) (dIterR1 (by rfl) (by exact bi.range) (daCons (dVar 1 (pv 1)) (daNil))) (tgName (pg_name sc.nd (i := 6) (by rfl) (by first | exact Or.inl rfl | exact Or.inr rfl))) (ssCons (psSet sc.nd (i := 7) (by rfl) (by first | exact Or.inl rfl | exact Or.inr rfl) (dMod (bor (dCl (ta := fun p => pe_callTy call_int1 (by rfl) (by exact bi.int) boot_int p) clInt (dbCons (bor (dAdd (bor (dVar 3 (pv 3))) (bor (dMulI (bor (dInt)) (bor (dVar 6 (pv 6))))))) (dbNil)))) (bor (dInt)))) (ssCons (psSet sc.nd (i := 8) (by rfl) (by first | exact Or.inl rfl | exact Or.inr rfl) (dAdd (bor (dAdd (bor (dIx (bor (dVar 2 (pv 2))) (bor (dCall (mf := mfP) (s := spPickD) ix (by exact hsub) (by exact cPick) (by exact hr.mono (by decide)) (by exact tk) (by rfl) (daCons (dVar 0 (pv 0)) (daCons (dInt) (daNil))))))) (bor (dIx (bor (dVar 2 (pv 2))) (bor (dAdd (bor (dInt)) (bor (dDiv (bor (dVar 7 (pv 7))) (bor (dInt)))))))))) (bor (dIx (bor (dVar 2 (pv 2))) (bor (dAdd (bor (dInt)) (bor (dMod (bor (dCl (ta := fun p => pe_callTy call_int1 (by rfl) (by exact bi.int) boot_int p) clInt (dbCons (bor (dVar 7 (pv 7))) (dbNil)))) (bor (dInt)))))))))) (ssCons (psFor (by exact hp) (by rfl) (dIterR1 (by rfl) (by exact bi.range) (daCons (dIf (tTru (bor (dVar 4 (pv 4)))) (dPow (bor (dCall (mf := mfP) (s := spPickD) ix (by exact hsub) (by exact cPick) (by exact hr.mono (by decide)) (by exact tk) (by rfl) (daCons (dVar 0 (pv 0)) (daCons (dInt) (daNil))))) (bor (dInt))) (dInt)) (daNil))) (tgName (pg_name sc.nd (i := 9) (by rfl) (by first | exact Or.inl rfl | exact Or.inr rfl))) (ssOne (psSet sc.nd (i := 8) (by rfl) (by first | exact Or.inl rfl | exact Or.inr rfl) (dAdd (bor (dVar 8 (pv 8))) (bor (dIx (bor (dVar 2 (pv 2))) (bor (dCall (mf := mfP) (s := spPickD) ix (by exact hsub) (by exact cPick) (by exact hr.mono (by decide)) (by exact tk) (by rfl) (daCons (dVar 0 (pv 0)) (daCons (dInt) (daNil))))))))))) (ssOne (psApp 5 (pe_bm PySem.F.plainAttrs_list PySem.F.slot_list_append PySem.F.type_list_append mt_append (pv 5) (daCons (dVar 8 (pv 8)) (daNil))))))))
    case s6 => exact psRet (dVar 5 (pv 5))
    case fin =>
      show sSeq _ _ [some (.dat (.ref ix.1)), some (.dat (.int (n : Int))), none, none, none, none, none, none, none, none] _
      refine ⟨_, rfl, _, rfl, by omega, fun k0 k1 k2 => ?_⟩
      obtain ⟨s, rfl, hs⟩ := pickN k1 k2 (by omega)
      refine ⟨_, rfl, _, rfl, by omega, fun k3 k4 k5 => ?_⟩
      refine wEqN ?_
      generalize decide (k3 = 0) = long
      refine ⟨by show 0 ≤ _; omega, _, rfl, _, rfl, by omega, by omega, ?_⟩
      refine forW_rng (n := n) (fun k ε => ∃ (ys : List Str) (c6 c7 c8 c9 : Option Sl), ys.length = k ∧ (∀ (i : Nat) (y : Str), ys[i]? = some y → LNm0 y ((s + 37 * i) % 100)) ∧
        ε = [some (.dat (.ref ix.1)), some (.dat (.int (n : Int))), some (.dat (.str sgn)), some (.dat (.int (s : Int))), some (.dat (.bl long)), some (.own (.lst (ys.map D.str))), c6, c7, c8, c9]) ?_ ?_ ?_
      · exact ⟨[], _, _, _, _, rfl, (fun i y e => by cases e), rfl⟩
      · rintro ε ⟨ys, c6, c7, c8, c9, hl, hy, rfl⟩
        refine ⟨_, rfl, _, rfl, q ys hl (fun y hm => ?_) (names_nodup (by omega) hy)⟩
        obtain ⟨i, hi, e⟩ := List.mem_iff_getElem.mp hm
        exact ⟨_, hy i y (by rw [← e]; exact List.getElem?_eq_getElem hi)⟩
      · rintro k hk ε ⟨ys, c6, c7, c8, c9, hl, hy, rfl⟩ KK hK
        refine ⟨_, rfl, _, rfl, .inl ⟨by omega, by omega⟩, (by show (0 : Int) < _; decide), ?_⟩
        have e37 : ((s : Int) + 37 * (k : Int)) % 100 = (((s + 37 * k) % 100 : Nat) : Int) := by omega
        show gNm 7 (D.int (((s : Int) + 37 * (k : Int)) % 100)) _ _
        rw [e37]
        have hd : (s + 37 * k) % 100 < 100 := Nat.mod_lt _ (by decide)
        generalize hdd : (s + 37 * k) % 100 = d at hd
        refine ⟨_, rfl, _, rfl, _, rfl, by omega, fun k6 k7 k8 => ?_⟩
        obtain ⟨l, rfl, hl26⟩ := pickN k7 k8 (by omega)
        refine kIxS l rfl (by omega) ⟨_, rfl, _, rfl, ⟨by decide, by decide⟩, kIxA (26 + d / 10) (by push_cast; rfl) (by omega) ⟨?_, _, rfl, _, rfl, (by show (0 : Int) < _; decide), kIxA (26 + d % 10) (by push_cast; rfl) (by omega) ⟨?_, ?_⟩⟩⟩
        · show 1 + 1 ≤ _; rw [sizeLine_eq]; omega
        · show 2 + 1 ≤ _; rw [sizeLine_eq]; omega
        have hb : LNm0 ((⟨#[sgC l]⟩ ++ ⟨#[sgC (26 + d / 10)]⟩ ++ ⟨#[sgC (26 + d % 10)]⟩ : Str)) d := by
          refine ⟨sgC l, sgC (26 + d / 10), sgC (26 + d % 10), [], rfl, ?_, ?_, ?_, ?_, by show 0 ≤ 9; omega, fun c hc => by cases hc⟩
          · unfold sgC lowC; rw [if_pos (by omega)]; omega
          · unfold sgC digC; rw [if_neg (by omega)]; omega
          · unfold sgC digC; rw [if_neg (by omega)]; omega
          · unfold sgC; rw [if_neg (by omega), if_neg (by omega)]; omega
        have h3 : ((⟨#[sgC l]⟩ ++ ⟨#[sgC (26 + d / 10)]⟩ ++ ⟨#[sgC (26 + d % 10)]⟩ : Str)).cps.toList.length = 3 := rfl
        generalize ((⟨#[sgC l]⟩ ++ ⟨#[sgC (26 + d / 10)]⟩ ++ ⟨#[sgC (26 + d % 10)]⟩ : Str)) = y0 at hb h3
        have last : ∀ (N1 : En), (∀ ε, KK ε → N1.nx ε) → ∀ (y : Str) (c9 : Option Sl), LNm0 y d → sApp 5 (aCons (wVar 8) aNil) [some (.dat (.ref ix.1)), some (.dat (.int (n : Int))), some (.dat (.str sgn)), some (.dat (.int (s : Int))), some (.dat (.bl long)), some (.own (.lst (ys.map D.str))), some (.dat (.int (k : Int))), some (.dat (.int (d : Int))), some (.dat (.str y)), c9] N1 := fun N1 hN1 y c9 h => by
          refine ⟨_, rfl, _, rfl, _, rfl, by rw [sizeLine_eq]; simp; omega, hN1 _ <| hK _ ⟨ys ++ [y], some (.dat (.int (k : Int))), some (.dat (.int (d : Int))), some (.dat (.str y)), c9, by simp [hl], fun i z e => ?_, by simp⟩⟩
          by_cases hi : i < ys.length
          · rw [List.getElem?_append_left hi] at e
            exact hy i z e
          · rw [List.getElem?_append_right (by omega)] at e
            have : i = ys.length := by
              have := (List.getElem?_eq_some_iff.mp e).1
              simp at this; omega
            subst this
            simp at e
            subst e
            rw [hl, hdd]; exact h
        have grow : ∀ (y : Str) (j : Nat), j < 36 → LNm0 y d → y.cps.toList.length ≤ 11 → LNm0 (y ++ ⟨#[sgC j]⟩) d ∧ (y ++ ⟨#[sgC j]⟩ : Str).cps.toList.length = y.cps.toList.length + 1 := fun y j hj ⟨l, a, b, r, e, h1, h2, h3, h4, h5, h6⟩ hl => by
          have e2 : (y ++ ⟨#[sgC j]⟩ : Str).cps.toList = y.cps.toList ++ [sgC j] := by
            show (y.cps ++ #[sgC j]).toList = _
            simp
          rw [e2]
          refine ⟨⟨l, a, b, r ++ [sgC j], by rw [e2, e]; rfl, h1, h2, h3, h4, ?_, fun c hc => ?_⟩, by simp⟩
          · rw [e] at hl
            simp at hl ⊢
            omega
          · rcases List.mem_append.mp hc with z | z
            · exact h6 c z
            · rw [List.mem_singleton.mp z]; exact sgC_ok hj
        have loop : ∀ (N : En) (m : Nat), m ≤ 9 → (∀ (y : Str) (c9 : Option Sl), LNm0 y d → N.nx [some (.dat (.ref ix.1)), some (.dat (.int (n : Int))), some (.dat (.str sgn)), some (.dat (.int (s : Int))), some (.dat (.bl long)), some (.own (.lst (ys.map D.str))), some (.dat (.int (k : Int))), some (.dat (.int (d : Int))), some (.dat (.str y)), c9]) → forW (gNm 9) (sAsg (w2 (wVar 8) (w2 (wVar 2) (wCall (spPickD ix) (aCons (wVar 0) (aCons (wC (D.int 36)) aNil))) kIx) kAdd) (gNm 8)) (rngD 0 m)
            [some (.dat (.ref ix.1)), some (.dat (.int (n : Int))), some (.dat (.str sgn)), some (.dat (.int (s : Int))), some (.dat (.bl long)), some (.own (.lst (ys.map D.str))), some (.dat (.int (k : Int))), some (.dat (.int (d : Int))), some (.dat (.str y0)), c9]
            N := fun N m hm hlast => by
          refine forW_rng (n := m) (fun t ε => ∃ (y : Str) (c9 : Option Sl), LNm0 y d ∧ y.cps.toList.length = 3 + t ∧ ε = [some (.dat (.ref ix.1)), some (.dat (.int (n : Int))), some (.dat (.str sgn)), some (.dat (.int (s : Int))), some (.dat (.bl long)), some (.own (.lst (ys.map D.str))), some (.dat (.int (k : Int))), some (.dat (.int (d : Int))), some (.dat (.str y)), c9]) ?_ ?_ ?_
          · exact ⟨y0, c9, hb, h3, rfl⟩
          · rintro ε ⟨y, c9, hy2, _, rfl⟩
            exact hlast y c9 hy2
          · rintro t ht ε ⟨y, c9, hy2, hlen, rfl⟩ K3 hK3
            refine ⟨_, rfl, _, rfl, _, rfl, _, rfl, by omega, fun k9 k10 k11 => ?_⟩
            obtain ⟨j, rfl, hj⟩ := pickN k10 k11 (by omega)
            have hj : j < 36 := by omega
            obtain ⟨g1, g2⟩ := grow y j hj hy2 (by omega)
            refine kIxS j rfl hj ⟨?_, hK3 _ ⟨y ++ ⟨#[sgC j]⟩, _, g1, by rw [g2]; omega, rfl⟩⟩
            have : y.length = y.cps.toList.length := by simp [Str.length]
            show y.length + 1 ≤ _
            rw [sizeLine_eq]; omega
        cases long with
        | true =>
          refine ⟨_, rfl, truBl ?_⟩
          refine ite2 (fun _ => ?_) fun h => (h rfl).elim
          refine ⟨_, rfl, _, rfl, by omega, fun k9 k10 k11 => ?_⟩
          obtain ⟨m, rfl, hm4⟩ := pickN k10 k11 (by omega)
          have hm4 : m < 4 := by omega
          have e9 : ((m : Int) ^ (2 : Int).toNat) = ((m * m : Nat) : Int) := by
            show (m : Int) ^ 2 = _
            rw [Int.pow_succ, Int.pow_succ, Int.pow_zero, Int.one_mul]; push_cast; rfl
          have h9 : m * m ≤ 9 := Nat.mul_le_mul (show m ≤ 3 by omega) (show m ≤ 3 by omega)
          refine ⟨⟨by decide, by decide, by omega⟩, _, rfl, ?_, ?_, ?_⟩
          · rw [e9]; omega
          · rw [e9]; omega
          · rw [e9]
            exact loop _ (m * m) h9 fun y c9 h => last _ (fun ε z => z) y c9 h
        | false =>
          refine ⟨_, rfl, truBl ?_⟩
          refine ite2 (fun h => (by cases h)) fun _ => ?_
          exact ⟨_, rfl, by decide, by decide, loop _ 0 (by decide) fun y c9 h => last _ (fun ε z => z) y c9 h⟩
end
end DW


namespace DW
open LamX L2 PyProof.Rows PySem.Spec PySem
/-! ### a scale as tables of places -/
def matD (n : Nat) (f : Nat → Nat → Nat) : D := .lst ((List.range n).map fun a => .lst ((List.range n).map fun b => .int (f a b : Nat)))
def scD (names : D) (n : Nat) (j t : Nat → Nat → Nat) (z e : Nat) : List (Key × D) := [(.inr "names", names), (.inr "join", matD n j), (.inr "then", matD n t), (.inr "none", .int (z : Nat)), (.inr "unit", .int (e : Nat))]
/-- the listed things, told apart by == -/
structure Lst (xs : List D) : Prop where
  few : xs.length ≤ 16
  sh : ∀ x ∈ xs, Sh 2 x
  ne : ∀ (i k : Nat) (x y : D), xs[i]? = some x → xs[k]? = some y → i ≠ k → PyData.eqv x.pd y.pd = false
theorem Lst.ix {xs : List D} (L : Lst xs) {i : Nat} {x : D} (h : xs[i]? = some x) {P : D → Prop} (p : P (.int (i : Nat))) : ixOk xs x P :=
  ⟨(L.sh x (List.mem_of_getElem? h)).ok, Sh.okL L.sh, i, x, h, (L.sh x (List.mem_of_getElem? h)).eqv, fun m z hm e => L.ne m i z x e h (by omega), p⟩
/-- what a function of two of the listed things promises -/
def Bin (P : Program) (w : World) (K : PySem.W.Frag) (mg : Str → Option Value) (base : Heap) (k : Nat) (d : D) (xs : List D) (f : Nat → Nat → Nat) : Prop :=
  ∃ s : Spd, VOk P w K mg base k d (liftP K s) ∧ ∀ (a b : Nat) (x y : D), xs[a]? = some x → xs[b]? = some y → ∃ r, xs[f a b]? = some r ∧ ∀ (Q : D → Prop) (Z : Ex → Prop), Q r → s [x, y] Q Z
def spTables (P : Program) (w : World) (K : PySem.W.Frag) (mg : Str → Option Value) (base : Heap) (k : Nat) : Spo := fun ds Q _ => ∃ (xs : List D) (F1 F2 lo st : D) (j t : Nat → Nat → Nat) (z e : Nat),
  ds = [.lst xs, F1, F2, lo, st] ∧ Lst xs ∧ Bin P w K mg base k F1 xs j ∧ Bin P w K mg base k F2 xs t ∧ xs[z]? = some lo ∧ xs[e]? = some st ∧ Q (.dct (scD (.lst []) xs.length j t z e))
section
variable {P : Program} {w : World} {K : PySem.W.Frag} {mg : Str → Option Value} {base : Heap} {f : Addr} {fd : FuncData}
theorem sc__law_tables : FnScope ["found", "joined", "product", "low", "still", "joins", "products", "a", "b"] ["found", "joined", "product", "low", "still"] (defScope s__law_tables) := ⟨rfl, rfl, rfl, by decide +kernel, rfl, by decide +kernel, by decide +kernel⟩
theorem ok__law_tables (Fn : Fun K "_law_tables" "_law_tables" s__law_tables f fd) (bi : Bi mg)  : FnOk P w K mg base (L2.CX P w) 5 f fd ["found", "joined", "product", "low", "still"] (liftO K (fun _ : Unit => md0) (fun _ => spTables P w K mg base 4)) := by
  have sc := sc__law_tables
  refine defO_ok Fn sc ?len ?body
  case len =>
    rintro i ds P Z ⟨xs, F1, F2, lo, st, j, t, z, e, rfl, _⟩
    rfl
  case body =>
    rintro cdv A outer sh H E F ix ds Q Z hcd hm hr ⟨xs, F1, F2, lo, st, j, t, z, e, rfl, L, ⟨s1, v1, b1⟩, ⟨s2, v2, b2⟩, hz, he, q⟩
    have hu := hu_of hr
    have hu4 := hr.units
    have hu5 : (A.deeper (envOfC "_law_tables" (defScope s__law_tables) sh.heap.objs.size f cdv)).units + 65 < cLine := by have := hr.un; omega
    have hp := @owns_cx P w K mg base f (L2.CX P w) ["found", "joined", "product", "low", "still", "joins", "products", "a", "b"] "_law_tables" (defScope s__law_tables) cdv A outer sh H E
    have tk := @takes_cx P w K mg base f ["found", "joined", "product", "low", "still", "joins", "products", "a", "b"] "_law_tables" (defScope s__law_tables) cdv A outer sh H E
    refine' ⟨_, _, slCons ?s1 (slCons ?s2 (slCons ?s3 (slFrz 5 (slFrz 6 (slRet ?s4))))), ?fin⟩
    case s1 => exact psOwn sc.nd (i := 5) (by rfl) (by first | exact Or.inl rfl | exact Or.inr rfl) (doLst (daNil))
    case s2 => exact psOwn sc.nd (i := 6) (by rfl) (by first | exact Or.inl rfl | exact Or.inr rfl) (doLst (daNil))
    case s3 => exact psFor (by exact hp) (by rfl) (dIterL (dVar 0 (pv 0))) (tgName (pg_name sc.nd (i := 7) (by rfl) (by first | exact Or.inl rfl | exact Or.inr rfl))) (ssCons (psApp 5 (pe_bm PySem.F.plainAttrs_list PySem.F.slot_list_append PySem.F.type_list_append mt_append (pv 5) (daCons (frE (doLc (by rfl) sc.nd (dIterL (dVar 0 (pv 0))) (own := [("b", 8)]) (by exact blkOk_by (show blkC ["found", "joined", "product", "low", "still", "joins", "products", "a", "b"] (defScope s__law_tables) _ _ = true from by decide +kernel)) (fun _ _ _ _ _ => tgName (pg_name sc.nd (i := 8) (by rfl) (by first | exact Or.inl rfl | exact Or.inr rfl))) (fun _ _ _ _ _ => tsNil) (fun _ _ _ _ _ => dIdx (by exact hu5) (bor (dVar 0 (pv 0))) (bor (dCallV (k := 4) (V := fun d s => VOk P w K mg base 4 d (liftP K s)) (by exact fun _ _ h => h) 1 (by exact hr.mono (by decide)) (by exact L2.takes0) (by rfl) (by first | exact Or.inl rfl | exact Or.inr (Or.inl rfl) | exact Or.inr (Or.inr rfl)) (daCons (dVar 7 (pv 7)) (daCons (dVar 8 (pv 8)) (daNil)))))))) (daNil)))) (ssOne (psApp 6 (pe_bm PySem.F.plainAttrs_list PySem.F.slot_list_append PySem.F.type_list_append mt_append (pv 6) (daCons (frE (doLc (by rfl) sc.nd (dIterL (dVar 0 (pv 0))) (own := [("b", 8)]) (by exact blkOk_by (show blkC ["found", "joined", "product", "low", "still", "joins", "products", "a", "b"] (defScope s__law_tables) _ _ = true from by decide +kernel)) (fun _ _ _ _ _ => tgName (pg_name sc.nd (i := 8) (by rfl) (by first | exact Or.inl rfl | exact Or.inr rfl))) (fun _ _ _ _ _ => tsNil) (fun _ _ _ _ _ => dIdx (by exact hu5) (bor (dVar 0 (pv 0))) (bor (dCallV (k := 4) (V := fun d s => VOk P w K mg base 4 d (liftP K s)) (by exact fun _ _ h => h) 2 (by exact hr.mono (by decide)) (by exact L2.takes0) (by rfl) (by first | exact Or.inl rfl | exact Or.inr (Or.inl rfl) | exact Or.inr (Or.inr rfl)) (daCons (dVar 7 (pv 7)) (daCons (dVar 8 (pv 8)) (daNil)))))))) (daNil))))))
    case s4 => exact psRetO (doDict (dfCons (frE (doLst (daNil))) (dfCons (dVar 5 (pv 5)) (dfCons (dVar 6 (pv 6)) (dfCons (dIdx (by exact hu5) (bor (dVar 0 (pv 0))) (bor (dVar 3 (pv 3)))) (dfCons (dIdx (by exact hu5) (bor (dVar 0 (pv 0))) (bor (dVar 4 (pv 4)))) (dfNil)))))))
    case fin =>
      refine ⟨by show 0 ≤ _; omega, by show 0 ≤ _; omega, _, rfl, _, .inl rfl, ?_⟩
      have hxl : xs.length ≤ 16777216 := by have := L.few; omega
      refine forW_idx (fun i ε => ∃ c7 c8, ε = [some (.dat (.lst xs)), some (.dat F1), some (.dat F2), some (.dat lo), some (.dat st), some (.own (.lst ((List.range i).map fun a => .lst ((List.range xs.length).map fun b => .int (j a b : Nat))))), some (.own (.lst ((List.range i).map fun a => .lst ((List.range xs.length).map fun b => .int (t a b : Nat))))), c7, c8]) (n := 0) ?_ ?_ ?_
      · exact ⟨_, _, rfl⟩
      · rintro ε ⟨c7, c8, rfl⟩
        rw [Nat.zero_add]
        refine ⟨_, rfl, _, rfl, ?_⟩
        refine ⟨by show 0 ≤ _; omega, _, rfl, _, rfl, _, rfl, _, .inl rfl, _, rfl, L.ix hz ⟨_, rfl, _, .inl rfl, _, rfl, L.ix he ?_⟩⟩
        exact q
      · rintro i x hx ε ⟨c7, c8, rfl⟩ KK hK
        rw [Nat.zero_add] at hK ⊢
        rw [List.range_succ, List.map_append, List.map_append] at hK
        have hi : i < xs.length := (List.getElem?_eq_some_iff.mp hx).1
        have few := L.few
        refine ⟨_, rfl, _, rfl, _, .inl rfl, ?_⟩
        refine lc_at (fun b => .int (j i b : Nat)) (by rw [sizeLine_eq]; omega) (fun b y hy S hS => ?_) ?_
        · obtain ⟨r, hr2, sp⟩ := b1 i b x y hx hy
          refine ⟨_, rfl, _, .inl rfl, _, s1, rfl, v1, _, rfl, _, rfl, sp _ _ (L.ix hr2 hS)⟩
        refine ⟨_, rfl, by simp; rw [sizeLine_eq]; omega, _, rfl, _, rfl, _, .inl rfl, ?_⟩
        refine lc_at (fun b => .int (t i b : Nat)) (by rw [sizeLine_eq]; omega) (fun b y hy S hS => ?_) ?_
        · obtain ⟨r, hr2, sp⟩ := b2 i b x y hx hy
          refine ⟨_, rfl, _, .inl rfl, _, s2, rfl, v2, _, rfl, _, rfl, sp _ _ (L.ix hr2 hS)⟩
        exact ⟨_, rfl, by simp; rw [sizeLine_eq]; omega, hK _ ⟨_, _, rfl⟩⟩
end
end DW


namespace DW
open L2 PyProof.Rows PySem.Spec PySem
/-! ### regular scales, by places -/
structure Reg (n : Nat) (j t : Nat → Nat → Nat) (z e : Nat) : Prop where
  zl : z < n
  el : e < n
  jl : ∀ a b, a < n → b < n → j a b < n
  tl : ∀ a b, a < n → b < n → t a b < n
  same : ∀ a, a < n → j a a = a
  swap : ∀ a b, a < n → b < n → j a b = j b a
  grp : ∀ a b c, a < n → b < n → c < n → j (j a b) c = j a (j b c)
  non : ∀ a, a < n → j a z = a
  tg : ∀ a b c, a < n → b < n → c < n → t (t a b) c = t a (t b c)
  tu1 : ∀ a, a < n → t e a = a
  tu2 : ∀ a, a < n → t a e = a
  tn1 : ∀ a, a < n → t z a = z
  tn2 : ∀ a, a < n → t a z = z
  sl : ∀ a b c, a < n → b < n → c < n → t a (j b c) = j (t a b) (t a c)
  sr : ∀ a b c, a < n → b < n → c < n → t (j a b) c = j (t a c) (t b c)
theorem Reg.turn {n : Nat} {j t : Nat → Nat → Nat} {z e : Nat} (r : Reg n j t z e) : Reg n j (fun a b => t b a) z e :=
  ⟨r.zl, r.el, r.jl, fun a b h1 h2 => r.tl b a h2 h1, r.same, r.swap, r.grp, r.non, fun a b c h1 h2 h3 => (r.tg c b a h3 h2 h1).symm, r.tu2, r.tu1, r.tn2, r.tn1, fun a b c h1 h2 h3 => r.sr b c a h2 h3 h1, fun a b c h1 h2 h3 => r.sl c a b h3 h1 h2⟩
/-- the same of listed things -/
structure Alg {α : Type} (xs : List α) (J T : α → α → α) (lo st : α) : Prop where
  zl : lo ∈ xs
  el : st ∈ xs
  jl : ∀ a ∈ xs, ∀ b ∈ xs, J a b ∈ xs
  tl : ∀ a ∈ xs, ∀ b ∈ xs, T a b ∈ xs
  same : ∀ a ∈ xs, J a a = a
  swap : ∀ a ∈ xs, ∀ b ∈ xs, J a b = J b a
  grp : ∀ a ∈ xs, ∀ b ∈ xs, ∀ c ∈ xs, J (J a b) c = J a (J b c)
  non : ∀ a ∈ xs, J a lo = a
  tg : ∀ a ∈ xs, ∀ b ∈ xs, ∀ c ∈ xs, T (T a b) c = T a (T b c)
  tu1 : ∀ a ∈ xs, T st a = a
  tu2 : ∀ a ∈ xs, T a st = a
  tn1 : ∀ a ∈ xs, T lo a = lo
  tn2 : ∀ a ∈ xs, T a lo = lo
  sl : ∀ a ∈ xs, ∀ b ∈ xs, ∀ c ∈ xs, T a (J b c) = J (T a b) (T a c)
  sr : ∀ a ∈ xs, ∀ b ∈ xs, ∀ c ∈ xs, T (J a b) c = J (T a c) (T b c)
section
variable {α : Type} [DecidableEq α] {xs : List α} {J T : α → α → α} {lo st : α}
def jIx (xs : List α) (J : α → α → α) (a b : Nat) : Nat := match xs[a]?, xs[b]? with
  | some x, some y => xs.idxOf (J x y)
  | _, _ => 0
theorem idx_at {x : α} (h : x ∈ xs) : xs[xs.idxOf x]? = some x := by
  have h1 : xs.idxOf x < xs.length := List.idxOf_lt_length_of_mem h
  rw [List.getElem?_eq_getElem h1, List.getElem_idxOf h1]
theorem idx_of (nd : xs.Nodup) {i : Nat} {x : α} (h : xs[i]? = some x) : xs.idxOf x = i := by
  rcases List.getElem?_eq_some_iff.mp h with ⟨hi, e⟩
  have hm : x ∈ xs := List.mem_of_getElem? h
  have h2 := idx_at hm
  obtain ⟨h3, e2⟩ := List.getElem?_eq_some_iff.mp h2
  have nd' := List.pairwise_iff_getElem.mp nd
  rcases Nat.lt_trichotomy (xs.idxOf x) i with q | q | q
  · exact absurd (e2.trans e.symm) (nd' _ _ h3 hi q)
  · exact q
  · exact absurd (e.trans e2.symm) (nd' _ _ hi h3 q)
theorem at_lt {i : Nat} (h : i < xs.length) : ∃ x, xs[i]? = some x ∧ x ∈ xs := ⟨xs[i], List.getElem?_eq_getElem h, List.getElem_mem h⟩
theorem jIx_eq {a b : Nat} {x y : α} (h1 : xs[a]? = some x) (h2 : xs[b]? = some y) : jIx xs J a b = xs.idxOf (J x y) := by
  unfold jIx; rw [h1, h2]
theorem jIx_at (cl : ∀ a ∈ xs, ∀ b ∈ xs, J a b ∈ xs) {a b : Nat} {x y : α} (h1 : xs[a]? = some x) (h2 : xs[b]? = some y) : xs[jIx xs J a b]? = some (J x y) := by
  rw [jIx_eq h1 h2]
  exact idx_at (cl x (List.mem_of_getElem? h1) y (List.mem_of_getElem? h2))
theorem lt_of_at {i : Nat} {x : α} (h : xs[i]? = some x) : i < xs.length := (List.getElem?_eq_some_iff.mp h).1
theorem reg_of (nd : xs.Nodup) (g : Alg xs J T lo st) : Reg xs.length (jIx xs J) (jIx xs T) (xs.idxOf lo) (xs.idxOf st) := by
  have inj : ∀ {i k : Nat} {x : α}, xs[i]? = some x → xs[k]? = some x → i = k := fun h1 h2 => (idx_of nd h1).symm.trans (idx_of nd h2)
  have zl := idx_at g.zl
  have el := idx_at g.el
  refine ⟨lt_of_at zl, lt_of_at el, fun a b h1 h2 => ?_, fun a b h1 h2 => ?_, fun a h1 => ?_, fun a b h1 h2 => ?_, fun a b c h1 h2 h3 => ?_, fun a h1 => ?_, fun a b c h1 h2 h3 => ?_, fun a h1 => ?_, fun a h1 => ?_, fun a h1 => ?_, fun a h1 => ?_, fun a b c h1 h2 h3 => ?_, fun a b c h1 h2 h3 => ?_⟩
  all_goals obtain ⟨x, ex, mx⟩ := at_lt h1
  · obtain ⟨y, ey, my⟩ := at_lt h2
    exact lt_of_at (jIx_at g.jl ex ey)
  · obtain ⟨y, ey, my⟩ := at_lt h2
    exact lt_of_at (jIx_at g.tl ex ey)
  · exact inj (jIx_at g.jl ex ex) (by rw [g.same x mx]; exact ex)
  · obtain ⟨y, ey, my⟩ := at_lt h2
    exact inj (jIx_at g.jl ex ey) (by rw [g.swap x mx y my]; exact jIx_at g.jl ey ex)
  · obtain ⟨y, ey, my⟩ := at_lt h2
    obtain ⟨u, eu, mu⟩ := at_lt h3
    exact inj (jIx_at g.jl (jIx_at g.jl ex ey) eu) (by rw [g.grp x mx y my u mu]; exact jIx_at g.jl ex (jIx_at g.jl ey eu))
  · exact inj (jIx_at g.jl ex zl) (by rw [g.non x mx]; exact ex)
  · obtain ⟨y, ey, my⟩ := at_lt h2
    obtain ⟨u, eu, mu⟩ := at_lt h3
    exact inj (jIx_at g.tl (jIx_at g.tl ex ey) eu) (by rw [g.tg x mx y my u mu]; exact jIx_at g.tl ex (jIx_at g.tl ey eu))
  · exact inj (jIx_at g.tl el ex) (by rw [g.tu1 x mx]; exact ex)
  · exact inj (jIx_at g.tl ex el) (by rw [g.tu2 x mx]; exact ex)
  · exact inj (jIx_at g.tl zl ex) (by rw [g.tn1 x mx]; exact zl)
  · exact inj (jIx_at g.tl ex zl) (by rw [g.tn2 x mx]; exact zl)
  · obtain ⟨y, ey, my⟩ := at_lt h2
    obtain ⟨u, eu, mu⟩ := at_lt h3
    exact inj (jIx_at g.tl ex (jIx_at g.jl ey eu)) (by rw [g.sl x mx y my u mu]; exact jIx_at g.jl (jIx_at g.tl ex ey) (jIx_at g.tl ex eu))
  · obtain ⟨y, ey, my⟩ := at_lt h2
    obtain ⟨u, eu, mu⟩ := at_lt h3
    exact inj (jIx_at g.tl (jIx_at g.jl ex ey) eu) (by rw [g.sr x mx y my u mu]; exact jIx_at g.jl (jIx_at g.tl ex eu) (jIx_at g.tl ey eu))
/-- a function's promise, over listed things as data -/
theorem bin_of {P : Program} {w : World} {K : PySem.W.Frag} {mg : Str → Option Value} {base : Heap} {k : Nat} {d : D} {f : α → D} {s : Spd} (hf : ∀ x ∈ xs, ∀ y ∈ xs, f x = f y → x = y) (cl : ∀ a ∈ xs, ∀ b ∈ xs, J a b ∈ xs) (v : VOk P w K mg base k d (liftP K s))
    (h : ∀ x ∈ xs, ∀ y ∈ xs, ∀ (Q : D → Prop) (Z : Ex → Prop), Q (f (J x y)) → s [f x, f y] Q Z) : Bin P w K mg base k d (xs.map f) (jIx xs J) := by
  refine ⟨s, v, fun a b x y hx hy => ?_⟩
  rw [List.getElem?_map] at hx hy
  cases ea : xs[a]? with
  | none => rw [ea] at hx; cases hx
  | some x' =>
    cases eb : xs[b]? with
    | none => rw [eb] at hy; cases hy
    | some y' =>
      rw [ea] at hx; rw [eb] at hy
      cases hx; cases hy
      exact ⟨f (J x' y'), by rw [List.getElem?_map, jIx_at cl ea eb]; rfl, h x' (List.mem_of_getElem? ea) y' (List.mem_of_getElem? eb)⟩
end
/-! ### relations: their laws -/
section
variable {s : Nat}
def R (s : Nat) (a : List Bool) (i k : Nat) : Prop := a.getD (i * s + k) false = true
theorem rel_ext {a b : List Bool} (ha : a.length = s * s) (hb : b.length = s * s) (h : ∀ i k, i < s → k < s → (R s a i k ↔ R s b i k)) : a = b := by
  apply List.ext_getElem (ha.trans hb.symm)
  intro p h1 h2
  have hp : p < s * s := by omega
  have hs : 0 < s := Nat.pos_of_ne_zero fun z => by rw [z] at hp; simp at hp
  have e : p / s * s + p % s = p := Nat.div_add_mod' p s
  have hi : p / s < s := Nat.div_lt_of_lt_mul hp
  have q := h (p / s) (p % s) hi (Nat.mod_lt _ hs)
  unfold R at q
  rw [e, List.getD_eq_getElem?_getD, List.getD_eq_getElem?_getD, List.getElem?_eq_getElem h1, List.getElem?_eq_getElem h2] at q
  simp only [Option.getD_some] at q
  cases x : a[p] <;> cases y : b[p] <;> simp_all
theorem ix_lt {i k : Nat} (hi : i < s) (hk : k < s) : i * s + k < s * s := by
  have : (i + 1) * s ≤ s * s := Nat.mul_le_mul_right s hi
  rw [Nat.add_mul, Nat.one_mul] at this
  omega
theorem R_rel {a b : List Bool} {i k : Nat} (hi : i < s) (hk : k < s) : R s (relB s a b) i k ↔ ∃ j, j < s ∧ R s a i j ∧ R s b j k := by
  have hp := ix_lt hi hk
  have hs : 0 < s := by omega
  have e1 : (i * s + k) / s = i := by rw [Nat.mul_comm, Nat.mul_add_div hs, Nat.div_eq_of_lt hk, Nat.add_zero]
  have e2 : (i * s + k) % s = k := by rw [Nat.mul_comm, Nat.mul_add_mod, Nat.mod_eq_of_lt hk]
  unfold R relB
  rw [List.getD_eq_getElem?_getD, List.getElem?_map, List.getElem?_range hp]
  simp only [Option.map_some, Option.getD_some, e1, e2, List.any_eq_true, List.mem_range, Bool.and_eq_true]
theorem R_uni {a b : List Bool} (ha : a.length = s * s) {i k : Nat} (hi : i < s) (hk : k < s) : R s (uniB a b) i k ↔ R s a i k ∨ R s b i k := by
  have hp := ix_lt hi hk
  unfold R uniB
  rw [List.getD_eq_getElem?_getD, List.getElem?_map, List.getElem?_range (by omega)]
  simp only [Option.map_some, Option.getD_some, Bool.or_eq_true]
theorem rel_len (a b : List Bool) : (relB s a b).length = s * s := by unfold relB; simp
theorem uni_len {a b : List Bool} (ha : a.length = s * s) : (uniB a b).length = s * s := by unfold uniB; simp [ha]
def lowB (s : Nat) : List Bool := List.replicate (s * s) false
def sameB (s : Nat) : List Bool := (List.range (s * s)).map fun p => decide (p / s = p % s)
theorem R_low {i k : Nat} (hi : i < s) (hk : k < s) : ¬ R s (lowB s) i k := by
  unfold R lowB
  rw [List.getD_eq_getElem?_getD, List.getElem?_replicate_of_lt (ix_lt hi hk)]
  simp
theorem R_same {i k : Nat} (hi : i < s) (hk : k < s) : R s (sameB s) i k ↔ i = k := by
  have hp := ix_lt hi hk
  have hs : 0 < s := by omega
  have e1 : (i * s + k) / s = i := by rw [Nat.mul_comm, Nat.mul_add_div hs, Nat.div_eq_of_lt hk, Nat.add_zero]
  have e2 : (i * s + k) % s = k := by rw [Nat.mul_comm, Nat.mul_add_mod, Nat.mod_eq_of_lt hk]
  unfold R sameB
  rw [List.getD_eq_getElem?_getD, List.getElem?_map, List.getElem?_range hp]
  simp [e1, e2]
theorem low_len : (lowB s).length = s * s := by unfold lowB; simp
/-- a closed list of relations is a regular scale -/
theorem alg_rel {xs : List (List Bool)} (hl : ∀ a ∈ xs, a.length = s * s) (z : lowB s ∈ xs) (e : sameB s ∈ xs) (cu : ∀ a ∈ xs, ∀ b ∈ xs, uniB a b ∈ xs) (cr : ∀ a ∈ xs, ∀ b ∈ xs, relB s a b ∈ xs) : Alg xs uniB (relB s) (lowB s) (sameB s) := by
  refine ⟨z, e, cu, cr, fun a ma => ?_, fun a ma b mb => ?_, fun a ma b mb c mc => ?_, fun a ma => ?_, fun a ma b mb c mc => ?_, fun a ma => ?_, fun a ma => ?_, fun a ma => ?_, fun a ma => ?_, fun a ma b mb c mc => ?_, fun a ma b mb c mc => ?_⟩
  all_goals have la := hl a ma
  all_goals refine rel_ext (s := s) (by first | exact rel_len _ _ | exact uni_len la | exact uni_len (uni_len la) | exact uni_len (hl _ ‹_›) | exact la | exact low_len) (by first | exact rel_len _ _ | exact uni_len (rel_len _ _) | exact uni_len la | exact uni_len (uni_len la) | exact uni_len (hl _ ‹_›) | exact la | exact low_len) fun i k hi hk => ?_
  · rw [R_uni la hi hk, or_self]
  · rw [R_uni la hi hk, R_uni (hl b mb) hi hk, or_comm]
  · rw [R_uni (uni_len la) hi hk, R_uni la hi hk, R_uni la hi hk, R_uni (hl b mb) hi hk, or_assoc]
  · rw [R_uni la hi hk]
    exact or_iff_left (R_low hi hk)
  · rw [R_rel hi hk, R_rel hi hk]
    constructor
    · rintro ⟨j, hj, h1, h2⟩
      obtain ⟨m, hm, h3, h4⟩ := (R_rel hi hj).mp h1
      exact ⟨m, hm, h3, (R_rel hm hk).mpr ⟨j, hj, h4, h2⟩⟩
    · rintro ⟨j, hj, h1, h2⟩
      obtain ⟨m, hm, h3, h4⟩ := (R_rel hj hk).mp h2
      exact ⟨m, hm, (R_rel hi hm).mpr ⟨j, hj, h1, h3⟩, h4⟩
  · rw [R_rel hi hk]
    constructor
    · rintro ⟨j, hj, h1, h2⟩
      rw [(R_same hi hj).mp h1]; exact h2
    · exact fun h => ⟨i, hi, (R_same hi hi).mpr rfl, h⟩
  · rw [R_rel hi hk]
    constructor
    · rintro ⟨j, hj, h1, h2⟩
      rw [← (R_same hj hk).mp h2]; exact h1
    · exact fun h => ⟨k, hk, h, (R_same hk hk).mpr rfl⟩
  · rw [R_rel hi hk]
    exact ⟨fun ⟨j, hj, h1, _⟩ => (R_low hi hj h1).elim, fun h => (R_low hi hk h).elim⟩
  · rw [R_rel hi hk]
    exact ⟨fun ⟨j, hj, _, h1⟩ => (R_low hj hk h1).elim, fun h => (R_low hi hk h).elim⟩
  · rw [R_rel hi hk, R_uni (rel_len _ _) hi hk, R_rel hi hk, R_rel hi hk]
    constructor
    · rintro ⟨j, hj, h1, h2⟩
      exact ((R_uni (hl b mb) hj hk).mp h2).imp (fun h => ⟨j, hj, h1, h⟩) fun h => ⟨j, hj, h1, h⟩
    · rintro (⟨j, hj, h1, h2⟩ | ⟨j, hj, h1, h2⟩)
      · exact ⟨j, hj, h1, (R_uni (hl b mb) hj hk).mpr (.inl h2)⟩
      · exact ⟨j, hj, h1, (R_uni (hl b mb) hj hk).mpr (.inr h2)⟩
  · rw [R_rel hi hk, R_uni (rel_len _ _) hi hk, R_rel hi hk, R_rel hi hk]
    constructor
    · rintro ⟨j, hj, h1, h2⟩
      exact ((R_uni la hi hj).mp h1).imp (fun h => ⟨j, hj, h, h2⟩) fun h => ⟨j, hj, h, h2⟩
    · rintro (⟨j, hj, h1, h2⟩ | ⟨j, hj, h1, h2⟩)
      · exact ⟨j, hj, (R_uni la hi hj).mpr (.inl h1), h2⟩
      · exact ⟨j, hj, (R_uni la hi hj).mpr (.inr h1), h2⟩
end
end DW


namespace DW
open L2 PyProof.Rows PySem.Spec PySem
/-! ### rows of bits, told apart -/
theorem eqv_bits : ∀ (a b : List Bool), PyData.eqvAll (pds (a.map bitD)) (pds (b.map bitD)) = decide (a = b)
  | [], [] => by simp [pds, PyData.eqvAll]
  | [], _ :: _ => by simp [pds, PyData.eqvAll]
  | _ :: _, [] => by simp [pds, PyData.eqvAll]
  | x :: a, y :: b => by
    simp only [List.map_cons, pds, PyData.eqvAll, eqv_bits a b]
    have e : PyData.eqv (bitD x).pd (bitD y).pd = decide (x = y) := by
      unfold bitD
      rw [D.pd, D.pd]
      cases x <;> cases y <;> decide
    rw [e]
    by_cases h1 : x = y <;> by_cases h2 : a = b <;> simp [h1, h2]
theorem eqv_bitsD (a b : List Bool) : PyData.eqv (bitsD a).pd (bitsD b).pd = decide (a = b) := by
  unfold bitsD
  rw [D.pd, D.pd]
  simp only [PyData.eqv]
  exact eqv_bits a b
theorem sh_bits (a : List Bool) : Sh 1 (bitsD a) := Sh.tup (n := 0) fun x hx => by
  obtain ⟨b, _, rfl⟩ := List.mem_map.mp hx
  exact Sh.int _
theorem sh_up {n m : Nat} {d : D} (h : Sh n d) (hm : n ≤ m) : Sh m d := ⟨h.1, Nat.le_trans h.2 hm⟩
theorem any_bits (m : List Bool) : ∀ ws : List (List Bool), ((pds (ws.map bitsD)).any fun z => PyData.eqv z (bitsD m).pd) = decide (m ∈ ws)
  | [] => by simp [pds]
  | x :: ws => by
    rw [List.map_cons, pds, List.any_cons, any_bits m ws, eqv_bitsD]
    by_cases h1 : x = m
    · subst h1; simp
    · have h2 : ¬ m = x := fun z => h1 z.symm
      simp [h1, h2]
theorem kNotInB {m : List Bool} {ws : List (List Bool)} {P : D → Prop} (h : P (.bl (!decide (m ∈ ws)))) : kIn true (bitsD m) (.lst (ws.map bitsD)) P := by
  refine ⟨(sh_bits m).ok, Sh.okL (n := 1) (fun x hx => ?_), ?_⟩
  · obtain ⟨a, _, rfl⟩ := List.mem_map.mp hx
    exact sh_bits a
  · rw [any_bits, if_pos rfl]; exact h
theorem bitsD_inj {a b : List Bool} (h : bitsD a = bitsD b) : a = b := by
  have := eqv_bitsD a b
  rw [h, (sh_bits b).eqv] at this
  exact of_decide_eq_true this.symm
theorem lst_bits {ws : List (List Bool)} (nd : ws.Nodup) (few : ws.length ≤ 16) : Lst (ws.map bitsD) := by
  refine ⟨by simpa using few, fun x hx => ?_, fun i k x y hx hy n => ?_⟩
  · obtain ⟨a, _, rfl⟩ := List.mem_map.mp hx
    exact sh_up (sh_bits a) (by decide)
  · rw [List.getElem?_map] at hx hy
    cases ea : ws[i]? with
    | none => rw [ea] at hx; cases hx
    | some a =>
      cases eb : ws[k]? with
      | none => rw [eb] at hy; cases hy
      | some b =>
        rw [ea] at hx; rw [eb] at hy
        cases hx; cases hy
        rw [eqv_bitsD]
        exact decide_eq_false fun z => n ((idx_of nd ea).symm.trans (by rw [z]; exact idx_of nd eb))
/-- a list of relations that is closed -/
structure Clo (s : Nat) (xs : List (List Bool)) : Prop where
  nd : xs.Nodup
  len : ∀ a ∈ xs, a.length = s * s
  z : lowB s ∈ xs
  e : sameB s ∈ xs
  cu : ∀ a ∈ xs, ∀ b ∈ xs, uniB a b ∈ xs
  cr : ∀ a ∈ xs, ∀ b ∈ xs, relB s a b ∈ xs
theorem clo0 {s : Nat} (hs : s = 2 ∨ s = 3) : Clo s [lowB s, sameB s] := by
  rcases hs with rfl | rfl
  · refine ⟨by decide, by decide, by decide, by decide, by decide, by decide⟩
  · refine ⟨by decide, by decide, by decide, by decide, by decide, by decide⟩
/-- on the way: what is closed as far as at -/
structure CloN (s : Nat) (xs : List (List Bool)) (at_ : Nat) : Prop where
  nd : xs.Nodup
  len : ∀ a ∈ xs, a.length = s * s
  z : lowB s ∈ xs
  e : sameB s ∈ xs
  cl : ∀ (i k : Nat) (a b : List Bool), i < at_ → k < at_ → xs[i]? = some a → xs[k]? = some b → uniB a b ∈ xs ∧ relB s a b ∈ xs
theorem CloN.done {s : Nat} {xs : List (List Bool)} (c : CloN s xs xs.length) : Clo s xs := by
  refine ⟨c.nd, c.len, c.z, c.e, fun a ma b mb => ?_, fun a ma b mb => ?_⟩
  all_goals
    obtain ⟨i, hi, ei⟩ := List.mem_iff_getElem.mp ma
    obtain ⟨k, hk, ek⟩ := List.mem_iff_getElem.mp mb
    have := c.cl i k a b hi hk (by rw [← ei]; exact List.getElem?_eq_getElem hi) (by rw [← ek]; exact List.getElem?_eq_getElem hk)
  · exact this.1
  · exact this.2
theorem uni_swap {s : Nat} {a b : List Bool} (ha : a.length = s * s) (hb : b.length = s * s) : uniB a b = uniB b a :=
  rel_ext (s := s) (uni_len ha) (uni_len hb) fun i k hi hk => by rw [R_uni ha hi hk, R_uni hb hi hk, or_comm]
/-- one turn: all with the at-th are there -/
theorem CloN.next {s : Nat} {xs ys : List (List Bool)} {n : Nat} {one : List Bool} (c : CloN s xs n) (h1 : xs[n]? = some one) (ext : ∃ more, ys = xs ++ more) (nd : ys.Nodup) (len : ∀ a ∈ ys, a.length = s * s)
    (h : ∀ o ∈ xs, uniB one o ∈ ys ∧ relB s one o ∈ ys ∧ relB s o one ∈ ys) : CloN s ys (n + 1) := by
  obtain ⟨more, rfl⟩ := ext
  have hn : n < xs.length := (List.getElem?_eq_some_iff.mp h1).1
  have old : ∀ {i : Nat} {a : List Bool}, i < n + 1 → (xs ++ more)[i]? = some a → xs[i]? = some a := fun hi e => by
    rw [List.getElem?_append_left (by omega)] at e; exact e
  refine ⟨nd, len, List.mem_append_left _ c.z, List.mem_append_left _ c.e, fun i k a b hi hk ea eb => ?_⟩
  have ea := old hi ea
  have eb := old hk eb
  have ma := List.mem_of_getElem? ea
  have mb := List.mem_of_getElem? eb
  by_cases q : i = n
  · subst q
    rw [h1] at ea; cases ea
    exact ⟨(h b mb).1, (h b mb).2.1⟩
  · by_cases q2 : k = n
    · subst q2
      rw [h1] at eb; cases eb
      exact ⟨by rw [uni_swap (c.len a ma) (c.len _ mb)]; exact (h a ma).1, (h a ma).2.2⟩
    · obtain ⟨r1, r2⟩ := c.cl i k a b (by omega) (by omega) ea eb
      exact ⟨List.mem_append_left _ r1, List.mem_append_left _ r2⟩
theorem Clo.perm {s : Nat} {xs ys : List (List Bool)} (c : Clo s xs) (nd : ys.Nodup) (h : ∀ a, a ∈ ys ↔ a ∈ xs) : Clo s ys :=
  ⟨nd, fun a m => c.len a ((h a).mp m), (h _).mpr c.z, (h _).mpr c.e, fun a m b m2 => (h _).mpr (c.cu a ((h a).mp m) b ((h b).mp m2)), fun a m b m2 => (h _).mpr (c.cr a ((h a).mp m) b ((h b).mp m2))⟩
theorem lc_num {g : WG} {te : WE} {vs : List Nat} {ε : Ev} {P : List D → Prop} {n : Nat} (J : Nat → List D → Prop) (h0 : J 0 []) (hl : n ≤ 16777216) (last : ∀ acc, J n acc → P acc) (len : ∀ i acc, J i acc → acc.length ≤ i)
    (h : ∀ i, i < n → ∀ acc, J i acc → ∀ S : D → Prop, (∀ d, J (i + 1) (acc ++ [d]) → S d) → g (.int (i : Int)) (wipeE ε vs) fun ε' => te ε' S Z0) : lcW g wYes te vs (rngD 0 n) [] ε P := by
  have key : ∀ (m i : Nat) (acc : List D), i + m = n → J i acc → lcW g wYes te vs ((List.range' i m).map fun (k : Nat) => D.int (0 + (k : Int))) acc ε P := by
    intro m
    induction m with
    | zero => intro i acc e j; exact last acc (by rw [← e]; exact j)
    | succ m ih =>
      intro i acc e j
      rw [List.range'_succ, List.map_cons]
      have hi := h i (by omega) acc j (fun d => acc.length < sizeLine ∧ lcW g wYes te vs ((List.range' (i + 1) m).map fun (k : Nat) => D.int (0 + (k : Int))) (acc ++ [d]) ε P) fun d jd => ⟨by have := len i acc j; rw [sizeLine_eq]; omega, ih (i + 1) (acc ++ [d]) (by omega) jd⟩
      rw [← Int.zero_add (i : Int)] at hi
      exact hi
  have := key n 0 [] (Nat.zero_add n) h0
  unfold rngD
  rw [List.range_eq_range']
  exact this
abbrev rEnv (so : Addr) (most s : Nat) (c4 : Option Sl) (found : D) (c7 c8 c9 c10 c11 c12 c13 c14 c15 c16 : Option Sl) : Ev := [some (.dat (.ref so)), some (.dat (.int (most : Nat))), some (.dat (.int (s : Nat))), some (.dat (bitsD (sameB s))), c4, some (.dat (bitsD (lowB s))), some (.dat found), c7, c8, c9, c10, c11, c12, c13, c14, c15, c16]
theorem wid_if {s most : Nat} {xs : List (List Bool)} {bs : List Bool} {ε : Ev} {P : Ow → Prop} {Z : Ex → Prop} (c : Clo s xs) (hx : xs.length ≤ most) (hm : most ≤ 16) (hb : bs.length = s * s) (e6 : ε[6]? = some (some (.dat (.lst (xs.map bitsD))))) (e8 : ε[8]? = some (some (.dat (bitsD bs))))
    (h : ∀ ws, CloN s ws 0 → ws.length ≤ most + 1 → P (.lst (ws.map bitsD))) : oIf (wTst (w2 (wVar 8) (wVar 6) (kIn true))) (oCat (wVar 6) (wFr (oLst (aCons (wVar 8) aNil)))) (oCl (aCons (wVar 6) aNil) kList) ε P Z := by
  refine ⟨_, e8, _, e6, kNotInB ⟨_, rfl, ite2 (fun z => ?_) fun z => ?_⟩⟩
  · refine ⟨_, e6, _, e8, by show 1 ≤ _; rw [sizeLine_eq]; omega, _, _, rfl, rfl, by rw [sizeLine_eq]; simp; omega, ?_⟩
    have hn : bs ∉ xs := by simpa using z
    have := h (xs ++ [bs]) ⟨List.nodup_append.mpr ⟨c.nd, by simp, fun a ha b hb2 e => hn (by rw [List.mem_singleton.mp hb2] at e; rw [← e]; exact ha)⟩, fun a ha => (List.mem_append.mp ha).elim (c.len a) fun q => by rw [List.mem_singleton.mp q]; exact hb, List.mem_append_left _ c.z, List.mem_append_left _ c.e, fun i k a b hi => absurd hi (by omega)⟩ (by simp; omega)
    rw [List.map_append] at this
    exact this
  · exact ⟨_, e6, h xs ⟨c.nd, c.len, c.z, c.e, fun i k a b hi => absurd hi (by omega)⟩ (by omega)⟩
def lamRel : Scope := { kind := .function, names := [("a", .local), ("b", .local), ("states", .free), ("_law_relation", .globalImplicit)], isGenerator := false, isCoroutine := false }
def spRelations : Addr × Addr → Spo := fun i ds Q _ => ∃ most : Nat, ds = [.ref i.1, .int (most : Nat)] ∧ 2 ≤ most ∧ most ≤ 16 ∧ ∀ n j t z e, n ≤ most → Reg n j t z e → Q (.dct (scD (.lst []) n j t z e))
theorem VOk.mono {P : Program} {w : World} {K : PySem.W.Frag} {mg : Str → Option Value} {base : Heap} {j k : Nat} {d : D} {sp : Sp} (v : VOk P w K mg base j d sp) (h : j ≤ k) : VOk P w K mg base k d sp := ⟨v.at_, fun A outer s H A' f us vs Q E hr => v.run A outer s H A' f us vs Q E (hr.mono h)⟩
section
variable {P : Program} {w : World} {K : PySem.W.Frag} {mg : Str → Option Value} {base : Heap} {f : Addr} {fd : FuncData} {T : Tb} {tR cR gU : Addr}
theorem sc__law_relations : FnScope ["source", "most", "states", "same", "i", "low", "found", "n", "gen", "k", "wider", "at", "other", "one", "rows", "made", "shift"] ["source", "most"] (defScope s__law_relations) := ⟨rfl, rfl, rfl, by decide +kernel, rfl, by decide +kernel, by decide +kernel⟩
theorem ok__law_relations (Fn : Fun K "_law_relations" "_law_relations" s__law_relations f fd) (bi : Bi mg) (cPick : Clb P w K mg base 1 "_law_pick" (liftG K mfP spPickD)) (cUni : ∀ B, Clb P w K mg B 2 "_law_union" (liftP K spUnion)) (cRel : ∀ B, Clb P w K mg B 2 "_law_relation" (liftP K spRelation)) (cTab : ∀ B, Clb P w K mg B 5 "_law_tables" (liftO K (fun _ : Unit => md0) fun _ => spTables P w K mg B 4))
    (mU : mg "_law_union" = some (.ref gU)) (lU : ∃ oc od fd' sl, K.lookup gU = some ⟨oc, od, .func fd', sl⟩) (tbR : LamX.TabB base mg cR tR) (hcR : fd.code = .ref cR) (hmR : (tR, ("_law_relations.<locals>.<lambda>" : Str)) ∈ T) (huR : ∀ p ∈ T, p.1 = tR → p.2 = "_law_relations.<locals>.<lambda>") : FnOk P w K mg base (L2.CX P w) 6 f fd ["source", "most"] (liftO K (fun i : Addr × Addr => mdS i.1 i.2 T) (spRelations)) := by
  have sc := sc__law_relations
  refine defO_ok Fn sc ?len ?body
  case len =>
    rintro i ds P Z ⟨most, rfl, _⟩
    rfl
  case body =>
    rintro cdv A outer sh H E F ix ds Q Z hcd hm hr ⟨most, rfl, hm2, hm16, q⟩
    have hsub : Sub (mfP ix) F.m := by rw [hm]; exact subS
    have hu := hu_of hr
    have hu4 := hr.units
    have hu5 : (A.deeper (envOfC "_law_relations" (defScope s__law_relations) sh.heap.objs.size f cdv)).units + 65 < cLine := by have := hr.un; omega
    have hp := @owns_cx P w K mg base f (L2.CX P w) ["source", "most", "states", "same", "i", "low", "found", "n", "gen", "k", "wider", "at", "other", "one", "rows", "made", "shift"] "_law_relations" (defScope s__law_relations) cdv A outer sh H E
    have tk := @takes_cx P w K mg base f ["source", "most", "states", "same", "i", "low", "found", "n", "gen", "k", "wider", "at", "other", "one", "rows", "made", "shift"] "_law_relations" (defScope s__law_relations) cdv A outer sh H E
    refine' ⟨_, _, slCons ?s1 (slCons ?s2 (slCons ?s3 (slCons ?s4 (slCons ?s5 (slCons ?s6 (slCons ?s7 (slRet ?s8))))))), ?fin⟩
    case s1 => exact psSet sc.nd (i := 2) (by rfl) (by first | exact Or.inl rfl | exact Or.inr rfl) (dAdd (bor (dInt)) (bor (dCall (mf := mfP) (s := spPickD) ix (by exact hsub) (by exact cPick) (by exact hr.mono (by decide)) (by exact tk) (by rfl) (daCons (dVar 0 (pv 0)) (daCons (dInt) (daNil))))))
    case s2 => exact psSet sc.nd (i := 3) (by rfl) (by first | exact Or.inl rfl | exact Or.inr rfl) (dCl (ta := fun p => pe_callTy call_tuple_of (by rfl) (by exact bi.tuple) boot_tuple p) clTuple (dbCons (bor (frE (doLc (by rfl) sc.nd (dIterR1 (by rfl) (by exact bi.range) (daCons (dMulI (bor (dVar 2 (pv 2))) (bor (dVar 2 (pv 2)))) (daNil))) (own := [("i", 4)]) (by exact blkOk_by (show blkC ["source", "most", "states", "same", "i", "low", "found", "n", "gen", "k", "wider", "at", "other", "one", "rows", "made", "shift"] (defScope s__law_relations) _ _ = true from by decide +kernel)) (fun _ _ _ _ _ => tgName (pg_name sc.nd (i := 4) (by rfl) (by first | exact Or.inl rfl | exact Or.inr rfl))) (fun _ _ _ _ _ => tsNil) (fun _ _ _ _ _ => dCl (ta := fun p => pe_callTy call_int1 (by rfl) (by exact bi.int) boot_int p) clInt (dbCons (bor (dEq (by exact hu4) (bor (dDiv (bor (dVar 4 (pv 4))) (bor (dVar 2 (pv 2))))) (bor (dMod (bor (dCl (ta := fun p => pe_callTy call_int1 (by rfl) (by exact bi.int) boot_int p) clInt (dbCons (bor (dVar 4 (pv 4))) (dbNil)))) (bor (dVar 2 (pv 2))))))) (dbNil)))))) (dbNil)))
    case s3 => exact psSet sc.nd (i := 5) (by rfl) (by first | exact Or.inl rfl | exact Or.inr rfl) (dCl (ta := fun p => pe_callTy call_tuple_of (by rfl) (by exact bi.tuple) boot_tuple p) clTuple (dbCons (bor (frE (doRep (bor (frE (doLst (daCons (dInt) (daNil))))) (bor (dMulI (bor (dVar 2 (pv 2))) (bor (dVar 2 (pv 2)))))))) (dbNil)))
    case s4 => exact psSet sc.nd (i := 6) (by rfl) (by first | exact Or.inl rfl | exact Or.inr rfl) (frE (doLst (daCons (dVar 5 (pv 5)) (daCons (dVar 3 (pv 3)) (daNil)))))
    case s5 => exact psFor (by exact hp) (by rfl) (dIterR1 (by rfl) (by exact bi.range) (daCons (dAdd (bor (dInt)) (bor (dCall (mf := mfP) (s := spPickD) ix (by exact hsub) (by exact cPick) (by exact hr.mono (by decide)) (by exact tk) (by rfl) (daCons (dVar 0 (pv 0)) (daCons (dInt) (daNil)))))) (daNil))) (tgName (pg_name sc.nd (i := 7) (by rfl) (by first | exact Or.inl rfl | exact Or.inr rfl))) (ssCons (psSet sc.nd (i := 8) (by rfl) (by first | exact Or.inl rfl | exact Or.inr rfl) (dCl (ta := fun p => pe_callTy call_tuple_of (by rfl) (by exact bi.tuple) boot_tuple p) clTuple (dbCons (bor (frE (doLc (by rfl) sc.nd (dIterR1 (by rfl) (by exact bi.range) (daCons (dMulI (bor (dVar 2 (pv 2))) (bor (dVar 2 (pv 2)))) (daNil))) (own := [("k", 9)]) (by exact blkOk_by (show blkC ["source", "most", "states", "same", "i", "low", "found", "n", "gen", "k", "wider", "at", "other", "one", "rows", "made", "shift"] (defScope s__law_relations) _ _ = true from by decide +kernel)) (fun _ _ _ _ _ => tgName (pg_name sc.nd (i := 9) (by rfl) (by first | exact Or.inl rfl | exact Or.inr rfl))) (fun _ _ _ _ _ => tsNil) (fun _ _ _ _ _ => dCall (mf := mfP) (s := spPickD) ix (by exact hsub) (by exact cPick) (by exact hr.mono (by decide)) (by exact L2.takes0) (by rfl) (daCons (dVar 0 (pv 0)) (daCons (dInt) (daNil))))))) (dbNil)))) (ssCons (psOwn sc.nd (i := 10) (by rfl) (by first | exact Or.inl rfl | exact Or.inr rfl) (doIf (tNotIn (by exact hu5) (bor (dVar 8 (pv 8))) (bor (dVar 6 (pv 6)))) (doCat (bor (dVar 6 (pv 6))) (bor (frE (doLst (daCons (dVar 8 (pv 8)) (daNil)))))) (doCl (ta := fun p => pe_callTy call_list_of (by rfl) (by exact bi.list) boot_list p) clList (dbCons (bor (dVar 6 (pv 6))) (dbNil))))) (ssCons (psSet sc.nd (i := 11) (by rfl) (by first | exact Or.inl rfl | exact Or.inr rfl) (dInt)) (ssCons (psWhl (by exact hp) (d3T op_lt op_le (o2I0 fun _ _ _ _ _ => .bl _) (o2I0 fun _ _ _ _ _ => .bl _) (bor (dVar 11 (pv 11))) (bor (dCl (ta := fun p => pe_callB call_len (by rfl) (by exact bi.len) boot_len p) clLen (dbCons (dOwn 10 (pv 10)) (dbNil)))) (bor (dVar 1 (pv 1)))) (ssCons (psFor (by exact hp) (by rfl) (dIterL (frE (doCl (ta := fun p => pe_callTy call_list_of (by rfl) (by exact bi.list) boot_list p) clList (dbCons (dOwn 10 (pv 10)) (dbNil))))) (tgName (pg_name sc.nd (i := 12) (by rfl) (by first | exact Or.inl rfl | exact Or.inr rfl))) (ssCons (psSet sc.nd (i := 13) (by rfl) (by first | exact Or.inl rfl | exact Or.inr rfl) (dIx (dOwn 10 (pv 10)) (bor (dVar 11 (pv 11))))) (ssCons (psSet sc.nd (i := 14) (by rfl) (by first | exact Or.inl rfl | exact Or.inr rfl) (frE (doLst (daCons (dCall (mf := fun _ : Unit => md0) (s := fun _ => spUnion) () sub0 (by exact cUni base) (by exact hr.mono (by decide)) (by exact tk) (by rfl) (daCons (dVar 13 (pv 13)) (daCons (dVar 12 (pv 12)) (daNil)))) (daCons (dCall (mf := fun _ : Unit => md0) (s := fun _ => spRelation) () sub0 (by exact cRel base) (by exact hr.mono (by decide)) (by exact tk) (by rfl) (daCons (dVar 2 (pv 2)) (daCons (dVar 13 (pv 13)) (daCons (dVar 12 (pv 12)) (daNil))))) (daNil)))))) (ssOne (psFor (by exact hp) (by rfl) (dIterL (frE (doCat (bor (dVar 14 (pv 14))) (bor (frE (doLst (daCons (dCall (mf := fun _ : Unit => md0) (s := fun _ => spRelation) () sub0 (by exact cRel base) (by exact hr.mono (by decide)) (by exact tk) (by rfl) (daCons (dVar 2 (pv 2)) (daCons (dVar 12 (pv 12)) (daCons (dVar 13 (pv 13)) (daNil))))) (daNil)))))))) (tgName (pg_name sc.nd (i := 15) (by rfl) (by first | exact Or.inl rfl | exact Or.inr rfl))) (ssOne (psIf (tNotIn (by exact hu5) (bor (dVar 15 (pv 15))) (dOwn 10 (pv 10))) (ssOne (psApp 10 (pe_bm PySem.F.plainAttrs_list PySem.F.slot_list_append PySem.F.type_list_append mt_append (pv 10) (daCons (dVar 15 (pv 15)) (daNil))))) (ssNil)))))))) (ssOne (psSet sc.nd (i := 11) (by rfl) (by first | exact Or.inl rfl | exact Or.inr rfl) (dAdd (bor (dVar 11 (pv 11))) (bor (dInt))))))) (ssFrz 10 (ssOne (psSet sc.nd (i := 6) (by rfl) (by first | exact Or.inl rfl | exact Or.inr rfl) (dIf (tLe (bor (dCl (ta := fun p => pe_callB call_len (by rfl) (by exact bi.len) boot_len p) clLen (dbCons (bor (dVar 10 (pv 10))) (dbNil)))) (bor (dVar 1 (pv 1)))) (dVar 10 (pv 10)) (dVar 6 (pv 6))))))))))
    case s6 => exact psSet sc.nd (i := 16) (by rfl) (by first | exact Or.inl rfl | exact Or.inr rfl) (dCall (mf := mfP) (s := spPickD) ix (by exact hsub) (by exact cPick) (by exact hr.mono (by decide)) (by exact tk) (by rfl) (daCons (dVar 0 (pv 0)) (daCons (dCl (ta := fun p => pe_callB call_len (by rfl) (by exact bi.len) boot_len p) clLen (dbCons (bor (dVar 6 (pv 6))) (dbNil))) (daNil))))
    case s7 => exact psSet sc.nd (i := 6) (by rfl) (by first | exact Or.inl rfl | exact Or.inr rfl) (dAdd (bor (frE (doSl (bor (dVar 6 (pv 6))) (dpSom (dVar 16 (pv 16))) (dpNon)))) (bor (frE (doSl (bor (dVar 6 (pv 6))) (dpNon) (dpSom (dVar 16 (pv 16)))))))
    case s8 => exact psRetO (doCallX (mf := fun _ : Unit => md0) (s := fun B _ => spTables P w K mg B 4) () sub0 (by exact fun B _ => cTab B) (by exact fun _ => rfl) (by exact hr.mono (by decide)) (by exact tk) (by rfl) (daCons (dVar 6 (pv 6)) (daCons (dGlo (by rfl) (by exact mU)) (daCons (dLam (T := T) (P := tR) (c := cR) (by rw [hm]; exact mdT hmR) (by exact tbR) (by exact hcd.trans hcR) (by exact hmR) (by exact huR) (by rfl) (by exact NdefX.ndef_free (sc := defScope s__law_relations) (fr := []) (by decide +kernel))) (daCons (dVar 5 (pv 5)) (daCons (dVar 3 (pv 3)) (daNil)))))))
    case fin =>
      refine ⟨_, rfl, _, rfl, by omega, fun k0 k1 k2 => ?_⟩
      obtain ⟨s0, rfl, hs0⟩ := pickN k1 k2 (by omega)
      have hs0 : s0 < 2 := by omega
      obtain ⟨s, hs⟩ : ∃ s : Nat, s = 2 + s0 := ⟨_, rfl⟩
      have es : (2 : Int) + (s0 : Int) = (s : Int) := by omega
      have hs23 : s = 2 ∨ s = 3 := by omega
      have hs9 : s * s ≤ 9 := Nat.mul_le_mul (show s ≤ 3 by omega) (show s ≤ 3 by omega)
      have ea : ∀ (P : D → Prop), P (D.int (s : Int)) → kAdd (D.int 2) (D.int (s0 : Int)) P := fun P h => by rw [← es] at h; exact h
      refine ea _ ?_
      clear ea es hs
      have ess : (s : Int) * (s : Int) = ((s * s : Nat) : Int) := by push_cast; rfl
      have em : ∀ (P : D → Prop), P (D.int ((s * s : Nat) : Int)) → kI CMul (fun i j => D.int (i * j)) (D.int (s : Int)) (D.int (s : Int)) P := fun P h => ⟨mulOk (by omega), by rw [← ess] at h; exact h⟩
      refine ⟨_, rfl, _, rfl, em _ ⟨_, rfl, by omega, by omega, ?_⟩⟩
      refine lc_rng (n := s * s) (fun p => bitD (decide (p / s = p % s))) (by omega) (fun p hp S hS => ?_) ?_
      · refine ⟨_, rfl, _, rfl, ⟨by omega, by omega⟩, _, rfl, _, rfl, (by show (0 : Int) < _; omega), kEqN ?_⟩
        have e1 : decide ((p : Int) / (s : Int) = (p : Int) % (s : Int)) = decide (p / s = p % s) := by
          congr 1
          exact propext (by norm_cast)
        show S (D.int (if decide ((p : Int) / (s : Int) = (p : Int) % (s : Int)) = true then 1 else 0))
        rw [e1]
        exact hS
      have el : ∀ (P : D → Prop), P (bitsD (lowB s)) → kTuple [.lst (List.replicate (((s * s : Nat) : Int)).toNat [D.int 0]).flatten] P := fun P h => by
        have e : (List.replicate (((s * s : Nat) : Int)).toNat [D.int 0]).flatten = (lowB s).map bitD := by
          rw [Int.toNat_natCast]
          unfold lowB
          rw [List.map_replicate]
          show _ = List.replicate (s * s) (D.int 0)
          generalize s * s = n
          induction n with
          | zero => rfl
          | succ n ih => rw [List.replicate_succ, List.flatten_cons, ih, List.replicate_succ]; rfl
        rw [e]
        exact h
      refine ⟨by show 1 ≤ _; rw [sizeLine_eq]; omega, _, rfl, _, rfl, em _ ⟨_, _, rfl, rfl, by omega, by omega, by show 1 * _ ≤ _; rw [Int.toNat_natCast, sizeLine_eq]; omega, ?_⟩⟩
      dsimp only [Ow.toD, aNil]
      refine el _ ?_
      refine ⟨_, rfl, _, rfl, by show 2 ≤ _; rw [sizeLine_eq]; omega, ?_⟩
      have esm : D.tup ((List.range (s * s)).map fun p => bitD (decide (p / s = p % s))) = bitsD (sameB s) := by
        unfold bitsD sameB
        rw [List.map_map]; rfl
      refine ⟨_, rfl, _, rfl, by omega, fun k3 k4 k5 => ?_⟩
      obtain ⟨g0, rfl, hg0⟩ := pickN k4 k5 (by omega)
      have hg0 : g0 < 2 := by omega
      have eg : ∀ (P : D → Prop), P (D.int (((1 + g0 : Nat)) : Int)) → kAdd (D.int 1) (D.int (g0 : Int)) P := fun P h => by
        have : (1 : Int) + (g0 : Int) = ((1 + g0 : Nat) : Int) := by push_cast; rfl
        rw [← this] at h; exact h
      refine eg _ ⟨_, rfl, by omega, by omega, ?_⟩
      refine forW_rng (n := 1 + g0) (fun k ε => ∃ (xs : List (List Bool)) (c4 c7 c8 c9 c10 c11 c12 c13 c14 c15 c16 : Option Sl), Clo s xs ∧ xs.length ≤ most ∧ ε = rEnv ix.1 most s c4 (.lst (xs.map bitsD)) c7 c8 c9 c10 c11 c12 c13 c14 c15 c16) ⟨[lowB s, sameB s], none, none, none, none, none, none, none, none, none, none, none, clo0 hs23, hm2, by rw [esm]; rfl⟩ ?last ?step
      case step =>
        rintro k hk ε ⟨xs, c4, c7, c8, c9, c10, c11, c12, c13, c14, c15, c16, hc, hxl, rfl⟩ KK hK
        refine ⟨_, rfl, _, rfl, em _ ⟨_, rfl, by omega, by omega, ?_⟩⟩
        refine lc_num (n := s * s) (fun i acc => ∃ bs : List Bool, bs.length = i ∧ acc = bs.map bitD) ⟨[], rfl, rfl⟩ (by omega) ?_ (fun i acc ⟨bs, h1, h2⟩ => by rw [h2]; simp; omega) (fun i hi acc ⟨bs, h1, h2⟩ S hS => ?_)
        · rintro acc ⟨bs, hbl, rfl⟩
          refine wid_if hc hxl hm16 hbl rfl rfl fun ws0 hw0 hwl0 => ?_
          refine ⟨fun m ε => ∃ (ws : List (List Bool)) (n : Nat) (c4 c7 c9 c12 c13 c14 c15 c16 : Option Sl), CloN s ws n ∧ n ≤ ws.length ∧ ws.length ≤ 80 ∧ n ≤ most + 1 ∧ m = most + 1 - n ∧ ε = rEnv ix.1 most s c4 (.lst (xs.map bitsD)) c7 (some (.dat (bitsD bs))) c9 (some (.own (.lst (ws.map bitsD)))) (some (.dat (.int (n : Nat)))) c12 c13 c14 c15 c16, ⟨most + 1, ws0, 0, _, _, _, _, _, _, _, _, hw0, Nat.zero_le _, by omega, by omega, rfl, rfl⟩, ?_⟩
          rintro m ε ⟨ws, n, c4, c7, c9, c12, c13, c14, c15, c16, hw, hnl, hwl, hnm, rfl, rfl⟩
          have exit : ¬ (n < ws.length ∧ ws.length ≤ most) → ∀ (N : En), (∀ ε, (∃ (xs : List (List Bool)) (c4 c7 c8 c9 c10 c11 c12 c13 c14 c15 c16 : Option Sl), Clo s xs ∧ xs.length ≤ most ∧ ε = rEnv ix.1 most s c4 (.lst (xs.map bitsD)) c7 c8 c9 c10 c11 c12 c13 c14 c15 c16) → N.nx ε) →
              sFrz 10 (sAsg (wIfE (wTst (w2 (wCl (aCons (wVar 10) aNil) kLen) (wVar 1) kLe)) (wVar 10) (wVar 6)) (gNm 6)) (rEnv ix.1 most s c4 (.lst (xs.map bitsD)) c7 (some (.dat (bitsD bs))) c9 (some (.own (.lst (ws.map bitsD)))) (some (.dat (.int (n : Nat)))) c12 c13 c14 c15 c16) N := fun he N hP => by
            refine ⟨_, rfl, _, rfl, _, rfl, trivial, _, rfl, ite2 (fun z => ?_) fun z => ?_⟩
            · have z := of_decide_eq_true z
              have hl : ws.length ≤ most := by rw [List.length_map] at z; omega
              have hn : n = ws.length := by
                by_cases q : n < ws.length
                · exact absurd ⟨q, hl⟩ he
                · omega
              refine ⟨_, rfl, hP _ ⟨ws, _, _, _, _, _, _, _, _, _, _, _, ?_, hl, rfl⟩⟩
              rw [hn] at hw
              exact hw.done
            · exact ⟨_, rfl, hP _ ⟨xs, _, _, _, _, _, _, _, _, _, _, _, hc, hxl, rfl⟩⟩
          refine ⟨_, rfl, _, rfl, trivial, _, rfl, ite2 (fun z => ⟨_, rfl, trivial, _, rfl, ite2 (fun z2 => ?_) fun z2 => ?_⟩) fun z => ⟨_, rfl, ite2 (fun z2 => absurd z2 (by decide)) fun _ => ?_⟩⟩
          · have z := of_decide_eq_true z
            have z2 := of_decide_eq_true z2
            rw [List.length_map] at z z2
            have hn : n < ws.length := by omega
            have hl16 : ws.length ≤ most := by omega
            obtain ⟨one, h1, mo⟩ := at_lt hn
            have hlo := hw.len one mo
            refine ⟨_, rfl, _, .inl rfl, ?_⟩
            refine forW_list bitsD (fun done ε => ∃ (ys : List (List Bool)) (c4 c7 c9 c12 c13 c14 c15 c16 : Option Sl), (∃ more, ys = ws ++ more) ∧ ys.Nodup ∧ (∀ a ∈ ys, a.length = s * s) ∧ (∀ o ∈ done, uniB one o ∈ ys ∧ relB s one o ∈ ys ∧ relB s o one ∈ ys) ∧ ys.length ≤ ws.length + 3 * done.length ∧
              ε = rEnv ix.1 most s c4 (.lst (xs.map bitsD)) c7 (some (.dat (bitsD bs))) c9 (some (.own (.lst (ys.map bitsD)))) (some (.dat (.int (n : Nat)))) c12 c13 c14 c15 c16) ⟨ws, _, _, _, _, _, _, _, _, ⟨[], by simp⟩, hw.nd, hw.len, (fun o ho => by cases ho), by simp, rfl⟩ ?_ ?_
            · rintro ε ⟨ys, c4, c7, c9, c12, c13, c14, c15, c16, ext, nd, len, pr, hyl, rfl⟩
              refine ⟨_, rfl, most + 1 - (n + 1), by omega, ys, n + 1, c4, c7, c9, c12, c13, c14, c15, c16, hw.next h1 ext nd len pr, ?_, by omega, by omega, rfl, rfl⟩
              obtain ⟨more, rfl⟩ := ext
              rw [List.length_append]; omega
            · rintro done o ⟨rr, hsp⟩ ε ⟨ys, c4, c7, c9, c12, c13, c14, c15, c16, ext, nd, len, pr, hyl, rfl⟩ K2 hK2
              have mo2 : o ∈ ws := by rw [← hsp]; simp
              have hlo2 := hw.len o mo2
              have hdl : done.length + 1 ≤ ws.length := by rw [← hsp, List.length_append, List.length_cons]; omega
              have hy1 : (ys.map bitsD)[n]? = some (bitsD one) := by
                obtain ⟨more, rfl⟩ := ext
                rw [List.getElem?_map, List.getElem?_append_left hn, h1]; rfl
              refine ⟨_, rfl, _, rfl, kIxL n rfl hy1 ?_⟩
              refine ⟨_, rfl, _, rfl, one, o, rfl, by omega, by omega, _, rfl, _, rfl, _, rfl, s, one, o, rfl, by omega, hlo, hlo2, by show 2 ≤ _; rw [sizeLine_eq]; omega, ?_⟩
              refine ⟨_, rfl, _, rfl, _, rfl, _, rfl, s, o, one, rfl, by omega, hlo2, hlo, by show 1 ≤ _; rw [sizeLine_eq]; omega, _, _, rfl, rfl, by show 2 + 1 ≤ _; rw [sizeLine_eq]; omega, _, .inl rfl, ?_⟩
              refine forW_list (l := [uniB one o, relB s one o, relB s o one]) bitsD (fun d3 ε => ∃ (zs : List (List Bool)) (c4 c7 c9 c12 c13 c14 c15 c16 : Option Sl), (∃ more, zs = ys ++ more) ∧ zs.Nodup ∧ (∀ a ∈ zs, a.length = s * s) ∧ (∀ a ∈ d3, a ∈ zs) ∧ zs.length ≤ ys.length + d3.length ∧
                ε = rEnv ix.1 most s c4 (.lst (xs.map bitsD)) c7 (some (.dat (bitsD bs))) c9 (some (.own (.lst (zs.map bitsD)))) (some (.dat (.int (n : Nat)))) c12 c13 c14 c15 c16) ⟨ys, _, _, _, _, _, _, _, _, ⟨[], by simp⟩, nd, len, (fun o ho => by cases ho), by simp, rfl⟩ ?_ ?_
              · rintro ε ⟨zs, c4, c7, c9, c12, c13, c14, c15, c16, ⟨m2, e2⟩, nd2, len2, pr2, hzl, rfl⟩
                obtain ⟨m1, e1⟩ := ext
                have sub : ∀ a, a ∈ ys → a ∈ zs := fun a ha => by rw [e2]; exact List.mem_append_left _ ha
                refine hK2 _ ⟨zs, _, _, _, _, _, _, _, _, ⟨m1 ++ m2, by rw [e2, e1, List.append_assoc]⟩, nd2, len2, fun a ha => ?_, ?_, rfl⟩
                · rcases List.mem_append.mp ha with q | q
                  · obtain ⟨p1, p2, p3⟩ := pr a q
                    exact ⟨sub _ p1, sub _ p2, sub _ p3⟩
                  · rw [List.mem_singleton.mp q]
                    exact ⟨pr2 _ (by simp), pr2 _ (by simp), pr2 _ (by simp)⟩
                · rw [List.length_append]
                  have : ([uniB one o, relB s one o, relB s o one] : List (List Bool)).length = 3 := rfl
                  rw [this] at hzl
                  show _ ≤ ws.length + 3 * (done.length + 1)
                  omega
              · rintro d3 mk ⟨r3, hsp3⟩ ε ⟨zs, c4, c7, c9, c12, c13, c14, c15, c16, ⟨m2, e2⟩, nd2, len2, pr2, hzl, rfl⟩ K3 hK3
                have mm : mk ∈ [uniB one o, relB s one o, relB s o one] := by rw [← hsp3]; simp
                have hml : mk.length = s * s := by
                  simp only [List.mem_cons, List.not_mem_nil, or_false] at mm
                  rcases mm with rfl | rfl | rfl
                  · exact uni_len hlo
                  · exact rel_len _ _
                  · exact rel_len _ _
                have h3l : d3.length + 1 ≤ 3 := by
                  have := congrArg List.length hsp3
                  rw [List.length_append, List.length_cons] at this
                  have e3 : ([uniB one o, relB s one o, relB s o one] : List (List Bool)).length = 3 := rfl
                  omega
                refine ⟨_, rfl, _, rfl, kNotInB ⟨_, rfl, ite2 (fun y => ?_) fun y => ?_⟩⟩
                · have hn2 : mk ∉ zs := by simpa using y
                  refine ⟨_, rfl, _, rfl, _, rfl, by rw [sizeLine_eq]; simp; omega, hK3 _ ⟨zs ++ [mk], c4, c7, c9, _, _, _, _, c16, ⟨m2 ++ [mk], by rw [e2, List.append_assoc]⟩, List.nodup_append.mpr ⟨nd2, by simp, fun a ha b hb2 e => hn2 (by rw [List.mem_singleton.mp hb2] at e; rw [← e]; exact ha)⟩, fun a ha => (List.mem_append.mp ha).elim (len2 a) fun q => by rw [List.mem_singleton.mp q]; exact hml, fun a ha => ?_, by simp; omega, by rw [List.map_append]; rfl⟩⟩
                  rcases List.mem_append.mp ha with q | q
                  · exact List.mem_append_left _ (pr2 a q)
                  · exact List.mem_append_right _ q
                · have hn2 : mk ∈ zs := by simpa using y
                  refine hK3 _ ⟨zs, _, _, _, _, _, _, _, _, ⟨m2, e2⟩, nd2, len2, fun a ha => ?_, by simp; omega, rfl⟩
                  rcases List.mem_append.mp ha with q | q
                  · exact pr2 a q
                  · rw [List.mem_singleton.mp q]; exact hn2
          · have z2 : ¬ ws.length ≤ most := fun q => z2 (decide_eq_true (by rw [List.length_map]; omega))
            exact exit (fun h => z2 h.2) _ fun ε h => hK ε h
          · have z : ¬ n < ws.length := fun q => z (decide_eq_true (by rw [List.length_map]; omega))
            exact exit (fun h => z h.1) _ fun ε h => hK ε h
        · refine ⟨_, rfl, _, rfl, by omega, fun k6 k7 k8 => ?_⟩
          obtain ⟨m, rfl, hm3⟩ := pickN k7 k8 (by omega)
          have hm3 : m < 2 := by omega
          have eb : D.int (m : Int) = bitD (decide (m = 1)) := by
            have : m = 0 ∨ m = 1 := by omega
            rcases this with rfl | rfl <;> rfl
          rw [eb]
          exact hS _ ⟨bs ++ [decide (m = 1)], by simp [h1], by rw [h2]; simp⟩
      case last =>
        rintro ε ⟨xs, c4, c7, c8, c9, c10, c11, c12, c13, c14, c15, c16, hc, hxl, rfl⟩
        have hpos : 0 < xs.length := List.length_pos_of_mem hc.z
        refine ⟨_, rfl, _, rfl, _, rfl, by rw [List.length_map]; omega, fun k6 k7 k8 => ?_⟩
        rw [List.length_map] at k8
        obtain ⟨m, rfl, hm3⟩ := pickN k7 k8 (by omega)
        have hm3 : m < xs.length := by omega
        have c1 : cutD (xs.map bitsD) (some (m : Int)) none = (xs.drop m).map bitsD := by
          unfold cutD
          rw [HT.sIx_none, HT.sIx_nat, List.length_map, Nat.min_eq_left (by omega), List.map_drop]
          apply List.take_of_length_le; simp
        have c2 : cutD (xs.map bitsD) none (some (m : Int)) = (xs.take m).map bitsD := by
          unfold cutD
          rw [HT.sIx_none, HT.sIx_nat, List.length_map, Nat.min_eq_left (by omega), List.map_take]
          rfl
        have key : ∀ (P : D → Prop), (∀ ys, Clo s ys → ys.length ≤ most → P (.lst (ys.map bitsD))) → kAdd (.lst (cutD (xs.map bitsD) (some (m : Int)) none)) (.lst (cutD (xs.map bitsD) none (some (m : Int)))) P := fun P h => by
          rw [c1, c2]
          refine ⟨by rw [sizeLine_eq]; simp; omega, ?_⟩
          have e := h (xs.drop m ++ xs.take m) (hc.perm ?_ fun a => ?_) (by simp; omega)
          · rw [List.map_append] at e; exact e
          · have nd := hc.nd
            rw [← List.take_append_drop m xs] at nd
            have nd := List.nodup_append.mp nd
            exact List.nodup_append.mpr ⟨nd.2.1, nd.1, fun a ha b hb e => nd.2.2 b hb a ha e.symm⟩
          · rw [List.mem_append, or_comm, ← List.mem_append, List.take_append_drop]
        refine ⟨_, rfl, _, rfl, _, rfl, _, .inl rfl, _, rfl, _, rfl, _, rfl, _, .inl rfl, ?_⟩
        refine key _ fun ys hy hyl => ?_
        refine ⟨_, rfl, fun c' => ⟨_, rfl, _, rfl, fun B bx => ?_⟩⟩
        have hyp : 0 < ys.length := List.length_pos_of_mem hy.z
        have vU : VOk P w K mg B 4 (.ref gU) (liftP K spUnion) := by
          obtain ⟨g, fd', ps, Fn2, e1, e2, e3⟩ := cUni B
          rw [mU] at e1
          cases e1
          exact (vok_def Fn2 e3 lU).mono (by decide)
        refine ⟨ys.map bitsD, .ref gU, _, _, _, jIx ys uniB, jIx ys (relB s), @List.idxOf _ instBEqOfDecidableEq (lowB s) ys, @List.idxOf _ instBEqOfDecidableEq (sameB s) ys, rfl, lst_bits hy.nd (by omega), ?_, ?_, ?_, ?_, ?_⟩
        · refine bin_of (fun a _ b _ e => bitsD_inj e) hy.cu vU fun a ha b hb Q Z h => ⟨a, b, rfl, ?_, ?_, h⟩
          · rw [hy.len a ha]; omega
          · rw [hy.len a ha, hy.len b hb]
        · refine bin_of (fun a _ b _ e => bitsD_inj e) hy.cr (s := fun ds P _ => ∃ (a b : List Bool), ds = [bitsD a, bitsD b] ∧ a.length = s * s ∧ b.length = s * s ∧ P (bitsD (relB s a b))) ?_ fun a ha b hb Q Z h => ⟨a, b, rfl, hy.len a ha, hy.len b hb, h⟩
          refine vok_lam (k := 3) (N := ["a", "b", "states"]) (ps := ["a", "b"]) (fr := ["states"]) (ns := [(s : Int)]) ?scl ?cb ?bd ?ln ?bo
          case scl => exact NdefX.nscope_by (show NdefX.nscB _ _ _ lamRel = true from by decide +kernel)
          case cb => exact bx.cells lamRel ["states"] [2] [(s : Int)] (NdefX.ndef_free (sc := defScope s__law_relations) (nsc := lamRel) (fr := ["states"]) (by decide +kernel)) (NdefX.ndef_fr (sc := defScope s__law_relations) (nsc := lamRel) (fr := ["states"]) (by decide +kernel)) rfl rfl
          case bd => exact fun pm ctv us hl => match us, hl with | [_, _], _ => rfl
          case ln =>
            rintro ds P Z ⟨a, b, rfl, _⟩
            rfl
          case bo =>
            rintro f0 A0 outer0 sh0 H0 E0 F0 ds Q Z hm0 hr0 ⟨a, b, rfl, ha, hb, h⟩
            refine ⟨_, dCall (mf := fun _ : Unit => md0) (s := fun _ => spRelation) () sub0 (by exact cRel B) (by exact hr0.mono (by decide)) (by exact takes_of rfl rfl rfl rfl) (by rfl) (daCons (dVar 2 (pv 2)) (daCons (dVar 0 (pv 0)) (daCons (dVar 1 (pv 1)) daNil))), ?_⟩
            exact ⟨_, rfl, _, rfl, _, rfl, s, a, b, rfl, by omega, ha, hb, h⟩
        · rw [List.getElem?_map, idx_at hy.z]; rfl
        · rw [List.getElem?_map, idx_at hy.e]; rfl
        · rw [List.length_map]
          exact q _ _ _ _ _ hyl (reg_of hy.nd (alg_rel hy.len hy.z hy.e hy.cu hy.cr))

end
end DW


namespace DW
open L2 PyProof.Rows PySem.Spec PySem
/-! ### the drawn scale -/
theorem ws_post {G : WS} {ε : Ev} {N : En} (I : Ev → Prop) (tail : ∀ ε', I ε' → N.nx ε') (h : ∀ N' : En, (∀ ε', I ε' → N'.nx ε') → G ε N') : G ε N := h N tail
section
variable {ns : D} {n : Nat} {j t : Nat → Nat → Nat} {z e : Nat}
theorem sc_names : valD (scD ns n j t z e) (.inr "names") = some ns := by unfold scD valD; rfl
theorem sc_join : valD (scD ns n j t z e) (.inr "join") = some (matD n j) := by simp [scD, valD, List.find?, show ¬ (("names" : Str) = "join") by decide +kernel]
theorem sc_then : valD (scD ns n j t z e) (.inr "then") = some (matD n t) := by simp [scD, valD, List.find?, show ¬ (("names" : Str) = "then") by decide +kernel, show ¬ (("join" : Str) = "then") by decide +kernel]
theorem sc_none : valD (scD ns n j t z e) (.inr "none") = some (.int (z : Nat)) := by simp [scD, valD, List.find?, show ¬ (("names" : Str) = "none") by decide +kernel, show ¬ (("join" : Str) = "none") by decide +kernel, show ¬ (("then" : Str) = "none") by decide +kernel]
theorem sc_unit : valD (scD ns n j t z e) (.inr "unit") = some (.int (e : Nat)) := by simp [scD, valD, List.find?, show ¬ (("names" : Str) = "unit") by decide +kernel, show ¬ (("join" : Str) = "unit") by decide +kernel, show ¬ (("then" : Str) = "unit") by decide +kernel, show ¬ (("none" : Str) = "unit") by decide +kernel]
theorem sc_putT {t' : Nat → Nat → Nat} : putD (scD ns n j t z e) (.inr "then") (matD n t') = scD ns n j t' z e := by
  simp [scD, putD, show ¬ (("names" : Str) = "then") by decide +kernel, show ¬ (("join" : Str) = "then") by decide +kernel, show ¬ (("none" : Str) = "then") by decide +kernel, show ¬ (("unit" : Str) = "then") by decide +kernel]
theorem sc_putN {ns' : D} : putD (scD ns n j t z e) (.inr "names") ns' = scD ns' n j t z e := by
  simp [scD, putD, show ¬ (("join" : Str) = "names") by decide +kernel, show ¬ (("then" : Str) = "names") by decide +kernel, show ¬ (("none" : Str) = "names") by decide +kernel, show ¬ (("unit" : Str) = "names") by decide +kernel]
end
theorem lst_of {α : Type} [DecidableEq α] {xs : List α} {f : α → D} (nd : xs.Nodup) (few : xs.length ≤ 16) (sh : ∀ a ∈ xs, Sh 2 (f a)) (ne : ∀ a ∈ xs, ∀ b ∈ xs, a ≠ b → PyData.eqv (f a).pd (f b).pd = false) : Lst (xs.map f) := by
  refine ⟨by simpa using few, fun x hx => ?_, fun i k x y hx hy n => ?_⟩
  · obtain ⟨a, m, rfl⟩ := List.mem_map.mp hx
    exact sh a m
  · rw [List.getElem?_map] at hx hy
    cases ea : xs[i]? with
    | none => rw [ea] at hx; cases hx
    | some a =>
      cases eb : xs[k]? with
      | none => rw [eb] at hy; cases hy
      | some b =>
        rw [ea] at hx; rw [eb] at hy
        cases hx; cases hy
        exact ne a (List.mem_of_getElem? ea) b (List.mem_of_getElem? eb) fun z => n ((idx_of nd ea).symm.trans (by rw [z]; exact idx_of nd eb))
def natD (a : Nat) : D := .int (a : Nat)
def twoD (p : Nat × Nat) : D := .tup [.int (p.1 : Nat), .int (p.2 : Nat)]
theorem nat_ne {a b : Nat} (h : a ≠ b) : PyData.eqv (natD a).pd (natD b).pd = false := by
  unfold natD
  simp only [D.pd, PyData.eqv]
  simp; omega
theorem two_ne {p q : Nat × Nat} (h : p ≠ q) : PyData.eqv (twoD p).pd (twoD q).pd = false := by
  unfold twoD
  simp only [D.pd, pds, PyData.eqv, PyData.eqvAll]
  have : ¬ (p.1 = q.1 ∧ p.2 = q.2) := fun ⟨h1, h2⟩ => h (Prod.ext h1 h2)
  simp
  intro h1 h2
  exact this ⟨by omega, by omega⟩
theorem lst_nat (c : Nat) (hc : c ≤ 16) : Lst ((List.range c).map natD) := lst_of List.nodup_range (by simpa using hc) (fun a _ => sh_up (Sh.int _) (by decide)) fun a _ b _ h => nat_ne h
theorem rng_nat (c : Nat) : rngD 0 c = (List.range c).map natD := by
  unfold rngD
  apply List.map_congr_left
  intro a _
  show D.int (0 + (a : Int)) = D.int (a : Int)
  rw [Int.zero_add]
/-- chains and distances -/
theorem alg_chain (c : Nat) (hc : 0 < c) : Alg (List.range c) max min 0 (c - 1) := by
  refine ⟨?_, ?_, ?_, ?_, ?_, ?_, ?_, ?_, ?_, ?_, ?_, ?_, ?_, ?_, ?_⟩
  all_goals simp only [List.mem_range]
  all_goals omega
theorem alg_dist (c : Nat) (hc : 0 < c) : Alg (List.range c) min (fun a b => min (a + b) (c - 1)) (c - 1) 0 := by
  refine ⟨?_, ?_, ?_, ?_, ?_, ?_, ?_, ?_, ?_, ?_, ?_, ?_, ?_, ?_, ?_⟩
  all_goals simp only [List.mem_range]
  all_goals omega
def twos (wide : Nat) : List (Nat × Nat) := (List.range (2 * wide)).map fun k => (k / wide, k % wide)
theorem mem_twos {wide : Nat} (hw : wide = 2 ∨ wide = 3) {p : Nat × Nat} : p ∈ twos wide ↔ p.1 < 2 ∧ p.2 < wide := by
  unfold twos
  rw [List.mem_map]
  constructor
  · rintro ⟨k, hk, rfl⟩
    have hk := List.mem_range.mp hk
    rcases hw with rfl | rfl
    · exact ⟨by show k / 2 < 2; omega, by show k % 2 < 2; omega⟩
    · exact ⟨by show k / 3 < 2; omega, by show k % 3 < 3; omega⟩
  · rintro ⟨h1, h2⟩
    rcases hw with rfl | rfl
    · exact ⟨p.1 * 2 + p.2, List.mem_range.mpr (by omega), Prod.ext (by show (p.1 * 2 + p.2) / 2 = _; omega) (by show (p.1 * 2 + p.2) % 2 = _; omega)⟩
    · exact ⟨p.1 * 3 + p.2, List.mem_range.mpr (by omega), Prod.ext (by show (p.1 * 3 + p.2) / 3 = _; omega) (by show (p.1 * 3 + p.2) % 3 = _; omega)⟩
theorem nd_twos {wide : Nat} (hw : wide = 2 ∨ wide = 3) : (twos wide).Nodup := by rcases hw with rfl | rfl <;> decide
theorem alg_twos {wide : Nat} (hw : wide = 2 ∨ wide = 3) : Alg (twos wide) (fun a b => (max a.1 b.1, max a.2 b.2)) (fun a b => (min a.1 b.1, min a.2 b.2)) (0, 0) (1, wide - 1) := by
  refine ⟨?_, ?_, ?_, ?_, ?_, ?_, ?_, ?_, ?_, ?_, ?_, ?_, ?_, ?_, ?_⟩
  all_goals simp only [mem_twos hw]
  all_goals intros
  all_goals first | omega | (refine ⟨?_, ?_⟩ <;> omega) | (refine Prod.ext ?_ ?_ <;> simp only [] <;> omega)
theorem oneAdd {c : Nat} {P : D → Prop} (h : P (.int ((1 + c : Nat) : Int))) : kAdd (.int 1) (.int (c : Int)) P := by
  have : (1 : Int) + (c : Int) = ((1 + c : Nat) : Int) := by push_cast; rfl
  rw [← this] at h; exact h
theorem nat_inj {xs : List Nat} : ∀ x ∈ xs, ∀ y ∈ xs, natD x = natD y → x = y := fun x _ y _ h => by
  unfold natD at h
  have := D.int.inj h
  omega
theorem two_inj {xs : List (Nat × Nat)} : ∀ x ∈ xs, ∀ y ∈ xs, twoD x = twoD y → x = y := fun x _ y _ h => by
  unfold twoD at h
  have := D.tup.inj h
  simp only [List.cons.injEq, D.int.injEq, and_true] at this
  exact Prod.ext (by omega) (by omega)
theorem max_at {a b : Nat} {P : D → Prop} (h : P (natD (max a b))) : P (.int (if (b : Int) > (a : Int) then (b : Int) else (a : Int))) := by
  have : (if (b : Int) > (a : Int) then (b : Int) else (a : Int)) = ((max a b : Nat) : Int) := by split <;> omega
  rw [this]; exact h
theorem min_at {a b : Nat} {P : D → Prop} (h : P (natD (min a b))) : P (.int (if (b : Int) < (a : Int) then (b : Int) else (a : Int))) := by
  have : (if (b : Int) < (a : Int) then (b : Int) else (a : Int)) = ((min a b : Nat) : Int) := by split <;> omega
  rw [this]; exact h
theorem cap_at {a b m : Nat} {P : D → Prop} (hm : 0 < m) (h : P (natD (min (a + b) (m - 1)))) : P (.int (if (m : Int) - 1 < (a : Int) + (b : Int) then (m : Int) - 1 else (a : Int) + (b : Int))) := by
  have : (if (m : Int) - 1 < (a : Int) + (b : Int) then (m : Int) - 1 else (a : Int) + (b : Int)) = ((min (a + b) (m - 1) : Nat) : Int) := by split <;> omega
  rw [this]; exact h
theorem tab_of {α : Type} [DecidableEq α] {P : Program} {w : World} {K : PySem.W.Frag} {mg : Str → Option Value} {base : Heap} {xs : List α} {f : α → D} {J T : α → α → α} {lo st : α} {F1 F2 dl lo' st' : D} {s1 s2 : Spd} {Q : Ow → Prop} {Z : Ex → Prop} (e0 : dl = .lst (xs.map f)) (e1 : lo' = f lo) (e2 : st' = f st) (L : Lst (xs.map f)) (nd : xs.Nodup)
    (inj : ∀ x ∈ xs, ∀ y ∈ xs, f x = f y → x = y) (g : Alg xs J T lo st) (v1 : VOk P w K mg base 4 F1 (liftP K s1)) (h1 : ∀ x ∈ xs, ∀ y ∈ xs, ∀ (Q : D → Prop) (Z : Ex → Prop), Q (f (J x y)) → s1 [f x, f y] Q Z) (v2 : VOk P w K mg base 4 F2 (liftP K s2)) (h2 : ∀ x ∈ xs, ∀ y ∈ xs, ∀ (Q : D → Prop) (Z : Ex → Prop), Q (f (T x y)) → s2 [f x, f y] Q Z)
    (q : ∀ n j t z e, n = xs.length → Reg n j t z e → Q (.dct (scD (.lst []) n j t z e))) : spTables P w K mg base 4 [dl, F1, F2, lo', st'] Q Z := by
  subst e0; subst e1; subst e2
  refine ⟨xs.map f, F1, F2, f lo, f st, jIx xs J, jIx xs T, @List.idxOf _ instBEqOfDecidableEq lo xs, @List.idxOf _ instBEqOfDecidableEq st xs, rfl, L, bin_of inj g.jl v1 h1, bin_of inj g.tl v2 h2, ?_, ?_, ?_⟩
  · rw [List.getElem?_map, idx_at g.zl]; rfl
  · rw [List.getElem?_map, idx_at g.el]; rfl
  · rw [List.length_map]
    exact q _ _ _ _ _ rfl (reg_of nd g)
def lamMax : Scope := { kind := .function, names := [("a", .local), ("b", .local), ("max", .globalImplicit)], isGenerator := false, isCoroutine := false }
def lamMin : Scope := { kind := .function, names := [("a", .local), ("b", .local), ("min", .globalImplicit)], isGenerator := false, isCoroutine := false }
def lamCap : Scope := { kind := .function, names := [("a", .local), ("b", .local), ("count", .free), ("min", .globalImplicit)], isGenerator := false, isCoroutine := false }
theorem natPred {m : Nat} (h : 0 < m) : D.int ((m : Int) - 1) = natD (m - 1) := by
  have : (m : Int) - 1 = ((m - 1 : Nat) : Int) := by omega
  rw [this]; rfl
theorem twoMul {k : Nat} {P : D → Prop} (h : P (.int ((2 * k : Nat) : Int))) : kI CMul (fun i j => D.int (i * j)) (.int 2) (.int (k : Int)) P := by
  refine ⟨.inl ⟨by decide, by decide⟩, ?_⟩
  have : (2 : Int) * (k : Int) = ((2 * k : Nat) : Int) := by push_cast; rfl
  rw [← this] at h; exact h
theorem two_max {a b : Nat × Nat} {Q : D → Prop} (h : Q (twoD (max a.1 b.1, max a.2 b.2))) : Q (.tup [.int (if (b.1 : Int) > (a.1 : Int) then (b.1 : Int) else (a.1 : Int)), .int (if (b.2 : Int) > (a.2 : Int) then (b.2 : Int) else (a.2 : Int))]) := by
  have e1 : (if (b.1 : Int) > (a.1 : Int) then (b.1 : Int) else (a.1 : Int)) = ((max a.1 b.1 : Nat) : Int) := by split <;> omega
  have e2 : (if (b.2 : Int) > (a.2 : Int) then (b.2 : Int) else (a.2 : Int)) = ((max a.2 b.2 : Nat) : Int) := by split <;> omega
  rw [e1, e2]; exact h
theorem two_min {a b : Nat × Nat} {Q : D → Prop} (h : Q (twoD (min a.1 b.1, min a.2 b.2))) : Q (.tup [.int (if (b.1 : Int) < (a.1 : Int) then (b.1 : Int) else (a.1 : Int)), .int (if (b.2 : Int) < (a.2 : Int) then (b.2 : Int) else (a.2 : Int))]) := by
  have e1 : (if (b.1 : Int) < (a.1 : Int) then (b.1 : Int) else (a.1 : Int)) = ((min a.1 b.1 : Nat) : Int) := by split <;> omega
  have e2 : (if (b.2 : Int) < (a.2 : Int) then (b.2 : Int) else (a.2 : Int)) = ((min a.2 b.2 : Nat) : Int) := by split <;> omega
  rw [e1, e2]; exact h
theorem two0 {p : Nat × Nat} {P : D → Prop} (h : P (.int (p.1 : Nat))) : kIx (twoD p) (.int 0) P := ⟨_, rfl, h⟩
theorem two1 {p : Nat × Nat} {P : D → Prop} (h : P (.int (p.2 : Nat))) : kIx (twoD p) (.int 1) P := ⟨_, rfl, h⟩
theorem wide_if {most wide : Nat} {ε : Ev} {P : D → Prop} {Z : Ex → Prop} (e1 : ε[1]? = some (some (.dat (.int (most : Nat))))) (e : (if decide ((most : Int) < 6) = true then (2 : Int) else 3) = (wide : Int)) (h : P (.int (wide : Nat))) : wIfE (wTst (w2 (wVar 1) (wC (.int 6)) kLt)) (wC (.int 2)) (wC (.int 3)) ε P Z := by
  refine ⟨_, e1, trivial, _, rfl, ?_⟩
  by_cases z : decide ((most : Int) < 6) = true
  · rw [if_pos z] at e ⊢
    rw [← e] at h; exact h
  · rw [if_neg z] at e ⊢
    rw [← e] at h; exact h
def spScale : Addr × Addr → Spd := fun i ds Q _ => ∃ most : Nat, ds = [.ref i.1, .int (most : Nat)] ∧ 4 ≤ most ∧ most ≤ 16 ∧ ∀ n j t z e (ys : List Str), n ≤ most → Reg n j t z e → ys.length = n → (∀ y ∈ ys, ∃ d, LNm0 y d) → ys.Nodup → Q (.dct (scD (.lst (ys.map D.str)) n j t z e))
section
variable {P : Program} {w : World} {K : PySem.W.Frag} {mg : Str → Option Value} {base : Heap} {f : Addr} {fd : FuncData} {T : Tb} {tS cS : Addr}
theorem sc__law_scale : FnScope ["source", "most", "pick", "count", "found", "more", "less", "scale", "wide", "pairs", "k", "top", "high", "low", "rows", "b", "a"] ["source", "most"] (defScope s__law_scale) := ⟨rfl, rfl, rfl, by decide +kernel, rfl, by decide +kernel, by decide +kernel⟩
theorem ok__law_scale (Fn : Fun K "_law_scale" "_law_scale" s__law_scale f fd) (bi : Bi mg) (cPick : Clb P w K mg base 1 "_law_pick" (liftG K mfP spPickD)) (cNames : Clb P w K mg base 3 "_law_names" (liftG K mfP spNames)) (cRels : Clb P w K mg base 6 "_law_relations" (liftO K (fun i : Addr × Addr => mdS i.1 i.2 T) spRelations)) (cTab : ∀ B, Clb P w K mg B 5 "_law_tables" (liftO K (fun _ : Unit => md0) fun _ => spTables P w K mg B 4))
    (tbS : LamX.TabB base mg cS tS) (hcS : fd.code = .ref cS) (hmS : (tS, ("_law_scale.<locals>.<lambda>" : Str)) ∈ T) (huS : ∀ p ∈ T, p.1 = tS → p.2 = "_law_scale.<locals>.<lambda>") : FnOk P w K mg base (L2.CX P w) 7 f fd ["source", "most"] (liftG K (fun i : Addr × Addr => mdS i.1 i.2 T) (spScale)) := by
  have sc := sc__law_scale
  refine def_okC Fn sc ?len ?body
  case len =>
    rintro i ds P Z ⟨most, rfl, _⟩
    rfl
  case body =>
    rintro cdv A outer sh H E F ix ds Q Z hcd hm hr ⟨most, rfl, hm4, hm16, q⟩
    have hsub : Sub (mfP ix) F.m := by rw [hm]; exact subS
    have hu := hu_of hr
    have hu4 := hr.units
    have hu5 : (A.deeper (envOfC "_law_scale" (defScope s__law_scale) sh.heap.objs.size f cdv)).units + 65 < cLine := by have := hr.un; omega
    have hp := @owns_cx P w K mg base f (L2.CX P w) ["source", "most", "pick", "count", "found", "more", "less", "scale", "wide", "pairs", "k", "top", "high", "low", "rows", "b", "a"] "_law_scale" (defScope s__law_scale) cdv A outer sh H E
    have tk := @takes_cx P w K mg base f ["source", "most", "pick", "count", "found", "more", "less", "scale", "wide", "pairs", "k", "top", "high", "low", "rows", "b", "a"] "_law_scale" (defScope s__law_scale) cdv A outer sh H E
    refine' ⟨_, ssCons ?s1 (ssCons ?s2 (ssCons ?s3 (ssCons ?s4 (ssCons ?s5 (ssCons ?s6 (ssCons ?s7 (ssCons ?s8 (ssFrz 7 (ssOne ?s9))))))))), ?fin⟩
    case s1 => exact psSet sc.nd (i := 2) (by rfl) (by first | exact Or.inl rfl | exact Or.inr rfl) (dCall (mf := mfP) (s := spPickD) ix (by exact hsub) (by exact cPick) (by exact hr.mono (by decide)) (by exact tk) (by rfl) (daCons (dVar 0 (pv 0)) (daCons (dInt) (daNil))))
    case s2 => exact psSet sc.nd (i := 3) (by rfl) (by first | exact Or.inl rfl | exact Or.inr rfl) (dAdd (bor (dInt)) (bor (dCall (mf := mfP) (s := spPickD) ix (by exact hsub) (by exact cPick) (by exact hr.mono (by decide)) (by exact tk) (by rfl) (daCons (dVar 0 (pv 0)) (daCons (dCl (ta := fun p => pe_callB (call_min2 (by rfl)) (by rfl) (by exact bi.min) boot_min p) clMin (dbCons (bor (dVar 1 (pv 1))) (dbCons (bor (dInt)) (dbNil)))) (daNil))))))
    case s3 => exact psSet sc.nd (i := 4) (by rfl) (by first | exact Or.inl rfl | exact Or.inr rfl) (frE (doLr (by rfl) (by rfl) (by exact bi.list) (by rfl) (by exact bi.range) (dVar 3 (pv 3))))
    case s4 => exact psSet sc.nd (i := 5) (by rfl) (by first | exact Or.inl rfl | exact Or.inr rfl) (dLam (T := T) (P := tS) (c := cS) (by rw [hm]; exact mdT hmS) (by exact tbS) (by exact hcd.trans hcS) (by exact hmS) (by exact huS) (by rfl) (by exact NdefX.ndef_free (sc := defScope s__law_scale) (fr := []) (by decide +kernel)))
    case s5 => exact psSet sc.nd (i := 6) (by rfl) (by first | exact Or.inl rfl | exact Or.inr rfl) (dLam (T := T) (P := tS) (c := cS) (by rw [hm]; exact mdT hmS) (by exact tbS) (by exact hcd.trans hcS) (by exact hmS) (by exact huS) (by rfl) (by exact NdefX.ndef_free (sc := defScope s__law_scale) (fr := []) (by decide +kernel)))
    case s6 => exact psIf (tLt (bor (dVar 2 (pv 2))) (bor (dInt))) (ssOne (psOwn sc.nd (i := 7) (by rfl) (by first | exact Or.inl rfl | exact Or.inr rfl) (doCall (mf := fun i : Addr × Addr => mdS i.1 i.2 T) (s := spRelations) ix (by exact sub_eq hm) (by exact cRels) (by exact hr.mono (by decide)) (by exact tk) (by rfl) (daCons (dVar 0 (pv 0)) (daCons (dVar 1 (pv 1)) (daNil)))))) (ssOne (psIf (tEq (by exact hu4) (bor (dVar 2 (pv 2))) (bor (dInt))) (ssOne (psOwn sc.nd (i := 7) (by rfl) (by first | exact Or.inl rfl | exact Or.inr rfl) (doCallX (mf := fun _ : Unit => md0) (s := fun B _ => spTables P w K mg B 4) () sub0 (by exact fun B _ => cTab B) (by exact fun _ => rfl) (by exact hr.mono (by decide)) (by exact tk) (by rfl) (daCons (dVar 4 (pv 4)) (daCons (dVar 5 (pv 5)) (daCons (dVar 6 (pv 6)) (daCons (dInt) (daCons (dSub (bor (dVar 3 (pv 3))) (bor (dInt))) (daNil))))))))) (ssOne (psIf (tEq (by exact hu4) (bor (dVar 2 (pv 2))) (bor (dInt))) (ssOne (psOwn sc.nd (i := 7) (by rfl) (by first | exact Or.inl rfl | exact Or.inr rfl) (doCallX (mf := fun _ : Unit => md0) (s := fun B _ => spTables P w K mg B 4) () sub0 (by exact fun B _ => cTab B) (by exact fun _ => rfl) (by exact hr.mono (by decide)) (by exact tk) (by rfl) (daCons (dVar 4 (pv 4)) (daCons (dVar 6 (pv 6)) (daCons (dLam (T := T) (P := tS) (c := cS) (by rw [hm]; exact mdT hmS) (by exact tbS) (by exact hcd.trans hcS) (by exact hmS) (by exact huS) (by rfl) (by exact NdefX.ndef_free (sc := defScope s__law_scale) (fr := []) (by decide +kernel))) (daCons (dSub (bor (dVar 3 (pv 3))) (bor (dInt))) (daCons (dInt) (daNil))))))))) (ssCons (psSet sc.nd (i := 8) (by rfl) (by first | exact Or.inl rfl | exact Or.inr rfl) (dIf (tLt (bor (dVar 1 (pv 1))) (bor (dInt))) (dInt) (dInt))) (ssCons (psLc (by rfl) sc.nd (i := 9) (by rfl) (by rfl) (by rfl) (dIterR1 (by rfl) (by exact bi.range) (daCons (dMulI (bor (dInt)) (bor (dVar 8 (pv 8)))) (daNil))) (own := [("k", 10)]) (by exact blkOk_by (show blkC ["source", "most", "pick", "count", "found", "more", "less", "scale", "wide", "pairs", "k", "top", "high", "low", "rows", "b", "a"] (defScope s__law_scale) _ _ = true from by decide +kernel)) (fun _ _ _ _ _ => tgName (pg_name sc.nd (i := 10) (by rfl) (by first | exact Or.inl rfl | exact Or.inr rfl))) (fun _ _ _ _ _ => tsNil) (fun _ _ _ _ _ => dTup (daCons (dDiv (bor (dVar 10 (pv 10))) (bor (dVar 8 (pv 8)))) (daCons (dMod (bor (dCl (ta := fun p => pe_callTy call_int1 (by rfl) (by exact bi.int) boot_int p) clInt (dbCons (bor (dVar 10 (pv 10))) (dbNil)))) (bor (dVar 8 (pv 8)))) (daNil))))) (ssFrz 9 (ssCons (psSet sc.nd (i := 11) (by rfl) (by first | exact Or.inl rfl | exact Or.inr rfl) (dIx (bor (dVar 9 (pv 9))) (bor (dSub (bor (dCl (ta := fun p => pe_callB call_len (by rfl) (by exact bi.len) boot_len p) clLen (dbCons (bor (dVar 9 (pv 9))) (dbNil)))) (bor (dInt)))))) (ssCons (psSet sc.nd (i := 12) (by rfl) (by first | exact Or.inl rfl | exact Or.inr rfl) (dLam (T := T) (P := tS) (c := cS) (by rw [hm]; exact mdT hmS) (by exact tbS) (by exact hcd.trans hcS) (by exact hmS) (by exact huS) (by rfl) (by exact NdefX.ndef_free (sc := defScope s__law_scale) (fr := []) (by decide +kernel)))) (ssCons (psSet sc.nd (i := 13) (by rfl) (by first | exact Or.inl rfl | exact Or.inr rfl) (dLam (T := T) (P := tS) (c := cS) (by rw [hm]; exact mdT hmS) (by exact tbS) (by exact hcd.trans hcS) (by exact hmS) (by exact huS) (by rfl) (by exact NdefX.ndef_free (sc := defScope s__law_scale) (fr := []) (by decide +kernel)))) (ssOne (psOwn sc.nd (i := 7) (by rfl) (by first | exact Or.inl rfl | exact Or.inr rfl) (doCallX (mf := fun _ : Unit => md0) (s := fun B _ => spTables P w K mg B 4) () sub0 (by exact fun B _ => cTab B) (by exact fun _ => rfl) (by exact hr.mono (by decide)) (by exact tk) (by rfl) (daCons (dVar 9 (pv 9)) (daCons (dVar 12 (pv 12)) (daCons (dVar 13 (pv 13)) (daCons (dTup (daCons (dInt) (daCons (dInt) (daNil)))) (daCons (dVar 11 (pv 11)) (daNil)))))))))))))))))))
    case s7 => exact psIf (tEq (by exact hu4) (bor (dCall (mf := mfP) (s := spPickD) ix (by exact hsub) (by exact cPick) (by exact hr.mono (by decide)) (by exact tk) (by rfl) (daCons (dVar 0 (pv 0)) (daCons (dInt) (daNil))))) (bor (dInt))) (ssCons (psSet sc.nd (i := 14) (by rfl) (by first | exact Or.inl rfl | exact Or.inr rfl) (dGet (by exact hu) (dOwn 7 (pv 7)) (bor (dStr)))) (ssOne (psPutD 7 (ps_dput hu (pv 7) (dStr) (frE (doLc (by rfl) sc.nd (dIterR1 (by rfl) (by exact bi.range) (daCons (dCl (ta := fun p => pe_callB call_len (by rfl) (by exact bi.len) boot_len p) clLen (dbCons (bor (dVar 14 (pv 14))) (dbNil))) (daNil))) (own := [("a", 16)]) (by exact blkOk_by (show blkC ["source", "most", "pick", "count", "found", "more", "less", "scale", "wide", "pairs", "k", "top", "high", "low", "rows", "b", "a"] (defScope s__law_scale) _ _ = true from by decide +kernel)) (fun _ _ _ _ _ => tgName (pg_name sc.nd (i := 16) (by rfl) (by first | exact Or.inl rfl | exact Or.inr rfl))) (fun _ _ _ _ _ => tsNil) (fun _ _ _ _ _ => frE (doLc (by rfl) sc.nd (dIterR1 (by rfl) (by exact bi.range) (daCons (dCl (ta := fun p => pe_callB call_len (by rfl) (by exact bi.len) boot_len p) clLen (dbCons (bor (dVar 14 (pv 14))) (dbNil))) (daNil))) (own := [("b", 15)]) (by exact blkOk_by (by rfl)) (fun _ _ _ _ _ => tgName (pg_name sc.nd (i := 15) (by rfl) (by first | exact Or.inl rfl | exact Or.inr rfl))) (fun _ _ _ _ _ => tsNil) (fun _ _ _ _ _ => dIx (bor (dIx (bor (dVar 14 (pv 14))) (bor (dVar 15 (pv 15))))) (bor (dVar 16 (pv 16)))))))) rfl)))) (ssNil)
    case s8 => exact psPutD 7 (ps_dput hu (pv 7) (dStr) (dCall (mf := mfP) (s := spNames) ix (by exact hsub) (by exact cNames) (by exact hr.mono (by decide)) (by exact tk) (by rfl) (daCons (dVar 0 (pv 0)) (daCons (dCl (ta := fun p => pe_callB call_len (by rfl) (by exact bi.len) boot_len p) clLen (dbCons (bor (dGet (by exact hu) (dOwn 7 (pv 7)) (bor (dStr)))) (dbNil))) (daNil)))) rfl)
    case s9 => exact psRet (dVar 7 (pv 7))
    case fin =>
      refine ⟨_, rfl, _, rfl, by omega, fun pk p0 p1 => ?_⟩
      refine ⟨_, rfl, _, rfl, _, rfl, by split <;> omega, fun c0 c1 c2 => ?_⟩
      obtain ⟨c, rfl, hc4⟩ := pickN c1 c2 (by split <;> omega)
      have hc4 : c < 4 := by split at hc4 <;> omega
      refine oneAdd ?_
      obtain ⟨m, hmc⟩ : ∃ m : Nat, m = 1 + c := ⟨_, rfl⟩
      rw [← hmc]
      have hmp : 0 < m := by omega
      have hm5 : m ≤ 4 := by omega
      refine ⟨_, rfl, _, rfl, by omega, by omega, ?_⟩
      rw [show ((m : Nat) : Int).toNat = m from rfl, rng_nat]
      intro cMo cLe
      dsimp only [gNm, sSeq]
      refine ws_post (fun ε' => ∃ n j t z e, n ≤ most ∧ 0 < n ∧ Reg n j t z e ∧ ∃ c2 c3 c4 c5 c6 c8 c9 c10 c11 c12 c13 c14 c15 c16, ε' = [some (.dat (.ref ix.1)), some (.dat (.int (most : Nat))), c2, c3, c4, c5, c6, some (.own (.dct (scD (.lst []) n j t z e))), c8, c9, c10, c11, c12, c13, c14, c15, c16]) ?tail ?br
      case br =>
        intro N' hN
        refine ⟨_, rfl, trivial, _, rfl, ite2 (fun _ => ?_) fun _ => ?_⟩
        · exact ⟨_, rfl, _, rfl, most, rfl, by omega, hm16, fun n j t z e hn hg => hN _ ⟨n, j, t, z, e, hn, Nat.lt_of_le_of_lt (Nat.zero_le _) hg.zl, hg, _, _, _, _, _, _, _, _, _, _, _, _, _, _, rfl⟩⟩
        refine ⟨_, rfl, wEqN ⟨_, rfl, ite2 (fun _ => ?_) fun _ => ?_⟩⟩
        · refine ⟨_, rfl, _, rfl, _, rfl, _, rfl, trivial, fun B bx => ?_⟩
          refine tab_of (xs := List.range m) (f := natD) (J := max) (T := min) (lo := 0) (st := m - 1) (s1 := fun ds P _ => ∃ (a b : Nat), ds = [natD a, natD b] ∧ P (natD (max a b))) (s2 := fun ds P _ => ∃ (a b : Nat), ds = [natD a, natD b] ∧ P (natD (min a b))) rfl rfl (natPred hmp) (lst_nat m (by omega)) List.nodup_range nat_inj (alg_chain m hmp) ?v1 (fun x _ y _ Q Z h => ⟨x, y, rfl, h⟩) ?v2 (fun x _ y _ Q Z h => ⟨x, y, rfl, h⟩) ?q
          case q => exact fun n j t z e hn hg => hN _ ⟨n, j, t, z, e, by rw [hn, List.length_range]; omega, Nat.lt_of_le_of_lt (Nat.zero_le _) hg.zl, hg, _, _, _, _, _, _, _, _, _, _, _, _, _, _, rfl⟩
          case v1 =>
            refine vok_lam (k := 3) (N := ["a", "b"]) (ps := ["a", "b"]) (fr := []) (ns := []) (s := fun ds P _ => ∃ (a b : Nat), ds = [natD a, natD b] ∧ P (natD (max a b))) ?scl ?cb ?bd ?ln ?bo
            case scl => exact NdefX.nscope_by (show NdefX.nscB _ _ _ lamMax = true from by decide +kernel)
            case cb => exact bx.cells lamMax [] [] [] (NdefX.ndef_free (sc := defScope s__law_scale) (nsc := lamMax) (fr := []) (by decide +kernel)) (NdefX.ndef_fr (sc := defScope s__law_scale) (nsc := lamMax) (fr := []) (by decide +kernel)) rfl rfl
            case bd => exact fun pm ctv us hl => match us, hl with | [_, _], _ => rfl
            case ln =>
              rintro ds P Z ⟨a, b, rfl, _⟩
              rfl
            case bo =>
              rintro f0 A0 outer0 sh0 H0 E0 F0 ds Q Z hm0 hr0 ⟨a, b, rfl, h⟩
              refine ⟨_, dCl (ta := fun p => pe_callB (call_max2 (by rfl)) (by rfl) (by exact bi.max) boot_max p) clMax (dbCons (bor (dVar 0 (pv 0))) (dbCons (bor (dVar 1 (pv 1))) dbNil)), ?_⟩
              exact ⟨_, rfl, _, rfl, max_at h⟩
          case v2 =>
            refine vok_lam (k := 3) (N := ["a", "b"]) (ps := ["a", "b"]) (fr := []) (ns := []) (s := fun ds P _ => ∃ (a b : Nat), ds = [natD a, natD b] ∧ P (natD (min a b))) ?scl ?cb ?bd ?ln ?bo
            case scl => exact NdefX.nscope_by (show NdefX.nscB _ _ _ lamMin = true from by decide +kernel)
            case cb => exact bx.cells lamMin [] [] [] (NdefX.ndef_free (sc := defScope s__law_scale) (nsc := lamMin) (fr := []) (by decide +kernel)) (NdefX.ndef_fr (sc := defScope s__law_scale) (nsc := lamMin) (fr := []) (by decide +kernel)) rfl rfl
            case bd => exact fun pm ctv us hl => match us, hl with | [_, _], _ => rfl
            case ln =>
              rintro ds P Z ⟨a, b, rfl, _⟩
              rfl
            case bo =>
              rintro f0 A0 outer0 sh0 H0 E0 F0 ds Q Z hm0 hr0 ⟨a, b, rfl, h⟩
              refine ⟨_, dCl (ta := fun p => pe_callB (call_min2 (by rfl)) (by rfl) (by exact bi.min) boot_min p) clMin (dbCons (bor (dVar 0 (pv 0))) (dbCons (bor (dVar 1 (pv 1))) dbNil)), ?_⟩
              exact ⟨_, rfl, _, rfl, min_at h⟩
        refine ⟨_, rfl, wEqN ⟨_, rfl, ite2 (fun _ => ?_) fun _ => ?_⟩⟩
        · refine ⟨_, rfl, _, rfl, fun cCa => ⟨_, rfl, trivial, fun B bx => ?_⟩⟩
          refine tab_of (xs := List.range m) (f := natD) (J := min) (T := fun a b => min (a + b) (m - 1)) (lo := m - 1) (st := 0) (s1 := fun ds P _ => ∃ (a b : Nat), ds = [natD a, natD b] ∧ P (natD (min a b))) (s2 := fun ds P _ => ∃ (a b : Nat), ds = [natD a, natD b] ∧ P (natD (min (a + b) (m - 1)))) rfl (natPred hmp) rfl (lst_nat m (by omega)) List.nodup_range nat_inj (alg_dist m hmp) ?v3 (fun x _ y _ Q Z h => ⟨x, y, rfl, h⟩) ?v4 (fun x _ y _ Q Z h => ⟨x, y, rfl, h⟩) ?q2
          case q2 => exact fun n j t z e hn hg => hN _ ⟨n, j, t, z, e, by rw [hn, List.length_range]; omega, Nat.lt_of_le_of_lt (Nat.zero_le _) hg.zl, hg, _, _, _, _, _, _, _, _, _, _, _, _, _, _, rfl⟩
          case v3 =>
            refine vok_lam (k := 3) (N := ["a", "b"]) (ps := ["a", "b"]) (fr := []) (ns := []) (s := fun ds P _ => ∃ (a b : Nat), ds = [natD a, natD b] ∧ P (natD (min a b))) ?scl ?cb ?bd ?ln ?bo
            case scl => exact NdefX.nscope_by (show NdefX.nscB _ _ _ lamMin = true from by decide +kernel)
            case cb => exact bx.cells lamMin [] [] [] (NdefX.ndef_free (sc := defScope s__law_scale) (nsc := lamMin) (fr := []) (by decide +kernel)) (NdefX.ndef_fr (sc := defScope s__law_scale) (nsc := lamMin) (fr := []) (by decide +kernel)) rfl rfl
            case bd => exact fun pm ctv us hl => match us, hl with | [_, _], _ => rfl
            case ln =>
              rintro ds P Z ⟨a, b, rfl, _⟩
              rfl
            case bo =>
              rintro f0 A0 outer0 sh0 H0 E0 F0 ds Q Z hm0 hr0 ⟨a, b, rfl, h⟩
              refine ⟨_, dCl (ta := fun p => pe_callB (call_min2 (by rfl)) (by rfl) (by exact bi.min) boot_min p) clMin (dbCons (bor (dVar 0 (pv 0))) (dbCons (bor (dVar 1 (pv 1))) dbNil)), ?_⟩
              exact ⟨_, rfl, _, rfl, min_at h⟩
          case v4 =>
            refine vok_lam (k := 3) (N := ["a", "b", "count"]) (ps := ["a", "b"]) (fr := ["count"]) (ns := [(m : Int)]) (s := fun ds P _ => ∃ (a b : Nat), ds = [natD a, natD b] ∧ P (natD (min (a + b) (m - 1)))) ?scl ?cb ?bd ?ln ?bo
            case scl => exact NdefX.nscope_by (show NdefX.nscB _ _ _ lamCap = true from by decide +kernel)
            case cb => exact bx.cells lamCap ["count"] [3] [(m : Int)] (NdefX.ndef_free (sc := defScope s__law_scale) (nsc := lamCap) (fr := ["count"]) (by decide +kernel)) (NdefX.ndef_fr (sc := defScope s__law_scale) (nsc := lamCap) (fr := ["count"]) (by decide +kernel)) rfl rfl
            case bd => exact fun pm ctv us hl => match us, hl with | [_, _], _ => rfl
            case ln =>
              rintro ds P Z ⟨a, b, rfl, _⟩
              rfl
            case bo =>
              rintro f0 A0 outer0 sh0 H0 E0 F0 ds Q Z hm0 hr0 ⟨a, b, rfl, h⟩
              refine ⟨_, dCl (ta := fun p => pe_callB (call_min2 (by rfl)) (by rfl) (by exact bi.min) boot_min p) clMin (dbCons (bor (dAdd (bor (dVar 0 (pv 0))) (bor (dVar 1 (pv 1))))) (dbCons (bor (dSub (bor (dVar 2 (pv 2))) (bor dInt))) dbNil)), ?_⟩
              exact ⟨_, rfl, _, rfl, _, rfl, trivial, cap_at hmp h⟩
        have wideI : ∃ wide : Nat, (wide = 2 ∨ wide = 3) ∧ 2 * wide ≤ most ∧ (if decide ((most : Int) < 6) = true then (2 : Int) else 3) = (wide : Int) := by
          by_cases h6 : (most : Int) < 6
          · exact ⟨2, .inl rfl, by omega, by rw [if_pos (decide_eq_true h6)]; rfl⟩
          · exact ⟨3, .inr rfl, by omega, by rw [if_neg (fun z => h6 (of_decide_eq_true z))]; rfl⟩
        obtain ⟨wide, hw, hwm, ew⟩ := wideI
        refine wide_if rfl ew ?_
        have hw3 : 2 ≤ wide ∧ wide ≤ 3 := by omega
        refine ⟨_, rfl, twoMul ⟨_, rfl, by omega, by omega, ?_⟩⟩
        refine lc_rng (n := 2 * wide) (fun k => twoD (k / wide, k % wide)) (by omega) (fun k hk S hS => ?_) ?_
        · exact ⟨_, rfl, _, rfl, ⟨by omega, by omega⟩, _, rfl, _, rfl, (by show (0 : Int) < _; omega), by show 2 ≤ _; rw [sizeLine_eq]; omega, hS⟩
        have hl2 : ((List.range (2 * wide)).map fun k => twoD (k / wide, k % wide)).length = 2 * wide := by simp
        have hlast : ((List.range (2 * wide)).map fun k => twoD (k / wide, k % wide))[2 * wide - 1]? = some (twoD (1, wide - 1)) := by
          rcases hw with rfl | rfl <;> rfl
        refine ⟨_, rfl, _, rfl, _, rfl, trivial, kIxL (2 * wide - 1) (by omega) hlast ?_⟩
        intro cHi cLo
        refine ⟨_, rfl, _, rfl, _, rfl, by show 2 ≤ _; rw [sizeLine_eq]; omega, _, rfl, fun B bx => ?_⟩
        refine tab_of (xs := twos wide) (f := twoD) (J := fun a b => (max a.1 b.1, max a.2 b.2)) (T := fun a b => (min a.1 b.1, min a.2 b.2)) (lo := (0, 0)) (st := (1, wide - 1)) (s1 := fun ds P _ => ∃ (a b : Nat × Nat), ds = [twoD a, twoD b] ∧ P (twoD ((max a.1 b.1, max a.2 b.2)))) (s2 := fun ds P _ => ∃ (a b : Nat × Nat), ds = [twoD a, twoD b] ∧ P (twoD ((min a.1 b.1, min a.2 b.2)))) (by unfold twos; rw [List.map_map]; rfl) rfl rfl ?l5 (nd_twos hw) two_inj (alg_twos hw) ?v5 (fun x _ y _ Q Z h => ⟨x, y, rfl, h⟩) ?v6 (fun x _ y _ Q Z h => ⟨x, y, rfl, h⟩) ?q5
        case l5 => exact lst_of (nd_twos hw) (by unfold twos; simp; omega) (fun a _ => sh_up (Sh.tup (n := 0) (all_c (Sh.int _) (all_c (Sh.int _) all_n))) (by decide)) fun a _ b _ h => two_ne h
        case q5 => exact fun n j t z e hn hg => hN _ ⟨n, j, t, z, e, by rw [hn]; unfold twos; simp; omega, Nat.lt_of_le_of_lt (Nat.zero_le _) hg.zl, hg, _, _, _, _, _, _, _, _, _, _, _, _, _, _, rfl⟩
        case v5 =>
          refine vok_lam (k := 3) (N := ["a", "b"]) (ps := ["a", "b"]) (fr := []) (ns := []) (s := fun ds P _ => ∃ (a b : Nat × Nat), ds = [twoD a, twoD b] ∧ P (twoD ((max a.1 b.1, max a.2 b.2)))) ?scl ?cb ?bd ?ln ?bo
          case scl => exact NdefX.nscope_by (show NdefX.nscB _ _ _ lamMax = true from by decide +kernel)
          case cb => exact bx.cells lamMax [] [] [] (NdefX.ndef_free (sc := defScope s__law_scale) (nsc := lamMax) (fr := []) (by decide +kernel)) (NdefX.ndef_fr (sc := defScope s__law_scale) (nsc := lamMax) (fr := []) (by decide +kernel)) rfl rfl
          case bd => exact fun pm ctv us hl => match us, hl with | [_, _], _ => rfl
          case ln =>
            rintro ds P Z ⟨a, b, rfl, _⟩
            rfl
          case bo =>
            rintro f0 A0 outer0 sh0 H0 E0 F0 ds Q Z hm0 hr0 ⟨a, b, rfl, h⟩
            refine ⟨_, dTup (daCons (dCl (ta := fun p => pe_callB (call_max2 (by rfl)) (by rfl) (by exact bi.max) boot_max p) clMax (dbCons (bor (dIx (bor (dVar 0 (pv 0))) (bor dInt))) (dbCons (bor (dIx (bor (dVar 1 (pv 1))) (bor dInt))) dbNil))) (daCons (dCl (ta := fun p => pe_callB (call_max2 (by rfl)) (by rfl) (by exact bi.max) boot_max p) clMax (dbCons (bor (dIx (bor (dVar 0 (pv 0))) (bor dInt))) (dbCons (bor (dIx (bor (dVar 1 (pv 1))) (bor dInt))) dbNil))) daNil)), ?_⟩
            exact ⟨_, rfl, two0 ⟨_, rfl, two0 ⟨_, rfl, two1 ⟨_, rfl, two1 ⟨by show 2 ≤ _; rw [sizeLine_eq]; omega, two_max h⟩⟩⟩⟩⟩
        case v6 =>
          refine vok_lam (k := 3) (N := ["a", "b"]) (ps := ["a", "b"]) (fr := []) (ns := []) (s := fun ds P _ => ∃ (a b : Nat × Nat), ds = [twoD a, twoD b] ∧ P (twoD ((min a.1 b.1, min a.2 b.2)))) ?scl ?cb ?bd ?ln ?bo
          case scl => exact NdefX.nscope_by (show NdefX.nscB _ _ _ lamMin = true from by decide +kernel)
          case cb => exact bx.cells lamMin [] [] [] (NdefX.ndef_free (sc := defScope s__law_scale) (nsc := lamMin) (fr := []) (by decide +kernel)) (NdefX.ndef_fr (sc := defScope s__law_scale) (nsc := lamMin) (fr := []) (by decide +kernel)) rfl rfl
          case bd => exact fun pm ctv us hl => match us, hl with | [_, _], _ => rfl
          case ln =>
            rintro ds P Z ⟨a, b, rfl, _⟩
            rfl
          case bo =>
            rintro f0 A0 outer0 sh0 H0 E0 F0 ds Q Z hm0 hr0 ⟨a, b, rfl, h⟩
            refine ⟨_, dTup (daCons (dCl (ta := fun p => pe_callB (call_min2 (by rfl)) (by rfl) (by exact bi.min) boot_min p) clMin (dbCons (bor (dIx (bor (dVar 0 (pv 0))) (bor dInt))) (dbCons (bor (dIx (bor (dVar 1 (pv 1))) (bor dInt))) dbNil))) (daCons (dCl (ta := fun p => pe_callB (call_min2 (by rfl)) (by rfl) (by exact bi.min) boot_min p) clMin (dbCons (bor (dIx (bor (dVar 0 (pv 0))) (bor dInt))) (dbCons (bor (dIx (bor (dVar 1 (pv 1))) (bor dInt))) dbNil))) daNil)), ?_⟩
            exact ⟨_, rfl, two0 ⟨_, rfl, two0 ⟨_, rfl, two1 ⟨_, rfl, two1 ⟨by show 2 ≤ _; rw [sizeLine_eq]; omega, two_min h⟩⟩⟩⟩⟩
      case tail =>
        rintro ε' ⟨n, j, t, z, e, hn, hnp, hg, c2, c3, c4, c5, c6, c8, c9, c10, c11, c12, c13, c14, c15, c16, rfl⟩
        have hml : ∀ f : Nat → Nat → Nat, ((List.range n).map fun a => D.lst ((List.range n).map fun b => .int (f a b : Nat))).length = n := fun f => by simp
        dsimp only [sSeq]
        refine ws_post (fun ε' => ∃ (t' : Nat → Nat → Nat) (c14 c15 c16 : Option Sl), Reg n j t' z e ∧ ε' = [some (.dat (.ref ix.1)), some (.dat (.int (most : Nat))), c2, c3, c4, c5, c6, some (.own (.dct (scD (.lst []) n j t' z e))), c8, c9, c10, c11, c12, c13, c14, c15, c16]) ?tl ?bb
        case bb =>
          intro N' hN
          refine ⟨_, rfl, _, rfl, by omega, fun k0 k1 k2 => wEqN ⟨_, rfl, ite2 (fun _ => ?_) fun _ => ?_⟩⟩
          · refine ⟨_, rfl, _, _, _, rfl, rfl, sc_then, ?_⟩
            refine ⟨_, rfl, _, rfl, _, rfl, by rw [hml]; omega, by rw [hml]; omega, ?_⟩
            rw [hml]
            refine lc_rng (n := n) (fun a => .lst ((List.range n).map fun b => .int (t b a : Nat))) (by omega) (fun a ha S hS => ?_) ?_
            · refine ⟨_, rfl, _, rfl, by rw [hml]; omega, by rw [hml]; omega, ?_⟩
              rw [hml]
              refine lc_rng (n := n) (fun b => .int (t b a : Nat)) (by omega) (fun b hb S2 hS2 => ?_) hS
              refine ⟨_, rfl, _, rfl, kIxL b rfl (d := .lst ((List.range n).map fun c => .int (t b c : Nat))) (by rw [List.getElem?_map, List.getElem?_range hb]; rfl) ⟨_, rfl, kIxL a rfl (by rw [List.getElem?_map, List.getElem?_range ha]; rfl) hS2⟩⟩
            · have e5 := @sc_putT (.lst []) n j t z e fun a b => t b a
              exact ⟨_, rfl, by show 5 < _; rw [sizeLine_eq]; omega, hN _ ⟨fun a b => t b a, some (.dat (matD n t)), c15, c16, hg.turn, by rw [← e5]; rfl⟩⟩
          · exact hN _ ⟨t, c14, c15, c16, hg, rfl⟩
        case tl =>
          rintro ε' ⟨t', c14, c15, c16, hg2, rfl⟩
          refine ⟨_, rfl, _, rfl, _, rfl, _, _, _, rfl, rfl, sc_join, ?_⟩
          refine ⟨n, by rw [hml], by omega, fun ys hl hy nd => ?_⟩
          refine ⟨_, rfl, by show 5 < _; rw [sizeLine_eq]; omega, ?_⟩
          have e5 := @sc_putN (.lst []) n j t' z e (.lst (ys.map D.str))
          refine ⟨_, rfl, _, rfl, ?_⟩
          show Q (.dct (putD (scD (.lst []) n j t' z e) (.inr "names") (.lst (ys.map D.str))))
          rw [e5]
          exact q n j t' z e ys hn hg2 hl hy nd

end
end DW


namespace DW
open L2 PyProof.Rows PySem.Spec PySem
/-! ### dicts by names -/
def dNr : List Str → (Nat → D) → Nat → List (Key × D)
  | [], _, _ => []
  | y :: ys, g, i => (.inr y, g i) :: dNr ys g (i + 1)
abbrev dN (ys : List Str) (g : Nat → D) : List (Key × D) := dNr ys g 0
theorem dNr_keys (g : Nat → D) : ∀ (ys : List Str) (i : Nat), (dNr ys g i).map (·.1) = ys.map Sum.inr
  | [], _ => rfl
  | y :: ys, i => by rw [dNr, List.map_cons, dNr_keys g ys, List.map_cons]
theorem dNr_len (g : Nat → D) (ys : List Str) (i : Nat) : (dNr ys g i).length = ys.length := by
  have := congrArg List.length (dNr_keys g ys i)
  simpa using this
theorem dNr_vals (g : Nat → D) : ∀ (ys : List Str) (i : Nat), (dNr ys g i).map (·.2) = (List.range' i ys.length).map g
  | [], _ => rfl
  | y :: ys, i => by rw [dNr, List.map_cons, dNr_vals g ys, List.length_cons, List.range'_succ, List.map_cons]
theorem dN_vals (g : Nat → D) (ys : List Str) : (dN ys g).map (·.2) = (List.range ys.length).map g := by rw [dNr_vals, List.range_eq_range']
theorem dNr_snoc (g : Nat → D) : ∀ (ys : List Str) (y : Str) (i : Nat), dNr (ys ++ [y]) g i = dNr ys g i ++ [(.inr y, g (i + ys.length))]
  | [], y, i => rfl
  | x :: ys, y, i => by rw [List.cons_append, dNr, dNr_snoc g ys, dNr, List.cons_append, List.length_cons, Nat.add_right_comm, Nat.add_assoc]
theorem valN {g : Nat → D} : ∀ {ys : List Str} {i a : Nat} {y : Str}, ys.Nodup → ys[a]? = some y → valD (dNr ys g i) (.inr y) = some (g (i + a))
  | [], _, _, _, _, h => nomatch h
  | x :: ys, i, 0, y, nd, h => by
    cases h
    simp [dNr, valD, List.find?_cons]
  | x :: ys, i, a + 1, y, nd, h => by
    have h : ys[a]? = some y := by simpa using h
    have n : ¬ x = y := fun e => (List.nodup_cons.mp nd).1 (by rw [e]; exact List.mem_of_getElem? h)
    have e : valD (dNr (x :: ys) g i) (.inr y) = valD (dNr ys g (i + 1)) (.inr y) := by
      have : ¬ (Sum.inr x : Key) = Sum.inr y := fun z => n (Sum.inr.inj z)
      simp [dNr, valD, List.find?_cons, n]
    rw [e, valN (List.nodup_cons.mp nd).2 h, Nat.add_assoc, Nat.add_comm 1 a]
theorem valN0 {g : Nat → D} {ys : List Str} {a : Nat} {y : Str} (nd : ys.Nodup) (h : ys[a]? = some y) : valD (dN ys g) (.inr y) = some (g a) := by
  have := valN (g := g) (i := 0) nd h
  rw [Nat.zero_add] at this; exact this
theorem valNo {g : Nat → D} : ∀ {ys : List Str} {i : Nat} {y : Str}, y ∉ ys → valD (dNr ys g i) (.inr y) = none
  | [], _, _, _ => rfl
  | x :: ys, i, y, h => by
    have n : ¬ x = y := fun e => h (by rw [e]; exact List.mem_cons_self)
    have e : valD (dNr (x :: ys) g i) (.inr y) = valD (dNr ys g (i + 1)) (.inr y) := by simp [dNr, valD, List.find?_cons, n]
    rw [e]
    exact valNo fun z => h (List.mem_cons_of_mem _ z)
theorem putN {g : Nat → D} {done : List Str} {y : Str} (h : y ∉ done) : putD (dN done g) (.inr y) (g done.length) = dN (done ++ [y]) g := by
  have e : ((dN done g).any fun p => decide (p.1 = (.inr y : Key))) = false := by
    rw [List.any_eq_false]
    intro p hp z
    have hk : p.1 ∈ (dN done g).map (·.1) := List.mem_map.mpr ⟨p, hp, rfl⟩
    rw [dNr_keys] at hk
    obtain ⟨x, hx, ex⟩ := List.mem_map.mp hk
    have z := of_decide_eq_true z
    rw [← ex] at z
    exact h (by rw [← Sum.inr.inj z]; exact hx)
  unfold putD
  rw [e]
  show _ = dNr (done ++ [y]) g 0
  rw [dNr_snoc, Nat.zero_add]
  rfl
theorem mergeN {g : Nat → D} : ∀ {ys done : List Str}, (done ++ ys).Nodup → mergeD (dN done g) (dNr ys g done.length) = dN (done ++ ys) g
  | [], done, _ => by rw [List.append_nil]; rfl
  | y :: ys, done, nd => by
    have e : (done ++ [y]) ++ ys = done ++ y :: ys := by simp
    have hy : y ∉ done := fun h => (List.nodup_append.mp nd).2.2 y h y List.mem_cons_self rfl
    have r := mergeN (g := g) (ys := ys) (done := done ++ [y]) (by rw [e]; exact nd)
    rw [e, List.length_append, List.length_singleton] at r
    rw [← r, ← putN hy]
    rfl
theorem dc_nms {g : WG} {tk te : WE} {vs : List Nat} {ε : Ev} {P : List (Key × D) → Prop} {ys : List Str} {xs : List D} (φ : Nat → D) (nd : ys.Nodup) (hl : xs.length = ys.length) (hs : ys.length ≤ 16777216)
    (h : ∀ i x y, xs[i]? = some x → ys[i]? = some y → ∀ S : D → D → Prop, S (.str y) (φ i) → g x (wipeE ε vs) fun ε' => tk ε' (fun k => te ε' (fun d => S k d) Z0) Z0) (q : P (dN ys φ)) : dcW g wYes tk te vs xs [] ε P := by
  have key : ∀ (r : List Str) (xr : List D) (done : List Str), done ++ r = ys → xr.length = r.length → (∀ i x y, xr[i]? = some x → r[i]? = some y → ∀ S : D → D → Prop, S (.str y) (φ (done.length + i)) → g x (wipeE ε vs) fun ε' => tk ε' (fun k => te ε' (fun d => S k d) Z0) Z0) → dcW g wYes tk te vs xr (dN done φ) ε P := by
    intro r
    induction r with
    | nil =>
      intro xr done e hx _
      cases xr with
      | nil => rw [← e, List.append_nil] at q; exact q
      | cons _ _ => cases hx
    | cons y r ih =>
      intro xr done e hx h
      cases xr with
      | nil => cases hx
      | cons x xr =>
        have e2 : (done ++ [y]) ++ r = ys := by rw [← e]; simp
        have hy : y ∉ done := fun hm => by
          rw [← e] at nd
          exact (List.nodup_append.mp nd).2.2 y hm y List.mem_cons_self rfl
        have := h 0 x y rfl rfl (fun k d => ∃ k', keyD k = some k' ∧ (dN done φ).length < sizeLine ∧ dcW g wYes tk te vs xr (putD (dN done φ) k' d) ε P) ⟨.inr y, rfl, by rw [dNr_len, sizeLine_eq]; have := congrArg List.length e; simp at this; omega, by
          rw [Nat.add_zero, putN hy]
          exact ih xr (done ++ [y]) e2 (by simpa using hx) fun i x' y' h1 h2 S hS => h (i + 1) x' y' (by simpa using h1) (by simpa using h2) S (by rw [List.length_append, List.length_singleton] at hS; rw [show done.length + (i + 1) = done.length + 1 + i from by omega]; exact hS)⟩
        exact this
  exact key ys xs [] rfl hl fun i x y h1 h2 S hS => h i x y h1 h2 S (by rw [List.length_nil, Nat.zero_add] at hS; exact hS)
/-- the i-th name as a datum -/
def nmD (ys : List Str) (i : Nat) : D := .str (ys.getD i "")
theorem nmD_at {ys : List Str} {i : Nat} {y : Str} (h : ys[i]? = some y) : nmD ys i = .str y := by unfold nmD; rw [List.getD_eq_getElem?_getD, h]; rfl
/-- a table by names -/
def tabN (ys : List Str) (f : Nat → Nat → Nat) : D := .dct (dN ys fun a => .dct (dN ys fun b => nmD ys (f a b)))
/-- rows of names -/
def rowsN (ys : List Str) (f : Nat → Nat → Nat) : D := .lst ((List.range ys.length).map fun a => .lst ((List.range ys.length).map fun b => nmD ys (f a b)))
/-! ### names as the program looks at them -/
structure Nms (ys : List Str) : Prop where
  ok : ∀ y ∈ ys, Short y
  nd : ys.Nodup
  pos : 0 < ys.length
  few : ys.length ≤ 16
theorem LNm0.len {y : Str} {d : Nat} (h : LNm0 y d) : 1 ≤ y.length ∧ y.length ≤ 12 := by
  obtain ⟨l, a, b, r, e, _, _, _, _, h5, _⟩ := h
  have : y.length = y.cps.toList.length := by simp [Str.length]
  rw [this, e]
  simp; omega
theorem LNm0.ch {y : Str} {d : Nat} (h : LNm0 y d) : ∀ c ∈ y.cps.toList, lowC c ∨ digC c := by
  obtain ⟨l, a, b, r, e, h1, h2, h3, _, _, h6⟩ := h
  rw [e]
  intro c hc
  simp only [List.mem_cons] at hc
  rcases hc with rfl | rfl | rfl | hc
  · exact .inl h1
  · exact .inr h2
  · exact .inr h3
  · exact h6 c hc
theorem sgn_mem {c : Nat} (h : lowC c ∨ digC c) : c ∈ sgn.cps.toList := by
  obtain ⟨h1, h2⟩ | ⟨h1, h2⟩ := h
  · have e := sgn_at (c - 97) (by omega)
    have : sgC (c - 97) = c := by unfold sgC; rw [if_pos (by omega)]; omega
    rw [this] at e
    exact List.mem_of_getElem? e
  · have e := sgn_at (c - 48 + 26) (by omega)
    have : sgC (c - 48 + 26) = c := by unfold sgC; rw [if_neg (by omega)]; omega
    rw [this] at e
    exact List.mem_of_getElem? e
theorem LNm0.short {y : Str} {d : Nat} (h : LNm0 y d) : Short y := ⟨by have := h.len; omega, fun c hc => by rcases h.ch c hc with ⟨_, _⟩ | ⟨_, _⟩ <;> omega⟩
theorem digLow : ∀ i, i < 26 → Txt.isdigit ⟨#[97 + i]⟩ = false := by decide +kernel
/-- plain names and point names, of any text -/
def plainB (y : Str) : Bool := decide (1 ≤ y.length) && (decide (y.length ≤ 12) && y.cps.toList.all fun c => decide (c ∈ sgn.cps.toList))
def pointB (y : Str) : Bool := plainB y && match y.cps.toList with
  | [] => false
  | c :: _ => !(Txt.isdigit ⟨#[c]⟩)
theorem LNm0.plain {y : Str} {d : Nat} (h : LNm0 y d) : plainB y = true := by
  have l := h.len
  unfold plainB
  rw [decide_eq_true (show 1 ≤ y.length by omega), decide_eq_true (show y.length ≤ 12 by omega), Bool.true_and, Bool.true_and, List.all_eq_true]
  exact fun c hc => decide_eq_true (sgn_mem (h.ch c hc))
theorem LNm0.point {y : Str} {d : Nat} (h : LNm0 y d) : pointB y = true := by
  unfold pointB
  rw [h.plain]
  obtain ⟨l, a, b, r, e, hl, _⟩ := h
  rw [e]
  unfold lowC at hl
  have := digLow (l - 97) (by omega)
  rw [show 97 + (l - 97) = l by omega] at this
  show (true && !(Txt.isdigit ⟨#[l]⟩)) = true
  rw [this]; rfl
theorem eqv_str (x y : Str) : PyData.eqv (D.str x).pd (D.str y).pd = decide (x = y) := by
  rw [D.pd, D.pd]
  simp only [PyData.eqv]
  by_cases h : x = y
  · subst h; simp
  · simp [h]
theorem any_str (x : Str) : ∀ ys : List Str, ((pds (ys.map D.str)).any fun z => PyData.eqv z (D.str x).pd) = decide (x ∈ ys)
  | [] => by simp [pds]
  | y :: ys => by
    rw [List.map_cons, pds, List.any_cons, any_str x ys, eqv_str]
    by_cases h1 : y = x
    · subst h1; simp
    · have h2 : ¬ x = y := fun z => h1 z.symm
      simp [h1, h2]
def spPlain : Spd := fun ds P _ => ∃ y : Str, ds = [.str y] ∧ y.length ≤ 1000 ∧ P (.bl (plainB y))
def sNever : WS := fun _ _ => False
section
variable {X : Cx} {F : Fx} {W : WX} {st : Stmt} {x : Str} {pos : Pos}
theorem psNever : PS X st (tS X.K F W sNever) := imS ps_never fun D σ H ⟨π, A, ε, N, R, z, _⟩ => z.elim
theorem dGloI {i : Int} {tk : Tok} (hg : Gl X x) (hm : X.mg x = some (.int i tk)) (hd : (x == ("__debug__" : Str)) = false := by decide) : PE X (.Name x pos) (tE X.K F W (wC (.int i))) := dC (pe_glob hg hm (v := .int i) ⟨tk, rfl⟩ hd) fun _ _ _ => .int i
theorem dGloS {y : Str} {tk : Tok} (hg : Gl X x) (hm : X.mg x = some (.str y tk)) (hd : (x == ("__debug__" : Str)) = false := by decide) : PE X (.Name x pos) (tE X.K F W (wC (.str y))) := dC (pe_glob hg hm (v := .str y) ⟨tk, rfl⟩ hd) fun _ _ _ => .str y
end
section
variable {P : Program} {w : World} {K : PySem.W.Frag} {mg : Str → Option Value} {base : Heap} {f : Addr} {fd : FuncData} {tk1 tk2 tk3 : Tok}

theorem sc_is_plain_name : FnScope ["name", "mark"] ["name"] (defScope s_is_plain_name) := ⟨rfl, rfl, rfl, by decide +kernel, rfl, by decide +kernel, by decide +kernel⟩
theorem ok_is_plain_name (Fn : Fun K "is_plain_name" "is_plain_name" s_is_plain_name f fd) (bi : Bi mg) (mL : mg "LONGEST_NAME" = some (.int 12 tk1)) (mN : mg "NAME_MARKS" = some (.str sgn tk2)) : FnOk P w K mg base (L2.CX P w) 2 f fd ["name"] (liftP K (spPlain)) := by
  have sc := sc_is_plain_name
  refine def_okC Fn sc ?len ?body
  case len =>
    rintro i ds P Z ⟨y, rfl, _⟩
    rfl
  case body =>
    rintro cdv A outer sh H E F i ds Q Z hcd hm hr ⟨y, rfl, hy, q⟩
    have hu := hu_of hr
    have hu4 := hr.units
    have hu5 : (A.deeper (envOfC "is_plain_name" (defScope s_is_plain_name) sh.heap.objs.size f cdv)).units + 65 < cLine := by have := hr.un; omega
    have hp := @owns_cx P w K mg base f (L2.CX P w) ["name", "mark"] "is_plain_name" (defScope s_is_plain_name) cdv A outer sh H E
    have tk := @takes_cx P w K mg base f ["name", "mark"] "is_plain_name" (defScope s_is_plain_name) cdv A outer sh H E
    refine' ⟨_, ssOne ?s1, ?fin⟩
    case s1 => exact psRet (dAnd (d3 op_le op_le (o2I0 fun _ _ _ _ _ => .bl _) (o2I0 fun _ _ _ _ _ => .bl _) (bor (dInt)) (bor (dCl (ta := fun p => pe_callB call_len (by rfl) (by exact bi.len) boot_len p) clLen (dbCons (bor (dVar 0 (pv 0))) (dbNil)))) (bor (dGloI (by rfl) (by exact mL)))) (dOne (dCl (ta := fun p => pe_callB (cr_all (by rfl)) (by rfl) (by exact bi.all) boot_all p) clAll (dbCons (bor (frE (doLc (by rfl) sc.nd (dIterS (dVar 0 (pv 0))) (own := [("mark", 1)]) (by exact blkOk_by (show blkC ["name", "mark"] (defScope s_is_plain_name) _ _ = true from by decide +kernel)) (fun _ _ _ _ _ => tgName (pg_name sc.nd (i := 1) (by rfl) (by first | exact Or.inl rfl | exact Or.inr rfl))) (fun _ _ _ _ _ => tsNil) (fun _ _ _ _ _ => dSign (bor (dVar 1 (pv 1))) (bor (dGloS (by rfl) (by exact mN))))))) (dbNil)))))
    case fin =>
      have hs : y.length ≤ sizeLine := by rw [sizeLine_eq]; omega
      have hl : y.cps.toList.length = y.length := by simp [Str.length]
      refine ⟨_, rfl, hs, trivial, _, rfl, ite2 (fun h1 => ⟨trivial, _, rfl, ite2 (fun h2 => ?_) fun h2 => ?_⟩) fun h1 => ?_⟩
      · have h1 := of_decide_eq_true h1
        have h2 := of_decide_eq_true h2
        refine ⟨_, rfl, _, rfl, ?_⟩
        have e3 : signs y = y.cps.toList.map fun c => D.str ⟨#[c]⟩ := rfl
        rw [e3]
        refine lc_list (fun c => D.str ⟨#[c]⟩) (fun c => D.bl (decide (c ∈ sgn.cps.toList))) (by omega) (fun c hc S hS => ⟨_, rfl, c, rfl, hS⟩) ?_
        refine ⟨y.cps.toList.map fun c => decide (c ∈ sgn.cps.toList), .inl (by rw [List.map_map]; rfl), ?_⟩
        have e4 : (y.cps.toList.map fun c => decide (c ∈ sgn.cps.toList)).all id = plainB y := by
          unfold plainB
          rw [decide_eq_true (show 1 ≤ y.length by omega), decide_eq_true (show y.length ≤ 12 by omega), Bool.true_and, Bool.true_and, List.all_map]
          rfl
        rw [e4]
        exact q
      · have h2 : ¬ y.length ≤ 12 := fun z => h2 (decide_eq_true (by omega))
        have e : plainB y = false := by unfold plainB; rw [decide_eq_false h2]; simp
        rw [e] at q
        exact q
      · have h1 : ¬ 1 ≤ y.length := fun z => h1 (decide_eq_true (by omega))
        have e : plainB y = false := by unfold plainB; rw [decide_eq_false h1]; simp
        rw [e] at q
        exact ⟨_, rfl, ite2 (fun h => by cases h) fun _ => q⟩
def spCount : Spd := fun ds P _ => ∃ n : Nat, ds = [.int (n : Nat)] ∧ 1 ≤ n ∧ n ≤ 16 ∧ P .non
theorem sc_check_count : FnScope ["count"] ["count"] (defScope s_check_count) := ⟨rfl, rfl, rfl, by decide +kernel, rfl, by decide +kernel, by decide +kernel⟩
theorem ok_check_count (Fn : Fun K "check_count" "check_count" s_check_count f fd) (bi : Bi mg) (mM : mg "MOST_GRADES" = some (.int 16 tk3)) : FnOk P w K mg base (L2.CX P w) 2 f fd ["count"] (liftP K (spCount)) := by
  have sc := sc_check_count
  refine def_okC Fn sc ?len ?body
  case len =>
    rintro i ds P Z ⟨n, rfl, _⟩
    rfl
  case body =>
    rintro cdv A outer sh H E F i ds Q Z hcd hm hr ⟨n, rfl, h1, h2, q⟩
    have hu := hu_of hr
    have hu4 := hr.units
    have hu5 : (A.deeper (envOfC "check_count" (defScope s_check_count) sh.heap.objs.size f cdv)).units + 65 < cLine := by have := hr.un; omega
    have hp := @owns_cx P w K mg base f (L2.CX P w) ["count"] "check_count" (defScope s_check_count) cdv A outer sh H E
    have tk := @takes_cx P w K mg base f ["count"] "check_count" (defScope s_check_count) cdv A outer sh H E
    refine' ⟨_, ssOne ?s1, ?fin⟩
    case s1 => exact psIf (tNotD (d3T op_le op_le (o2I0 fun _ _ _ _ _ => .bl _) (o2I0 fun _ _ _ _ _ => .bl _) (bor (dInt)) (bor (dVar 0 (pv 0))) (bor (dGloI (by rfl) (by exact mM))))) (ssOne (psNever)) (ssNil)
    case fin =>
      have e1 : decide ((1 : Int) ≤ (n : Int)) = true := decide_eq_true (by omega)
      have e2 : decide ((n : Int) ≤ (16 : Int)) = true := decide_eq_true (by omega)
      refine ⟨_, rfl, trivial, _, rfl, ite2 (fun _ => ⟨trivial, _, rfl, ?_⟩) fun z => absurd e1 z⟩
      rw [e2]
      exact q
end
end DW


namespace DW
open PySem PySem.Spec PyProof.Rows L2 NdefX
/-! ### the errors' own __init__ -/
/-- the words of a class's first def, a method -/
def stOf (i : Nat) : Stmt := inClass (top i) 0
def nfOf (st : Stmt) (qual : Str) (cc cda : Addr) : NF := ⟨"__init__", qual, defArgs st, defBody st, defScope st, [(("__class__" : Str), cc)], cda⟩
structure IF (K : PySem.W.Frag) (mg : Str → Option Value) (P : Program) (C fI : Addr) (fd : FuncData) (st : Stmt) (qual : Str) (cc cda : Addr) (initId : String) : Prop where
  n : InC K mg P C fI fd (nfOf st qual cc cda) cc initId
  cd : PySem.W.codeIn K (.ref cda) qual = true
  iC : PySem.W.findIn K (.ref C) "__init__" = some (some (.ref fI))
  tI : PySem.W.typeIn K (.ref fI) = some (.type "function")
abbrev okT : L2.St → Hp → Prop := fun _ _ => True
abbrev okR (i : Nat) : L2.St → Hp → Prop := fun σ _ => ∃ y, σ[i]? = some (some (.str y)) ∧ Short y
abbrev okL (K : PySem.W.Frag) (i : Nat) : L2.St → Hp → Prop := fun σ H => ∃ (a : Addr) (l : List Str), σ[i]? = some (some (.ref a)) ∧ SqL K H a (l.map V.str) ∧ l.length ≤ 9 ∧ ∀ y ∈ l, Short y
theorem mk0 {a C : Addr} {H : Hp} (ea : H a = some (exo a C none)) : Mk1 a C H [] H := ⟨fun _ _ e _ => e, .inl ⟨rfl, ea⟩⟩
theorem strs_at {K : PySem.W.Frag} {A : Addr → Prop} {H : Hp} : ∀ {ys : List Str} {ws : List V}, Dats K A H (ys.map D.str) ws → ws = ys.map V.str
  | [], _, b => by cases b; rfl
  | y :: ys, _, b => by
    cases b with
    | cons b t =>
      cases b
      rw [strs_at t]
      rfl
/-- what is made of texts -/
def GS (ns : List Str) : List D → List (Str × D) → Prop := fun ds fs => ∃ ys : List Str, ys.length = ns.length ∧ (∀ y ∈ ys, Short y) ∧ ds = ys.map D.str ∧ fs = (ns.zip (ys.map D.str)).reverse
section
variable {P : Program} {w : World} {K : PySem.W.Frag} {mg : Str → Option Value} {base : Heap} {fd : FuncData} {fI cc cda C : Addr} {B newId initId : String} {bmB : List Value}
theorem scUnknownGrade : NScope ["self", "name", "__class__"] ["self", "name"] [("__class__" : Str)] (defScope (stOf topU)) := nscope_by (by decide +kernel)
def gUnknownGrade : List D → List (Str × D) → Prop := GS ["name"]
theorem q_UnknownGrade (T : EC K C B newId initId bmB) (I : IF K mg P C fI fd (stOf topU) "UnknownGrade.__init__" cc cda initId) (a0 : PySem.W.findIn K (.ref C) "name" = some none) : FnOk P w K mg base (L2.CX P w) 2 fI fd ["self", "name"] (spI K C gUnknownGrade) := by
  refine exc_ok (N := ["self", "name", "__class__"]) T I.n I.cd scUnknownGrade rfl rfl [okT, okR 1] (by show 2 ≤ 100; omega) (fun a => tOs a C "name" (tVar 1)) ?len (fun Ar outer s H E hr => .cons (smCon) (.cons (smRep (pv 1)) .nil)) (fun Ar outer s H E a hr => pss_one (psSelf T a0 (pv 0) (pv 1))) ?run
  case len =>
    rintro ds fs ⟨ys, hl, _, rfl, _⟩
    rw [List.length_map, hl]
    rfl
  case run =>
    rintro A H a ws ds fs Q Aa ea b ⟨ys, hl, hs, rfl, rfl⟩ s0 q
    match ys, hl with
    | [y0], _ =>
      obtain rfl := strs_at b
      exact ⟨all_c trivial (all_c ⟨_, rfl, hs _ (by simp)⟩ all_n), osVar (mk0 ea) s0 (by show 0 ≤ 900; omega) rfl (fun H1 S1 => q H1 _ S1 (by simp) rfl fun dx n0 => mk_keep S1 Aa n0 (show Dats K A H _ _ from .cons (.str y0) .nil))⟩
end
end DW

namespace DW
open L2 PyProof.Rows PySem.Spec PySem
theorem kNeN {i j : Int} {P : D → Prop} (h : P (.bl (!decide (i = j)))) : kEq true (.int i) (.int j) P := by
  refine ⟨(Sh.int i).ok, (Sh.int j).ok, ?_⟩
  have e : PyData.eqv (D.int i).pd (D.int j).pd = decide (i = j) := by
    simp [D.pd, PyData.eqv, BEq.beq]
  rw [if_pos rfl, e]
  exact h
theorem Nms.sh {ys : List Str} (N : Nms ys) {y : Str} (h : y ∈ ys) : Sh 0 (.str y) := Sh.str (N.ok y h)
theorem kInS {neg : Bool} {y : Str} {ys : List Str} {P : D → Prop} (hy : Sh 0 (.str y)) (h : ∀ z ∈ ys, Sh 0 (.str z)) (p : P (.bl (if neg then !decide (y ∈ ys) else decide (y ∈ ys)))) : kIn neg (.str y) (.lst (ys.map D.str)) P := by
  refine ⟨hy.ok, Sh.okL (n := 0) (fun x hx => ?_), ?_⟩
  · obtain ⟨z, hz, rfl⟩ := List.mem_map.mp hx
    exact h z hz
  · rw [any_str]; exact p
theorem kInS0 {y : Str} {ys : List Str} {P : D → Prop} (hy : Sh 0 (.str y)) (h : ∀ z ∈ ys, Sh 0 (.str z)) (p : P (.bl (decide (y ∈ ys)))) : kIn false (.str y) (.lst (ys.map D.str)) P := kInS hy h (by rw [if_neg (by decide)]; exact p)
theorem kInS1 {y : Str} {ys : List Str} {P : D → Prop} (hy : Sh 0 (.str y)) (h : ∀ z ∈ ys, Sh 0 (.str z)) (p : P (.bl (!decide (y ∈ ys)))) : kIn true (.str y) (.lst (ys.map D.str)) P := kInS hy h (by rw [if_pos rfl]; exact p)
theorem enum_at {xs : List D} {i : Nat} {x : D} (h : (enumT xs)[i]? = some x) : ∃ y, xs[i]? = some y ∧ x = .tup [.int (i : Nat), y] := by
  unfold enumT at h
  rw [List.getElem?_map, List.getElem?_zipIdx] at h
  cases e : xs[i]? with
  | none => rw [e] at h; nomatch h
  | some y =>
    rw [e] at h
    simp at h
    exact ⟨y, rfl, by rw [← h]⟩
theorem strs_get {ys : List Str} {i : Nat} {d : D} (h : (ys.map D.str)[i]? = some d) : ∃ y, ys[i]? = some y ∧ d = .str y := by
  rw [List.getElem?_map] at h
  cases e : ys[i]? with
  | none => rw [e] at h; nomatch h
  | some y => rw [e] at h; cases h; exact ⟨y, rfl, rfl⟩
def spNamesOk : Spd := fun ds P _ => ∃ ys, ds = [.lst (ys.map D.str)] ∧ Nms ys ∧ (∀ y ∈ ys, plainB y = true) ∧ P .non
def Fits (n : Nat) (f : Nat → Nat → Nat) : Prop := ∀ a b, a < n → b < n → f a b < n
def spRowsOk : Spd := fun ds P _ => ∃ ys f, ds = [.lst (ys.map D.str), rowsN ys f] ∧ Nms ys ∧ Fits ys.length f ∧ P .non
def spByName : Spd := fun ds P _ => ∃ ys f, ds = [.lst (ys.map D.str), rowsN ys f] ∧ Nms ys ∧ P (tabN ys f)
theorem nm_at {ys : List Str} {i : Nat} (h : i < ys.length) : ∃ y, ys[i]? = some y ∧ nmD ys i = .str y := ⟨ys[i], List.getElem?_eq_getElem h, nmD_at (List.getElem?_eq_getElem h)⟩
/-- looking up in a table by names *)-/
def spEntry (cU : Addr) : Spd := fun ds P Z => ∃ (ys : List Str) (g : Nat → Nat → D) (x1 x2 : Str), ds = [.dct (dN ys fun a => .dct (dN ys fun b => g a b)), .str x1, .str x2] ∧ ys.Nodup ∧ Short x1 ∧ Short x2 ∧ (∀ a b, ys[a]? = some x1 → ys[b]? = some x2 → P (g a b)) ∧
  (x1 ∉ ys → Z ⟨cU, [("name", .str x1)]⟩) ∧ (x1 ∈ ys → x2 ∉ ys → Z ⟨cU, [("name", .str x2)]⟩)
/-- an error class with its own __init__ -/
structure ErC (P : Program) (w : World) (K : PySem.W.Frag) (mg : Str → Option Value) (base : Heap) (C : Addr) (G : List D → List (Str × D) → Prop) (ps : List Str) : Prop where
  ex : ∃ (fI : Addr) (fd : FuncData) (B newId initId : String) (bmB : List Value), EC K C B newId initId bmB ∧ PySem.W.findIn K (.ref C) "__init__" = some (some (.ref fI)) ∧ PySem.W.typeIn K (.ref fI) = some (.type "function") ∧ FnOk P w K mg base (L2.CX P w) 2 fI fd ps (spI K C G) ∧ Binds K fd ps []
section
variable {X : Cx} {F : Fx} {W : WX} {e : Expr} {es : List Expr} {r : WA} {pos p pos2 : Pos} {x : Str} {C : Addr} {ps : List Str} {G : List D → List (Str × D) → Prop}
theorem psErr (n : ErC X.prog X.w X.K X.mg X.base C G ps) (hc : X.calm = true) (tk : Takes X W) (hr : Room 3 X.A) (hg : Gl X x) (hm : X.mg x = some (.ref C)) (ha : PA X (e :: es) (tA X.K F W r)) (hdb : (x == ("__debug__" : Str)) = false := by decide) (he : starEach (e :: es) X.env = (false, eval e X.env) :: starEach es X.env := by rfl) (hpl : (backTo pos (starEach es X.env)).any (·.1) = false := by rfl) :
    PS X (.Raise (some (.Call (.Name x p) (e :: es) [] pos)) none pos2) (tS X.K F W (sRaise (mMk C G r))) := by
  obtain ⟨fI, fd, B, newId, initId, bmB, T, iC, tI, F1, hb⟩ := n.ex
  exact psRaise hc tk (dMk T iC tI F1 hr hb hg hm ha hdb he hpl)
end
section
variable {P : Program} {w : World} {K : PySem.W.Frag} {mg : Str → Option Value} {base : Heap} {f : Addr} {fd : FuncData} {cU : Addr}
theorem sc__check_names : FnScope ["names", "place", "name"] ["names"] (defScope s__check_names) := ⟨rfl, rfl, rfl, by decide +kernel, rfl, by decide +kernel, by decide +kernel⟩
theorem ok__check_names (Fn : Fun K "_check_names" "_check_names" s__check_names f fd) (bi : Bi mg) (cCount : Clb P w K mg base 2 "check_count" (liftP K spCount)) (cPlain : Clb P w K mg base 2 "is_plain_name" (liftP K spPlain)) : FnOk P w K mg base (L2.CX P w) 4 f fd ["names"] (liftP K (spNamesOk)) := by
  have sc := sc__check_names
  refine def_okC Fn sc ?len ?body
  case len =>
    rintro i ds P Z ⟨ys, rfl, _⟩
    rfl
  case body =>
    rintro cdv A outer sh H E F i ds Q Z hcd hm hr ⟨ys, rfl, N, hpl, q⟩
    have hu := hu_of hr
    have hu4 := hr.units
    have hu5 : (A.deeper (envOfC "_check_names" (defScope s__check_names) sh.heap.objs.size f cdv)).units + 65 < cLine := by have := hr.un; omega
    have hp := @owns_cx P w K mg base f (L2.CX P w) ["names", "place", "name"] "_check_names" (defScope s__check_names) cdv A outer sh H E
    have tk := @takes_cx P w K mg base f ["names", "place", "name"] "_check_names" (defScope s__check_names) cdv A outer sh H E
    refine' ⟨_, ssCons ?s1 (ssOne ?s2), ?fin⟩
    case s1 => exact psExp (dCall (mf := fun _ : Unit => md0) (s := fun _ => spCount) () sub0 (by exact cCount) (by exact hr.mono (by decide)) (by exact tk) (by rfl) (daCons (dCl (ta := fun p => pe_callB call_len (by rfl) (by exact bi.len) boot_len p) clLen (dbCons (bor (dVar 0 (pv 0))) (dbNil))) (daNil)))
    case s2 => exact psFor (by exact hp) (by rfl) (dIterE (by rfl) (by exact bi.enumerate) (daCons (dVar 0 (pv 0)) (daNil))) (tgTup [1, 2] (pg_tup (by rfl) (pgs_cons (pg_name sc.nd (i := 1) (by rfl) (by first | exact Or.inl rfl | exact Or.inr rfl)) (pgs_cons (pg_name sc.nd (i := 2) (by rfl) (by first | exact Or.inl rfl | exact Or.inr rfl)) (pgs_nil))))) (ssOne (psIf (PW.pt (wwOr (tNotD (tVal (dCall (mf := fun _ : Unit => md0) (s := fun _ => spPlain) () sub0 (by exact cPlain) (by exact hr.mono (by decide)) (by exact tk) (by rfl) (daCons (dVar 2 (pv 2)) (daNil))))) (wwOr1 (tIn (by exact hu5) (bor (dVar 2 (pv 2))) (bor (frE (doSl (bor (dVar 0 (pv 0))) (dpNon) (dpSom (dVar 1 (pv 1)))))))))) (ssOne (psNever)) (ssNil)))
    case fin =>
      refine ⟨_, rfl, ys.length, by simp, N.pos, N.few, ?_⟩
      refine ⟨_, rfl, _, _, rfl, .inl rfl, ?_⟩
      refine forW_idx (fun i ε => ∃ c1 c2, ε = [some (.dat (.lst (ys.map D.str))), c1, c2]) (n := 0) ⟨_, _, rfl⟩ (fun ε _ => q) fun i x hx ε ⟨c1, c2, e⟩ KK hK => ?_
      subst e
      obtain ⟨d, hd, rfl⟩ := enum_at hx
      obtain ⟨y, hy, rfl⟩ := strs_get hd
      have my := List.mem_of_getElem? hy
      refine ⟨_, rfl, rfl, ?_⟩
      refine ⟨_, rfl, y, rfl, (N.ok y my).1, _, rfl, ite2 (fun z => by rw [hpl y my] at z; cases z) fun _ => ?_⟩
      have hl : i < ys.length := (List.getElem?_eq_some_iff.mp hy).1
      have c1 : cutD (ys.map D.str) none (some (i : Int)) = (ys.take i).map D.str := by
        unfold cutD
        rw [HT.sIx_none, HT.sIx_nat, List.length_map, Nat.min_eq_left (by omega), List.map_take]
        rfl
      refine ⟨_, rfl, _, rfl, _, rfl, _, rfl, _, .inl rfl, ?_⟩
      dsimp only [Ow.toD]
      rw [c1]
      refine kInS0 (N.sh my) (fun z hz => N.sh (List.mem_of_mem_take hz)) ⟨_, rfl, ?_⟩
      have : y ∉ ys.take i := fun hm => by
        obtain ⟨k, hk, e⟩ := List.mem_iff_getElem.mp hm
        rw [List.length_take] at hk
        have nd := List.pairwise_iff_getElem.mp N.nd k i (by omega) hl (by omega)
        rw [List.getElem_take] at e
        exact nd (by rw [e]; exact (Option.some.inj ((List.getElem?_eq_getElem hl).symm.trans hy)).symm)
      rw [decide_eq_false this]
      refine ite2 (fun z => by cases z) fun _ => ?_
      exact hK _ ⟨_, _, rfl⟩
theorem sc__check_rows : FnScope ["names", "rows", "row", "entry"] ["names", "rows"] (defScope s__check_rows) := ⟨rfl, rfl, rfl, by decide +kernel, rfl, by decide +kernel, by decide +kernel⟩
theorem ok__check_rows (Fn : Fun K "_check_rows" "_check_rows" s__check_rows f fd) (bi : Bi mg)  : FnOk P w K mg base (L2.CX P w) 4 f fd ["names", "rows"] (liftP K (spRowsOk)) := by
  have sc := sc__check_rows
  refine def_okC Fn sc ?len ?body
  case len =>
    rintro i ds P Z ⟨ys, fn, rfl, _⟩
    rfl
  case body =>
    rintro cdv A outer sh H E F i ds Q Z hcd hm hr ⟨ys, fn, rfl, N, hf, q⟩
    have hu := hu_of hr
    have hu4 := hr.units
    have hu5 : (A.deeper (envOfC "_check_rows" (defScope s__check_rows) sh.heap.objs.size f cdv)).units + 65 < cLine := by have := hr.un; omega
    have hp := @owns_cx P w K mg base f (L2.CX P w) ["names", "rows", "row", "entry"] "_check_rows" (defScope s__check_rows) cdv A outer sh H E
    have tk := @takes_cx P w K mg base f ["names", "rows", "row", "entry"] "_check_rows" (defScope s__check_rows) cdv A outer sh H E
    refine' ⟨_, ssCons ?s1 (ssOne ?s2), ?fin⟩
    case s1 => exact psIf (tNe (by exact hu4) (bor (dCl (ta := fun p => pe_callB call_len (by rfl) (by exact bi.len) boot_len p) clLen (dbCons (bor (dVar 1 (pv 1))) (dbNil)))) (bor (dCl (ta := fun p => pe_callB call_len (by rfl) (by exact bi.len) boot_len p) clLen (dbCons (bor (dVar 0 (pv 0))) (dbNil))))) (ssOne (psNever)) (ssNil)
    case s2 => exact psFor (by exact hp) (by rfl) (dIterL (dVar 1 (pv 1))) (tgName (pg_name sc.nd (i := 2) (by rfl) (by first | exact Or.inl rfl | exact Or.inr rfl))) (ssOne (psIf (PW.pt (wwOr (tNe (by exact hu4) (bor (dCl (ta := fun p => pe_callB call_len (by rfl) (by exact bi.len) boot_len p) clLen (dbCons (bor (dVar 2 (pv 2))) (dbNil)))) (bor (dCl (ta := fun p => pe_callB call_len (by rfl) (by exact bi.len) boot_len p) clLen (dbCons (bor (dVar 0 (pv 0))) (dbNil))))) (wwOr1 (tNotD (tVal (dCl (ta := fun p => pe_callB (cr_all (by rfl)) (by rfl) (by exact bi.all) boot_all p) clAll (dbCons (bor (frE (doLc (by rfl) sc.nd (dIterL (dVar 2 (pv 2))) (own := [("entry", 3)]) (by exact blkOk_by (show blkC ["names", "rows", "row", "entry"] (defScope s__check_rows) _ _ = true from by decide +kernel)) (fun _ _ _ _ _ => tgName (pg_name sc.nd (i := 3) (by rfl) (by first | exact Or.inl rfl | exact Or.inr rfl))) (fun _ _ _ _ _ => tsNil) (fun _ _ _ _ _ => dIn (by exact hu5) (bor (dVar 3 (pv 3))) (bor (dVar 0 (pv 0))))))) (dbNil)))))))) (ssOne (psNever)) (ssNil)))
    case fin =>
      have few := N.few
      have e1 : ((List.range ys.length).map fun a => D.lst ((List.range ys.length).map fun b => nmD ys (fn a b))).length = (ys.map D.str).length := by simp
      refine ⟨_, rfl, _, rfl, ?_⟩
      dsimp only [aNil, kLen, DW.k1, lenD]
      refine kNeN ⟨_, rfl, ?_⟩
      rw [e1, decide_eq_true rfl]
      refine ite2 (fun z => by cases z) fun _ => ?_
      refine ⟨_, rfl, _, .inl rfl, ?_⟩
      refine forW_idx (fun i ε => ∃ c2 c3, ε = [some (.dat (.lst (ys.map D.str))), some (.dat (rowsN ys fn)), c2, c3]) (n := 0) ⟨_, _, rfl⟩ (fun ε _ => q) fun i x hx ε ⟨c2, c3, e⟩ KK hK => ?_
      subst e
      rw [List.getElem?_map] at hx
      have hi : i < ys.length := by
        by_cases h : i < ys.length
        · exact h
        · rw [List.getElem?_eq_none (by simp; omega)] at hx; cases hx
      rw [List.getElem?_range hi] at hx
      cases hx
      have e2 : ((List.range ys.length).map fun b => nmD ys (fn i b)).length = (ys.map D.str).length := by simp
      refine ⟨_, rfl, _, rfl, ?_⟩
      dsimp only [aNil, kLen, DW.k1, lenD]
      refine kNeN ⟨_, rfl, ?_⟩
      rw [e2, decide_eq_true rfl]
      refine ite2 (fun z => by cases z) fun _ => ?_
      refine ⟨_, rfl, _, .inl rfl, ?_⟩
      refine lc_list (l := List.range ys.length) (fun b => nmD ys (fn i b)) (fun _ => D.bl true) (by simp; omega) (fun b hb S hS => ?_) ?_
      · have hb := List.mem_range.mp hb
        obtain ⟨y, hy, e⟩ := nm_at (hf i b hi hb)
        rw [e]
        have my := List.mem_of_getElem? hy
        refine ⟨_, rfl, _, rfl, kInS0 (N.sh my) (fun z hz => N.sh hz) ?_⟩
        rw [decide_eq_true my]
        exact hS
      · refine ⟨(List.range ys.length).map fun _ => true, .inl (by rw [List.map_map]; rfl), _, rfl, ?_⟩
        have : ((List.range ys.length).map fun _ => true).all id = true := by simp
        rw [this]
        exact hK _ ⟨_, _, rfl⟩
theorem sc__by_name : FnScope ["names", "rows", "name", "row"] ["names", "rows"] (defScope s__by_name) := ⟨rfl, rfl, rfl, by decide +kernel, rfl, by decide +kernel, by decide +kernel⟩
theorem ok__by_name (Fn : Fun K "_by_name" "_by_name" s__by_name f fd) (bi : Bi mg)  : FnOk P w K mg base (L2.CX P w) 4 f fd ["names", "rows"] (liftP K (spByName)) := by
  have sc := sc__by_name
  refine def_okC Fn sc ?len ?body
  case len =>
    rintro i ds P Z ⟨ys, fn, rfl, _⟩
    rfl
  case body =>
    rintro cdv A outer sh H E F i ds Q Z hcd hm hr ⟨ys, fn, rfl, N, q⟩
    have hu := hu_of hr
    have hu4 := hr.units
    have hu5 : (A.deeper (envOfC "_by_name" (defScope s__by_name) sh.heap.objs.size f cdv)).units + 65 < cLine := by have := hr.un; omega
    have hp := @owns_cx P w K mg base f (L2.CX P w) ["names", "rows", "name", "row"] "_by_name" (defScope s__by_name) cdv A outer sh H E
    have tk := @takes_cx P w K mg base f ["names", "rows", "name", "row"] "_by_name" (defScope s__by_name) cdv A outer sh H E
    refine' ⟨_, ssOne ?s1, ?fin⟩
    case s1 => exact psRet (frE (doDc (by rfl) sc.nd (dIterZ (by rfl) (by exact bi.zip) (daCons (dVar 0 (pv 0)) (daCons (dVar 1 (pv 1)) (daNil)))) (own := [("name", 2), ("row", 3)]) (by exact blkOk_by (show blkC ["names", "rows", "name", "row"] (defScope s__by_name) _ _ = true from by decide +kernel)) (fun _ _ _ _ _ => tgTup [2, 3] (pg_tup (by rfl) (pgs_cons (pg_name sc.nd (i := 2) (by rfl) (by first | exact Or.inl rfl | exact Or.inr rfl)) (pgs_cons (pg_name sc.nd (i := 3) (by rfl) (by first | exact Or.inl rfl | exact Or.inr rfl)) (pgs_nil))))) (fun _ _ _ _ _ => tsNil) (fun _ _ _ _ _ => dVar 2 (pv 2)) (fun _ _ _ _ _ => frE (doDZ (by rfl) (by rfl) (by exact bi.dict) (by rfl) (by exact bi.zip) (dbCons (bor (dVar 0 (pv 0))) (dbCons (bor (dVar 3 (pv 3))) (dbNil)))))))
    case fin =>
      have few := N.few
      refine ⟨_, rfl, _, rfl, _, _, _, _, rfl, .inl rfl, .inl rfl, ?_⟩
      refine dc_nms (ys := ys) (fun a => .dct (dN ys fun b => nmD ys (fn a b))) N.nd (by unfold zipT; simp) (by omega) (fun i x y hx hy S hS => ?_) q
      unfold zipT at hx
      rw [List.getElem?_zipWith, List.getElem?_map, List.getElem?_map, hy] at hx
      have hi : i < ys.length := (List.getElem?_eq_some_iff.mp hy).1
      rw [List.getElem?_range hi] at hx
      cases hx
      refine ⟨_, rfl, rfl, ?_⟩
      refine ⟨_, rfl, _, rfl, _, rfl, _, _, _, _, dN ys (fun b => nmD ys (fn i b)), rfl, .inl rfl, .inl rfl, ?_, ?_, ?_⟩
      · rw [List.map_map]
        have := congrArg (List.map some) (dNr_keys (fun b => nmD ys (fn i b)) ys 0)
        rw [List.map_map, List.map_map] at this
        exact this.symm
      · exact (dN_vals _ _).symm
      · have := mergeN (g := fun b => nmD ys (fn i b)) (ys := ys) (done := []) N.nd
        have e : mergeD [] (dN ys fun b => nmD ys (fn i b)) = dN ys fun b => nmD ys (fn i b) := this
        rw [e]
        exact hS
theorem sc__entry : FnScope ["table", "first", "second", "row"] ["table", "first", "second"] (defScope s__entry) := ⟨rfl, rfl, rfl, by decide +kernel, rfl, by decide +kernel, by decide +kernel⟩
theorem ok__entry (Fn : Fun K "_entry" "_entry" s__entry f fd) (bi : Bi mg) (eU : ErC P w K mg base cU gUnknownGrade ["self", "name"]) (mU : mg "UnknownGrade" = some (.ref cU)) : FnOk P w K mg base (L2.CX P w) 5 f fd ["table", "first", "second"] (liftP K (spEntry cU)) := by
  have sc := sc__entry
  refine def_okC Fn sc ?len ?body
  case len =>
    rintro i ds P Z ⟨ys, g, x1, x2, rfl, _⟩
    rfl
  case body =>
    rintro cdv A outer sh H E F i ds Q Z hcd hm hr ⟨ys, g, x1, x2, rfl, nd, s1, s2, q1, q2, q3⟩
    have hu := hu_of hr
    have hu4 := hr.units
    have hu5 : (A.deeper (envOfC "_entry" (defScope s__entry) sh.heap.objs.size f cdv)).units + 65 < cLine := by have := hr.un; omega
    have hp := @owns_cx P w K mg base f (L2.CX P w) ["table", "first", "second", "row"] "_entry" (defScope s__entry) cdv A outer sh H E
    have tk := @takes_cx P w K mg base f ["table", "first", "second", "row"] "_entry" (defScope s__entry) cdv A outer sh H E
    refine' ⟨_, ssCons ?s1 (ssCons ?s2 (ssCons ?s3 (ssOne ?s4))), ?fin⟩
    case s1 => exact psIf (tCmpV (pe_cmp (pcNotInD (by exact hu) (bor (dVar 1 (pv 1))) (bor (dVar 0 (pv 0)))) rfl) (pcNotInD (by exact hu) (bor (dVar 1 (pv 1))) (bor (dVar 0 (pv 0))))) (ssOne (psErr (by exact eU) (by rfl) (by exact tk) (by exact hr.mono (by decide)) (by rfl) (by exact mU) (daCons (dVar 1 (pv 1)) (daNil)))) (ssNil)
    case s2 => exact psSet sc.nd (i := 3) (by rfl) (by first | exact Or.inl rfl | exact Or.inr rfl) (dGet (by exact hu) (bor (dVar 0 (pv 0))) (bor (dVar 1 (pv 1))))
    case s3 => exact psIf (tCmpV (pe_cmp (pcNotInD (by exact hu) (bor (dVar 2 (pv 2))) (bor (dVar 3 (pv 3)))) rfl) (pcNotInD (by exact hu) (bor (dVar 2 (pv 2))) (bor (dVar 3 (pv 3))))) (ssOne (psErr (by exact eU) (by rfl) (by exact tk) (by exact hr.mono (by decide)) (by rfl) (by exact mU) (daCons (dVar 2 (pv 2)) (daNil)))) (ssNil)
    case s4 => exact psRet (dGet (by exact hu) (bor (dVar 3 (pv 3))) (bor (dVar 2 (pv 2))))
    case fin =>
      have mk : ∀ x, Short x → gUnknownGrade [.str x] [("name", .str x)] := fun x hx => ⟨[x], rfl, all_c hx all_n, rfl, rfl⟩
      refine ⟨_, rfl, _, rfl, _, .inr x1, rfl, rfl, _, rfl, ?_⟩
      by_cases m1 : x1 ∈ ys
      · obtain ⟨a, ha, ea⟩ := List.mem_iff_getElem.mp m1
        have ha : ys[a]? = some x1 := by rw [← ea]; exact List.getElem?_eq_getElem ha
        rw [valN0 nd ha]
        refine ite2 (fun z => by cases z) fun _ => ?_
        refine ⟨_, rfl, _, rfl, _, .inr x1, _, rfl, rfl, valN0 nd ha, ?_⟩
        refine ⟨_, rfl, _, rfl, _, .inr x2, rfl, rfl, _, rfl, ?_⟩
        by_cases m2 : x2 ∈ ys
        · obtain ⟨b, hb, eb⟩ := List.mem_iff_getElem.mp m2
          have hb : ys[b]? = some x2 := by rw [← eb]; exact List.getElem?_eq_getElem hb
          rw [valN0 nd hb]
          refine ite2 (fun z => by cases z) fun _ => ?_
          exact ⟨_, rfl, _, rfl, _, .inr x2, _, rfl, rfl, valN0 nd hb, q1 a b ha hb⟩
        · rw [valNo m2]
          refine ite2 (fun _ => ?_) fun z => absurd rfl z
          exact ⟨_, rfl, _, mk x2 s2, by show 1 ≤ 1000; omega, q3 m1 m2⟩
      · rw [valNo m1]
        refine ite2 (fun _ => ?_) fun z => absurd rfl z
        exact ⟨_, rfl, _, mk x1 s1, by show 1 ≤ 1000; omega, q2 m1⟩
end
end DW


namespace DW
open L2 PyProof.Rows PySem.Spec PySem
/-! ### the class of the made scale -/
def fldNames : List Str := ["none", "unit", "_names", "_joins", "_products", "_meets", "_unders", "_overs"]
structure ScF (K : PySem.W.Frag) (cT : Addr) : Prop where
  cls : Cls K cT
  na : ∀ n ∈ fldNames, NoAttr K cT n
theorem ScF.ok {K : PySem.W.Frag} {cT : Addr} (s : ScF K cT) (n : Str) (h : n ∈ fldNames) : ∀ C, C = cT → Cls K C ∧ NoAttr K C n := fun C e => by subst e; exact ⟨s.cls, s.na n h⟩
abbrev OkT (cT : Addr) : Addr → Prop := fun C => C = cT
def nmS (ys : List Str) (i : Nat) : Str := ys.getD i ""
theorem nmS_at {ys : List Str} {i : Nat} {y : Str} (h : ys[i]? = some y) : nmS ys i = y := by unfold nmS; rw [List.getD_eq_getElem?_getD, h]; rfl
theorem Nms.inj {ys : List Str} (N : Nms ys) {a b : Nat} (ha : a < ys.length) (hb : b < ys.length) (h : nmS ys a = nmS ys b) : a = b := by
  rw [nmS_at (List.getElem?_eq_getElem ha), nmS_at (List.getElem?_eq_getElem hb)] at h
  have nd := List.pairwise_iff_getElem.mp N.nd
  rcases Nat.lt_trichotomy a b with q | q | q
  · exact absurd h (nd _ _ ha hb q)
  · exact q
  · exact absurd h.symm (nd _ _ hb ha q)
theorem Nms.mem {ys : List Str} (N : Nms ys) {a : Nat} (ha : a < ys.length) : nmS ys a ∈ ys := by
  rw [nmS_at (List.getElem?_eq_getElem ha)]; exact List.getElem_mem ha
theorem Nms.short {ys : List Str} (N : Nms ys) {y : Str} (h : y ∈ ys) : Short y := N.ok y h
theorem Nms.at_ {ys : List Str} (N : Nms ys) {a : Nat} (ha : a < ys.length) : ys[a]? = some (nmS ys a) := by
  rw [nmS_at (List.getElem?_eq_getElem ha)]; exact List.getElem?_eq_getElem ha
theorem Nms.ix {ys : List Str} (N : Nms ys) {a b : Nat} (hb : b < ys.length) (h : ys[a]? = some (nmS ys b)) : a = b := by
  have ha : a < ys.length := (List.getElem?_eq_some_iff.mp h).1
  exact N.inj ha hb (nmS_at h)
/-- equality of two names -/
theorem kEqS {x y : Str} {P : D → Prop} (hx : Sh 0 (.str x)) (hy : Sh 0 (.str y)) (h : P (.bl (decide (x = y)))) : kEq false (.str x) (.str y) P := by
  refine ⟨hx.ok, hy.ok, ?_⟩
  rw [eqv_str, if_neg (by decide)]
  exact h
/-- the lookups -/
def spLook (cT cU : Addr) (fld : Str) : Spd := fun ds P Z => ∃ (fs : List (Str × D)) (ys : List Str) (g : Nat → Nat → D) (x1 x2 : Str), ds = [.ins cT fs, .str x1, .str x2] ∧ fs.lookup fld = some (.dct (dN ys fun a => .dct (dN ys fun b => g a b))) ∧ ys.Nodup ∧ Short x1 ∧ Short x2 ∧ (∀ a b, ys[a]? = some x1 → ys[b]? = some x2 → P (g a b)) ∧
  (x1 ∉ ys → Z ⟨cU, [("name", .str x1)]⟩) ∧ (x1 ∈ ys → x2 ∉ ys → Z ⟨cU, [("name", .str x2)]⟩)
def spGrades (cT : Addr) : Spd := fun ds P _ => ∃ (fs : List (Str × D)) (ys : List Str), ds = [.ins cT fs] ∧ fs.lookup ("_names" : Str) = some (.lst (ys.map D.str)) ∧ P (.lst (ys.map D.str))
def spWithin (cT : Addr) : Spd := fun ds P _ => ∃ (fs : List (Str × D)) (ys : List Str) (j : Nat → Nat → Nat) (a b : Nat), ds = [.ins cT fs, .str (nmS ys a), .str (nmS ys b)] ∧ fs.lookup ("_joins" : Str) = some (tabN ys j) ∧ fs.lookup ("join" : Str) = none ∧ Nms ys ∧ Fits ys.length j ∧ a < ys.length ∧ b < ys.length ∧ P (.bl (decide (j a b = b)))
def spJoined (cT : Addr) : Spd := fun ds P _ => ∃ (fs : List (Str × D)) (ys : List Str) (j : Nat → Nat → Nat) (z : Nat) (gs : List Nat), ds = [.ins cT fs, .lst (gs.map (nmD ys))] ∧ fs.lookup ("_joins" : Str) = some (tabN ys j) ∧ fs.lookup ("none" : Str) = some (nmD ys z) ∧ fs.lookup ("join" : Str) = none ∧ Nms ys ∧ Fits ys.length j ∧ z < ys.length ∧ (∀ g ∈ gs, g < ys.length) ∧ P (nmD ys (gs.foldl j z))
section
variable {P : Program} {w : World} {K : PySem.W.Frag} {mg : Str → Option Value} {base : Heap} {f : Addr} {fd : FuncData} {cT cU : Addr}
theorem sc_Scale_join : FnScope ["self", "first", "second"] ["self", "first", "second"] (defScope s_Scale_join) := ⟨rfl, rfl, rfl, by decide +kernel, rfl, by decide +kernel, by decide +kernel⟩
theorem ok_Scale_join (Fn : Fun K "join" "Scale.join" s_Scale_join f fd) (bi : Bi mg) (sF : ScF K cT) (cEn : Clb P w K mg base 5 "_entry" (liftP K (spEntry cU))) : FnOk P w K mg base (L2.CX P w) 6 f fd ["self", "first", "second"] (liftP K (spLook cT cU "_joins")) := by
  have sc := sc_Scale_join
  refine def_okC Fn sc ?len ?body
  case len =>
    rintro i ds P Z ⟨fs, ys, g, x1, x2, rfl, _⟩
    rfl
  case body =>
    rintro cdv A outer sh H E F i ds Q Z hcd hm hr ⟨fs, ys, g, x1, x2, rfl, hl, r⟩
    have hu := hu_of hr
    have hu4 := hr.units
    have hu5 : (A.deeper (envOfC "Scale.join" (defScope s_Scale_join) sh.heap.objs.size f cdv)).units + 65 < cLine := by have := hr.un; omega
    have hp := @owns_cx P w K mg base f (L2.CX P w) ["self", "first", "second"] "Scale.join" (defScope s_Scale_join) cdv A outer sh H E
    have tk := @takes_cx P w K mg base f ["self", "first", "second"] "Scale.join" (defScope s_Scale_join) cdv A outer sh H E
    refine' ⟨_, ssOne ?s1, ?fin⟩
    case s1 => exact psRet (dCall (mf := fun _ : Unit => md0) (s := fun _ => spEntry cU) () sub0 (by exact cEn) (by exact hr.mono (by decide)) (by exact tk) (by rfl) (daCons (dFldI (Ok := fun C => C = cT) (by exact sF.ok "_joins" (by decide +kernel)) (bor (dVar 0 (pv 0)))) (daCons (dVar 1 (pv 1)) (daCons (dVar 2 (pv 2)) (daNil)))))
    case fin =>
      exact ⟨_, rfl, _, _, _, rfl, rfl, hl, _, rfl, _, rfl, ys, g, x1, x2, rfl, r⟩
theorem sc_Scale_meet : FnScope ["self", "first", "second"] ["self", "first", "second"] (defScope s_Scale_meet) := ⟨rfl, rfl, rfl, by decide +kernel, rfl, by decide +kernel, by decide +kernel⟩
theorem ok_Scale_meet (Fn : Fun K "meet" "Scale.meet" s_Scale_meet f fd) (bi : Bi mg) (sF : ScF K cT) (cEn : Clb P w K mg base 5 "_entry" (liftP K (spEntry cU))) : FnOk P w K mg base (L2.CX P w) 6 f fd ["self", "first", "second"] (liftP K (spLook cT cU "_meets")) := by
  have sc := sc_Scale_meet
  refine def_okC Fn sc ?len ?body
  case len =>
    rintro i ds P Z ⟨fs, ys, g, x1, x2, rfl, _⟩
    rfl
  case body =>
    rintro cdv A outer sh H E F i ds Q Z hcd hm hr ⟨fs, ys, g, x1, x2, rfl, hl, r⟩
    have hu := hu_of hr
    have hu4 := hr.units
    have hu5 : (A.deeper (envOfC "Scale.meet" (defScope s_Scale_meet) sh.heap.objs.size f cdv)).units + 65 < cLine := by have := hr.un; omega
    have hp := @owns_cx P w K mg base f (L2.CX P w) ["self", "first", "second"] "Scale.meet" (defScope s_Scale_meet) cdv A outer sh H E
    have tk := @takes_cx P w K mg base f ["self", "first", "second"] "Scale.meet" (defScope s_Scale_meet) cdv A outer sh H E
    refine' ⟨_, ssOne ?s1, ?fin⟩
    case s1 => exact psRet (dCall (mf := fun _ : Unit => md0) (s := fun _ => spEntry cU) () sub0 (by exact cEn) (by exact hr.mono (by decide)) (by exact tk) (by rfl) (daCons (dFldI (Ok := fun C => C = cT) (by exact sF.ok "_meets" (by decide +kernel)) (bor (dVar 0 (pv 0)))) (daCons (dVar 1 (pv 1)) (daCons (dVar 2 (pv 2)) (daNil)))))
    case fin =>
      exact ⟨_, rfl, _, _, _, rfl, rfl, hl, _, rfl, _, rfl, ys, g, x1, x2, rfl, r⟩
theorem sc_Scale_under : FnScope ["self", "first", "second"] ["self", "first", "second"] (defScope s_Scale_under) := ⟨rfl, rfl, rfl, by decide +kernel, rfl, by decide +kernel, by decide +kernel⟩
theorem ok_Scale_under (Fn : Fun K "under" "Scale.under" s_Scale_under f fd) (bi : Bi mg) (sF : ScF K cT) (cEn : Clb P w K mg base 5 "_entry" (liftP K (spEntry cU))) : FnOk P w K mg base (L2.CX P w) 6 f fd ["self", "first", "second"] (liftP K (spLook cT cU "_unders")) := by
  have sc := sc_Scale_under
  refine def_okC Fn sc ?len ?body
  case len =>
    rintro i ds P Z ⟨fs, ys, g, x1, x2, rfl, _⟩
    rfl
  case body =>
    rintro cdv A outer sh H E F i ds Q Z hcd hm hr ⟨fs, ys, g, x1, x2, rfl, hl, r⟩
    have hu := hu_of hr
    have hu4 := hr.units
    have hu5 : (A.deeper (envOfC "Scale.under" (defScope s_Scale_under) sh.heap.objs.size f cdv)).units + 65 < cLine := by have := hr.un; omega
    have hp := @owns_cx P w K mg base f (L2.CX P w) ["self", "first", "second"] "Scale.under" (defScope s_Scale_under) cdv A outer sh H E
    have tk := @takes_cx P w K mg base f ["self", "first", "second"] "Scale.under" (defScope s_Scale_under) cdv A outer sh H E
    refine' ⟨_, ssOne ?s1, ?fin⟩
    case s1 => exact psRet (dCall (mf := fun _ : Unit => md0) (s := fun _ => spEntry cU) () sub0 (by exact cEn) (by exact hr.mono (by decide)) (by exact tk) (by rfl) (daCons (dFldI (Ok := fun C => C = cT) (by exact sF.ok "_unders" (by decide +kernel)) (bor (dVar 0 (pv 0)))) (daCons (dVar 1 (pv 1)) (daCons (dVar 2 (pv 2)) (daNil)))))
    case fin =>
      exact ⟨_, rfl, _, _, _, rfl, rfl, hl, _, rfl, _, rfl, ys, g, x1, x2, rfl, r⟩
theorem sc_Scale_over : FnScope ["self", "first", "second"] ["self", "first", "second"] (defScope s_Scale_over) := ⟨rfl, rfl, rfl, by decide +kernel, rfl, by decide +kernel, by decide +kernel⟩
theorem ok_Scale_over (Fn : Fun K "over" "Scale.over" s_Scale_over f fd) (bi : Bi mg) (sF : ScF K cT) (cEn : Clb P w K mg base 5 "_entry" (liftP K (spEntry cU))) : FnOk P w K mg base (L2.CX P w) 6 f fd ["self", "first", "second"] (liftP K (spLook cT cU "_overs")) := by
  have sc := sc_Scale_over
  refine def_okC Fn sc ?len ?body
  case len =>
    rintro i ds P Z ⟨fs, ys, g, x1, x2, rfl, _⟩
    rfl
  case body =>
    rintro cdv A outer sh H E F i ds Q Z hcd hm hr ⟨fs, ys, g, x1, x2, rfl, hl, r⟩
    have hu := hu_of hr
    have hu4 := hr.units
    have hu5 : (A.deeper (envOfC "Scale.over" (defScope s_Scale_over) sh.heap.objs.size f cdv)).units + 65 < cLine := by have := hr.un; omega
    have hp := @owns_cx P w K mg base f (L2.CX P w) ["self", "first", "second"] "Scale.over" (defScope s_Scale_over) cdv A outer sh H E
    have tk := @takes_cx P w K mg base f ["self", "first", "second"] "Scale.over" (defScope s_Scale_over) cdv A outer sh H E
    refine' ⟨_, ssOne ?s1, ?fin⟩
    case s1 => exact psRet (dCall (mf := fun _ : Unit => md0) (s := fun _ => spEntry cU) () sub0 (by exact cEn) (by exact hr.mono (by decide)) (by exact tk) (by rfl) (daCons (dFldI (Ok := fun C => C = cT) (by exact sF.ok "_overs" (by decide +kernel)) (bor (dVar 0 (pv 0)))) (daCons (dVar 1 (pv 1)) (daCons (dVar 2 (pv 2)) (daNil)))))
    case fin =>
      exact ⟨_, rfl, _, _, _, rfl, rfl, hl, _, rfl, _, rfl, ys, g, x1, x2, rfl, r⟩
theorem sc_Scale_grades : FnScope ["self"] ["self"] (defScope s_Scale_grades) := ⟨rfl, rfl, rfl, by decide +kernel, rfl, by decide +kernel, by decide +kernel⟩
theorem ok_Scale_grades (Fn : Fun K "grades" "Scale.grades" s_Scale_grades f fd) (bi : Bi mg) (sF : ScF K cT)  : FnOk P w K mg base (L2.CX P w) 2 f fd ["self"] (liftP K (spGrades cT)) := by
  have sc := sc_Scale_grades
  refine def_okC Fn sc ?len ?body
  case len =>
    rintro i ds P Z ⟨fs, ys, rfl, _⟩
    rfl
  case body =>
    rintro cdv A outer sh H E F i ds Q Z hcd hm hr ⟨fs, ys, rfl, hl, q⟩
    have hu := hu_of hr
    have hu4 := hr.units
    have hu5 : (A.deeper (envOfC "Scale.grades" (defScope s_Scale_grades) sh.heap.objs.size f cdv)).units + 65 < cLine := by have := hr.un; omega
    have hp := @owns_cx P w K mg base f (L2.CX P w) ["self"] "Scale.grades" (defScope s_Scale_grades) cdv A outer sh H E
    have tk := @takes_cx P w K mg base f ["self"] "Scale.grades" (defScope s_Scale_grades) cdv A outer sh H E
    refine' ⟨_, ssOne ?s1, ?fin⟩
    case s1 => exact psRet (frE (doCl (ta := fun p => pe_callTy call_list_of (by rfl) (by exact bi.list) boot_list p) clList (dbCons (bor (dFldI (Ok := fun C => C = cT) (by exact sF.ok "_names" (by decide +kernel)) (bor (dVar 0 (pv 0))))) (dbNil))))
    case fin =>
      exact ⟨_, rfl, _, _, _, rfl, rfl, hl, q⟩
theorem sc_Scale_within : FnScope ["self", "first", "second"] ["self", "first", "second"] (defScope s_Scale_within) := ⟨rfl, rfl, rfl, by decide +kernel, rfl, by decide +kernel, by decide +kernel⟩
theorem ok_Scale_within (Fn : Fun K "within" "Scale.within" s_Scale_within f fd) (bi : Bi mg) (sF : ScF K cT) (mJoin : Mth P w K mg base 6 (OkT cT) "join" (liftP K (spLook cT cU "_joins"))) : FnOk P w K mg base (L2.CX P w) 7 f fd ["self", "first", "second"] (liftP K (spWithin cT)) := by
  have sc := sc_Scale_within
  refine def_okC Fn sc ?len ?body
  case len =>
    rintro i ds P Z ⟨fs, ys, j, a, b, rfl, _⟩
    rfl
  case body =>
    rintro cdv A outer sh H E F i ds Q Z hcd hm hr ⟨fs, ys, j, a, b, rfl, hl, hn, N, hj, ha, hb, q⟩
    have hu := hu_of hr
    have hu4 := hr.units
    have hu5 : (A.deeper (envOfC "Scale.within" (defScope s_Scale_within) sh.heap.objs.size f cdv)).units + 65 < cLine := by have := hr.un; omega
    have hp := @owns_cx P w K mg base f (L2.CX P w) ["self", "first", "second"] "Scale.within" (defScope s_Scale_within) cdv A outer sh H E
    have tk := @takes_cx P w K mg base f ["self", "first", "second"] "Scale.within" (defScope s_Scale_within) cdv A outer sh H E
    refine' ⟨_, ssOne ?s1, ?fin⟩
    case s1 => exact psRet (dEq (by exact hu4) (bor (dMeth (mf := fun _ : Unit => md0) (s := fun _ => spLook cT cU "_joins") () sub0 (by exact mJoin) (by exact hr.mono (by decide)) (by exact tk) (dVar 0 (pv 0)) (daCons (dVar 1 (pv 1)) (daCons (dVar 2 (pv 2)) (daNil))))) (bor (dVar 2 (pv 2))))
    case fin =>
      refine ⟨_, rfl, _, _, rfl, rfl, hn, _, rfl, _, rfl, fs, ys, _, _, _, rfl, hl, N.nd, N.short (N.mem ha), N.short (N.mem hb), fun a' b' e1 e2 => ?_, fun h => absurd (N.mem ha) h, fun _ h => absurd (N.mem hb) h⟩
      cases N.ix ha e1
      cases N.ix hb e2
      refine ⟨_, rfl, kEqS (N.sh (N.mem (hj a b ha hb))) (N.sh (N.mem hb)) ?_⟩
      have e : decide (nmS ys (j a b) = nmS ys b) = decide (j a b = b) := by
        by_cases h : j a b = b
        · rw [h, decide_eq_true rfl, decide_eq_true rfl]
        · rw [decide_eq_false h, decide_eq_false fun h2 => h (N.inj (hj a b ha hb) hb h2)]
      show Q (.bl (decide (nmS ys (j a b) = nmS ys b)))
      rw [e]
      exact q
theorem sc_Scale_joined : FnScope ["self", "grades", "result", "grade"] ["self", "grades"] (defScope s_Scale_joined) := ⟨rfl, rfl, rfl, by decide +kernel, rfl, by decide +kernel, by decide +kernel⟩
theorem ok_Scale_joined (Fn : Fun K "joined" "Scale.joined" s_Scale_joined f fd) (bi : Bi mg) (sF : ScF K cT) (mJoin : Mth P w K mg base 6 (OkT cT) "join" (liftP K (spLook cT cU "_joins"))) : FnOk P w K mg base (L2.CX P w) 7 f fd ["self", "grades"] (liftP K (spJoined cT)) := by
  have sc := sc_Scale_joined
  refine def_okC Fn sc ?len ?body
  case len =>
    rintro i ds P Z ⟨fs, ys, j, z, gs, rfl, _⟩
    rfl
  case body =>
    rintro cdv A outer sh H E F i ds Q Z hcd hm hr ⟨fs, ys, j, z, gs, rfl, hl, hz, hn, N, hj, hzl, hg, q⟩
    have hu := hu_of hr
    have hu4 := hr.units
    have hu5 : (A.deeper (envOfC "Scale.joined" (defScope s_Scale_joined) sh.heap.objs.size f cdv)).units + 65 < cLine := by have := hr.un; omega
    have hp := @owns_cx P w K mg base f (L2.CX P w) ["self", "grades", "result", "grade"] "Scale.joined" (defScope s_Scale_joined) cdv A outer sh H E
    have tk := @takes_cx P w K mg base f ["self", "grades", "result", "grade"] "Scale.joined" (defScope s_Scale_joined) cdv A outer sh H E
    refine' ⟨_, ssCons ?s1 (ssCons ?s2 (ssOne ?s3)), ?fin⟩
    case s1 => exact psSet sc.nd (i := 2) (by rfl) (by first | exact Or.inl rfl | exact Or.inr rfl) (dFldI (Ok := fun C => C = cT) (by exact sF.ok "none" (by decide +kernel)) (bor (dVar 0 (pv 0))))
    case s2 => exact psFor (by exact hp) (by rfl) (dIterL (dVar 1 (pv 1))) (tgName (pg_name sc.nd (i := 3) (by rfl) (by first | exact Or.inl rfl | exact Or.inr rfl))) (ssOne (psSet sc.nd (i := 2) (by rfl) (by first | exact Or.inl rfl | exact Or.inr rfl) (dMeth (mf := fun _ : Unit => md0) (s := fun _ => spLook cT cU "_joins") () sub0 (by exact mJoin) (by exact hr.mono (by decide)) (by exact tk) (dVar 0 (pv 0)) (daCons (dVar 2 (pv 2)) (daCons (dVar 3 (pv 3)) (daNil))))))
    case s3 => exact psRet (dVar 2 (pv 2))
    case fin =>
      refine ⟨_, rfl, _, _, _, rfl, rfl, hz, ?_⟩
      refine ⟨_, rfl, _, .inl rfl, ?_⟩
      have fl : ∀ (l : List Nat), (∀ g ∈ l, g < ys.length) → l.foldl j z < ys.length := by
        intro l
        generalize z = z0 at hzl
        induction l generalizing z0 with
        | nil => intro _; exact hzl
        | cons g l ih => intro h; exact ih (j z0 g) (hj z0 g hzl (h g List.mem_cons_self)) fun x hx => h x (List.mem_cons_of_mem _ hx)
      refine forW_list (nmD ys) (fun done ε => ∃ c3, ε = [some (.dat (.ins cT fs)), some (.dat (.lst (gs.map (nmD ys)))), some (.dat (nmD ys (done.foldl j z))), c3]) ⟨_, rfl⟩ ?_ ?_
      · rintro ε ⟨c3, rfl⟩
        exact ⟨_, rfl, q⟩
      · rintro done g ⟨r, hs⟩ ε ⟨c3, rfl⟩ KK hK
        have hd : done.foldl j z < ys.length := fl done fun x hx => hg x (by rw [← hs]; exact List.mem_append_left _ hx)
        have hgl : g < ys.length := hg g (by rw [← hs]; simp)
        refine ⟨_, rfl, _, _, rfl, rfl, hn, _, rfl, _, rfl, fs, ys, _, _, _, rfl, hl, N.nd, N.short (N.mem hd), N.short (N.mem hgl), fun a' b' e1 e2 => ?_, fun h => absurd (N.mem hd) h, fun _ h => absurd (N.mem hgl) h⟩
        cases N.ix hd e1
        cases N.ix hgl e2
        exact hK _ ⟨some (.dat (nmD ys g)), by rw [List.foldl_append]; rfl⟩
end
end DW


namespace DW
open L2 PyProof.Rows PySem.Spec PySem
theorem nmD_str (ys : List Str) (i : Nat) : nmD ys i = .str (nmS ys i) := rfl
theorem names_rng (ys : List Str) : ys.map D.str = (List.range ys.length).map (nmD ys) := by
  apply List.ext_getElem?
  intro i
  iterate 2 rw [List.getElem?_map]
  by_cases h : i < ys.length
  · rw [List.getElem?_range h, List.getElem?_eq_getElem h]
    show _ = some (nmD ys i)
    rw [nmD_at (List.getElem?_eq_getElem h)]; rfl
  · rw [List.getElem?_eq_none (by omega), List.getElem?_eq_none (by simp; omega)]; rfl
theorem kInG {ys : List Str} (N : Nms ys) {c : Nat} {l : List Nat} {P : D → Prop} (hc : c < ys.length) (hl : ∀ g ∈ l, g < ys.length) (p : P (.bl (decide (c ∈ l)))) : kIn false (nmD ys c) (.lst (l.map (nmD ys))) P := by
  have e : l.map (nmD ys) = (l.map (nmS ys)).map D.str := by rw [List.map_map]; rfl
  rw [e, nmD_str]
  refine kInS0 (N.sh (N.mem hc)) (fun x hx => ?_) ?_
  · obtain ⟨g, hg, rfl⟩ := List.mem_map.mp hx
    exact N.sh (N.mem (hl g hg))
  · have : decide (nmS ys c ∈ l.map (nmS ys)) = decide (c ∈ l) := by
      by_cases h : c ∈ l
      · rw [decide_eq_true h, decide_eq_true (List.mem_map.mpr ⟨c, h, rfl⟩)]
      · rw [decide_eq_false h, decide_eq_false]
        intro h2
        obtain ⟨g, hg, e⟩ := List.mem_map.mp h2
        exact h (by rw [← N.inj (hl g hg) hc e]; exact hg)
    rw [this]; exact p
def bel (n : Nat) (j : Nat → Nat → Nat) (b : Nat) : List Nat := (List.range n).filter fun a => decide (j a b = b)
theorem bel_lt {n : Nat} {j : Nat → Nat → Nat} {b g : Nat} (h : g ∈ bel n j b) : g < n := List.mem_range.mp (List.mem_filter.mp h).1
def belD (ys : List Str) (j : Nat → Nat → Nat) : D := .dct (dN ys fun b => .lst ((bel ys.length j b).map (nmD ys)))
def meetL (n : Nat) (j : Nat → Nat → Nat) (a b : Nat) : List Nat := (bel n j a).filter fun c => decide (c ∈ bel n j b)
def underL (n : Nat) (j t : Nat → Nat → Nat) (a b : Nat) : List Nat := (List.range n).filter fun c => decide (t a c ∈ bel n j b)
def overL (n : Nat) (j t : Nat → Nat → Nat) (b a : Nat) : List Nat := (List.range n).filter fun c => decide (t c a ∈ bel n j b)
/-- what the fields hold when the quotients are worked out *)-/
structure HasJ (fs : List (Str × D)) (ys : List Str) (j t : Nat → Nat → Nat) (z : Nat) : Prop where
  jo : fs.lookup ("_joins" : Str) = some (tabN ys j)
  pr : fs.lookup ("_products" : Str) = some (tabN ys t)
  nm : fs.lookup ("_names" : Str) = some (.lst (ys.map D.str))
  no : fs.lookup ("none" : Str) = some (nmD ys z)
  m1 : fs.lookup ("join" : Str) = none
  m2 : fs.lookup ("joined" : Str) = none
  N : Nms ys
  hj : Fits ys.length j
  ht : Fits ys.length t
  hz : z < ys.length
def spQuo (cT : Addr) (L : Nat → (Nat → Nat → Nat) → (Nat → Nat → Nat) → Nat → Nat → List Nat) : Spd := fun ds P _ => ∃ (fs : List (Str × D)) (ys : List Str) (j t : Nat → Nat → Nat) (z a b : Nat), ds = [.ins cT fs, belD ys j, nmD ys a, nmD ys b] ∧ HasJ fs ys j t z ∧ a < ys.length ∧ b < ys.length ∧ P (nmD ys ((L ys.length j t a b).foldl j z))
abbrev spMeet (cT : Addr) : Spd := spQuo cT fun n j _ a b => meetL n j a b
abbrev spUnder (cT : Addr) : Spd := spQuo cT underL
abbrev spOver (cT : Addr) : Spd := spQuo cT overL
section
variable {P : Program} {w : World} {K : PySem.W.Frag} {mg : Str → Option Value} {base : Heap} {f : Addr} {fd : FuncData} {cT cU : Addr}
theorem sc_Scale__meet : FnScope ["self", "below", "a", "b", "c"] ["self", "below", "a", "b"] (defScope s_Scale__meet) := ⟨rfl, rfl, rfl, by decide +kernel, rfl, by decide +kernel, by decide +kernel⟩
theorem ok_Scale__meet (Fn : Fun K "_meet" "Scale._meet" s_Scale__meet f fd) (bi : Bi mg) (sF : ScF K cT) (mJoined : Mth P w K mg base 7 (OkT cT) "joined" (liftP K (spJoined cT))) : FnOk P w K mg base (L2.CX P w) 8 f fd ["self", "below", "a", "b"] (liftP K (spMeet cT)) := by
  have sc := sc_Scale__meet
  refine def_okC Fn sc ?len ?body
  case len =>
    rintro i ds P Z ⟨fs, ys, j, t, z, a, b, rfl, _⟩
    rfl
  case body =>
    rintro cdv A outer sh H E F i ds Q Z hcd hm hr ⟨fs, ys, j, t, z, a, b, rfl, J, ha, hb, q⟩
    have hu := hu_of hr
    have hu4 := hr.units
    have hu5 : (A.deeper (envOfC "Scale._meet" (defScope s_Scale__meet) sh.heap.objs.size f cdv)).units + 65 < cLine := by have := hr.un; omega
    have hp := @owns_cx P w K mg base f (L2.CX P w) ["self", "below", "a", "b", "c"] "Scale._meet" (defScope s_Scale__meet) cdv A outer sh H E
    have tk := @takes_cx P w K mg base f ["self", "below", "a", "b", "c"] "Scale._meet" (defScope s_Scale__meet) cdv A outer sh H E
    refine' ⟨_, ssOne ?s1, ?fin⟩
    case s1 => exact psRet (dMeth (mf := fun _ : Unit => md0) (s := fun _ => spJoined cT) () sub0 (by exact mJoined) (by exact hr.mono (by decide)) (by exact tk) (dVar 0 (pv 0)) (daCons (frE (doLc (by rfl) sc.nd (dIterL (dGet (by exact hu) (bor (dVar 1 (pv 1))) (bor (dVar 2 (pv 2))))) (own := [("c", 4)]) (by exact blkOk_by (show blkC ["self", "below", "a", "b", "c"] (defScope s_Scale__meet) _ _ = true from by decide +kernel)) (fun _ _ _ _ _ => tgName (pg_name sc.nd (i := 4) (by rfl) (by first | exact Or.inl rfl | exact Or.inr rfl))) (fun _ _ _ _ _ => tsOne (tIn (by exact hu5) (bor (dVar 4 (pv 4))) (bor (dGet (by exact hu) (bor (dVar 1 (pv 1))) (bor (dVar 3 (pv 3))))))) (fun _ _ _ _ _ => dVar 4 (pv 4)))) (daNil)))
    case fin =>
      have few := J.N.few
      refine ⟨_, rfl, _, _, rfl, rfl, J.m2, _, rfl, _, rfl, _, .inr (nmS ys a), _, rfl, rfl, valN0 J.N.nd (J.N.at_ ha), _, .inl rfl, ?_⟩
      refine lc_lflt (l := bel ys.length j a) (fun c => decide (c ∈ bel ys.length j b)) (nmD ys) (nmD ys) ?_ (fun c hc S T hS hT => ?_) ?_
      · exact Nat.le_trans (List.length_filter_le _ _) (by simp; omega)
      · refine ⟨_, rfl, _, rfl, _, rfl, _, .inr (nmS ys b), _, rfl, rfl, valN0 J.N.nd (J.N.at_ hb), kInG J.N (bel_lt hc) (fun g hg => bel_lt hg) ⟨_, rfl, ite2 (fun z => ⟨_, rfl, hS z⟩) fun z => hT (Bool.eq_false_iff.mpr z)⟩⟩
      · exact ⟨fs, ys, j, z, meetL ys.length j a b, rfl, J.jo, J.no, J.m1, J.N, J.hj, J.hz, fun g hg => bel_lt (List.mem_filter.mp hg).1, q⟩
theorem sc_Scale__under : FnScope ["self", "below", "a", "b", "c"] ["self", "below", "a", "b"] (defScope s_Scale__under) := ⟨rfl, rfl, rfl, by decide +kernel, rfl, by decide +kernel, by decide +kernel⟩
theorem ok_Scale__under (Fn : Fun K "_under" "Scale._under" s_Scale__under f fd) (bi : Bi mg) (sF : ScF K cT) (mJoined : Mth P w K mg base 7 (OkT cT) "joined" (liftP K (spJoined cT))) : FnOk P w K mg base (L2.CX P w) 8 f fd ["self", "below", "a", "b"] (liftP K (spUnder cT)) := by
  have sc := sc_Scale__under
  refine def_okC Fn sc ?len ?body
  case len =>
    rintro i ds P Z ⟨fs, ys, j, t, z, a, b, rfl, _⟩
    rfl
  case body =>
    rintro cdv A outer sh H E F i ds Q Z hcd hm hr ⟨fs, ys, j, t, z, a, b, rfl, J, ha, hb, q⟩
    have hu := hu_of hr
    have hu4 := hr.units
    have hu5 : (A.deeper (envOfC "Scale._under" (defScope s_Scale__under) sh.heap.objs.size f cdv)).units + 65 < cLine := by have := hr.un; omega
    have hp := @owns_cx P w K mg base f (L2.CX P w) ["self", "below", "a", "b", "c"] "Scale._under" (defScope s_Scale__under) cdv A outer sh H E
    have tk := @takes_cx P w K mg base f ["self", "below", "a", "b", "c"] "Scale._under" (defScope s_Scale__under) cdv A outer sh H E
    refine' ⟨_, ssOne ?s1, ?fin⟩
    case s1 => exact psRet (dMeth (mf := fun _ : Unit => md0) (s := fun _ => spJoined cT) () sub0 (by exact mJoined) (by exact hr.mono (by decide)) (by exact tk) (dVar 0 (pv 0)) (daCons (frE (doLc (by rfl) sc.nd (dIterL (dFldI (Ok := fun C => C = cT) (by exact sF.ok "_names" (by decide +kernel)) (bor (dVar 0 (pv 0))))) (own := [("c", 4)]) (by exact blkOk_by (show blkC ["self", "below", "a", "b", "c"] (defScope s_Scale__under) _ _ = true from by decide +kernel)) (fun _ _ _ _ _ => tgName (pg_name sc.nd (i := 4) (by rfl) (by first | exact Or.inl rfl | exact Or.inr rfl))) (fun _ _ _ _ _ => tsOne (tIn (by exact hu5) (bor (dGet (by exact hu) (bor (dGet (by exact hu) (bor (dFldI (Ok := fun C => C = cT) (by exact sF.ok "_products" (by decide +kernel)) (bor (dVar 0 (pv 0))))) (bor (dVar 2 (pv 2))))) (bor (dVar 4 (pv 4))))) (bor (dGet (by exact hu) (bor (dVar 1 (pv 1))) (bor (dVar 3 (pv 3))))))) (fun _ _ _ _ _ => dVar 4 (pv 4)))) (daNil)))
    case fin =>
      have few := J.N.few
      refine ⟨_, rfl, _, _, rfl, rfl, J.m2, _, rfl, _, _, _, rfl, rfl, J.nm, _, .inl rfl, ?_⟩
      rw [names_rng]
      refine lc_lflt (l := List.range ys.length) (fun c => decide (t a c ∈ bel ys.length j b)) (nmD ys) (nmD ys) (by simp; omega) (fun c hc S T hS hT => ?_) ?_
      · have hc := List.mem_range.mp hc
        refine ⟨_, rfl, _, _, _, rfl, rfl, J.pr, _, rfl, _, .inr (nmS ys a), _, rfl, rfl, valN0 J.N.nd (J.N.at_ ha), _, rfl, _, .inr (nmS ys c), _, rfl, rfl, valN0 J.N.nd (J.N.at_ hc), _, rfl, _, rfl, _, .inr (nmS ys b), _, rfl, rfl, valN0 J.N.nd (J.N.at_ hb), kInG J.N (J.ht a c ha hc) (fun g hg => bel_lt hg) ⟨_, rfl, ite2 (fun z => ⟨_, rfl, hS z⟩) fun z => hT (Bool.eq_false_iff.mpr z)⟩⟩
      · exact ⟨fs, ys, j, z, underL ys.length j t a b, rfl, J.jo, J.no, J.m1, J.N, J.hj, J.hz, fun g hg => List.mem_range.mp (List.mem_filter.mp hg).1, q⟩
theorem sc_Scale__over : FnScope ["self", "below", "b", "a", "c"] ["self", "below", "b", "a"] (defScope s_Scale__over) := ⟨rfl, rfl, rfl, by decide +kernel, rfl, by decide +kernel, by decide +kernel⟩
theorem ok_Scale__over (Fn : Fun K "_over" "Scale._over" s_Scale__over f fd) (bi : Bi mg) (sF : ScF K cT) (mJoined : Mth P w K mg base 7 (OkT cT) "joined" (liftP K (spJoined cT))) : FnOk P w K mg base (L2.CX P w) 8 f fd ["self", "below", "b", "a"] (liftP K (spOver cT)) := by
  have sc := sc_Scale__over
  refine def_okC Fn sc ?len ?body
  case len =>
    rintro i ds P Z ⟨fs, ys, j, t, z, a, b, rfl, _⟩
    rfl
  case body =>
    rintro cdv A outer sh H E F i ds Q Z hcd hm hr ⟨fs, ys, j, t, z, a, b, rfl, J, ha, hb, q⟩
    have hu := hu_of hr
    have hu4 := hr.units
    have hu5 : (A.deeper (envOfC "Scale._over" (defScope s_Scale__over) sh.heap.objs.size f cdv)).units + 65 < cLine := by have := hr.un; omega
    have hp := @owns_cx P w K mg base f (L2.CX P w) ["self", "below", "b", "a", "c"] "Scale._over" (defScope s_Scale__over) cdv A outer sh H E
    have tk := @takes_cx P w K mg base f ["self", "below", "b", "a", "c"] "Scale._over" (defScope s_Scale__over) cdv A outer sh H E
    refine' ⟨_, ssOne ?s1, ?fin⟩
    case s1 => exact psRet (dMeth (mf := fun _ : Unit => md0) (s := fun _ => spJoined cT) () sub0 (by exact mJoined) (by exact hr.mono (by decide)) (by exact tk) (dVar 0 (pv 0)) (daCons (frE (doLc (by rfl) sc.nd (dIterL (dFldI (Ok := fun C => C = cT) (by exact sF.ok "_names" (by decide +kernel)) (bor (dVar 0 (pv 0))))) (own := [("c", 4)]) (by exact blkOk_by (show blkC ["self", "below", "b", "a", "c"] (defScope s_Scale__over) _ _ = true from by decide +kernel)) (fun _ _ _ _ _ => tgName (pg_name sc.nd (i := 4) (by rfl) (by first | exact Or.inl rfl | exact Or.inr rfl))) (fun _ _ _ _ _ => tsOne (tIn (by exact hu5) (bor (dGet (by exact hu) (bor (dGet (by exact hu) (bor (dFldI (Ok := fun C => C = cT) (by exact sF.ok "_products" (by decide +kernel)) (bor (dVar 0 (pv 0))))) (bor (dVar 4 (pv 4))))) (bor (dVar 3 (pv 3))))) (bor (dGet (by exact hu) (bor (dVar 1 (pv 1))) (bor (dVar 2 (pv 2))))))) (fun _ _ _ _ _ => dVar 4 (pv 4)))) (daNil)))
    case fin =>
      have few := J.N.few
      refine ⟨_, rfl, _, _, rfl, rfl, J.m2, _, rfl, _, _, _, rfl, rfl, J.nm, _, .inl rfl, ?_⟩
      rw [names_rng]
      refine lc_lflt (l := List.range ys.length) (fun c => decide (t c b ∈ bel ys.length j a)) (nmD ys) (nmD ys) (by simp; omega) (fun c hc S T hS hT => ?_) ?_
      · have hc := List.mem_range.mp hc
        refine ⟨_, rfl, _, _, _, rfl, rfl, J.pr, _, rfl, _, .inr (nmS ys c), _, rfl, rfl, valN0 J.N.nd (J.N.at_ hc), _, rfl, _, .inr (nmS ys b), _, rfl, rfl, valN0 J.N.nd (J.N.at_ hb), _, rfl, _, rfl, _, .inr (nmS ys a), _, rfl, rfl, valN0 J.N.nd (J.N.at_ ha), kInG J.N (J.ht c b hc hb) (fun g hg => bel_lt hg) ⟨_, rfl, ite2 (fun z => ⟨_, rfl, hS z⟩) fun z => hT (Bool.eq_false_iff.mpr z)⟩⟩
      · exact ⟨fs, ys, j, z, overL ys.length j t a b, rfl, J.jo, J.no, J.m1, J.N, J.hj, J.hz, fun g hg => List.mem_range.mp (List.mem_filter.mp hg).1, q⟩
end
end DW


namespace DW
open L2 PyProof.Rows PySem.Spec PySem
def quoN (ys : List Str) (j : Nat → Nat → Nat) (z : Nat) (L : Nat → Nat → List Nat) : Nat → Nat → Nat := fun a b => (L a b).foldl j z
def scaleF (ys : List Str) (j t : Nat → Nat → Nat) (z e : Nat) : List (Str × D) := [("none", nmD ys z), ("unit", nmD ys e), ("_names", .lst (ys.map D.str)), ("_joins", tabN ys j), ("_products", tabN ys t),
  ("_meets", tabN ys (quoN ys j z (meetL ys.length j))), ("_unders", tabN ys (quoN ys j z (underL ys.length j t))), ("_overs", tabN ys (quoN ys j z (overL ys.length j t)))]
def spInitS (cT : Addr) : Spn := fun C fs ds P _ => C = cT ∧ fs = [] ∧ ∃ (ys : List Str) (j t : Nat → Nat → Nat) (z e : Nat), ds = [.lst (ys.map D.str), rowsN ys j, rowsN ys t, nmD ys z, nmD ys e] ∧ Nms ys ∧ Fits ys.length j ∧ Fits ys.length t ∧ z < ys.length ∧ e < ys.length ∧ P (scaleF ys j t z e)
section
variable {P : Program} {w : World} {K : PySem.W.Frag} {mg : Str → Option Value} {base : Heap} {f : Addr} {fd : FuncData} {cT cU : Addr}
theorem sc_Scale_init : FnScope ["self", "names", "joins", "products", "none", "unit", "below", "a", "b"] ["self", "names", "joins", "products", "none", "unit"] (defScope s_Scale___init__) := ⟨rfl, rfl, rfl, by decide +kernel, rfl, by decide +kernel, by decide +kernel⟩
theorem ok_Scale_init (Fn : Fun K "__init__" "Scale.__init__" s_Scale___init__ f fd) (bi : Bi mg) (sF : ScF K cT) (cBy : Clb P w K mg base 4 "_by_name" (liftP K spByName)) (mMeet : Mth P w K mg base 8 (OkT cT) "_meet" (liftP K (spMeet cT))) (mUnder : Mth P w K mg base 8 (OkT cT) "_under" (liftP K (spUnder cT))) (mOver : Mth P w K mg base 8 (OkT cT) "_over" (liftP K (spOver cT))) :
    FnOk P w K mg base (L2.CX P w) 9 f fd ["self", "names", "joins", "products", "none", "unit"] (spN K (spInitS cT)) := by
  have sc := sc_Scale_init
  refine' initN_ok (k := 8) Fn sc _ ?len ?body ?fin
  case len =>
    rintro C fs ds P Z ⟨_, _, ys, j, t, z, e, rfl, _⟩
    rfl
  case body =>
    intro cdv A outer sh H E F hm hr
    have hu := hu_of hr
    have hu4 := hr.units
    have hu5 : (A.deeper (envOfC "Scale.__init__" (defScope s_Scale___init__) sh.heap.objs.size f cdv)).units + 65 < cLine := by have := hr.un; omega
    have hp := @owns_cx P w K mg base f (L2.CX P w) ["self", "names", "joins", "products", "none", "unit", "below", "a", "b"] "Scale.__init__" (defScope s_Scale___init__) cdv A outer sh H E
    have tk := @takes_cx P w K mg base f ["self", "names", "joins", "products", "none", "unit", "below", "a", "b"] "Scale.__init__" (defScope s_Scale___init__) cdv A outer sh H E
    refine' ssCons ?s1 (ssCons ?s2 (ssCons ?s3 (ssCons ?s4 (ssCons ?s5 (ssCons ?s6 (ssCons ?s7 (ssCons ?s8 (ssOne ?s9))))))))
    case s1 => exact psPutI (Ok := OkT cT) 0 (by exact sF.ok "none" (by decide +kernel)) (ps_fld (pv 0) (dVar 4 (pv 4)) (by rfl))
    case s2 => exact psPutI (Ok := OkT cT) 0 (by exact sF.ok "unit" (by decide +kernel)) (ps_fld (pv 0) (dVar 5 (pv 5)) (by rfl))
    case s3 => exact psPutI (Ok := OkT cT) 0 (by exact sF.ok "_names" (by decide +kernel)) (ps_fld (pv 0) (frE (doCl (ta := fun p => pe_callTy call_list_of (by rfl) (by exact bi.list) boot_list p) clList (dbCons (bor (dVar 1 (pv 1))) (dbNil)))) (by rfl))
    case s4 => exact psPutI (Ok := OkT cT) 0 (by exact sF.ok "_joins" (by decide +kernel)) (ps_fld (pv 0) (dCall (mf := fun _ : Unit => md0) (s := fun _ => spByName) () sub0 (by exact cBy) (by exact hr.mono (by decide)) (by exact tk) (by rfl) (daCons (dVar 1 (pv 1)) (daCons (dVar 2 (pv 2)) (daNil)))) (by rfl))
    case s5 => exact psPutI (Ok := OkT cT) 0 (by exact sF.ok "_products" (by decide +kernel)) (ps_fld (pv 0) (dCall (mf := fun _ : Unit => md0) (s := fun _ => spByName) () sub0 (by exact cBy) (by exact hr.mono (by decide)) (by exact tk) (by rfl) (daCons (dVar 1 (pv 1)) (daCons (dVar 3 (pv 3)) (daNil)))) (by rfl))
    case s6 => exact psSet sc.nd (i := 6) (by rfl) (by first | exact Or.inl rfl | exact Or.inr rfl) (frE (doDc (by rfl) sc.nd (dIterL (dVar 1 (pv 1))) (own := [("b", 8)]) (by exact blkOk_by (show blkC ["self", "names", "joins", "products", "none", "unit", "below", "a", "b"] (defScope s_Scale___init__) _ _ = true from by decide +kernel)) (fun _ _ _ _ _ => tgName (pg_name sc.nd (i := 8) (by rfl) (by first | exact Or.inl rfl | exact Or.inr rfl))) (fun _ _ _ _ _ => tsNil) (fun _ _ _ _ _ => dVar 8 (pv 8)) (fun _ _ _ _ _ => frE (doLc (by rfl) sc.nd (dIterL (dVar 1 (pv 1))) (own := [("a", 7)]) (by exact blkOk_by (by rfl)) (fun _ _ _ _ _ => tgName (pg_name sc.nd (i := 7) (by rfl) (by first | exact Or.inl rfl | exact Or.inr rfl))) (fun _ _ _ _ _ => tsOne (tEq (by exact hu4) (bor (dGet (by exact hu) (bor (dGet (by exact hu) (bor (dFldI (Ok := fun C => C = cT) (by exact sF.ok "_joins" (by decide +kernel)) (dOwn 0 (pv 0)))) (bor (dVar 7 (pv 7))))) (bor (dVar 8 (pv 8))))) (bor (dVar 8 (pv 8))))) (fun _ _ _ _ _ => dVar 7 (pv 7))))))
    case s7 => exact psPutI (Ok := OkT cT) 0 (by exact sF.ok "_meets" (by decide +kernel)) (ps_fld (pv 0) (frE (doDc (by rfl) sc.nd (dIterL (dVar 1 (pv 1))) (own := [("a", 7)]) (by exact blkOk_by (show blkC ["self", "names", "joins", "products", "none", "unit", "below", "a", "b"] (defScope s_Scale___init__) _ _ = true from by decide +kernel)) (fun _ _ _ _ _ => tgName (pg_name sc.nd (i := 7) (by rfl) (by first | exact Or.inl rfl | exact Or.inr rfl))) (fun _ _ _ _ _ => tsNil) (fun _ _ _ _ _ => dVar 7 (pv 7)) (fun _ _ _ _ _ => frE (doDc (by rfl) sc.nd (dIterL (dVar 1 (pv 1))) (own := [("b", 8)]) (by exact blkOk_by (by rfl)) (fun _ _ _ _ _ => tgName (pg_name sc.nd (i := 8) (by rfl) (by first | exact Or.inl rfl | exact Or.inr rfl))) (fun _ _ _ _ _ => tsNil) (fun _ _ _ _ _ => dVar 8 (pv 8)) (fun _ _ _ _ _ => dMethB (mf := fun _ : Unit => md0) (s := fun _ => spMeet cT) () sub0 (by exact mMeet) (by exact hr.mono (by decide)) (by exact L2.takes0) (dOwn 0 (pv 0)) (dbCons (bor (dVar 6 (pv 6))) (dbCons (bor (dVar 7 (pv 7))) (dbCons (bor (dVar 8 (pv 8))) (dbNil))))))))) (by rfl))
    case s8 => exact psPutI (Ok := OkT cT) 0 (by exact sF.ok "_unders" (by decide +kernel)) (ps_fld (pv 0) (frE (doDc (by rfl) sc.nd (dIterL (dVar 1 (pv 1))) (own := [("a", 7)]) (by exact blkOk_by (show blkC ["self", "names", "joins", "products", "none", "unit", "below", "a", "b"] (defScope s_Scale___init__) _ _ = true from by decide +kernel)) (fun _ _ _ _ _ => tgName (pg_name sc.nd (i := 7) (by rfl) (by first | exact Or.inl rfl | exact Or.inr rfl))) (fun _ _ _ _ _ => tsNil) (fun _ _ _ _ _ => dVar 7 (pv 7)) (fun _ _ _ _ _ => frE (doDc (by rfl) sc.nd (dIterL (dVar 1 (pv 1))) (own := [("b", 8)]) (by exact blkOk_by (by rfl)) (fun _ _ _ _ _ => tgName (pg_name sc.nd (i := 8) (by rfl) (by first | exact Or.inl rfl | exact Or.inr rfl))) (fun _ _ _ _ _ => tsNil) (fun _ _ _ _ _ => dVar 8 (pv 8)) (fun _ _ _ _ _ => dMethB (mf := fun _ : Unit => md0) (s := fun _ => spUnder cT) () sub0 (by exact mUnder) (by exact hr.mono (by decide)) (by exact L2.takes0) (dOwn 0 (pv 0)) (dbCons (bor (dVar 6 (pv 6))) (dbCons (bor (dVar 7 (pv 7))) (dbCons (bor (dVar 8 (pv 8))) (dbNil))))))))) (by rfl))
    case s9 => exact psPutI (Ok := OkT cT) 0 (by exact sF.ok "_overs" (by decide +kernel)) (ps_fld (pv 0) (frE (doDc (by rfl) sc.nd (dIterL (dVar 1 (pv 1))) (own := [("b", 8)]) (by exact blkOk_by (show blkC ["self", "names", "joins", "products", "none", "unit", "below", "a", "b"] (defScope s_Scale___init__) _ _ = true from by decide +kernel)) (fun _ _ _ _ _ => tgName (pg_name sc.nd (i := 8) (by rfl) (by first | exact Or.inl rfl | exact Or.inr rfl))) (fun _ _ _ _ _ => tsNil) (fun _ _ _ _ _ => dVar 8 (pv 8)) (fun _ _ _ _ _ => frE (doDc (by rfl) sc.nd (dIterL (dVar 1 (pv 1))) (own := [("a", 7)]) (by exact blkOk_by (by rfl)) (fun _ _ _ _ _ => tgName (pg_name sc.nd (i := 7) (by rfl) (by first | exact Or.inl rfl | exact Or.inr rfl))) (fun _ _ _ _ _ => tsNil) (fun _ _ _ _ _ => dVar 7 (pv 7)) (fun _ _ _ _ _ => dMethB (mf := fun _ : Unit => md0) (s := fun _ => spOver cT) () sub0 (by exact mOver) (by exact hr.mono (by decide)) (by exact L2.takes0) (dOwn 0 (pv 0)) (dbCons (bor (dVar 6 (pv 6))) (dbCons (bor (dVar 8 (pv 8))) (dbCons (bor (dVar 7 (pv 7))) (dbNil))))))))) (by rfl))
  case fin =>
    rintro x C fs ds P Z ⟨hC, rfl, ys, j, t, z, e, rfl, N, hj, ht, hz, he, q⟩
    subst hC
    have few := N.few
    refine ⟨_, _, _, rfl, _, rfl, rfl, by decide, ?_⟩
    refine ⟨_, _, _, rfl, _, rfl, rfl, by show 1 < 1000; omega, ?_⟩
    refine ⟨_, _, _, rfl, _, rfl, rfl, by show 2 < 1000; omega, ?_⟩
    refine ⟨_, _, _, rfl, _, rfl, _, rfl, ys, j, rfl, N, rfl, by show 3 < 1000; omega, ?_⟩
    refine ⟨_, _, _, rfl, _, rfl, _, rfl, ys, t, rfl, N, rfl, by show 4 < 1000; omega, ?_⟩
    refine ⟨_, rfl, _, .inl rfl, ?_⟩
    have bt : ∀ {i : Nat} {u : D} {y : Str}, (ys.map D.str)[i]? = some u → ys[i]? = some y → u = .str y ∧ i < ys.length ∧ y = nmS ys i := fun hu hy => by
      rw [List.getElem?_map, hy] at hu
      cases hu
      exact ⟨rfl, (List.getElem?_eq_some_iff.mp hy).1, (nmS_at hy).symm⟩
    refine dc_nms (ys := ys) (fun b => .lst ((bel ys.length j b).map (nmD ys))) N.nd (by simp) (by omega) (fun b u y hu hy S hS => ?_) ?_
    · obtain ⟨rfl, hb, rfl⟩ := bt hu hy
      refine ⟨_, rfl, _, rfl, _, .inl rfl, ?_⟩
      have step : ∀ (te : WE) (g : WG) (tt : WT) (vs : List Nat) (ε : Ev) (Q : List D → Prop), lcW g tt te vs ((List.range ys.length).map (nmD ys)) [] ε Q → lcW g tt te vs (ys.map D.str) [] ε Q := fun te g tt vs ε Q h => by rw [names_rng]; exact h
      refine step _ _ _ _ _ _ ?_
      refine lc_lflt (l := List.range ys.length) (fun a => decide (j a b = b)) (nmD ys) (nmD ys) (by simp; omega) (fun a ha S2 T2 h1 h2 => ?_) hS
      have ha := List.mem_range.mp ha
      refine ⟨_, rfl, _, _, _, rfl, rfl, rfl, _, rfl, _, .inr (nmS ys a), _, rfl, rfl, valN0 N.nd (N.at_ ha), _, rfl, _, .inr (nmS ys b), _, rfl, rfl, valN0 N.nd (N.at_ hb), _, rfl, kEqS (N.sh (N.mem (hj a b ha hb))) (N.sh (N.mem hb)) ⟨_, rfl, ?_⟩⟩
      have e5 : decide (ys.getD (j a b) "" = nmS ys b) = decide (j a b = b) := by
        by_cases h : j a b = b
        · rw [h, decide_eq_true rfl]; exact decide_eq_true rfl
        · rw [decide_eq_false h]; exact decide_eq_false fun h3 => h (N.inj (hj a b ha hb) hb h3)
      refine ite2 (fun y => ?_) fun y => ?_
      · exact ⟨_, rfl, h1 (by rw [← e5]; exact y)⟩
      · exact h2 (by rw [← e5]; exact Bool.eq_false_iff.mpr y)
    refine ⟨_, _, _, rfl, _, rfl, _, .inl rfl, ?_⟩
    refine dc_nms (ys := ys) (fun a => .dct (dN ys fun b => nmD ys (quoN ys j z (meetL ys.length j) a b))) N.nd (by simp) (by omega) (fun a u y hu hy S hS => ?_) ?_
    · obtain ⟨rfl, ha, rfl⟩ := bt hu hy
      refine ⟨_, rfl, _, rfl, _, .inl rfl, ?_⟩
      refine dc_nms (ys := ys) (fun b => nmD ys (quoN ys j z (meetL ys.length j) a b)) N.nd (by simp) (by omega) (fun b u2 y2 hu2 hy2 S2 hS2 => ?_) hS
      obtain ⟨rfl, hb, rfl⟩ := bt hu2 hy2
      refine ⟨_, rfl, _, rfl, _, _, rfl, rfl, rfl, _, rfl, _, rfl, _, rfl, _, ys, j, t, z, a, b, rfl, ⟨rfl, rfl, rfl, rfl, rfl, rfl, N, hj, ht, hz⟩, ha, hb, trivial, hS2⟩
    refine ⟨rfl, by show 5 < 1000; omega, ?_⟩
    refine ⟨_, _, _, rfl, _, rfl, _, .inl rfl, ?_⟩
    refine dc_nms (ys := ys) (fun a => .dct (dN ys fun b => nmD ys (quoN ys j z (underL ys.length j t) a b))) N.nd (by simp) (by omega) (fun a u y hu hy S hS => ?_) ?_
    · obtain ⟨rfl, ha, rfl⟩ := bt hu hy
      refine ⟨_, rfl, _, rfl, _, .inl rfl, ?_⟩
      refine dc_nms (ys := ys) (fun b => nmD ys (quoN ys j z (underL ys.length j t) a b)) N.nd (by simp) (by omega) (fun b u2 y2 hu2 hy2 S2 hS2 => ?_) hS
      obtain ⟨rfl, hb, rfl⟩ := bt hu2 hy2
      refine ⟨_, rfl, _, rfl, _, _, rfl, rfl, rfl, _, rfl, _, rfl, _, rfl, _, ys, j, t, z, a, b, rfl, ⟨rfl, rfl, rfl, rfl, rfl, rfl, N, hj, ht, hz⟩, ha, hb, trivial, hS2⟩
    refine ⟨rfl, by show 6 < 1000; omega, ?_⟩
    refine ⟨_, _, _, rfl, _, rfl, _, .inl rfl, ?_⟩
    refine dc_nms (ys := ys) (fun a => .dct (dN ys fun b => nmD ys (quoN ys j z (overL ys.length j t) a b))) N.nd (by simp) (by omega) (fun a u y hu hy S hS => ?_) ?_
    · obtain ⟨rfl, ha, rfl⟩ := bt hu hy
      refine ⟨_, rfl, _, rfl, _, .inl rfl, ?_⟩
      refine dc_nms (ys := ys) (fun b => nmD ys (quoN ys j z (overL ys.length j t) a b)) N.nd (by simp) (by omega) (fun b u2 y2 hu2 hy2 S2 hS2 => ?_) hS
      obtain ⟨rfl, hb, rfl⟩ := bt hu2 hy2
      refine ⟨_, rfl, _, rfl, _, _, rfl, rfl, rfl, _, rfl, _, rfl, _, rfl, _, ys, j, t, z, a, b, rfl, ⟨rfl, rfl, rfl, rfl, rfl, rfl, N, hj, ht, hz⟩, ha, hb, trivial, hS2⟩
    refine ⟨rfl, by show 7 < 1000; omega, ?_⟩
    exact ⟨_, rfl, q⟩

end
end DW


namespace DW
open PySem PySem.Spec PyProof.Rows L2 ClX
section
variable {P : Program} {w : World} {K : PySem.W.Frag} {mg : Str → Option Value} {base : Heap} {f : Addr} {fd : FuncData} {cT cU cS fS : Addr} {fdS : FuncData} {mc : Value}
def spInitT (cT : Addr) : Spn := fun C fs ds P _ => C = cT ∧ fs = [] ∧ ∃ (ys : List Str) (j t : Nat → Nat → Nat) (z e : Nat), ds = [.lst (ys.map D.str), rowsN ys j, rowsN ys t, nmD ys z, nmD ys e] ∧ Nms ys ∧ (∀ y ∈ ys, plainB y = true) ∧ Fits ys.length j ∧ Fits ys.length t ∧ z < ys.length ∧ e < ys.length ∧ P (scaleF ys j t z e)
theorem sc_TableScale_init : FnScope ["self", "names", "joins", "products", "none", "unit"] ["self", "names", "joins", "products", "none", "unit"] (defScope s_TableScale___init__) := ⟨rfl, rfl, rfl, by decide +kernel, rfl, by decide +kernel, by decide +kernel⟩
theorem ok_TableScale_init (Fn : Fun K "__init__" "TableScale.__init__" s_TableScale___init__ f fd) (bi : Bi mg) (cNm : Clb P w K mg base 4 "_check_names" (liftP K spNamesOk)) (cRw : Clb P w K mg base 4 "_check_rows" (liftP K spRowsOk)) (mS : mg "Scale" = some (.ref cS)) (rd : CRead K cS mc) (cv : CVal K cS mc "__init__" (.ref fS) (.ref fS)) (kf : PySem.W.keepIn K (.ref fS) = true)
    (FnS : FnOk P w K mg base (L2.CX P w) 9 fS fdS ["self", "names", "joins", "products", "none", "unit"] (spN K (spInitS cT))) (bS : Binds K fdS ["self", "names", "joins", "products", "none", "unit"] []) :
    FnOk P w K mg base (L2.CX P w) 10 f fd ["self", "names", "joins", "products", "none", "unit"] (spN K (spInitT cT)) := by
  have sc := sc_TableScale_init
  refine' initN_ok (k := 9) Fn sc _ ?len ?body ?fin
  case len =>
    rintro C fs ds P Z ⟨_, _, ys, j, t, z, e, rfl, _⟩
    rfl
  case body =>
    intro cdv A outer sh H E F hm hr
    have hu := hu_of hr
    have hu4 := hr.units
    have hu5 : (A.deeper (envOfC "TableScale.__init__" (defScope s_TableScale___init__) sh.heap.objs.size f cdv)).units + 65 < cLine := by have := hr.un; omega
    have hp := @owns_cx P w K mg base f (L2.CX P w) ["self", "names", "joins", "products", "none", "unit"] "TableScale.__init__" (defScope s_TableScale___init__) cdv A outer sh H E
    have tk := @takes_cx P w K mg base f ["self", "names", "joins", "products", "none", "unit"] "TableScale.__init__" (defScope s_TableScale___init__) cdv A outer sh H E
    refine' ssCons ?s1 (ssCons ?s2 (ssCons ?s3 (ssCons ?s4 (ssOne ?s5))))
    case s1 => exact psExp (dCall (mf := fun _ : Unit => md0) (s := fun _ => spNamesOk) () sub0 (by exact cNm) (by exact hr.mono (by decide)) (by exact tk) (by rfl) (daCons (dVar 1 (pv 1)) (daNil)))
    case s2 => exact psExp (dCall (mf := fun _ : Unit => md0) (s := fun _ => spRowsOk) () sub0 (by exact cRw) (by exact hr.mono (by decide)) (by exact tk) (by rfl) (daCons (dVar 1 (pv 1)) (daCons (dVar 2 (pv 2)) (daNil))))
    case s3 => exact psExp (dCall (mf := fun _ : Unit => md0) (s := fun _ => spRowsOk) () sub0 (by exact cRw) (by exact hr.mono (by decide)) (by exact tk) (by rfl) (daCons (dVar 1 (pv 1)) (daCons (dVar 3 (pv 3)) (daNil))))
    case s4 => exact psIf (PW.pt (wwOr (tNotIn (by exact hu5) (bor (dVar 4 (pv 4))) (bor (dVar 1 (pv 1)))) (wwOr1 (tNotIn (by exact hu5) (bor (dVar 5 (pv 5))) (bor (dVar 1 (pv 1))))))) (ssOne (psNever)) (ssNil)
    case s5 => exact psOff (q2 := .Constant .none 0 ⟨0, 0, 0, 0⟩) 0 (pe_off (C := cS) (mc := mc) (f := fS) (m := "__init__") (pe_glob (by rfl) (by exact mS) (v := .ref cS) rfl) (by exact rd) (by exact cv) (by exact kf) (by exact FnS) (by exact hr.mono (by decide)) (by exact bS) (fun σ => passAt (by exact tk) σ) (pa_cons (pv 0) (daCons (dVar 1 (pv 1)) (daCons (dVar 2 (pv 2)) (daCons (dVar 3 (pv 3)) (daCons (dVar 4 (pv 4)) (daCons (dVar 5 (pv 5)) (daNil))))))))
  case fin =>
    rintro x C fs ds P Z ⟨hC, rfl, ys, j, t, z, e, rfl, N, hpl, hj, ht, hz, he, q⟩
    subst hC
    refine ⟨_, rfl, ys, rfl, N, hpl, ?_⟩
    refine ⟨_, rfl, _, rfl, ys, j, rfl, N, hj, ?_⟩
    refine ⟨_, rfl, _, rfl, ys, t, rfl, N, ht, ?_⟩
    refine ⟨_, rfl, _, rfl, kInS1 (N.sh (N.mem hz)) (fun x hx => N.sh hx) ⟨_, rfl, ?_⟩⟩
    rw [show decide (ys.getD z "" ∈ ys) = true from decide_eq_true (N.mem hz)]
    refine ite2 (fun h => by cases h) fun _ => ?_
    refine ⟨_, rfl, _, rfl, kInS1 (N.sh (N.mem he)) (fun x hx => N.sh hx) ⟨_, rfl, ?_⟩⟩
    rw [show decide (ys.getD e "" ∈ ys) = true from decide_eq_true (N.mem he)]
    refine ite2 (fun h => by cases h) fun _ => ?_
    exact ⟨_, _, _, rfl, _, rfl, _, rfl, _, rfl, _, rfl, _, rfl, rfl, rfl, ys, j, t, z, e, rfl, N, hj, ht, hz, he, _, rfl, q⟩
end
end DW


namespace DW
open L2 PyProof.Rows PySem.Spec PySem
theorem Fun.kbn {K : PySem.W.Frag} {x qual : Str} {st : Stmt} {f : Addr} {fd : FuncData} {ps ks : List Str} {n : Nat} (F : Fun K x qual st f fd)
    (h : ∀ (kV doc pm : Value) (an : Option Addr) (cdv ct : Value) (us ws : List Value), us.length = n → ws.length = ks.length → bindArgs (PySem.W.fnOf x qual (defArgs st) (defBody st) (defScope st) .none kV doc pm an cdv ct) ⟨us, ks.zip ws⟩ = pure (ps.zip (us ++ ws))) : KBn K fd ps n ks (fun us ws => us ++ ws) (fun vs zs => vs ++ zs) := by
  rcases F.ex with ⟨oc, od, kV, doc, pm, an, cdv, ct, osl, rfl, lk, hcd⟩
  exact ⟨fun s us ws _ l1 l2 => .of_eq (h kV doc pm an cdv ct us ws l1 l2), fun r1 r2 => r1.append r2⟩
theorem mat_row {n : Nat} {f : Nat → Nat → Nat} {a : Nat} (h : a < n) : ((List.range n).map fun a => D.lst ((List.range n).map fun b => .int (f a b : Nat)))[a]? = some (.lst ((List.range n).map fun b => .int (f a b : Nat))) := by
  rw [List.getElem?_map, List.getElem?_range h]; rfl
theorem row_at {n : Nat} {g : Nat → Nat} {b : Nat} (h : b < n) : ((List.range n).map fun b => D.int (g b : Nat))[b]? = some (.int (g b : Nat)) := by
  rw [List.getElem?_map, List.getElem?_range h]; rfl
theorem str_at {ys : List Str} {a : Nat} (h : a < ys.length) : (ys.map D.str)[a]? = some (nmD ys a) := by
  rw [List.getElem?_map, List.getElem?_eq_getElem h, nmD_at (List.getElem?_eq_getElem h)]; rfl
theorem eqv_nat (a b : Nat) : PyData.eqv (natD a).pd (natD b).pd = decide (a = b) := by
  by_cases h : a = b
  · subst h; rw [decide_eq_true rfl]; exact (Sh.int _).eqv
  · rw [decide_eq_false h]; exact nat_ne h
theorem any_nat (c : Nat) : ∀ gs : List Nat, ((pds (gs.map natD)).any fun z => PyData.eqv z (natD c).pd) = decide (c ∈ gs)
  | [] => by simp [pds]
  | g :: gs => by
    rw [List.map_cons, pds, List.any_cons, any_nat c gs, eqv_nat]
    by_cases h1 : g = c
    · subst h1; simp
    · have h2 : ¬ c = g := fun z => h1 z.symm
      simp [h1, h2]
theorem sh_nats {gs : List Nat} : ∀ x ∈ gs.map natD, Sh 0 x := fun x hx => by
  obtain ⟨g, _, rfl⟩ := List.mem_map.mp hx
  exact Sh.int _
theorem kInN0 {c : Nat} {gs : List Nat} {P : D → Prop} (p : P (.bl (decide (c ∈ gs)))) : kIn false (.int (c : Nat)) (.lst (gs.map natD)) P := by
  refine ⟨(Sh.int _).ok, Sh.okL (n := 0) sh_nats, ?_⟩
  have := any_nat c gs
  unfold natD at this
  rw [if_neg (by decide)]
  show P (.bl _)
  have e : ((pds (gs.map natD)).any fun z => PyData.eqv z (D.int (c : Nat)).pd) = decide (c ∈ gs) := any_nat c gs
  rw [e]; exact p
theorem kInN1 {c : Nat} {gs : List Nat} {P : D → Prop} (p : P (.bl (!decide (c ∈ gs)))) : kIn true (.int (c : Nat)) (.lst (gs.map natD)) P := by
  refine ⟨(Sh.int _).ok, Sh.okL (n := 0) sh_nats, ?_⟩
  rw [if_pos rfl]
  have e : ((pds (gs.map natD)).any fun z => PyData.eqv z (D.int (c : Nat)).pd) = decide (c ∈ gs) := any_nat c gs
  rw [e]; exact p
theorem kNoF {bs : List Bool} {P : D → Prop} (p : P (.bl (!bs.any fun b => !b))) : kIn true (.bl false) (.lst (bs.map D.bl)) P := by
  refine ⟨(Sh.bl _).ok, Sh.okL (n := 0) (fun x hx => ?_), ?_⟩
  · obtain ⟨g, _, rfl⟩ := List.mem_map.mp hx
    exact Sh.bl _
  · rw [if_pos rfl]
    have e : ∀ bs : List Bool, ((pds (bs.map D.bl)).any fun z => PyData.eqv z (D.bl false).pd) = bs.any fun b => !b := by
      intro bs
      induction bs with
      | nil => rfl
      | cons b bs ih =>
        rw [List.map_cons, pds, List.any_cons, List.any_cons, ih]
        congr 1
        rw [D.pd, D.pd]
        cases b <;> simp [PyData.eqv]
    rw [e]; exact p
def spWords : Spd := fun ds P _ => ∃ (ys : List Str) (f j t : Nat → Nat → Nat) (z e : Nat), ds = [.dct (scD (.lst (ys.map D.str)) ys.length j t z e), matD ys.length f] ∧ ys.length ≤ 16 ∧ Fits ys.length f ∧ P (rowsN ys f)
def spWithinL : Spd := fun ds P _ => ∃ (ns : D) (n : Nat) (j t : Nat → Nat → Nat) (z e a b : Nat), ds = [.dct (scD ns n j t z e), .int (a : Nat), .int (b : Nat)] ∧ a < n ∧ b < n ∧ P (.bl (decide (j a b = b)))
def spEvery : Spd := fun ds P _ => ∃ (ns : D) (n : Nat) (j t : Nat → Nat → Nat) (z e : Nat), ds = [.dct (scD ns n j t z e)] ∧ n ≤ 16 ∧ P (.lst ((List.range n).map natD))
def spGreatest : Spd := fun ds P _ => ∃ (ns : D) (n : Nat) (j t : Nat → Nat → Nat) (z e r : Nat) (gs : List Nat), ds = [.dct (scD ns n j t z e), .int (r : Nat), .lst (gs.map natD)] ∧ r < n ∧ gs.length ≤ 1000 ∧ r ∈ gs ∧ (∀ g ∈ gs, g < n ∧ j g r = r) ∧ P (.bl true)
def spMadeT (cT : Addr) : Spd := fun ds P _ => ∃ (ys : List Str) (j t : Nat → Nat → Nat) (z e : Nat), ds = [.dct (scD (.lst (ys.map D.str)) ys.length j t z e)] ∧ Nms ys ∧ (∀ y ∈ ys, plainB y = true) ∧ Fits ys.length j ∧ Fits ys.length t ∧ z < ys.length ∧ e < ys.length ∧ P (.ins cT (scaleF ys j t z e))
section
variable {P : Program} {w : World} {K : PySem.W.Frag} {mg : Str → Option Value} {base : Heap} {f : Addr} {fd : FuncData} {cT fT : Addr} {fdT : FuncData}
theorem sc__law_words : FnScope ["scale", "rows", "place", "row"] ["scale", "rows"] (defScope s__law_words) := ⟨rfl, rfl, rfl, by decide +kernel, rfl, by decide +kernel, by decide +kernel⟩
theorem ok__law_words (Fn : Fun K "_law_words" "_law_words" s__law_words f fd) (bi : Bi mg)  : FnOk P w K mg base (L2.CX P w) 2 f fd ["scale", "rows"] (liftP K (spWords)) := by
  have sc := sc__law_words
  refine def_okC Fn sc ?len ?body
  case len =>
    rintro i ds P Z ⟨ys, fn, j, t, z, e, rfl, _⟩
    rfl
  case body =>
    rintro cdv A outer sh H E F i ds Q Z hcd hm hr ⟨ys, fn, j, t, z, e, rfl, few, hf, q⟩
    have hu := hu_of hr
    have hu4 := hr.units
    have hu5 : (A.deeper (envOfC "_law_words" (defScope s__law_words) sh.heap.objs.size f cdv)).units + 65 < cLine := by have := hr.un; omega
    have hp := @owns_cx P w K mg base f (L2.CX P w) ["scale", "rows", "place", "row"] "_law_words" (defScope s__law_words) cdv A outer sh H E
    have tk := @takes_cx P w K mg base f ["scale", "rows", "place", "row"] "_law_words" (defScope s__law_words) cdv A outer sh H E
    refine' ⟨_, ssOne ?s1, ?fin⟩
    case s1 => exact psRet (frE (doLc (by rfl) sc.nd (dIterL (dVar 1 (pv 1))) (own := [("row", 3)]) (by exact blkOk_by (show blkC ["scale", "rows", "place", "row"] (defScope s__law_words) _ _ = true from by decide +kernel)) (fun _ _ _ _ _ => tgName (pg_name sc.nd (i := 3) (by rfl) (by first | exact Or.inl rfl | exact Or.inr rfl))) (fun _ _ _ _ _ => tsNil) (fun _ _ _ _ _ => frE (doLc (by rfl) sc.nd (dIterL (dVar 3 (pv 3))) (own := [("place", 2)]) (by exact blkOk_by (by rfl)) (fun _ _ _ _ _ => tgName (pg_name sc.nd (i := 2) (by rfl) (by first | exact Or.inl rfl | exact Or.inr rfl))) (fun _ _ _ _ _ => tsNil) (fun _ _ _ _ _ => dIx (bor (dGet (by exact hu) (bor (dVar 0 (pv 0))) (bor (dStr)))) (bor (dVar 2 (pv 2))))))))
    case fin =>
      refine ⟨_, rfl, _, .inl rfl, ?_⟩
      refine lc_list (l := List.range ys.length) (fun a => .lst ((List.range ys.length).map fun b => .int (fn a b : Nat))) (fun a => .lst ((List.range ys.length).map fun b => nmD ys (fn a b))) (by simp; omega) (fun a ha S hS => ?_) q
      refine ⟨_, rfl, _, .inl rfl, ?_⟩
      refine lc_list (l := List.range ys.length) (fun b => .int (fn a b : Nat)) (fun b => nmD ys (fn a b)) (by simp; omega) (fun b hb S2 hS2 => ?_) hS
      exact ⟨_, rfl, _, _, _, rfl, rfl, sc_names, _, rfl, kIxL (fn a b) rfl (str_at (hf a b (List.mem_range.mp ha) (List.mem_range.mp hb))) hS2⟩
theorem sc__law_within : FnScope ["scale", "a", "b"] ["scale", "a", "b"] (defScope s__law_within) := ⟨rfl, rfl, rfl, by decide +kernel, rfl, by decide +kernel, by decide +kernel⟩
theorem ok__law_within (Fn : Fun K "_law_within" "_law_within" s__law_within f fd) (bi : Bi mg)  : FnOk P w K mg base (L2.CX P w) 2 f fd ["scale", "a", "b"] (liftP K (spWithinL)) := by
  have sc := sc__law_within
  refine def_okC Fn sc ?len ?body
  case len =>
    rintro i ds P Z ⟨ns, n, j, t, z, e, a, b, rfl, _⟩
    rfl
  case body =>
    rintro cdv A outer sh H E F i ds Q Z hcd hm hr ⟨ns, n, j, t, z, e, a, b, rfl, ha, hb, q⟩
    have hu := hu_of hr
    have hu4 := hr.units
    have hu5 : (A.deeper (envOfC "_law_within" (defScope s__law_within) sh.heap.objs.size f cdv)).units + 65 < cLine := by have := hr.un; omega
    have hp := @owns_cx P w K mg base f (L2.CX P w) ["scale", "a", "b"] "_law_within" (defScope s__law_within) cdv A outer sh H E
    have tk := @takes_cx P w K mg base f ["scale", "a", "b"] "_law_within" (defScope s__law_within) cdv A outer sh H E
    refine' ⟨_, ssOne ?s1, ?fin⟩
    case s1 => exact psRet (dEq (by exact hu4) (bor (dIx (bor (dIx (bor (dGet (by exact hu) (bor (dVar 0 (pv 0))) (bor (dStr)))) (bor (dVar 1 (pv 1))))) (bor (dVar 2 (pv 2))))) (bor (dVar 2 (pv 2))))
    case fin =>
      refine ⟨_, rfl, _, _, _, rfl, rfl, sc_join, _, rfl, kIxL a rfl (mat_row ha) ⟨_, rfl, kIxL b rfl (row_at hb) ⟨_, rfl, kEqN ?_⟩⟩⟩
      have e5 : decide (((j a b : Nat) : Int) = ((b : Nat) : Int)) = decide (j a b = b) := by
        by_cases h : j a b = b
        · rw [decide_eq_true h, decide_eq_true (by rw [h])]
        · rw [decide_eq_false h, decide_eq_false (fun h2 => h (by omega))]
      rw [e5]
      exact q
theorem sc__law_every : FnScope ["scale"] ["scale"] (defScope s__law_every) := ⟨rfl, rfl, rfl, by decide +kernel, rfl, by decide +kernel, by decide +kernel⟩
theorem ok__law_every (Fn : Fun K "_law_every" "_law_every" s__law_every f fd) (bi : Bi mg)  : FnOk P w K mg base (L2.CX P w) 2 f fd ["scale"] (liftP K (spEvery)) := by
  have sc := sc__law_every
  refine def_okC Fn sc ?len ?body
  case len =>
    rintro i ds P Z ⟨ns, n, j, t, z, e, rfl, _⟩
    rfl
  case body =>
    rintro cdv A outer sh H E F i ds Q Z hcd hm hr ⟨ns, n, j, t, z, e, rfl, hn, q⟩
    have hu := hu_of hr
    have hu4 := hr.units
    have hu5 : (A.deeper (envOfC "_law_every" (defScope s__law_every) sh.heap.objs.size f cdv)).units + 65 < cLine := by have := hr.un; omega
    have hp := @owns_cx P w K mg base f (L2.CX P w) ["scale"] "_law_every" (defScope s__law_every) cdv A outer sh H E
    have tk := @takes_cx P w K mg base f ["scale"] "_law_every" (defScope s__law_every) cdv A outer sh H E
    refine' ⟨_, ssOne ?s1, ?fin⟩
    case s1 => exact psRet (frE (doLr (by rfl) (by rfl) (by exact bi.list) (by rfl) (by exact bi.range) (dCl (ta := fun p => pe_callB call_len (by rfl) (by exact bi.len) boot_len p) clLen (dbCons (bor (dGet (by exact hu) (bor (dVar 0 (pv 0))) (bor (dStr)))) (dbNil)))))
    case fin =>
      have hml : ((List.range n).map fun a => D.lst ((List.range n).map fun b => .int (j a b : Nat))).length = n := by simp
      refine ⟨_, rfl, _, _, _, rfl, rfl, sc_join, _, rfl, by rw [hml]; omega, by rw [hml]; omega, ?_⟩
      rw [hml, show ((n : Nat) : Int).toNat = n from rfl, rng_nat]
      exact q
theorem sc__law_greatest : FnScope ["scale", "found", "good", "c"] ["scale", "found", "good"] (defScope s__law_greatest) := ⟨rfl, rfl, rfl, by decide +kernel, rfl, by decide +kernel, by decide +kernel⟩
theorem ok__law_greatest (Fn : Fun K "_law_greatest" "_law_greatest" s__law_greatest f fd) (bi : Bi mg) (cWi : Clb P w K mg base 2 "_law_within" (liftP K spWithinL)) : FnOk P w K mg base (L2.CX P w) 3 f fd ["scale", "found", "good"] (liftP K (spGreatest)) := by
  have sc := sc__law_greatest
  refine def_okC Fn sc ?len ?body
  case len =>
    rintro i ds P Z ⟨ns, n, j, t, z, e, r, gs, rfl, _⟩
    rfl
  case body =>
    rintro cdv A outer sh H E F i ds Q Z hcd hm hr ⟨ns, n, j, t, z, e, r, gs, rfl, hrn, hgl, hrg, hg, q⟩
    have hu := hu_of hr
    have hu4 := hr.units
    have hu5 : (A.deeper (envOfC "_law_greatest" (defScope s__law_greatest) sh.heap.objs.size f cdv)).units + 65 < cLine := by have := hr.un; omega
    have hp := @owns_cx P w K mg base f (L2.CX P w) ["scale", "found", "good", "c"] "_law_greatest" (defScope s__law_greatest) cdv A outer sh H E
    have tk := @takes_cx P w K mg base f ["scale", "found", "good", "c"] "_law_greatest" (defScope s__law_greatest) cdv A outer sh H E
    refine' ⟨_, ssCons ?s1 (ssOne ?s2), ?fin⟩
    case s1 => exact psIf (tNotIn (by exact hu5) (bor (dVar 1 (pv 1))) (bor (dVar 2 (pv 2)))) (ssOne (psRet (dBl))) (ssNil)
    case s2 => exact psRet (dNotIn (by exact hu5) (bor (dBl)) (bor (frE (doLc (by rfl) sc.nd (dIterL (dVar 2 (pv 2))) (own := [("c", 3)]) (by exact blkOk_by (show blkC ["scale", "found", "good", "c"] (defScope s__law_greatest) _ _ = true from by decide +kernel)) (fun _ _ _ _ _ => tgName (pg_name sc.nd (i := 3) (by rfl) (by first | exact Or.inl rfl | exact Or.inr rfl))) (fun _ _ _ _ _ => tsNil) (fun _ _ _ _ _ => dCall (mf := fun _ : Unit => md0) (s := fun _ => spWithinL) () sub0 (by exact cWi) (by exact hr.mono (by decide)) (by exact L2.takes0) (by rfl) (daCons (dVar 0 (pv 0)) (daCons (dVar 3 (pv 3)) (daCons (dVar 1 (pv 1)) (daNil)))))))))
    case fin =>
      refine ⟨_, rfl, _, rfl, kInN1 ⟨_, rfl, ?_⟩⟩
      rw [decide_eq_true hrg]
      refine ite2 (fun h => by cases h) fun _ => ?_
      refine ⟨_, rfl, _, .inl rfl, ?_⟩
      refine lc_list (l := gs) natD (fun _ => D.bl true) (by omega) (fun c hc S hS => ?_) ?_
      · obtain ⟨h1, h2⟩ := hg c hc
        refine ⟨_, rfl, _, rfl, _, rfl, ns, n, j, t, z, e, c, r, rfl, h1, hrn, ?_⟩
        rw [decide_eq_true h2]; exact hS
      · have e : gs.map (fun _ => D.bl true) = (gs.map fun _ => true).map D.bl := by rw [List.map_map]; rfl
        show kIn true (.bl false) (.lst (gs.map fun _ => D.bl true)) _
        rw [e]
        refine kNoF ?_
        have : ((gs.map fun _ => true).any fun b => !b) = false := by simp
        rw [this]
        exact q
theorem sc__law_made_scale : FnScope ["scale", "names", "joins", "products"] ["scale"] (defScope s__law_made_scale) := ⟨rfl, rfl, rfl, by decide +kernel, rfl, by decide +kernel, by decide +kernel⟩
theorem ok__law_made_scale (Fn : Fun K "_law_made_scale" "_law_made_scale" s__law_made_scale f fd) (bi : Bi mg) (cWo : Clb P w K mg base 2 "_law_words" (liftP K spWords)) (mkT : MkI P w K mg base 10 cT (spInitT cT) fT fdT ["self", "names", "joins", "products", "none", "unit"]) (kbT : KBn K fdT ["self", "names", "joins", "products", "none", "unit"] 4 ["none", "unit"] (fun us ws => us ++ ws) (fun vs zs => vs ++ zs)) (mT : mg "TableScale" = some (.ref cT)) : FnOk P w K mg base (L2.CX P w) 12 f fd ["scale"] (liftP K (spMadeT cT)) := by
  have sc := sc__law_made_scale
  refine def_okC Fn sc ?len ?body
  case len =>
    rintro i ds P Z ⟨ys, j, t, z, e, rfl, _⟩
    rfl
  case body =>
    rintro cdv A outer sh H E F i ds Q Z hcd hm hr ⟨ys, j, t, z, e, rfl, N, hpl, hj, ht, hz, he, q⟩
    have hDT : ∀ (x : V) (vs zs : List V) (ds es : List D) (A : Addr → Prop) (H : Hp), vs.length = 3 → zs.length = (["none", "unit"] : List Str).length → Dats K A H ds vs → Dats K A H es zs → ∃ ws, (x :: vs) ++ zs = x :: ws ∧ Dats K A H (ds ++ es) ws := fun x vs zs ds es A H _ _ h1 h2 => ⟨vs ++ zs, rfl, h1.app h2⟩
    have hu := hu_of hr
    have hu4 := hr.units
    have hu5 : (A.deeper (envOfC "_law_made_scale" (defScope s__law_made_scale) sh.heap.objs.size f cdv)).units + 65 < cLine := by have := hr.un; omega
    have hp := @owns_cx P w K mg base f (L2.CX P w) ["scale", "names", "joins", "products"] "_law_made_scale" (defScope s__law_made_scale) cdv A outer sh H E
    have tk := @takes_cx P w K mg base f ["scale", "names", "joins", "products"] "_law_made_scale" (defScope s__law_made_scale) cdv A outer sh H E
    refine' ⟨_, ssCons ?s1 (ssCons ?s2 (ssCons ?s3 (ssOne ?s4))), ?fin⟩
    case s1 => exact psSet sc.nd (i := 1) (by rfl) (by first | exact Or.inl rfl | exact Or.inr rfl) (dGet (by exact hu) (bor (dVar 0 (pv 0))) (bor (dStr)))
    case s2 => exact psSet sc.nd (i := 2) (by rfl) (by first | exact Or.inl rfl | exact Or.inr rfl) (dCall (mf := fun _ : Unit => md0) (s := fun _ => spWords) () sub0 (by exact cWo) (by exact hr.mono (by decide)) (by exact tk) (by rfl) (daCons (dVar 0 (pv 0)) (daCons (dGet (by exact hu) (bor (dVar 0 (pv 0))) (bor (dStr))) (daNil))))
    case s3 => exact psSet sc.nd (i := 3) (by rfl) (by first | exact Or.inl rfl | exact Or.inr rfl) (dCall (mf := fun _ : Unit => md0) (s := fun _ => spWords) () sub0 (by exact cWo) (by exact hr.mono (by decide)) (by exact tk) (by rfl) (daCons (dVar 0 (pv 0)) (daCons (dGet (by exact hu) (bor (dVar 0 (pv 0))) (bor (dStr))) (daNil))))
    case s4 => exact psRet (dMakeK (C := cT) (s := spInitT cT) (n := 3) (gD := fun ds es => ds ++ es) (by exact mkT) (by exact kbT) (by exact hDT) (by exact hr.mono (by decide)) (by exact tk) (by rfl) (by exact mT) (daCons (frE (doCl (ta := fun p => pe_callTy call_list_of (by rfl) (by exact bi.list) boot_list p) clList (dbCons (bor (dVar 1 (pv 1))) (dbNil)))) (daCons (dVar 2 (pv 2)) (daCons (dVar 3 (pv 3)) (daNil)))) (dkCons (dIx (bor (dVar 1 (pv 1))) (bor (dGet (by exact hu) (bor (dVar 0 (pv 0))) (bor (dStr))))) (dkCons (dIx (bor (dVar 1 (pv 1))) (bor (dGet (by exact hu) (bor (dVar 0 (pv 0))) (bor (dStr))))) (dkNil))))
    case fin =>
      refine ⟨_, rfl, _, _, _, rfl, rfl, sc_names, ?_⟩
      refine ⟨_, rfl, _, rfl, _, _, _, rfl, rfl, sc_join, ys, j, j, t, z, e, rfl, N.few, hj, ?_⟩
      refine ⟨_, rfl, _, rfl, _, _, _, rfl, rfl, sc_then, ys, t, j, t, z, e, rfl, N.few, ht, ?_⟩
      refine ⟨_, rfl, _, rfl, _, rfl, ?_⟩
      refine ⟨_, rfl, _, rfl, _, _, _, rfl, rfl, sc_none, kIxL z rfl (str_at hz) ?_⟩
      refine ⟨_, rfl, _, rfl, _, _, _, rfl, rfl, sc_unit, kIxL e rfl (str_at he) ?_⟩
      exact ⟨rfl, rfl, rfl, rfl, ys, j, t, z, e, rfl, N, hpl, hj, ht, hz, he, q⟩
end
end DW


namespace DW
open L2 PyProof.Rows PySem.Spec PySem
def spSaid (cT : Addr) : Spd := fun ds P _ => ∃ (ys : List Str) (j t : Nat → Nat → Nat) (z e w : Nat) (x1 x2 : Str), ds = [.ins cT (scaleF ys j t z e), .int (w : Nat), .str x1, .str x2] ∧ Nms ys ∧ w < 3 ∧ Short x1 ∧ Short x2 ∧ (x1 ∈ ys → x2 ∉ ys) ∧ (x1 ∉ ys → P (.str ("no " ++ x1))) ∧ (x1 ∈ ys → P (.str ("no " ++ x2)))
section
variable {P : Program} {w : World} {K : PySem.W.Frag} {mg : Str → Option Value} {base : Heap} {f : Addr} {fd : FuncData} {cT cU : Addr}
theorem sc__law_said : FnScope ["made", "way", "a", "b", "said", "e"] ["made", "way", "a", "b"] (defScope s__law_said) := ⟨rfl, rfl, rfl, by decide +kernel, rfl, by decide +kernel, by decide +kernel⟩
theorem ok__law_said (Fn : Fun K "_law_said" "_law_said" s__law_said f fd) (bi : Bi mg) (mMeet : Mth P w K mg base 6 (OkT cT) "meet" (liftP K (spLook cT cU "_meets"))) (mUnder : Mth P w K mg base 6 (OkT cT) "under" (liftP K (spLook cT cU "_unders"))) (mOver : Mth P w K mg base 6 (OkT cT) "over" (liftP K (spLook cT cU "_overs"))) (mU : mg "UnknownGrade" = some (.ref cU)) (xU : XfC K cU) (noU : PySem.W.findIn K (.ref cU) "name" = some none) (emU : PySem.W.exmOne K (.ref cU) (.ref cU) = some true) : FnOk P w K mg base (L2.CX P w) 7 f fd ["made", "way", "a", "b"] (liftP K (spSaid cT)) := by
  have sc := sc__law_said
  refine def_okC Fn sc ?len ?body
  case len =>
    rintro i ds P Z ⟨ys, j, t, z, e, n, x1, x2, rfl, _⟩
    rfl
  case body =>
    rintro cdv A outer sh H E F i ds Q Z hcd hm hr ⟨ys, j, t, z, e, n, x1, x2, rfl, N, hn, sx1, sx2, hno, q1, q2⟩
    have nmC : Names (cxOf (L2.CX P w) P w K mg base ["made", "way", "a", "b", "said", "e"] "_law_said" (defScope s__law_said) f cdv A outer sh H E) "UnknownGrade" (.ref cU) := ⟨by rfl, by decide +kernel, .inl (by exact mU)⟩
    have hu := hu_of hr
    have hu4 := hr.units
    have hu5 : (A.deeper (envOfC "_law_said" (defScope s__law_said) sh.heap.objs.size f cdv)).units + 65 < cLine := by have := hr.un; omega
    have hp := @owns_cx P w K mg base f (L2.CX P w) ["made", "way", "a", "b", "said", "e"] "_law_said" (defScope s__law_said) cdv A outer sh H E
    have tk := @takes_cx P w K mg base f ["made", "way", "a", "b", "said", "e"] "_law_said" (defScope s__law_said) cdv A outer sh H E
    refine' ⟨_, ssCons ?s1 (ssCons ?s2 (ssOne ?s3)), ?fin⟩
    case s1 => exact psSet sc.nd (i := 4) (by rfl) (by first | exact Or.inl rfl | exact Or.inr rfl) (dStr)
    case s2 => exact psTryAs (i := 5) (m := fun C b => C = cU ∧ b = true) (by rfl) (by rfl) sc.nd (by rfl) (by rfl) (by exact nmC) (by exact tk) (fun _ _ h => by obtain ⟨rfl, rfl⟩ := h; exact emU) (fun W2 pn2 xe2 tk2 hp2 => ssCons (psIf (tEq (by exact hu4) (bor (dVar 1 (pv 1))) (bor (dInt))) (ssOne (psSet sc.nd (i := 4) (by rfl) (by first | exact Or.inl rfl | exact Or.inr rfl) (dMeth (mf := fun _ : Unit => md0) (s := fun _ => spLook cT cU "_meets") () sub0 (by exact mMeet) (by exact hr.mono (by decide)) (by exact tk2) (dVar 0 (pv 0)) (daCons (dVar 2 (pv 2)) (daCons (dVar 3 (pv 3)) (daNil)))))) (ssNil)) (ssCons (psIf (tEq (by exact hu4) (bor (dVar 1 (pv 1))) (bor (dInt))) (ssOne (psSet sc.nd (i := 4) (by rfl) (by first | exact Or.inl rfl | exact Or.inr rfl) (dMeth (mf := fun _ : Unit => md0) (s := fun _ => spLook cT cU "_unders") () sub0 (by exact mUnder) (by exact hr.mono (by decide)) (by exact tk2) (dVar 0 (pv 0)) (daCons (dVar 2 (pv 2)) (daCons (dVar 3 (pv 3)) (daNil)))))) (ssNil)) (ssOne (psIf (tEq (by exact hu4) (bor (dVar 1 (pv 1))) (bor (dInt))) (ssOne (psSet sc.nd (i := 4) (by rfl) (by first | exact Or.inl rfl | exact Or.inr rfl) (dMeth (mf := fun _ : Unit => md0) (s := fun _ => spLook cT cU "_overs") () sub0 (by exact mOver) (by exact hr.mono (by decide)) (by exact tk2) (dVar 0 (pv 0)) (daCons (dVar 2 (pv 2)) (daCons (dVar 3 (pv 3)) (daNil)))))) (ssNil))))) (fun a2 oe2 cls2 d2 pn2 hz2 hf2 => ssOne (psSet sc.nd (i := 4) (by rfl) (by first | exact Or.inl rfl | exact Or.inr rfl) (dAdd (bor (dStr)) (bor (dXf (by exact xU) (by exact noU) (by exact hz2) (by exact hf2) (dVar 5 (pv 5)))))))
    case s3 => exact psRet (dVar 4 (pv 4))
    case fin =>
      have l1 : ("no " : Str).length + x1.length ≤ sizeLine := by rw [sizeLine_eq]; have := sx1.1; have e : ("no " : Str).length = 3 := rfl; omega
      have l2 : ("no " : Str).length + x2.length ≤ sizeLine := by rw [sizeLine_eq]; have := sx2.1; have e : ("no " : Str).length = 3 := rfl; omega
      have bad : ∀ {a b : Nat} {A : Prop}, ys[a]? = some x1 → ys[b]? = some x2 → A := fun h1 h2 => absurd (List.mem_of_getElem? h2) (hno (List.mem_of_getElem? h1))
      have h012 : n = 0 ∨ n = 1 ∨ n = 2 := by omega
      rcases h012 with rfl | rfl | rfl
      · refine ⟨_, rfl, wEqN ⟨_, rfl, ite2 (fun _ => ?_) fun z => absurd z (by decide)⟩⟩
        refine ⟨_, rfl, _, _, rfl, rfl, rfl, _, rfl, _, rfl, ⟨_, ys, _, x1, x2, rfl, rfl, N.nd, sx1, sx2, fun a b h1 h2 => bad h1 h2, fun h => ?_, fun h h2 => ?_⟩⟩
        · exact ⟨true, ⟨rfl, rfl⟩, fun _ => ⟨List.cons_ne_nil _ _, fun a dd => ⟨_, rfl, dd, _, _, rfl, rfl, rfl, rfl, l1, _, rfl, q1 h⟩⟩, fun z => by cases z⟩
        · exact ⟨true, ⟨rfl, rfl⟩, fun _ => ⟨List.cons_ne_nil _ _, fun a dd => ⟨_, rfl, dd, _, _, rfl, rfl, rfl, rfl, l2, _, rfl, q2 h⟩⟩, fun z => by cases z⟩
      · refine ⟨_, rfl, wEqN ⟨_, rfl, ite2 (fun z => absurd z (by decide)) fun _ => ?_⟩⟩
        refine ⟨_, rfl, wEqN ⟨_, rfl, ite2 (fun _ => ?_) fun z => absurd z (by decide)⟩⟩
        refine ⟨_, rfl, _, _, rfl, rfl, rfl, _, rfl, _, rfl, ⟨_, ys, _, x1, x2, rfl, rfl, N.nd, sx1, sx2, fun a b h1 h2 => bad h1 h2, fun h => ?_, fun h h2 => ?_⟩⟩
        · exact ⟨true, ⟨rfl, rfl⟩, fun _ => ⟨List.cons_ne_nil _ _, fun a dd => ⟨_, rfl, dd, _, _, rfl, rfl, rfl, rfl, l1, _, rfl, q1 h⟩⟩, fun z => by cases z⟩
        · exact ⟨true, ⟨rfl, rfl⟩, fun _ => ⟨List.cons_ne_nil _ _, fun a dd => ⟨_, rfl, dd, _, _, rfl, rfl, rfl, rfl, l2, _, rfl, q2 h⟩⟩, fun z => by cases z⟩
      · refine ⟨_, rfl, wEqN ⟨_, rfl, ite2 (fun z => absurd z (by decide)) fun _ => ?_⟩⟩
        refine ⟨_, rfl, wEqN ⟨_, rfl, ite2 (fun z => absurd z (by decide)) fun _ => ?_⟩⟩
        refine ⟨_, rfl, wEqN ⟨_, rfl, ite2 (fun _ => ?_) fun z => absurd z (by decide)⟩⟩
        refine ⟨_, rfl, _, _, rfl, rfl, rfl, _, rfl, _, rfl, ⟨_, ys, _, x1, x2, rfl, rfl, N.nd, sx1, sx2, fun a b h1 h2 => bad h1 h2, fun h => ?_, fun h h2 => ?_⟩⟩
        · exact ⟨true, ⟨rfl, rfl⟩, fun _ => ⟨List.cons_ne_nil _ _, fun a dd => ⟨_, rfl, dd, _, _, rfl, rfl, rfl, rfl, l1, _, rfl, q1 h⟩⟩, fun z => by cases z⟩
        · exact ⟨true, ⟨rfl, rfl⟩, fun _ => ⟨List.cons_ne_nil _ _, fun a dd => ⟨_, rfl, dd, _, _, rfl, rfl, rfl, rfl, l2, _, rfl, q2 h⟩⟩, fun z => by cases z⟩
end
end DW


namespace DW
open L2 PyProof.Rows PySem.Spec PySem
/-! ### the greatest grade of a closed set -/
theorem fold_mem {j : Nat → Nat → Nat} {S : Nat → Prop} (hS : ∀ a b, S a → S b → S (j a b)) : ∀ (l : List Nat) (acc : Nat), S acc → (∀ g ∈ l, S g) → S (l.foldl j acc)
  | [], _, h, _ => h
  | g :: l, acc, h, hl => fold_mem hS l (j acc g) (hS _ _ h (hl g (by simp))) fun x hx => hl x (by simp [hx])
theorem fold_up {n : Nat} {j t : Nat → Nat → Nat} {z e : Nat} (r : Reg n j t z e) : ∀ (l : List Nat) (acc : Nat), acc < n → (∀ g ∈ l, g < n) → l.foldl j acc < n ∧ j acc (l.foldl j acc) = l.foldl j acc ∧ ∀ g ∈ l, j g (l.foldl j acc) = l.foldl j acc
  | [], acc, h, _ => ⟨h, r.same acc h, fun _ z => by cases z⟩
  | g :: l, acc, h, hl => by
    have hg : g < n := hl g (by simp)
    have hj := r.jl acc g h hg
    obtain ⟨h1, h2, h3⟩ := fold_up r l (j acc g) hj fun x hx => hl x (by simp [hx])
    show l.foldl j (j acc g) < n ∧ j acc (l.foldl j (j acc g)) = l.foldl j (j acc g) ∧ ∀ x ∈ g :: l, j x (l.foldl j (j acc g)) = l.foldl j (j acc g)
    generalize l.foldl j (j acc g) = F at h1 h2 h3
    have e1 : j acc F = F := by
      have q : j acc (j (j acc g) F) = j (j acc (j acc g)) F := (r.grp acc (j acc g) F h hj h1).symm
      rw [h2, (r.grp acc acc g h h hg).symm, r.same acc h, h2] at q
      exact q
    have e2 : j g F = F := by
      have q : j g (j (j acc g) F) = j (j g (j acc g)) F := (r.grp g (j acc g) F hg hj h1).symm
      rw [h2, r.swap acc g h hg, (r.grp g g acc hg hg h).symm, r.same g hg, r.swap g acc hg h, h2] at q
      exact q
    exact ⟨h1, e1, fun x hx => by
      obtain rfl | hx := List.mem_cons.mp hx
      · exact e2
      · exact h3 x hx⟩
structure Res (n : Nat) (j : Nat → Nat → Nat) (p : Nat → Bool) (r : Nat) : Prop where
  lt : r < n
  at_ : p r = true
  up : ∀ c, c < n → p c = true → j c r = r
  dn : ∀ c, c < n → j c r = r → p c = true
theorem res_of {n : Nat} {j t : Nat → Nat → Nat} {z e : Nat} (r : Reg n j t z e) {p : Nat → Bool} (hz : p z = true) (hj : ∀ c d, c < n → d < n → p c = true → p d = true → p (j c d) = true) (hd : ∀ c d, c < n → d < n → j c d = d → p d = true → p c = true)
    {l : List Nat} (hl : ∀ g, g ∈ l ↔ g < n ∧ p g = true) : Res n j p (l.foldl j z) := by
  obtain ⟨h1, _, h3⟩ := fold_up r l z r.zl fun g hg => ((hl g).mp hg).1
  have h4 := fold_mem (S := fun c => c < n ∧ p c = true) (fun a b ⟨x1, x2⟩ ⟨y1, y2⟩ => ⟨r.jl a b x1 y1, hj a b x1 y1 x2 y2⟩) l z ⟨r.zl, hz⟩ fun g hg => (hl g).mp hg
  exact ⟨h1, h4.2, fun c hc hp => h3 c ((hl c).mpr ⟨hc, hp⟩), fun c hc he => hd c _ hc h1 he h4.2⟩
section
variable {n : Nat} {j t : Nat → Nat → Nat} {z e a b : Nat}
theorem Reg.le_z (r : Reg n j t z e) (h : a < n) : j z a = a := (r.swap z a r.zl h).trans (r.non a h)
theorem Reg.le_tr (r : Reg n j t z e) {c d a : Nat} (hc : c < n) (hd : d < n) (ha : a < n) (h1 : j c d = d) (h2 : j d a = a) : j c a = a := by
  have q := r.grp c d a hc hd ha
  rw [h1, h2] at q; exact q.symm
theorem Reg.le_j (r : Reg n j t z e) {c d a : Nat} (hc : c < n) (hd : d < n) (ha : a < n) (h1 : j c a = a) (h2 : j d a = a) : j (j c d) a = a := by
  rw [r.grp c d a hc hd ha, h2, h1]
def pMeet (j : Nat → Nat → Nat) (a b c : Nat) : Bool := decide (j c a = a) && decide (j c b = b)
def pUnder (j t : Nat → Nat → Nat) (a b c : Nat) : Bool := decide (j (t a c) b = b)
def pOver (j t : Nat → Nat → Nat) (a b c : Nat) : Bool := decide (j (t c a) b = b)
theorem mem_bel {g : Nat} : g ∈ bel n j b ↔ g < n ∧ j g b = b := by unfold bel; rw [List.mem_filter, List.mem_range, decide_eq_true_iff]
theorem res_meet (r : Reg n j t z e) (ha : a < n) (hb : b < n) : Res n j (pMeet j a b) ((meetL n j a b).foldl j z) := by
  refine res_of r ?_ (fun c d hc hd h1 h2 => ?_) (fun c d hc hd h1 h2 => ?_) fun g => ?_
  · unfold pMeet; rw [r.le_z ha, r.le_z hb]; simp
  · unfold pMeet at *
    simp only [Bool.and_eq_true, decide_eq_true_eq] at *
    exact ⟨r.le_j hc hd ha h1.1 h2.1, r.le_j hc hd hb h1.2 h2.2⟩
  · unfold pMeet at *
    simp only [Bool.and_eq_true, decide_eq_true_eq] at *
    exact ⟨r.le_tr hc hd ha h1 h2.1, r.le_tr hc hd hb h1 h2.2⟩
  · unfold meetL pMeet
    rw [List.mem_filter, decide_eq_true_iff, mem_bel, mem_bel, Bool.and_eq_true, decide_eq_true_iff, decide_eq_true_iff]
    exact ⟨fun ⟨⟨h1, h2⟩, _, h3⟩ => ⟨h1, h2, h3⟩, fun ⟨h1, h2, h3⟩ => ⟨⟨h1, h2⟩, h1, h3⟩⟩
theorem res_under (r : Reg n j t z e) (ha : a < n) (hb : b < n) : Res n j (pUnder j t a b) ((underL n j t a b).foldl j z) := by
  have T := fun c hc => r.tl a c ha hc
  refine res_of r ?_ (fun c d hc hd h1 h2 => ?_) (fun c d hc hd h1 h2 => ?_) fun g => ?_
  · unfold pUnder; rw [r.tn2 a ha, r.le_z hb]; simp
  · unfold pUnder at *
    simp only [decide_eq_true_iff] at *
    rw [r.sl a c d ha hc hd]
    exact r.le_j (T c hc) (T d hd) hb h1 h2
  · unfold pUnder at *
    simp only [decide_eq_true_iff] at *
    exact r.le_tr (T c hc) (T d hd) hb (by rw [← r.sl a c d ha hc hd, h1]) h2
  · unfold underL pUnder
    rw [List.mem_filter, decide_eq_true_iff, mem_bel, List.mem_range, decide_eq_true_iff]
    exact ⟨fun ⟨h1, _, h3⟩ => ⟨h1, h3⟩, fun ⟨h1, h3⟩ => ⟨h1, T g h1, h3⟩⟩
theorem res_over (r : Reg n j t z e) (ha : a < n) (hb : b < n) : Res n j (pOver j t a b) ((overL n j t b a).foldl j z) := by
  have T := fun c hc => r.tl c a hc ha
  refine res_of r ?_ (fun c d hc hd h1 h2 => ?_) (fun c d hc hd h1 h2 => ?_) fun g => ?_
  · unfold pOver; rw [r.tn1 a ha, r.le_z hb]; simp
  · unfold pOver at *
    simp only [decide_eq_true_iff] at *
    rw [r.sr c d a hc hd ha]
    exact r.le_j (T c hc) (T d hd) hb h1 h2
  · unfold pOver at *
    simp only [decide_eq_true_iff] at *
    exact r.le_tr (T c hc) (T d hd) hb (by rw [← r.sr c d a hc hd ha, h1]) h2
  · unfold overL pOver
    rw [List.mem_filter, decide_eq_true_iff, mem_bel, List.mem_range, decide_eq_true_iff]
    exact ⟨fun ⟨h1, _, h3⟩ => ⟨h1, h3⟩, fun ⟨h1, h3⟩ => ⟨h1, T g h1, h3⟩⟩
end
theorem Res.eq {n : Nat} {j : Nat → Nat → Nat} {p : Nat → Bool} {r : Nat} (R : Res n j p r) {c : Nat} (hc : c < n) : decide (j c r = r) = decide (c ∈ (List.range n).filter p) := by
  have h : (c ∈ (List.range n).filter p) ↔ j c r = r := by
    rw [List.mem_filter, List.mem_range]
    exact ⟨fun ⟨_, h⟩ => R.up c hc h, fun h => ⟨hc, R.dn c hc h⟩⟩
  by_cases q : j c r = r
  · rw [decide_eq_true q, decide_eq_true (h.mpr q)]
  · rw [decide_eq_false q, decide_eq_false (fun z => q (h.mp z))]
theorem Res.mem {n : Nat} {j : Nat → Nat → Nat} {p : Nat → Bool} {r : Nat} (R : Res n j p r) : r ∈ (List.range n).filter p := List.mem_filter.mpr ⟨List.mem_range.mpr R.lt, R.at_⟩
theorem Res.all {n : Nat} {j : Nat → Nat → Nat} {p : Nat → Bool} {r : Nat} (R : Res n j p r) : ∀ g ∈ (List.range n).filter p, g < n ∧ j g r = r := fun g hg => by
  rw [List.mem_filter, List.mem_range] at hg
  exact ⟨hg.1, R.up g hg.1 hg.2⟩
/-! ### readings -/
theorem lst_strs {ys : List Str} (N : Nms ys) : Lst (ys.map D.str) := lst_of N.nd N.few (fun a ha => sh_up (N.sh ha) (by decide)) fun a _ b _ h => by rw [eqv_str, decide_eq_false h]
theorem ixNm {ys : List Str} (N : Nms ys) {r : Nat} {P : D → Prop} (h : r < ys.length) (p : P (.int (r : Nat))) : ixOk (ys.map D.str) (nmD ys r) P := (lst_strs N).ix (by rw [names_rng, List.getElem?_map, List.getElem?_range h]; rfl) p
theorem kNeB {x y : Bool} {P : D → Prop} (h : P (.bl (!decide (x = y)))) : kEq true (.bl x) (.bl y) P := by
  refine ⟨(Sh.bl _).ok, (Sh.bl _).ok, ?_⟩
  rw [if_pos rfl]
  have e : PyData.eqv (D.bl x).pd (D.bl y).pd = decide (x = y) := by
    rw [D.pd, D.pd]; cases x <;> cases y <;> simp [PyData.eqv]
  rw [e]; exact h
theorem kNeS {x y : Str} {P : D → Prop} (hx : Sh 0 (.str x)) (hy : Sh 0 (.str y)) (h : P (.bl (!decide (x = y)))) : kEq true (.str x) (.str y) P := by
  refine ⟨hx.ok, hy.ok, ?_⟩
  rw [eqv_str, if_pos rfl]
  exact h
theorem no_nm {y : Str} {d : Nat} (h : LNm0 y d) : y ≠ ("no1" : Str) ∧ y ≠ ("no2" : Str) := by
  obtain ⟨l, a, b, r, e, _, h2, _⟩ := h
  constructor
  · rintro rfl
    have e2 : (("no1" : Str)).cps.toList = [110, 111, 49] := by decide +kernel
    rw [e2] at e
    simp only [List.cons.injEq] at e
    obtain ⟨_, rfl, _⟩ := e
    unfold digC at h2; omega
  · rintro rfl
    have e2 : (("no2" : Str)).cps.toList = [110, 111, 50] := by decide +kernel
    rw [e2] at e
    simp only [List.cons.injEq] at e
    obtain ⟨_, rfl, _⟩ := e
    unfold digC at h2; omega
end DW


namespace DW
open L2 PyProof.Rows PySem.Spec PySem
def lawRest : List Stmt := (defBody s_law).drop 1
theorem sc_law : FnScope ["script", "source", "scale", "made", "names", "every", "then", "a", "b", "meet", "right", "left", "both", "c", "behind", "ahead", "way"] ["script"] (defScope s_law) := ⟨rfl, rfl, rfl, by decide +kernel, rfl, by decide +kernel, by decide +kernel⟩
abbrev lwE (o0 : Option Sl) (so cT : Addr) (ys : List Str) (j t : Nat → Nat → Nat) (z e : Nat) (c7 c8 c9 c10 c11 c12 c13 c14 c15 c16 : Option Sl) : Ev := [o0, some (.dat (.ref so)), some (.dat (.dct (scD (.lst (ys.map D.str)) ys.length j t z e))), some (.dat (.ins cT (scaleF ys j t z e))), some (.dat (.lst (ys.map D.str))), some (.dat (.lst ((List.range ys.length).map natD))), some (.dat (matD ys.length t)), c7, c8, c9, c10, c11, c12, c13, c14, c15, c16]
theorem aNil_ok {ε : Ev} {P : List D → Prop} {Z : Ex → Prop} (h : P []) : aNil ε P Z := h
theorem aC_ok {d : D} {r : WA} {ε : Ev} {P : List D → Prop} {Z : Ex → Prop} (h : r ε (fun ds => P (d :: ds)) Z) : aCons (wC d) r ε P Z := h
theorem wNeS {x y : Str} {P : D → Prop} {ε : Ev} {Z : Ex → Prop} (hx : Short x) (e : x = y) (h : P (.bl false)) : wC (.str y) ε (fun v => kEq true (.str x) v P) Z := by
  subst e
  exact kNeS (Sh.str hx) (Sh.str hx) (by rw [decide_eq_true rfl]; exact h)
theorem lookOk {cT cU : Addr} {fld : Str} {fs : List (Str × D)} {ys : List Str} {h : Nat → Nat → Nat} {a b : Nat} {P : D → Prop} {Z : Ex → Prop} (N : Nms ys) (hl : fs.lookup fld = some (tabN ys h)) (ha : a < ys.length) (hb : b < ys.length) (p : P (nmD ys (h a b))) : spLook cT cU fld [.ins cT fs, nmD ys a, nmD ys b] P Z :=
  ⟨fs, ys, fun a b => nmD ys (h a b), nmS ys a, nmS ys b, rfl, hl, N.nd, N.short (N.mem ha), N.short (N.mem hb), fun a' b' h1 h2 => by rw [N.ix ha h1, N.ix hb h2]; exact p, fun hn => absurd (N.mem ha) hn, fun _ hn => absurd (N.mem hb) hn⟩
section
variable {P : Program} {w : World} {K : PySem.W.Frag} {mg : Str → Option Value} {base : Heap} {f : Addr} {fd : FuncData} {cT cU cB : Addr} {T : Tb} {tT : D → Value → Bool → Prop}
theorem law_rest (bi : Bi mg) (mMeet : Mth P w K mg base 6 (OkT cT) "meet" (liftP K (spLook cT cU "_meets"))) (mUnder : Mth P w K mg base 6 (OkT cT) "under" (liftP K (spLook cT cU "_unders"))) (mOver : Mth P w K mg base 6 (OkT cT) "over" (liftP K (spLook cT cU "_overs"))) (mWithin : Mth P w K mg base 7 (OkT cT) "within" (liftP K (spWithin cT))) (mGrades : Mth P w K mg base 2 (OkT cT) "grades" (liftP K (spGrades cT))) (cSc : Clb P w K mg base 7 "_law_scale" (liftG K (fun i : Addr × Addr => mdS i.1 i.2 T) spScale)) (cMS : Clb P w K mg base 12 "_law_made_scale" (liftP K (spMadeT cT))) (cEv : Clb P w K mg base 2 "_law_every" (liftP K spEvery)) (cWi : Clb P w K mg base 2 "_law_within" (liftP K spWithinL)) (cGr : Clb P w K mg base 3 "_law_greatest" (liftP K spGreatest)) (cSd : Clb P w K mg base 7 "_law_said" (liftP K (spSaid cT))) (gB : mg "Scale" = some (.ref cB)) (tabT : TabT K fun e t b => e = .ref cB ∧ t = .ref cT ∧ b = true) (ix : Addr × Addr) (cdv : Value) (A : Around) (outer : List Env) (sh : Shared) (H : Hp) (E : XK) (hr : Room 12 (A.deeper (envOfC "law" (defScope s_law) sh.heap.objs.size f cdv))) :
    ∃ G : WS, (∀ F : Fx, F.m = mdS ix.1 ix.2 T → PSs (cxOf (L2.CX P w) P w K mg base ["script", "source", "scale", "made", "names", "every", "then", "a", "b", "meet", "right", "left", "both", "c", "behind", "ahead", "way"] "law" (defScope s_law) f cdv A outer sh H E) lawRest (tS K F (Wd E) G)) ∧ ∀ (o0 : Option Sl) (N : En), N.rt (.bl true) → G [o0, some (.dat (.ref ix.1)), none, none, none, none, none, none, none, none, none, none, none, none, none, none, none] N := by
  have sc := sc_law
  have hu := hu_of hr
  have hu4 := hr.units
  have hu5 : (A.deeper (envOfC "law" (defScope s_law) sh.heap.objs.size f cdv)).units + 65 < cLine := by have := hr.un; omega
  have hp := @owns_cx P w K mg base f (L2.CX P w) ["script", "source", "scale", "made", "names", "every", "then", "a", "b", "meet", "right", "left", "both", "c", "behind", "ahead", "way"] "law" (defScope s_law) cdv A outer sh H E
  have tk := @takes_cx P w K mg base f ["script", "source", "scale", "made", "names", "every", "then", "a", "b", "meet", "right", "left", "both", "c", "behind", "ahead", "way"] "law" (defScope s_law) cdv A outer sh H E
  refine' ⟨_, fun F hF => (?body : PSs _ _ _), ?fin⟩
  case body =>
    show PSs _ [_, _, _, _, _, _, _, _] _
    refine' ssCons ?s1 (ssCons ?s2 (ssCons ?s3 (ssCons ?s4 (ssCons ?s5 (ssCons ?s6 (ssCons ?s7 (ssOne ?s8)))))))
    case s1 => exact psSet sc.nd (i := 2) (by rfl) (by first | exact Or.inl rfl | exact Or.inr rfl) (dCall (mf := fun i : Addr × Addr => mdS i.1 i.2 T) (s := spScale) ix (by exact sub_eq hF) (by exact cSc) (by exact hr.mono (by decide)) (by exact tk) (by rfl) (daCons (dVar 1 (pv 1)) (daCons (dInt) (daNil))))
    case s2 => exact psSet sc.nd (i := 3) (by rfl) (by first | exact Or.inl rfl | exact Or.inr rfl) (dCall (mf := fun _ : Unit => md0) (s := fun _ => spMadeT cT) () sub0 (by exact cMS) (by exact hr.mono (by decide)) (by exact tk) (by rfl) (daCons (dVar 2 (pv 2)) (daNil)))
    case s3 => exact psSet sc.nd (i := 4) (by rfl) (by first | exact Or.inl rfl | exact Or.inr rfl) (dGet (by exact hu) (bor (dVar 2 (pv 2))) (bor (dStr)))
    case s4 => exact psSet sc.nd (i := 5) (by rfl) (by first | exact Or.inl rfl | exact Or.inr rfl) (dCall (mf := fun _ : Unit => md0) (s := fun _ => spEvery) () sub0 (by exact cEv) (by exact hr.mono (by decide)) (by exact tk) (by rfl) (daCons (dVar 2 (pv 2)) (daNil)))
    case s5 => exact psSet sc.nd (i := 6) (by rfl) (by first | exact Or.inl rfl | exact Or.inr rfl) (dGet (by exact hu) (bor (dVar 2 (pv 2))) (bor (dStr)))
    case s6 => exact psFor (by exact hp) (by rfl) (dIterL (dVar 5 (pv 5))) (tgName (pg_name sc.nd (i := 7) (by rfl) (by first | exact Or.inl rfl | exact Or.inr rfl))) (ssOne (psFor (by exact hp) (by rfl) (dIterL (dVar 5 (pv 5))) (tgName (pg_name sc.nd (i := 8) (by rfl) (by first | exact Or.inl rfl | exact Or.inr rfl))) (ssCons (psSet sc.nd (i := 9) (by rfl) (by first | exact Or.inl rfl | exact Or.inr rfl) (dIdx (by exact hu5) (bor (dVar 4 (pv 4))) (bor (dMeth (mf := fun _ : Unit => md0) (s := fun _ => spLook cT cU "_meets") () sub0 (by exact mMeet) (by exact hr.mono (by decide)) (by exact tk) (dVar 3 (pv 3)) (daCons (dIx (bor (dVar 4 (pv 4))) (bor (dVar 7 (pv 7)))) (daCons (dIx (bor (dVar 4 (pv 4))) (bor (dVar 8 (pv 8)))) (daNil))))))) (ssCons (psSet sc.nd (i := 10) (by rfl) (by first | exact Or.inl rfl | exact Or.inr rfl) (dIdx (by exact hu5) (bor (dVar 4 (pv 4))) (bor (dMeth (mf := fun _ : Unit => md0) (s := fun _ => spLook cT cU "_unders") () sub0 (by exact mUnder) (by exact hr.mono (by decide)) (by exact tk) (dVar 3 (pv 3)) (daCons (dIx (bor (dVar 4 (pv 4))) (bor (dVar 7 (pv 7)))) (daCons (dIx (bor (dVar 4 (pv 4))) (bor (dVar 8 (pv 8)))) (daNil))))))) (ssCons (psSet sc.nd (i := 11) (by rfl) (by first | exact Or.inl rfl | exact Or.inr rfl) (dIdx (by exact hu5) (bor (dVar 4 (pv 4))) (bor (dMeth (mf := fun _ : Unit => md0) (s := fun _ => spLook cT cU "_overs") () sub0 (by exact mOver) (by exact hr.mono (by decide)) (by exact tk) (dVar 3 (pv 3)) (daCons (dIx (bor (dVar 4 (pv 4))) (bor (dVar 8 (pv 8)))) (daCons (dIx (bor (dVar 4 (pv 4))) (bor (dVar 7 (pv 7)))) (daNil))))))) (ssCons (psLc (by rfl) sc.nd (i := 12) (by rfl) (by rfl) (by rfl) (dIterL (dVar 5 (pv 5))) (own := [("c", 13)]) (by exact blkOk_by (show blkC ["script", "source", "scale", "made", "names", "every", "then", "a", "b", "meet", "right", "left", "both", "c", "behind", "ahead", "way"] (defScope s_law) _ _ = true from by decide +kernel)) (fun _ _ _ _ _ => tgName (pg_name sc.nd (i := 13) (by rfl) (by first | exact Or.inl rfl | exact Or.inr rfl))) (fun _ _ _ _ _ => tsOne (PW.pt (wwAnd (tVal (dCall (mf := fun _ : Unit => md0) (s := fun _ => spWithinL) () sub0 (by exact cWi) (by exact hr.mono (by decide)) (by exact L2.takes0) (by rfl) (daCons (dVar 2 (pv 2)) (daCons (dVar 13 (pv 13)) (daCons (dVar 7 (pv 7)) (daNil)))))) (wwAnd1 (tVal (dCall (mf := fun _ : Unit => md0) (s := fun _ => spWithinL) () sub0 (by exact cWi) (by exact hr.mono (by decide)) (by exact L2.takes0) (by rfl) (daCons (dVar 2 (pv 2)) (daCons (dVar 13 (pv 13)) (daCons (dVar 8 (pv 8)) (daNil)))))))))) (fun _ _ _ _ _ => dVar 13 (pv 13))) (ssFrz 12 (ssCons (psLc (by rfl) sc.nd (i := 14) (by rfl) (by rfl) (by rfl) (dIterL (dVar 5 (pv 5))) (own := [("c", 13)]) (by exact blkOk_by (show blkC ["script", "source", "scale", "made", "names", "every", "then", "a", "b", "meet", "right", "left", "both", "c", "behind", "ahead", "way"] (defScope s_law) _ _ = true from by decide +kernel)) (fun _ _ _ _ _ => tgName (pg_name sc.nd (i := 13) (by rfl) (by first | exact Or.inl rfl | exact Or.inr rfl))) (fun _ _ _ _ _ => tsOne (tVal (dCall (mf := fun _ : Unit => md0) (s := fun _ => spWithinL) () sub0 (by exact cWi) (by exact hr.mono (by decide)) (by exact L2.takes0) (by rfl) (daCons (dVar 2 (pv 2)) (daCons (dIx (bor (dIx (bor (dVar 6 (pv 6))) (bor (dVar 7 (pv 7))))) (bor (dVar 13 (pv 13)))) (daCons (dVar 8 (pv 8)) (daNil))))))) (fun _ _ _ _ _ => dVar 13 (pv 13))) (ssFrz 14 (ssCons (psLc (by rfl) sc.nd (i := 15) (by rfl) (by rfl) (by rfl) (dIterL (dVar 5 (pv 5))) (own := [("c", 13)]) (by exact blkOk_by (show blkC ["script", "source", "scale", "made", "names", "every", "then", "a", "b", "meet", "right", "left", "both", "c", "behind", "ahead", "way"] (defScope s_law) _ _ = true from by decide +kernel)) (fun _ _ _ _ _ => tgName (pg_name sc.nd (i := 13) (by rfl) (by first | exact Or.inl rfl | exact Or.inr rfl))) (fun _ _ _ _ _ => tsOne (tVal (dCall (mf := fun _ : Unit => md0) (s := fun _ => spWithinL) () sub0 (by exact cWi) (by exact hr.mono (by decide)) (by exact L2.takes0) (by rfl) (daCons (dVar 2 (pv 2)) (daCons (dIx (bor (dIx (bor (dVar 6 (pv 6))) (bor (dVar 13 (pv 13))))) (bor (dVar 7 (pv 7)))) (daCons (dVar 8 (pv 8)) (daNil))))))) (fun _ _ _ _ _ => dVar 13 (pv 13))) (ssFrz 15 (ssCons (psIf (PW.pt (wwOr (tNotD (tVal (dCall (mf := fun _ : Unit => md0) (s := fun _ => spGreatest) () sub0 (by exact cGr) (by exact hr.mono (by decide)) (by exact tk) (by rfl) (daCons (dVar 2 (pv 2)) (daCons (dVar 9 (pv 9)) (daCons (dVar 12 (pv 12)) (daNil))))))) (wwOr1 (tNotD (tVal (dCall (mf := fun _ : Unit => md0) (s := fun _ => spGreatest) () sub0 (by exact cGr) (by exact hr.mono (by decide)) (by exact tk) (by rfl) (daCons (dVar 2 (pv 2)) (daCons (dVar 10 (pv 10)) (daCons (dVar 14 (pv 14)) (daNil)))))))))) (ssOne (psRet (dBl))) (ssNil)) (ssCons (psIf (tNotD (tVal (dCall (mf := fun _ : Unit => md0) (s := fun _ => spGreatest) () sub0 (by exact cGr) (by exact hr.mono (by decide)) (by exact tk) (by rfl) (daCons (dVar 2 (pv 2)) (daCons (dVar 11 (pv 11)) (daCons (dVar 15 (pv 15)) (daNil))))))) (ssOne (psRet (dBl))) (ssNil)) (ssOne (psFor (by exact hp) (by rfl) (dIterL (dVar 5 (pv 5))) (tgName (pg_name sc.nd (i := 13) (by rfl) (by first | exact Or.inl rfl | exact Or.inr rfl))) (ssCons (psIf (tNe (by exact hu4) (bor (dMeth (mf := fun _ : Unit => md0) (s := fun _ => spWithin cT) () sub0 (by exact mWithin) (by exact hr.mono (by decide)) (by exact tk) (dVar 3 (pv 3)) (daCons (dIx (bor (dVar 4 (pv 4))) (bor (dVar 13 (pv 13)))) (daCons (dIx (bor (dVar 4 (pv 4))) (bor (dVar 10 (pv 10)))) (daNil))))) (bor (dIn (by exact hu5) (bor (dVar 13 (pv 13))) (bor (dVar 14 (pv 14)))))) (ssOne (psRet (dBl))) (ssNil)) (ssOne (psIf (tNe (by exact hu4) (bor (dMeth (mf := fun _ : Unit => md0) (s := fun _ => spWithin cT) () sub0 (by exact mWithin) (by exact hr.mono (by decide)) (by exact tk) (dVar 3 (pv 3)) (daCons (dIx (bor (dVar 4 (pv 4))) (bor (dVar 13 (pv 13)))) (daCons (dIx (bor (dVar 4 (pv 4))) (bor (dVar 11 (pv 11)))) (daNil))))) (bor (dIn (by exact hu5) (bor (dVar 13 (pv 13))) (bor (dVar 15 (pv 15)))))) (ssOne (psRet (dBl))) (ssNil)))))))))))))))))))
    case s7 => exact psFor (by exact hp) (by rfl) (dIterR1 (by rfl) (by exact bi.range) (daCons (dInt) (daNil))) (tgName (pg_name sc.nd (i := 16) (by rfl) (by first | exact Or.inl rfl | exact Or.inr rfl))) (ssOne (psIf (PW.pt (wwOr (tNe (by exact hu4) (bor (dCall (mf := fun _ : Unit => md0) (s := fun _ => spSaid cT) () sub0 (by exact cSd) (by exact hr.mono (by decide)) (by exact tk) (by rfl) (daCons (dVar 3 (pv 3)) (daCons (dVar 16 (pv 16)) (daCons (dStr) (daCons (dStr) (daNil))))))) (bor (dStr))) (wwOr1 (tNe (by exact hu4) (bor (dCall (mf := fun _ : Unit => md0) (s := fun _ => spSaid cT) () sub0 (by exact cSd) (by exact hr.mono (by decide)) (by exact tk) (by rfl) (daCons (dVar 3 (pv 3)) (daCons (dVar 16 (pv 16)) (daCons (dIx (bor (dVar 4 (pv 4))) (bor (dInt))) (daCons (dStr) (daNil))))))) (bor (dStr)))))) (ssOne (psRet (dBl))) (ssNil)))
    case s8 => exact psRet (dAnd (dCl (ta := fun p => pe_callB call_isi (by rfl) (by exact bi.isinstance) boot_isinstance p) (clIsT (by exact tabT)) (dbCons (bor (dVar 3 (pv 3))) (dbCons (bor (dGlo (by rfl) (by exact gB))) (dbNil)))) (dOne (dEq (by exact hu4) (bor (dMeth0 (mf := fun _ : Unit => md0) (s := fun _ => spGrades cT) () sub0 (by exact mGrades) (by exact hr.mono (by decide)) (by exact tk) (dVar 3 (pv 3)))) (bor (dVar 4 (pv 4))))))
  case fin =>
    intro o0 En q
    refine ⟨_, rfl, 9, rfl, by decide, by decide, fun n j t z e ys hn rg hl ok nd => ?_⟩
    subst hl
    have N : Nms ys := ⟨fun y h => (ok y h).elim fun _ z => z.short, nd, Nat.lt_of_le_of_lt (Nat.zero_le _) rg.zl, by omega⟩
    refine ⟨_, rfl, ys, j, t, z, e, rfl, N, fun y h => (ok y h).elim fun _ z => z.plain, rg.jl, rg.tl, rg.zl, rg.el, ?_⟩
    refine ⟨_, rfl, _, _, _, rfl, rfl, sc_names, ?_⟩
    refine ⟨_, rfl, _, ys.length, j, t, z, e, rfl, N.few, ?_⟩
    refine ⟨_, rfl, _, _, _, rfl, rfl, sc_then, ?_⟩
    have hno1 : ("no1" : Str) ∉ ys := fun h => by obtain ⟨d, hd⟩ := ok _ h; exact (no_nm hd).1 rfl
    have hno2 : ("no2" : Str) ∉ ys := fun h => by obtain ⟨d, hd⟩ := ok _ h; exact (no_nm hd).2 rfl
    have hsize : ys.length ≤ 16777216 := by omega
    refine ⟨_, rfl, _, .inl rfl, ?_⟩
    refine forW_list (l := List.range ys.length) natD (fun _ ε => ∃ c7 c8 c9 c10 c11 c12 c13 c14 c15 c16, ε = lwE o0 ix.1 cT ys j t z e c7 c8 c9 c10 c11 c12 c13 c14 c15 c16) ⟨_, _, _, _, _, _, _, _, _, _, rfl⟩ ?last (fun done a ⟨rr, ea⟩ ε ⟨c7, c8, c9, c10, c11, c12, c13, c14, c15, c16, e0⟩ KK hK => ?_)
    case last =>
      rintro ε ⟨c7, c8, c9, c10, c11, c12, c13, c14, c15, c16, rfl⟩
      refine ⟨_, rfl, by decide, by decide, ?_⟩
      rw [show Int.toNat 3 = 3 from rfl]
      refine forW_rng (n := 3) (fun _ ε => ∃ c16, ε = lwE o0 ix.1 cT ys j t z e c7 c8 c9 c10 c11 c12 c13 c14 c15 c16) ⟨_, rfl⟩ (fun ε ⟨c16, e0⟩ => ?_) (fun i hi ε ⟨c16, e0⟩ KK hK => ?_)
      · subst e0
        refine ⟨_, rfl, aC_ok (aNil_ok ⟨true, ⟨rfl, rfl, rfl⟩, true, rfl, ?_⟩)⟩
        rw [if_pos rfl]
        refine ⟨_, rfl, _, _, rfl, rfl, rfl, _, ys, rfl, rfl, _, rfl, ?_⟩
        have shN : Sh 1 (.lst (ys.map D.str)) := Sh.lst fun x hx => by
          rcases List.mem_map.mp hx with ⟨y, hy, rfl⟩
          exact N.sh hy
        refine ⟨shN.ok, shN.ok, ?_⟩
        rw [if_neg (by decide), shN.eqv]
        exact q
      · subst e0
        have s1 : Short ("no1" : Str) := ⟨by decide +kernel, by decide +kernel⟩
        have s2 : Short ("no2" : Str) := ⟨by decide +kernel, by decide +kernel⟩
        refine ⟨_, rfl, _, rfl, aC_ok (aC_ok (aNil_ok ⟨ys, j, t, z, e, i, "no1", "no2", rfl, N, hi, s1, s2, fun h => absurd h hno1, fun _ => ?_, fun h => absurd h hno1⟩))⟩
        have s3 : Short (("no " : Str) ++ ("no1" : Str)) := ⟨by decide +kernel, by decide +kernel⟩
        have s4 : Short (("no " : Str) ++ ("no2" : Str)) := ⟨by decide +kernel, by decide +kernel⟩
        refine wNeS s3 (by decide +kernel) ⟨_, rfl, ?_⟩
        refine ite2 (fun w1 => by cases w1) fun _ => ?_
        refine ⟨_, rfl, _, rfl, _, rfl, kIxL 0 rfl (str_at N.pos) (aC_ok (aNil_ok ⟨ys, j, t, z, e, i, nmS ys 0, "no2", rfl, N, hi, N.short (N.mem N.pos), s2, fun _ => hno2, fun h => absurd (N.mem N.pos) h, fun _ => ?_⟩))⟩
        refine wNeS s4 (by decide +kernel) ⟨_, rfl, ?_⟩
        refine ite2 (fun w1 => by cases w1) fun _ => ?_
        exact hK _ ⟨_, rfl⟩
    subst e0
    have ha : a < ys.length := List.mem_range.mp (by rw [← ea]; simp)
    refine ⟨_, rfl, _, .inl rfl, ?_⟩
    refine forW_list (l := List.range ys.length) natD (fun _ ε => ∃ c8 c9 c10 c11 c12 c13 c14 c15 c16, ε = lwE o0 ix.1 cT ys j t z e (some (.dat (natD a))) c8 c9 c10 c11 c12 c13 c14 c15 c16) ⟨_, _, _, _, _, _, _, _, _, rfl⟩ (fun ε ⟨c8, c9, c10, c11, c12, c13, c14, c15, c16, e0⟩ => hK _ ⟨_, _, _, _, _, _, _, _, _, _, e0⟩) (fun done2 b ⟨rr2, eb⟩ ε ⟨c8, c9, c10, c11, c12, c13, c14, c15, c16, e0⟩ KK2 hK2 => ?_)
    subst e0
    have hb : b < ys.length := List.mem_range.mp (by rw [← eb]; simp)
    have R1 : Res ys.length j (pMeet j a b) (quoN ys j z (meetL ys.length j) a b) := res_meet rg ha hb
    have R2 : Res ys.length j (pUnder j t a b) (quoN ys j z (underL ys.length j t) a b) := res_under rg ha hb
    have R3 : Res ys.length j (pOver j t a b) (quoN ys j z (overL ys.length j t) b a) := res_over rg ha hb
    refine ⟨_, rfl, _, .inl rfl, _, rfl, _, _, rfl, rfl, rfl, _, rfl, _, rfl, kIxL a rfl (str_at ha) ⟨_, rfl, _, rfl, kIxL b rfl (str_at hb) (aNil_ok (lookOk N rfl ha hb (ixNm N R1.lt ?_)))⟩⟩
    refine ⟨_, rfl, _, .inl rfl, _, rfl, _, _, rfl, rfl, rfl, _, rfl, _, rfl, kIxL a rfl (str_at ha) ⟨_, rfl, _, rfl, kIxL b rfl (str_at hb) (aNil_ok (lookOk N rfl ha hb (ixNm N R2.lt ?_)))⟩⟩
    refine ⟨_, rfl, _, .inl rfl, _, rfl, _, _, rfl, rfl, rfl, _, rfl, _, rfl, kIxL b rfl (str_at hb) ⟨_, rfl, _, rfl, kIxL a rfl (str_at ha) (aNil_ok (lookOk N rfl hb ha (ixNm N R3.lt ?_)))⟩⟩
    generalize quoN ys j z (meetL ys.length j) a b = m1 at R1 ⊢
    generalize quoN ys j z (underL ys.length j t) a b = m2 at R2 ⊢
    generalize quoN ys j z (overL ys.length j t) b a = m3 at R3 ⊢
    dsimp only [gNm]
    show sSeq _ _ (lwE o0 ix.1 cT ys j t z e (some (.dat (natD a))) (some (.dat (natD b))) (some (.dat (natD m1))) (some (.dat (natD m2))) (some (.dat (natD m3))) c12 c13 c14 c15 c16) _
    refine ⟨_, rfl, _, .inl rfl, ?_⟩
    refine lc_lflt (l := List.range ys.length) (pMeet j a b) natD natD (by rw [List.length_range]; exact hsize) (fun c hc S TT hS hT => ?_) ?_
    · have hc := List.mem_range.mp hc
      refine ⟨_, rfl, _, rfl, _, rfl, aNil_ok ⟨_, _, j, t, z, e, c, a, rfl, hc, ha, _, rfl, ?_⟩⟩
      refine ite2 (fun w1 => ?_) fun w1 => hT (by unfold pMeet; rw [Bool.eq_false_iff.mpr w1]; rfl)
      refine ⟨_, rfl, _, rfl, _, rfl, aNil_ok ⟨_, _, j, t, z, e, c, b, rfl, hc, hb, _, rfl, ?_⟩⟩
      exact ite2 (fun w2 => ⟨_, rfl, hS (by unfold pMeet; rw [w1, w2]; rfl)⟩) fun w2 => hT (by unfold pMeet; rw [Bool.eq_false_iff.mpr w2, Bool.and_false])
    refine ⟨_, rfl, ?_⟩
    show sSeq _ _ (lwE o0 ix.1 cT ys j t z e (some (.dat (natD a))) (some (.dat (natD b))) (some (.dat (natD m1))) (some (.dat (natD m2))) (some (.dat (natD m3))) (some (.dat (.lst (((List.range ys.length).filter (pMeet j a b)).map natD)))) c13 c14 c15 c16) _
    refine ⟨_, rfl, _, .inl rfl, ?_⟩
    refine lc_lflt (l := List.range ys.length) (pUnder j t a b) natD natD (by rw [List.length_range]; exact hsize) (fun c hc S TT hS hT => ?_) ?_
    · have hc := List.mem_range.mp hc
      refine ⟨_, rfl, _, rfl, _, rfl, kIxL a rfl (mat_row ha) ⟨_, rfl, kIxL c rfl (row_at hc) ⟨_, rfl, aNil_ok ⟨_, _, j, t, z, e, t a c, b, rfl, rg.tl a c ha hc, hb, _, rfl, ?_⟩⟩⟩⟩
      exact ite2 (fun w1 => ⟨_, rfl, hS w1⟩) fun w1 => hT (Bool.eq_false_iff.mpr w1)
    refine ⟨_, rfl, ?_⟩
    show sSeq _ _ (lwE o0 ix.1 cT ys j t z e (some (.dat (natD a))) (some (.dat (natD b))) (some (.dat (natD m1))) (some (.dat (natD m2))) (some (.dat (natD m3))) (some (.dat (.lst (((List.range ys.length).filter (pMeet j a b)).map natD)))) c13 (some (.dat (.lst (((List.range ys.length).filter (pUnder j t a b)).map natD)))) c15 c16) _
    refine ⟨_, rfl, _, .inl rfl, ?_⟩
    refine lc_lflt (l := List.range ys.length) (pOver j t a b) natD natD (by rw [List.length_range]; exact hsize) (fun c hc S TT hS hT => ?_) ?_
    · have hc := List.mem_range.mp hc
      refine ⟨_, rfl, _, rfl, _, rfl, kIxL c rfl (mat_row hc) ⟨_, rfl, kIxL a rfl (row_at ha) ⟨_, rfl, aNil_ok ⟨_, _, j, t, z, e, t c a, b, rfl, rg.tl c a hc ha, hb, _, rfl, ?_⟩⟩⟩⟩
      exact ite2 (fun w1 => ⟨_, rfl, hS w1⟩) fun w1 => hT (Bool.eq_false_iff.mpr w1)
    refine ⟨_, rfl, ?_⟩
    show sSeq _ _ (lwE o0 ix.1 cT ys j t z e (some (.dat (natD a))) (some (.dat (natD b))) (some (.dat (natD m1))) (some (.dat (natD m2))) (some (.dat (natD m3))) (some (.dat (.lst (((List.range ys.length).filter (pMeet j a b)).map natD)))) c13 (some (.dat (.lst (((List.range ys.length).filter (pUnder j t a b)).map natD)))) (some (.dat (.lst (((List.range ys.length).filter (pOver j t a b)).map natD)))) c16) _
    have hlen : ∀ p : Nat → Bool, ((List.range ys.length).filter p).length ≤ 1000 := fun p => Nat.le_trans (List.length_filter_le _ _) (by rw [List.length_range]; omega)
    refine ⟨_, rfl, _, rfl, _, rfl, aNil_ok ⟨_, ys.length, j, t, z, e, m1, _, rfl, R1.lt, hlen _, R1.mem, R1.all, _, rfl, ?_⟩⟩
    refine ite2 (fun w1 => absurd w1 (by decide)) fun _ => ?_
    refine ⟨_, rfl, _, rfl, _, rfl, aNil_ok ⟨_, ys.length, j, t, z, e, m2, _, rfl, R2.lt, hlen _, R2.mem, R2.all, _, rfl, ?_⟩⟩
    refine ite2 (fun w1 => absurd w1 (by decide)) fun _ => ?_
    refine ⟨_, rfl, _, rfl, _, rfl, aNil_ok ⟨_, ys.length, j, t, z, e, m3, _, rfl, R3.lt, hlen _, R3.mem, R3.all, _, rfl, ?_⟩⟩
    refine ite2 (fun w1 => absurd w1 (by decide)) fun _ => ?_
    refine ⟨_, rfl, _, .inl rfl, ?_⟩
    refine forW_list (l := List.range ys.length) natD (fun _ ε => ∃ c13, ε = lwE o0 ix.1 cT ys j t z e (some (.dat (natD a))) (some (.dat (natD b))) (some (.dat (natD m1))) (some (.dat (natD m2))) (some (.dat (natD m3))) (some (.dat (.lst (((List.range ys.length).filter (pMeet j a b)).map natD)))) c13 (some (.dat (.lst (((List.range ys.length).filter (pUnder j t a b)).map natD)))) (some (.dat (.lst (((List.range ys.length).filter (pOver j t a b)).map natD)))) c16) ⟨_, rfl⟩ (fun ε ⟨c13, e0⟩ => hK2 _ ⟨_, _, _, _, _, _, _, _, _, e0⟩) (fun done3 c ⟨rr3, ec⟩ ε ⟨c13, e0⟩ KK3 hK3 => ?_)
    subst e0
    have hc : c < ys.length := List.mem_range.mp (by rw [← ec]; simp)
    refine ⟨_, rfl, _, _, rfl, rfl, rfl, _, rfl, _, rfl, kIxL c rfl (str_at hc) ⟨_, rfl, _, rfl, kIxL m2 rfl (str_at R2.lt) (aNil_ok ⟨_, ys, j, c, m2, rfl, rfl, rfl, N, rg.jl, hc, R2.lt, _, rfl, _, rfl, kInN0 (kNeB ⟨_, rfl, ?_⟩)⟩)⟩⟩
    rw [R2.eq hc]
    refine ite2 (fun w1 => absurd w1 (by simp)) fun _ => ?_
    refine ⟨_, rfl, _, _, rfl, rfl, rfl, _, rfl, _, rfl, kIxL c rfl (str_at hc) ⟨_, rfl, _, rfl, kIxL m3 rfl (str_at R3.lt) (aNil_ok ⟨_, ys, j, c, m3, rfl, rfl, rfl, N, rg.jl, hc, R3.lt, _, rfl, _, rfl, kInN0 (kNeB ⟨_, rfl, ?_⟩)⟩)⟩⟩
    rw [R3.eq hc]
    refine ite2 (fun w1 => absurd w1 (by simp)) fun _ => ?_
    exact hK3 _ ⟨_, rfl⟩

end
end DW


namespace DW
open L2 PyProof.Rows PySem.Spec PySem
theorem pss_ex {ι : Type} {X : Cx} {sts : List Stmt} {t : ι → TS} (h : ∀ i, PSs X sts (t i)) : PSs X sts (fun D σ H => ∃ i, t i D σ H) := ⟨fun pins s σ H D I ⟨i, z⟩ => (h i).run pins s σ H D I z⟩
def spLaw (K : PySem.W.Frag) (T : Tb) : Sp := fun vs H Q _ => ∃ (a : Addr) (ns : List Int), vs = [.ref a] ∧ SqL K H a (ns.map V.int) ∧ ns.length ≤ 1000 ∧ LamX.Tabs T H ∧ ∀ H', Q (.bl true) H'
theorem ints_at {K : PySem.W.Frag} {A : Addr → Prop} {H : Hp} : ∀ {ns : List Int} {ws : List V}, Dats K A H (ns.map D.int) ws → ws = ns.map V.int
  | [], _, b => by cases b; rfl
  | y :: ys, _, b => by
    cases b with
    | cons b t =>
      cases b
      rw [ints_at t]
      rfl
theorem dats_ints {K : PySem.W.Frag} {A : Addr → Prop} {H : Hp} : ∀ ns : List Int, Dats K A H (ns.map D.int) (ns.map V.int)
  | [] => .nil
  | n :: ns => .cons (.int n) (dats_ints ns)
theorem pairs_eq {α β : Type} : ∀ {xs ys : List (α × β)}, xs.map (·.1) = ys.map (·.1) → xs.map (·.2) = ys.map (·.2) → xs = ys
  | [], [], _, _ => rfl
  | [], _ :: _, e, _ => by cases e
  | _ :: _, [], e, _ => by cases e
  | (a, b) :: xs, (a', b') :: ys, e1, e2 => by
    simp only [List.map_cons, List.cons.injEq] at e1 e2
    rw [e1.1, e2.1, pairs_eq e1.2 e2.2]
/-- the source as it was handed out -/
theorem src_of {K : PySem.W.Frag} {A : Addr → Prop} {H : Hp} {cs : List Int} {m : Int} {v : V} (b : Dat K A H (.dct (srcD cs m)) v) : ∃ so co, v = .ref so ∧ Src so co 0 H := by
  cases b with
  | @dct a _ kws na h hk hs =>
    have hs : Dats K A H [.lst (cs.map D.int), .int 1, .int m, .int 0] (kws.map (·.2)) := hs
    generalize hv : kws.map (·.2) = vs at hs
    cases hs with
    | cons b1 t =>
      cases t with
      | cons b2 t =>
        cases t with
        | cons b3 t =>
          cases t with
          | cons b4 t =>
            cases t
            cases b1 with
            | lst nl hl hsl =>
              cases b2; cases b3; cases b4
              obtain rfl := ints_at hsl
              rename_i co
              have e : kws = srcK co 1 m 0 := pairs_eq (hk.trans rfl) hv
              exact ⟨a, co, rfl, 1, m, cs, by rw [h, e], hl, by decide⟩
theorem no_env {s : Sl} (i : Nat) : ¬ ([none, none, none, none, none, none, none, none, none, none, none, none, none, none, none] : Ev)[i]? = some (some s) := fun e => by
  have := List.mem_of_getElem? e
  simp at this
section
variable {P : Program} {w : World} {K : PySem.W.Frag} {mg : Str → Option Value} {base : Heap} {f : Addr} {fd : FuncData} {cT cU cB : Addr} {T : Tb}
theorem ok_law (Fn : Fun K "law" "law" s_law f fd) (bi : Bi mg) (cS : Clb P w K mg base 2 "_law_source" (liftP K spSource)) (mMeet : Mth P w K mg base 6 (OkT cT) "meet" (liftP K (spLook cT cU "_meets"))) (mUnder : Mth P w K mg base 6 (OkT cT) "under" (liftP K (spLook cT cU "_unders"))) (mOver : Mth P w K mg base 6 (OkT cT) "over" (liftP K (spLook cT cU "_overs"))) (mWithin : Mth P w K mg base 7 (OkT cT) "within" (liftP K (spWithin cT))) (mGrades : Mth P w K mg base 2 (OkT cT) "grades" (liftP K (spGrades cT))) (cSc : Clb P w K mg base 7 "_law_scale" (liftG K (fun i : Addr × Addr => mdS i.1 i.2 T) spScale)) (cMS : Clb P w K mg base 12 "_law_made_scale" (liftP K (spMadeT cT))) (cEv : Clb P w K mg base 2 "_law_every" (liftP K spEvery)) (cWi : Clb P w K mg base 2 "_law_within" (liftP K spWithinL)) (cGr : Clb P w K mg base 3 "_law_greatest" (liftP K spGreatest)) (cSd : Clb P w K mg base 7 "_law_said" (liftP K (spSaid cT))) (gB : mg "Scale" = some (.ref cB)) (tabT : TabT K fun e t b => e = .ref cB ∧ t = .ref cT ∧ b = true) : FnOk P w K mg base (L2.CX P w) 13 f fd ["script"] (spLaw K T) := by
  obtain ⟨gS, dS, pS, FS, mS, kS, bS⟩ := cS.ex
  have sc := sc_law
  refine Fn.okX sc (fun vs H Q E ⟨a, ns, e, _⟩ => by rw [e]; rfl) ?_
  rintro cdv A outer s H vs Q E hr ⟨a, ns, ev, hS, hl, hT, q⟩
  subst ev
  obtain ⟨G, hG⟩ := Classical.axiomOfChoice fun ix : Addr × Addr => law_rest (T := T) bi mMeet mUnder mOver mWithin mGrades cSc cMS cEv cWi cGr cSd gB tabT ix cdv A outer s H E hr
  have r2 := hr.mono (show 2 ≤ 12 by omega)
  refine' ⟨_, pss_cons ?s1 (pss_ex (ι := { p : (Addr × Addr) × Fx // p.2.m = mdS p.1.1 p.1.2 T }) fun i => (hG i.1.1).1 i.1.2 i.2), ?fin⟩
  case s1 => exact ps_set sc.nd (i := 1) (by rfl) (by first | exact Or.inl rfl | exact Or.inr rfl) (pe_call (E := E0) (by exact FS) (by exact r2) (by rfl) (by exact mS) (by exact kS) (by exact bS) .nil (by exact passL) (pa_cons (pv 0) pa_nil))
  case fin =>
    have f0 : Dats K (fun _ => False) H [.fro (ns.map D.int)] [.ref a] := .one (.fro (hS.elim (fun z => .inl ⟨id, z⟩) fun z => .inr (.inr z)) (dats_ints ns))
    refine ⟨_, rfl, (), fun _ => False, [.fro (ns.map D.int)], fun d => ∃ cs m, d = .dct (srcD cs m), Z0, fun _ z => z, fun _ z => z.elim, trivial, f0, ⟨ns, rfl, hl, fun cs m => ⟨cs, m, rfl⟩⟩, fun d v H1 pd g1 _ b1 => ?_, fun x _ _ _ z => z.elim⟩
    obtain ⟨cs, m, rfl⟩ := pd
    obtain ⟨so, co, rfl, S0⟩ := src_of b1
    have T1 : LamX.Tabs T H1 := hT.ext fun b o e => g1 b o e id
    have J1 : (mdS so co T).J H1 := ⟨⟨0, S0⟩, T1⟩
    let F : Fx := ⟨mdS so co T, (mdS so co T).M, H1, fun _ z => z, fun b z => (mdS so co T).al' H1 b J1 z⟩
    refine ⟨⟨((so, co), F), rfl⟩, ([], []), (mdS so co T).M, [none, some (.dat (.ref so)), none, none, none, none, none, none, none, none, none, none, none, none, none, none, none], { nx := fun _ => False, rt := fun d => d = .bl true }, ?_, (hG (so, co)).2 none _ rfl, fun _ _ _ _ z => z.elim, fun d v H' z _ _ b => ?_, fun _ _ _ _ z => z.elim, fun _ _ _ _ z => z.elim, fun _ _ _ _ _ _ _ z => z.elim⟩
    · refine ⟨.nil, .refl _ _, J1, fun _ z => z, fun b z => (mdS so co T).al' H1 b J1 z, rfl, ?_, ?_, ?_, ?_⟩
      · intro i d e
        match i, e with
        | 0, e => cases e
        | 1, e => cases e; exact ⟨_, rfl, .ref so⟩
        | i + 2, e => exact absurd e (no_env i)
      · intro i o e
        match i, e with
        | 0, e => cases e
        | 1, e => cases e
        | i + 2, e => exact absurd e (no_env i)
      · intro i j o o' v e
        match i, e with
        | 0, e => cases e
        | 1, e => cases e
        | i + 2, e => exact absurd e (no_env i)
      · intro i p qs xss e
        match i, e with
        | 0, e => cases e
        | 1, e => cases e
        | i + 2, e => exact absurd e (no_env i)
    · subst z
      cases b
      exact q H'
end
end DW


namespace DW
open L2 PyProof.Rows PySem.Spec PySem
def clsB (K : PySem.W.Frag) (C : Addr) : Bool := PySem.W.plainGet K C Str.empty && (PySem.W.hasDictIn K C && (PySem.W.plainOver K C && decide (PySem.W.findIn K (.ref C) "__setattr__" = some (some (.builtin "object.__setattr__")))))
theorem cls_of {K : PySem.W.Frag} {C : Addr} (h : clsB K C = true) : Cls K C := by
  unfold clsB at h
  simp only [decide_eq_true_eq, Bool.and_eq_true] at h
  exact ⟨h.1, h.2.1, h.2.2.1, h.2.2.2⟩
def insB (K : PySem.W.Frag) (C : Addr) : Bool := clsB K C && (decide (PySem.W.findIn K (.ref C) "__class__" = some (some (.builtin "object.__class__"))) && (decide (PySem.W.specialIn K (.builtin "object.__class__") "__get__" = some (some (.builtin "getset_descriptor.__get__"))) && (decide (PySem.W.takesIn K (.builtin "object.__class__") = some true) && (decide (PySem.W.mroIn K C (.type "object") = some true) && decide (PySem.W.kitOne K (.ref C) (.ref C) = some true)))))
theorem ins_of {K : PySem.W.Frag} {C : Addr} (h : insB K C = true) : InsT K C := by
  unfold insB at h
  simp only [decide_eq_true_eq, Bool.and_eq_true] at h
  exact ⟨cls_of h.1, h.2.1, h.2.2.1, h.2.2.2.1, h.2.2.2.2.1, h.2.2.2.2.2⟩
def noB (K : PySem.W.Frag) (C : Addr) (ns : List Str) : Bool := ns.all fun n => decide (PySem.W.findIn K (.ref C) n = some none)
theorem no_of {K : PySem.W.Frag} {C : Addr} {ns : List Str} (h : noB K C ns = true) : ∀ n ∈ ns, NoAttr K C n := fun n hn => (of_decide_eq_true (List.all_eq_true.mp h n hn) : PySem.W.findIn K (.ref C) n = some none)
def kB (K : PySem.W.Frag) (cB cT cU : Addr) : Bool := ((insB K cT) && ((noB K cT fldNames) && ((ecB K cU "LookupError" "LookupError.__new__" [.type "LookupError", .type "Exception", .type "BaseException", .type "object"]) && ((decide (PySem.W.findIn K (.ref cU) "name" = some none)) && ((xfB K cU) && ((decide (PySem.W.exmOne K (.ref cU) (.ref cU) = some true)) && (decide (PySem.W.kitOne K (.ref cT) (.ref cB) = some true))))))))
theorem kB_at {K : PySem.W.Frag} {cB cT cU : Addr} (h : kB K cB cT cU = true) : (InsT K cT) ∧ (∀ n ∈ (fldNames : List Str), NoAttr K cT n) ∧ (ecB K cU "LookupError" "LookupError.__new__" [.type "LookupError", .type "Exception", .type "BaseException", .type "object"] = true) ∧ (PySem.W.findIn K (.ref cU) "name" = some none) ∧ (XfC K cU) ∧ (PySem.W.exmOne K (.ref cU) (.ref cU) = some true) ∧ (PySem.W.kitOne K (.ref cT) (.ref cB) = some true) := by
  unfold kB at h
  simp only [Bool.and_eq_true, and_true] at h
  obtain ⟨ins_cT, no_cT, ec_cU, na_cU_name, xf_cU, em_cU_cU, isa_cT_cB⟩ := h
  exact ⟨(ins_of ins_cT), (no_of no_cT), (ec_cU), (of_decide_eq_true na_cU_name), (xfB_ok xf_cU), (of_decide_eq_true em_cU_cU), (of_decide_eq_true isa_cT_cB)⟩
section
variable {P : Program} {w : World} {K : PySem.W.Frag} {mg : Str → Option Value} {base : Heap} {C fI cc cda : Addr} {st : Stmt} {qual : Str} {initId : String} {oc kV dc pm ct ccl cl : Value} {od an cdd cld : Option Addr} {sl ccs csl : Array (Option Value)} {vs : Array Value} {file : Str} {tf : Tok}
theorem if_mk (i1 : PySem.W.findIn K (.ref C) "__init__" = some (some (.ref fI))) (t1 : PySem.W.typeIn K (.ref fI) = some (.type "function"))
    (l1 : K.lookup fI = some ⟨oc, od, .func (PySem.W.ksFn "__init__" qual (defArgs st) (defBody st) (defScope st) .none kV dc pm an (.ref cda) ct cc), sl⟩) (q1 : PySem.W.codeIn K (.ref cda) qual = true) (c1 : K.lookup cda = some ⟨ccl, cdd, .fields vs, ccs⟩) (v1 : vs[2]? = some (.str file tf)) (f1 : ((P.main.file : Str) == file) = true)
    (e1 : K.lookup cc = some ⟨cl, cld, .cell (some (.ref C)), csl⟩) (s1 : PySem.W.ks_superIn K C C "__init__" = some (some (.builtin initId))) (m1 : PySem.W.mroIn K C (.ref C) = some true) (ms : mg "super" = none) (ks : (defScope st).names.lookup ("super" : Str) = some .globalImplicit) (kc : (defScope st).names.lookup ("__class__" : Str) = some .free)
    (kS : (defScope st).names.lookup ("self" : Str) = some .local) (kd : (defScope st).kind = .function) (par : ((defArgs st).posonlyargs ++ (defArgs st).args).head?.map (·.arg) = some ("self" : Str)) (top : (P.main.scope.names.lookup ("super" : Str)).isSome = false) :
    IF K mg P C fI (PySem.W.ksFn "__init__" qual (defArgs st) (defBody st) (defScope st) .none kV dc pm an (.ref cda) ct cc) st qual cc cda initId :=
  ⟨⟨rfl, ⟨oc, od, an, .none, kV, dc, pm, ct, sl, l1, rfl⟩, ⟨ccl, cdd, vs, ccs, file, tf, c1, v1, f1⟩, ⟨cl, cld, csl, e1⟩, s1, m1, ms, ks, kc, kS, par, kd, top⟩, q1, i1, t1⟩
theorem bnd_of {fd : FuncData} {ps : List Str} (h : ∀ us : List Value, us.length = ps.length → bindArgs fd ⟨us, []⟩ = pure (ps.zip us)) : Binds K fd ps [] := fun s us _ hl => by
  rw [List.append_nil] at hl ⊢
  exact .of_eq (h us hl)
end
theorem mth_mk {P : Program} {w : World} {K : PySem.W.Frag} {mg : Str → Option Value} {base : Heap} {k : Nat} {cT f : Addr} {m : Str} {sp : Sp} {fd : FuncData} {ps : List Str} (c : Cls K cT) (mt : Meth K cT m f) (Fo : FnOk P w K mg base (L2.CX P w) k f fd ps sp) (b : Binds K fd ps []) : Mth P w K mg base k (OkT cT) m sp := ⟨fun C hC => by
  have e : C = cT := hC
  subst e
  exact ⟨f, fd, ps, c, mt, Fo, b⟩⟩
theorem all_mk {w : World} {K : PySem.W.Frag} {h : Heap} {mg : Str → Option Value} {fl : Addr} (X : K.In h) (G : h.Ns mainGlobals mg) (hfa : mg "law" = some (.ref fl))
    {tk1 tk2 tk3 : Tok} {a_law : Addr} {od_law an_law : Option Addr} {sl_law : Array (Option Value)} {oc_law kV_law dc_law pm_law ct_law cd_law : Value} {a__law_source : Addr} {od__law_source an__law_source : Option Addr} {sl__law_source : Array (Option Value)} {oc__law_source kV__law_source dc__law_source pm__law_source ct__law_source cd__law_source : Value} {cT : Addr} {a_Bmeet : Addr} {od_Bmeet an_Bmeet : Option Addr} {sl_Bmeet : Array (Option Value)} {oc_Bmeet kV_Bmeet dc_Bmeet pm_Bmeet ct_Bmeet cd_Bmeet : Value} {a__entry : Addr} {od__entry an__entry : Option Addr} {sl__entry : Array (Option Value)} {oc__entry kV__entry dc__entry pm__entry ct__entry cd__entry : Value} {cU : Addr} {I_U cc_U cda_U : Addr} {oc_U kV_U dc_U pm_U ct_U ccl_U cl_U : Value} {od_U an_U cdd_U cld_U : Option Addr} {sl_U ccs_U csl_U : Array (Option Value)} {vs_U : Array Value} {file_U : Str} {tf_U : Tok} {a_Bunder : Addr} {od_Bunder an_Bunder : Option Addr} {sl_Bunder : Array (Option Value)} {oc_Bunder kV_Bunder dc_Bunder pm_Bunder ct_Bunder cd_Bunder : Value} {a_Bover : Addr} {od_Bover an_Bover : Option Addr} {sl_Bover : Array (Option Value)} {oc_Bover kV_Bover dc_Bover pm_Bover ct_Bover cd_Bover : Value} {a_Bwithin : Addr} {od_Bwithin an_Bwithin : Option Addr} {sl_Bwithin : Array (Option Value)} {oc_Bwithin kV_Bwithin dc_Bwithin pm_Bwithin ct_Bwithin cd_Bwithin : Value} {a_Bjoin : Addr} {od_Bjoin an_Bjoin : Option Addr} {sl_Bjoin : Array (Option Value)} {oc_Bjoin kV_Bjoin dc_Bjoin pm_Bjoin ct_Bjoin cd_Bjoin : Value} {a_Bgrades : Addr} {od_Bgrades an_Bgrades : Option Addr} {sl_Bgrades : Array (Option Value)} {oc_Bgrades kV_Bgrades dc_Bgrades pm_Bgrades ct_Bgrades cd_Bgrades : Value} {a__law_scale : Addr} {od__law_scale an__law_scale : Option Addr} {sl__law_scale : Array (Option Value)} {oc__law_scale kV__law_scale dc__law_scale pm__law_scale ct__law_scale : Value} {cS tS : Addr} {xcS : Value} {xdS : Option Addr} {vsS : Array Value} {xsS : Array (Option Value)} {a__law_pick : Addr} {od__law_pick an__law_pick : Option Addr} {sl__law_pick : Array (Option Value)} {oc__law_pick kV__law_pick dc__law_pick pm__law_pick ct__law_pick cd__law_pick : Value} {a__law_names : Addr} {od__law_names an__law_names : Option Addr} {sl__law_names : Array (Option Value)} {oc__law_names kV__law_names dc__law_names pm__law_names ct__law_names cd__law_names : Value} {a__law_relations : Addr} {od__law_relations an__law_relations : Option Addr} {sl__law_relations : Array (Option Value)} {oc__law_relations kV__law_relations dc__law_relations pm__law_relations ct__law_relations : Value} {cR tR : Addr} {xcR : Value} {xdR : Option Addr} {vsR : Array Value} {xsR : Array (Option Value)} {a__law_union : Addr} {od__law_union an__law_union : Option Addr} {sl__law_union : Array (Option Value)} {oc__law_union kV__law_union dc__law_union pm__law_union ct__law_union cd__law_union : Value} {a__law_relation : Addr} {od__law_relation an__law_relation : Option Addr} {sl__law_relation : Array (Option Value)} {oc__law_relation kV__law_relation dc__law_relation pm__law_relation ct__law_relation cd__law_relation : Value} {a__law_tables : Addr} {od__law_tables an__law_tables : Option Addr} {sl__law_tables : Array (Option Value)} {oc__law_tables kV__law_tables dc__law_tables pm__law_tables ct__law_tables cd__law_tables : Value} {a__law_made_scale : Addr} {od__law_made_scale an__law_made_scale : Option Addr} {sl__law_made_scale : Array (Option Value)} {oc__law_made_scale kV__law_made_scale dc__law_made_scale pm__law_made_scale ct__law_made_scale cd__law_made_scale : Value} {a__law_words : Addr} {od__law_words an__law_words : Option Addr} {sl__law_words : Array (Option Value)} {oc__law_words kV__law_words dc__law_words pm__law_words ct__law_words cd__law_words : Value} {a_IcT : Addr} {od_IcT an_IcT : Option Addr} {sl_IcT : Array (Option Value)} {oc_IcT kV_IcT dc_IcT pm_IcT ct_IcT cd_IcT : Value} {cB : Addr} {a_BcB : Addr} {od_BcB an_BcB : Option Addr} {sl_BcB : Array (Option Value)} {oc_BcB kV_BcB dc_BcB pm_BcB ct_BcB cd_BcB : Value} {mc_cB : Value} {a__by_name : Addr} {od__by_name an__by_name : Option Addr} {sl__by_name : Array (Option Value)} {oc__by_name kV__by_name dc__by_name pm__by_name ct__by_name cd__by_name : Value} {a_B_meet : Addr} {od_B_meet an_B_meet : Option Addr} {sl_B_meet : Array (Option Value)} {oc_B_meet kV_B_meet dc_B_meet pm_B_meet ct_B_meet cd_B_meet : Value} {a_Bjoined : Addr} {od_Bjoined an_Bjoined : Option Addr} {sl_Bjoined : Array (Option Value)} {oc_Bjoined kV_Bjoined dc_Bjoined pm_Bjoined ct_Bjoined cd_Bjoined : Value} {a_B_under : Addr} {od_B_under an_B_under : Option Addr} {sl_B_under : Array (Option Value)} {oc_B_under kV_B_under dc_B_under pm_B_under ct_B_under cd_B_under : Value} {a_B_over : Addr} {od_B_over an_B_over : Option Addr} {sl_B_over : Array (Option Value)} {oc_B_over kV_B_over dc_B_over pm_B_over ct_B_over cd_B_over : Value} {a__check_names : Addr} {od__check_names an__check_names : Option Addr} {sl__check_names : Array (Option Value)} {oc__check_names kV__check_names dc__check_names pm__check_names ct__check_names cd__check_names : Value} {a_check_count : Addr} {od_check_count an_check_count : Option Addr} {sl_check_count : Array (Option Value)} {oc_check_count kV_check_count dc_check_count pm_check_count ct_check_count cd_check_count : Value} {a_is_plain_name : Addr} {od_is_plain_name an_is_plain_name : Option Addr} {sl_is_plain_name : Array (Option Value)} {oc_is_plain_name kV_is_plain_name dc_is_plain_name pm_is_plain_name ct_is_plain_name cd_is_plain_name : Value} {a__check_rows : Addr} {od__check_rows an__check_rows : Option Addr} {sl__check_rows : Array (Option Value)} {oc__check_rows kV__check_rows dc__check_rows pm__check_rows ct__check_rows cd__check_rows : Value} {a__law_every : Addr} {od__law_every an__law_every : Option Addr} {sl__law_every : Array (Option Value)} {oc__law_every kV__law_every dc__law_every pm__law_every ct__law_every cd__law_every : Value} {a__law_within : Addr} {od__law_within an__law_within : Option Addr} {sl__law_within : Array (Option Value)} {oc__law_within kV__law_within dc__law_within pm__law_within ct__law_within cd__law_within : Value} {a__law_greatest : Addr} {od__law_greatest an__law_greatest : Option Addr} {sl__law_greatest : Array (Option Value)} {oc__law_greatest kV__law_greatest dc__law_greatest pm__law_greatest ct__law_greatest cd__law_greatest : Value} {a__law_said : Addr} {od__law_said an__law_said : Option Addr} {sl__law_said : Array (Option Value)} {oc__law_said kV__law_said dc__law_said pm__law_said ct__law_said cd__law_said : Value}
    (no_len : PySem.W.nsIn K mainGlobals "len" = some none)
    (no_int : PySem.W.nsIn K mainGlobals "int" = some none)
    (no_abs : PySem.W.nsIn K mainGlobals "abs" = some none)
    (no_range : PySem.W.nsIn K mainGlobals "range" = some none)
    (no_min : PySem.W.nsIn K mainGlobals "min" = some none)
    (no_max : PySem.W.nsIn K mainGlobals "max" = some none)
    (no_tuple : PySem.W.nsIn K mainGlobals "tuple" = some none)
    (no_list : PySem.W.nsIn K mainGlobals "list" = some none)
    (no_all : PySem.W.nsIn K mainGlobals "all" = some none)
    (no_zip : PySem.W.nsIn K mainGlobals "zip" = some none)
    (no_enumerate : PySem.W.nsIn K mainGlobals "enumerate" = some none)
    (no_dict : PySem.W.nsIn K mainGlobals "dict" = some none)
    (no_isinstance : PySem.W.nsIn K mainGlobals "isinstance" = some none)
    (no_super : PySem.W.nsIn K mainGlobals "super" = some none)
    (g_law : PySem.W.nsIn K mainGlobals "law" = some (some (.ref a_law)))
    (l_law : K.lookup a_law = some ⟨oc_law, od_law, .func (PySem.W.fnOf "law" "law" (defArgs s_law) (defBody s_law) (defScope s_law) .none kV_law dc_law pm_law an_law cd_law ct_law), sl_law⟩)
    (c_law : PySem.W.codeIn K cd_law "law" = true)
    (k_law : PySem.W.keepIn K (.ref a_law) = true)
    (g__law_source : PySem.W.nsIn K mainGlobals "_law_source" = some (some (.ref a__law_source)))
    (l__law_source : K.lookup a__law_source = some ⟨oc__law_source, od__law_source, .func (PySem.W.fnOf "_law_source" "_law_source" (defArgs s__law_source) (defBody s__law_source) (defScope s__law_source) .none kV__law_source dc__law_source pm__law_source an__law_source cd__law_source ct__law_source), sl__law_source⟩)
    (c__law_source : PySem.W.codeIn K cd__law_source "_law_source" = true)
    (k__law_source : PySem.W.keepIn K (.ref a__law_source) = true)
    (gc_TableScale : PySem.W.nsIn K mainGlobals "TableScale" = some (some (.ref cT)))
    (l_Bmeet : K.lookup a_Bmeet = some ⟨oc_Bmeet, od_Bmeet, .func (PySem.W.fnOf "meet" "Scale.meet" (defArgs s_Scale_meet) (defBody s_Scale_meet) (defScope s_Scale_meet) .none kV_Bmeet dc_Bmeet pm_Bmeet an_Bmeet cd_Bmeet ct_Bmeet), sl_Bmeet⟩)
    (c_Bmeet : PySem.W.codeIn K cd_Bmeet "Scale.meet" = true)
    (k_Bmeet : PySem.W.keepIn K (.ref a_Bmeet) = true)
    (i_Bmeet : PySem.W.isFn K (.ref a_Bmeet) = true)
    (f_cT_meet : PySem.W.findIn K (.ref cT) "meet" = some (some (.ref a_Bmeet)))
    (g__entry : PySem.W.nsIn K mainGlobals "_entry" = some (some (.ref a__entry)))
    (l__entry : K.lookup a__entry = some ⟨oc__entry, od__entry, .func (PySem.W.fnOf "_entry" "_entry" (defArgs s__entry) (defBody s__entry) (defScope s__entry) .none kV__entry dc__entry pm__entry an__entry cd__entry ct__entry), sl__entry⟩)
    (c__entry : PySem.W.codeIn K cd__entry "_entry" = true)
    (k__entry : PySem.W.keepIn K (.ref a__entry) = true)
    (gc_UnknownGrade : PySem.W.nsIn K mainGlobals "UnknownGrade" = some (some (.ref cU)))
    (i1U : PySem.W.findIn K (.ref cU) "__init__" = some (some (.ref I_U)))
    (t1U : PySem.W.typeIn K (.ref I_U) = some (.type "function"))
    (l1U : K.lookup I_U = some ⟨oc_U, od_U, .func (PySem.W.ksFn "__init__" "UnknownGrade.__init__" (defArgs (stOf topU)) (defBody (stOf topU)) (defScope (stOf topU)) .none kV_U dc_U pm_U an_U (.ref cda_U) ct_U cc_U), sl_U⟩)
    (q1U : PySem.W.codeIn K (.ref cda_U) "UnknownGrade.__init__" = true)
    (c1U : K.lookup cda_U = some ⟨ccl_U, cdd_U, .fields vs_U, ccs_U⟩)
    (v1U : vs_U[2]? = some (.str file_U tf_U))
    (f1U : ((PP.main.file : Str) == file_U) = true)
    (e1U : K.lookup cc_U = some ⟨cl_U, cld_U, .cell (some (.ref cU)), csl_U⟩)
    (s1U : PySem.W.ks_superIn K cU cU "__init__" = some (some (.builtin "LookupError.__init__")))
    (m1U : PySem.W.mroIn K cU (.ref cU) = some true)
    (l_Bunder : K.lookup a_Bunder = some ⟨oc_Bunder, od_Bunder, .func (PySem.W.fnOf "under" "Scale.under" (defArgs s_Scale_under) (defBody s_Scale_under) (defScope s_Scale_under) .none kV_Bunder dc_Bunder pm_Bunder an_Bunder cd_Bunder ct_Bunder), sl_Bunder⟩)
    (c_Bunder : PySem.W.codeIn K cd_Bunder "Scale.under" = true)
    (k_Bunder : PySem.W.keepIn K (.ref a_Bunder) = true)
    (i_Bunder : PySem.W.isFn K (.ref a_Bunder) = true)
    (f_cT_under : PySem.W.findIn K (.ref cT) "under" = some (some (.ref a_Bunder)))
    (l_Bover : K.lookup a_Bover = some ⟨oc_Bover, od_Bover, .func (PySem.W.fnOf "over" "Scale.over" (defArgs s_Scale_over) (defBody s_Scale_over) (defScope s_Scale_over) .none kV_Bover dc_Bover pm_Bover an_Bover cd_Bover ct_Bover), sl_Bover⟩)
    (c_Bover : PySem.W.codeIn K cd_Bover "Scale.over" = true)
    (k_Bover : PySem.W.keepIn K (.ref a_Bover) = true)
    (i_Bover : PySem.W.isFn K (.ref a_Bover) = true)
    (f_cT_over : PySem.W.findIn K (.ref cT) "over" = some (some (.ref a_Bover)))
    (l_Bwithin : K.lookup a_Bwithin = some ⟨oc_Bwithin, od_Bwithin, .func (PySem.W.fnOf "within" "Scale.within" (defArgs s_Scale_within) (defBody s_Scale_within) (defScope s_Scale_within) .none kV_Bwithin dc_Bwithin pm_Bwithin an_Bwithin cd_Bwithin ct_Bwithin), sl_Bwithin⟩)
    (c_Bwithin : PySem.W.codeIn K cd_Bwithin "Scale.within" = true)
    (k_Bwithin : PySem.W.keepIn K (.ref a_Bwithin) = true)
    (i_Bwithin : PySem.W.isFn K (.ref a_Bwithin) = true)
    (f_cT_within : PySem.W.findIn K (.ref cT) "within" = some (some (.ref a_Bwithin)))
    (l_Bjoin : K.lookup a_Bjoin = some ⟨oc_Bjoin, od_Bjoin, .func (PySem.W.fnOf "join" "Scale.join" (defArgs s_Scale_join) (defBody s_Scale_join) (defScope s_Scale_join) .none kV_Bjoin dc_Bjoin pm_Bjoin an_Bjoin cd_Bjoin ct_Bjoin), sl_Bjoin⟩)
    (c_Bjoin : PySem.W.codeIn K cd_Bjoin "Scale.join" = true)
    (k_Bjoin : PySem.W.keepIn K (.ref a_Bjoin) = true)
    (i_Bjoin : PySem.W.isFn K (.ref a_Bjoin) = true)
    (f_cT_join : PySem.W.findIn K (.ref cT) "join" = some (some (.ref a_Bjoin)))
    (l_Bgrades : K.lookup a_Bgrades = some ⟨oc_Bgrades, od_Bgrades, .func (PySem.W.fnOf "grades" "Scale.grades" (defArgs s_Scale_grades) (defBody s_Scale_grades) (defScope s_Scale_grades) .none kV_Bgrades dc_Bgrades pm_Bgrades an_Bgrades cd_Bgrades ct_Bgrades), sl_Bgrades⟩)
    (c_Bgrades : PySem.W.codeIn K cd_Bgrades "Scale.grades" = true)
    (k_Bgrades : PySem.W.keepIn K (.ref a_Bgrades) = true)
    (i_Bgrades : PySem.W.isFn K (.ref a_Bgrades) = true)
    (f_cT_grades : PySem.W.findIn K (.ref cT) "grades" = some (some (.ref a_Bgrades)))
    (g__law_scale : PySem.W.nsIn K mainGlobals "_law_scale" = some (some (.ref a__law_scale)))
    (l__law_scale : K.lookup a__law_scale = some ⟨oc__law_scale, od__law_scale, .func (PySem.W.fnOf "_law_scale" "_law_scale" (defArgs s__law_scale) (defBody s__law_scale) (defScope s__law_scale) .none kV__law_scale dc__law_scale pm__law_scale an__law_scale (.ref cS) ct__law_scale), sl__law_scale⟩)
    (c__law_scale : PySem.W.codeIn K (.ref cS) "_law_scale" = true)
    (k__law_scale : PySem.W.keepIn K (.ref a__law_scale) = true)
    (x_S : K.lookup cS = some ⟨xcS, xdS, .fields vsS, xsS⟩)
    (y_S : vsS[11]? = some (.ref tS))
    (h_S : PySem.W.codeHdIn K cS tS = true)
    (n_S : K.lookup tS = none)
    (t_S : h.get? tS = some (PySem.W.tabObj #[]))
    (g__law_pick : PySem.W.nsIn K mainGlobals "_law_pick" = some (some (.ref a__law_pick)))
    (l__law_pick : K.lookup a__law_pick = some ⟨oc__law_pick, od__law_pick, .func (PySem.W.fnOf "_law_pick" "_law_pick" (defArgs s__law_pick) (defBody s__law_pick) (defScope s__law_pick) .none kV__law_pick dc__law_pick pm__law_pick an__law_pick cd__law_pick ct__law_pick), sl__law_pick⟩)
    (c__law_pick : PySem.W.codeIn K cd__law_pick "_law_pick" = true)
    (k__law_pick : PySem.W.keepIn K (.ref a__law_pick) = true)
    (g__law_names : PySem.W.nsIn K mainGlobals "_law_names" = some (some (.ref a__law_names)))
    (l__law_names : K.lookup a__law_names = some ⟨oc__law_names, od__law_names, .func (PySem.W.fnOf "_law_names" "_law_names" (defArgs s__law_names) (defBody s__law_names) (defScope s__law_names) .none kV__law_names dc__law_names pm__law_names an__law_names cd__law_names ct__law_names), sl__law_names⟩)
    (c__law_names : PySem.W.codeIn K cd__law_names "_law_names" = true)
    (k__law_names : PySem.W.keepIn K (.ref a__law_names) = true)
    (g__law_relations : PySem.W.nsIn K mainGlobals "_law_relations" = some (some (.ref a__law_relations)))
    (l__law_relations : K.lookup a__law_relations = some ⟨oc__law_relations, od__law_relations, .func (PySem.W.fnOf "_law_relations" "_law_relations" (defArgs s__law_relations) (defBody s__law_relations) (defScope s__law_relations) .none kV__law_relations dc__law_relations pm__law_relations an__law_relations (.ref cR) ct__law_relations), sl__law_relations⟩)
    (c__law_relations : PySem.W.codeIn K (.ref cR) "_law_relations" = true)
    (k__law_relations : PySem.W.keepIn K (.ref a__law_relations) = true)
    (x_R : K.lookup cR = some ⟨xcR, xdR, .fields vsR, xsR⟩)
    (y_R : vsR[11]? = some (.ref tR))
    (h_R : PySem.W.codeHdIn K cR tR = true)
    (n_R : K.lookup tR = none)
    (t_R : h.get? tR = some (PySem.W.tabObj #[]))
    (g__law_union : PySem.W.nsIn K mainGlobals "_law_union" = some (some (.ref a__law_union)))
    (l__law_union : K.lookup a__law_union = some ⟨oc__law_union, od__law_union, .func (PySem.W.fnOf "_law_union" "_law_union" (defArgs s__law_union) (defBody s__law_union) (defScope s__law_union) .none kV__law_union dc__law_union pm__law_union an__law_union cd__law_union ct__law_union), sl__law_union⟩)
    (c__law_union : PySem.W.codeIn K cd__law_union "_law_union" = true)
    (k__law_union : PySem.W.keepIn K (.ref a__law_union) = true)
    (g__law_relation : PySem.W.nsIn K mainGlobals "_law_relation" = some (some (.ref a__law_relation)))
    (l__law_relation : K.lookup a__law_relation = some ⟨oc__law_relation, od__law_relation, .func (PySem.W.fnOf "_law_relation" "_law_relation" (defArgs s__law_relation) (defBody s__law_relation) (defScope s__law_relation) .none kV__law_relation dc__law_relation pm__law_relation an__law_relation cd__law_relation ct__law_relation), sl__law_relation⟩)
    (c__law_relation : PySem.W.codeIn K cd__law_relation "_law_relation" = true)
    (k__law_relation : PySem.W.keepIn K (.ref a__law_relation) = true)
    (g__law_tables : PySem.W.nsIn K mainGlobals "_law_tables" = some (some (.ref a__law_tables)))
    (l__law_tables : K.lookup a__law_tables = some ⟨oc__law_tables, od__law_tables, .func (PySem.W.fnOf "_law_tables" "_law_tables" (defArgs s__law_tables) (defBody s__law_tables) (defScope s__law_tables) .none kV__law_tables dc__law_tables pm__law_tables an__law_tables cd__law_tables ct__law_tables), sl__law_tables⟩)
    (c__law_tables : PySem.W.codeIn K cd__law_tables "_law_tables" = true)
    (k__law_tables : PySem.W.keepIn K (.ref a__law_tables) = true)
    (g__law_made_scale : PySem.W.nsIn K mainGlobals "_law_made_scale" = some (some (.ref a__law_made_scale)))
    (l__law_made_scale : K.lookup a__law_made_scale = some ⟨oc__law_made_scale, od__law_made_scale, .func (PySem.W.fnOf "_law_made_scale" "_law_made_scale" (defArgs s__law_made_scale) (defBody s__law_made_scale) (defScope s__law_made_scale) .none kV__law_made_scale dc__law_made_scale pm__law_made_scale an__law_made_scale cd__law_made_scale ct__law_made_scale), sl__law_made_scale⟩)
    (c__law_made_scale : PySem.W.codeIn K cd__law_made_scale "_law_made_scale" = true)
    (k__law_made_scale : PySem.W.keepIn K (.ref a__law_made_scale) = true)
    (g__law_words : PySem.W.nsIn K mainGlobals "_law_words" = some (some (.ref a__law_words)))
    (l__law_words : K.lookup a__law_words = some ⟨oc__law_words, od__law_words, .func (PySem.W.fnOf "_law_words" "_law_words" (defArgs s__law_words) (defBody s__law_words) (defScope s__law_words) .none kV__law_words dc__law_words pm__law_words an__law_words cd__law_words ct__law_words), sl__law_words⟩)
    (c__law_words : PySem.W.codeIn K cd__law_words "_law_words" = true)
    (k__law_words : PySem.W.keepIn K (.ref a__law_words) = true)
    (mk_cT : PySem.W.makesIn K cT = true)
    (in_cT : PySem.W.findIn K (.ref cT) "__init__" = some (some (.ref a_IcT)))
    (l_IcT : K.lookup a_IcT = some ⟨oc_IcT, od_IcT, .func (PySem.W.fnOf "__init__" "TableScale.__init__" (defArgs s_TableScale___init__) (defBody s_TableScale___init__) (defScope s_TableScale___init__) .none kV_IcT dc_IcT pm_IcT an_IcT cd_IcT ct_IcT), sl_IcT⟩)
    (c_IcT : PySem.W.codeIn K cd_IcT "TableScale.__init__" = true)
    (k_IcT : PySem.W.keepIn K (.ref a_IcT) = true)
    (i_IcT : PySem.W.isFn K (.ref a_IcT) = true)
    (kp_cT : PySem.W.keepIn K (.ref cT) = true)
    (gc_Scale : PySem.W.nsIn K mainGlobals "Scale" = some (some (.ref cB)))
    (ty_cB : PySem.W.typeIn K (.ref cB) = some mc_cB)
    (rd_cB : PySem.W.readsIn K cB mc_cB = true)
    (ga_cB : PySem.W.specialIn K (.ref cB) "__getattribute__" = some (some (.builtin "type.__getattribute__")))
    (cv_cB : PySem.W.findCls K (.ref cB) mc_cB "__init__" = some (.val (.ref a_BcB)))
    (l_BcB : K.lookup a_BcB = some ⟨oc_BcB, od_BcB, .func (PySem.W.fnOf "__init__" "Scale.__init__" (defArgs s_Scale___init__) (defBody s_Scale___init__) (defScope s_Scale___init__) .none kV_BcB dc_BcB pm_BcB an_BcB cd_BcB ct_BcB), sl_BcB⟩)
    (c_BcB : PySem.W.codeIn K cd_BcB "Scale.__init__" = true)
    (k_BcB : PySem.W.keepIn K (.ref a_BcB) = true)
    (g__by_name : PySem.W.nsIn K mainGlobals "_by_name" = some (some (.ref a__by_name)))
    (l__by_name : K.lookup a__by_name = some ⟨oc__by_name, od__by_name, .func (PySem.W.fnOf "_by_name" "_by_name" (defArgs s__by_name) (defBody s__by_name) (defScope s__by_name) .none kV__by_name dc__by_name pm__by_name an__by_name cd__by_name ct__by_name), sl__by_name⟩)
    (c__by_name : PySem.W.codeIn K cd__by_name "_by_name" = true)
    (k__by_name : PySem.W.keepIn K (.ref a__by_name) = true)
    (l_B_meet : K.lookup a_B_meet = some ⟨oc_B_meet, od_B_meet, .func (PySem.W.fnOf "_meet" "Scale._meet" (defArgs s_Scale__meet) (defBody s_Scale__meet) (defScope s_Scale__meet) .none kV_B_meet dc_B_meet pm_B_meet an_B_meet cd_B_meet ct_B_meet), sl_B_meet⟩)
    (c_B_meet : PySem.W.codeIn K cd_B_meet "Scale._meet" = true)
    (k_B_meet : PySem.W.keepIn K (.ref a_B_meet) = true)
    (i_B_meet : PySem.W.isFn K (.ref a_B_meet) = true)
    (f_cT__meet : PySem.W.findIn K (.ref cT) "_meet" = some (some (.ref a_B_meet)))
    (l_Bjoined : K.lookup a_Bjoined = some ⟨oc_Bjoined, od_Bjoined, .func (PySem.W.fnOf "joined" "Scale.joined" (defArgs s_Scale_joined) (defBody s_Scale_joined) (defScope s_Scale_joined) .none kV_Bjoined dc_Bjoined pm_Bjoined an_Bjoined cd_Bjoined ct_Bjoined), sl_Bjoined⟩)
    (c_Bjoined : PySem.W.codeIn K cd_Bjoined "Scale.joined" = true)
    (k_Bjoined : PySem.W.keepIn K (.ref a_Bjoined) = true)
    (i_Bjoined : PySem.W.isFn K (.ref a_Bjoined) = true)
    (f_cT_joined : PySem.W.findIn K (.ref cT) "joined" = some (some (.ref a_Bjoined)))
    (l_B_under : K.lookup a_B_under = some ⟨oc_B_under, od_B_under, .func (PySem.W.fnOf "_under" "Scale._under" (defArgs s_Scale__under) (defBody s_Scale__under) (defScope s_Scale__under) .none kV_B_under dc_B_under pm_B_under an_B_under cd_B_under ct_B_under), sl_B_under⟩)
    (c_B_under : PySem.W.codeIn K cd_B_under "Scale._under" = true)
    (k_B_under : PySem.W.keepIn K (.ref a_B_under) = true)
    (i_B_under : PySem.W.isFn K (.ref a_B_under) = true)
    (f_cT__under : PySem.W.findIn K (.ref cT) "_under" = some (some (.ref a_B_under)))
    (l_B_over : K.lookup a_B_over = some ⟨oc_B_over, od_B_over, .func (PySem.W.fnOf "_over" "Scale._over" (defArgs s_Scale__over) (defBody s_Scale__over) (defScope s_Scale__over) .none kV_B_over dc_B_over pm_B_over an_B_over cd_B_over ct_B_over), sl_B_over⟩)
    (c_B_over : PySem.W.codeIn K cd_B_over "Scale._over" = true)
    (k_B_over : PySem.W.keepIn K (.ref a_B_over) = true)
    (i_B_over : PySem.W.isFn K (.ref a_B_over) = true)
    (f_cT__over : PySem.W.findIn K (.ref cT) "_over" = some (some (.ref a_B_over)))
    (g__check_names : PySem.W.nsIn K mainGlobals "_check_names" = some (some (.ref a__check_names)))
    (l__check_names : K.lookup a__check_names = some ⟨oc__check_names, od__check_names, .func (PySem.W.fnOf "_check_names" "_check_names" (defArgs s__check_names) (defBody s__check_names) (defScope s__check_names) .none kV__check_names dc__check_names pm__check_names an__check_names cd__check_names ct__check_names), sl__check_names⟩)
    (c__check_names : PySem.W.codeIn K cd__check_names "_check_names" = true)
    (k__check_names : PySem.W.keepIn K (.ref a__check_names) = true)
    (g_check_count : PySem.W.nsIn K mainGlobals "check_count" = some (some (.ref a_check_count)))
    (l_check_count : K.lookup a_check_count = some ⟨oc_check_count, od_check_count, .func (PySem.W.fnOf "check_count" "check_count" (defArgs s_check_count) (defBody s_check_count) (defScope s_check_count) .none kV_check_count dc_check_count pm_check_count an_check_count cd_check_count ct_check_count), sl_check_count⟩)
    (c_check_count : PySem.W.codeIn K cd_check_count "check_count" = true)
    (k_check_count : PySem.W.keepIn K (.ref a_check_count) = true)
    (gM : PySem.W.nsIn K mainGlobals "MOST_GRADES" = some (some (.int 16 tk3)))
    (g_is_plain_name : PySem.W.nsIn K mainGlobals "is_plain_name" = some (some (.ref a_is_plain_name)))
    (l_is_plain_name : K.lookup a_is_plain_name = some ⟨oc_is_plain_name, od_is_plain_name, .func (PySem.W.fnOf "is_plain_name" "is_plain_name" (defArgs s_is_plain_name) (defBody s_is_plain_name) (defScope s_is_plain_name) .none kV_is_plain_name dc_is_plain_name pm_is_plain_name an_is_plain_name cd_is_plain_name ct_is_plain_name), sl_is_plain_name⟩)
    (c_is_plain_name : PySem.W.codeIn K cd_is_plain_name "is_plain_name" = true)
    (k_is_plain_name : PySem.W.keepIn K (.ref a_is_plain_name) = true)
    (gL : PySem.W.nsIn K mainGlobals "LONGEST_NAME" = some (some (.int 12 tk1)))
    (gN : PySem.W.nsIn K mainGlobals "NAME_MARKS" = some (some (.str sgn tk2)))
    (g__check_rows : PySem.W.nsIn K mainGlobals "_check_rows" = some (some (.ref a__check_rows)))
    (l__check_rows : K.lookup a__check_rows = some ⟨oc__check_rows, od__check_rows, .func (PySem.W.fnOf "_check_rows" "_check_rows" (defArgs s__check_rows) (defBody s__check_rows) (defScope s__check_rows) .none kV__check_rows dc__check_rows pm__check_rows an__check_rows cd__check_rows ct__check_rows), sl__check_rows⟩)
    (c__check_rows : PySem.W.codeIn K cd__check_rows "_check_rows" = true)
    (k__check_rows : PySem.W.keepIn K (.ref a__check_rows) = true)
    (g__law_every : PySem.W.nsIn K mainGlobals "_law_every" = some (some (.ref a__law_every)))
    (l__law_every : K.lookup a__law_every = some ⟨oc__law_every, od__law_every, .func (PySem.W.fnOf "_law_every" "_law_every" (defArgs s__law_every) (defBody s__law_every) (defScope s__law_every) .none kV__law_every dc__law_every pm__law_every an__law_every cd__law_every ct__law_every), sl__law_every⟩)
    (c__law_every : PySem.W.codeIn K cd__law_every "_law_every" = true)
    (k__law_every : PySem.W.keepIn K (.ref a__law_every) = true)
    (g__law_within : PySem.W.nsIn K mainGlobals "_law_within" = some (some (.ref a__law_within)))
    (l__law_within : K.lookup a__law_within = some ⟨oc__law_within, od__law_within, .func (PySem.W.fnOf "_law_within" "_law_within" (defArgs s__law_within) (defBody s__law_within) (defScope s__law_within) .none kV__law_within dc__law_within pm__law_within an__law_within cd__law_within ct__law_within), sl__law_within⟩)
    (c__law_within : PySem.W.codeIn K cd__law_within "_law_within" = true)
    (k__law_within : PySem.W.keepIn K (.ref a__law_within) = true)
    (g__law_greatest : PySem.W.nsIn K mainGlobals "_law_greatest" = some (some (.ref a__law_greatest)))
    (l__law_greatest : K.lookup a__law_greatest = some ⟨oc__law_greatest, od__law_greatest, .func (PySem.W.fnOf "_law_greatest" "_law_greatest" (defArgs s__law_greatest) (defBody s__law_greatest) (defScope s__law_greatest) .none kV__law_greatest dc__law_greatest pm__law_greatest an__law_greatest cd__law_greatest ct__law_greatest), sl__law_greatest⟩)
    (c__law_greatest : PySem.W.codeIn K cd__law_greatest "_law_greatest" = true)
    (k__law_greatest : PySem.W.keepIn K (.ref a__law_greatest) = true)
    (g__law_said : PySem.W.nsIn K mainGlobals "_law_said" = some (some (.ref a__law_said)))
    (l__law_said : K.lookup a__law_said = some ⟨oc__law_said, od__law_said, .func (PySem.W.fnOf "_law_said" "_law_said" (defArgs s__law_said) (defBody s__law_said) (defScope s__law_said) .none kV__law_said dc__law_said pm__law_said an__law_said cd__law_said ct__law_said), sl__law_said⟩)
    (c__law_said : PySem.W.codeIn K cd__law_said "_law_said" = true)
    (k__law_said : PySem.W.keepIn K (.ref a__law_said) = true)
    (tne : tR ≠ tS)
    (fb : kB K cB cT cU = true)
    : LamX.LawAtS PySem.Challenge.rw_farscale_k04_whole_quotients_of_grades w K (L2.CX PP w) 13 63 "script" mg fl h := by
  have e := hfa.symm.trans (PySem.W.mg_of X G g_law)
  cases e
  obtain ⟨ins_cT, no_cT, ec_cU, na_cU_name, xf_cU, em_cU_cU, isa_cT_cB⟩ := kB_at fb
  have gm : ∀ {x : Str} {v : Value}, PySem.W.nsIn K mainGlobals x = some (some v) → mg x = some v := fun e => PySem.W.mg_of X G e
  have f_len : mg "len" = none := PySem.W.mg_none_of X G no_len
  have f_int : mg "int" = none := PySem.W.mg_none_of X G no_int
  have f_abs : mg "abs" = none := PySem.W.mg_none_of X G no_abs
  have f_range : mg "range" = none := PySem.W.mg_none_of X G no_range
  have f_min : mg "min" = none := PySem.W.mg_none_of X G no_min
  have f_max : mg "max" = none := PySem.W.mg_none_of X G no_max
  have f_tuple : mg "tuple" = none := PySem.W.mg_none_of X G no_tuple
  have f_list : mg "list" = none := PySem.W.mg_none_of X G no_list
  have f_all : mg "all" = none := PySem.W.mg_none_of X G no_all
  have f_zip : mg "zip" = none := PySem.W.mg_none_of X G no_zip
  have f_enumerate : mg "enumerate" = none := PySem.W.mg_none_of X G no_enumerate
  have f_dict : mg "dict" = none := PySem.W.mg_none_of X G no_dict
  have f_isinstance : mg "isinstance" = none := PySem.W.mg_none_of X G no_isinstance
  have f_super : mg "super" = none := PySem.W.mg_none_of X G no_super
  have bi : Bi mg := ⟨f_len, f_int, f_abs, f_range, f_min, f_max, f_tuple, f_list, f_all, f_zip, f_enumerate, f_dict, f_isinstance⟩
  have F_law := fun_mk (st := s_law) l_law c_law k_law
  obtain ⟨T, hTe⟩ : ∃ T : Tb, T = [(tR, ("_law_relations.<locals>.<lambda>" : Str)), (tS, ("_law_scale.<locals>.<lambda>" : Str))] := ⟨_, rfl⟩
  have hmR : (tR, ("_law_relations.<locals>.<lambda>" : Str)) ∈ T := by rw [hTe]; exact List.mem_cons_self
  have hmS : (tS, ("_law_scale.<locals>.<lambda>" : Str)) ∈ T := by rw [hTe]; exact List.mem_cons_of_mem _ List.mem_cons_self
  have inT : ∀ p ∈ T, p = (tR, ("_law_relations.<locals>.<lambda>" : Str)) ∨ p = (tS, ("_law_scale.<locals>.<lambda>" : Str)) := fun p hp => by
    rw [hTe] at hp
    rcases List.mem_cons.mp hp with q | q
    · exact .inl q
    · exact .inr (List.mem_singleton.mp q)
  have huR : ∀ p ∈ T, p.1 = tR → p.2 = "_law_relations.<locals>.<lambda>" := fun p hp q => by
    rcases inT p hp with rfl | rfl
    · rfl
    · exact absurd q.symm tne
  have huS : ∀ p ∈ T, p.1 = tS → p.2 = "_law_scale.<locals>.<lambda>" := fun p hp q => by
    rcases inT p hp with rfl | rfl
    · exact absurd q tne
    · rfl
  have ofCs : ∀ {Q : Addr → Addr → Prop}, Q cR tR → Q cS tS → ∀ p ∈ [(cR, tR), (cS, tS)], Q p.1 p.2 := fun a b p hp => by
    rcases List.mem_cons.mp hp with rfl | q
    · exact a
    · rw [List.mem_singleton.mp q]; exact b
  refine ⟨PySem.W.fnOf "law" "law" (defArgs s_law) (defBody s_law) (defScope s_law) .none kV_law dc_law pm_law an_law cd_law ct_law, [(cR, tR), (cS, tS)], spLaw K T, ofCs (Q := fun _ t => h.get? t = some { cls := .none, data := .fields #[] }) t_R t_S, ofCs (Q := fun _ t => K.lookup t = none) n_R n_S, ofCs (Q := fun c t => PySem.W.CodeHd h c t) (PySem.W.codeHd_of_K X h_R) (PySem.W.codeHd_of_K X h_S), fun s v => .of_eq rfl, fun H a ns hl _ hH hS => ⟨a, ns, rfl, hS, by omega, fun p hp => ?_, fun _ => rfl⟩, fun base _ _ hB => ?_⟩
  · have q : H p.1 = some (.tbl #[]) := by
      rcases inT p hp with rfl | rfl
      · exact hH (cR, tR) List.mem_cons_self
      · exact hH (cS, tS) (List.mem_cons_of_mem _ List.mem_cons_self)
    exact ⟨#[], q, trivial, fun pos cv z => by cases z⟩
  have tbR : LamX.TabB base mg cR tR := hB (cR, tR) List.mem_cons_self
  have tbS : LamX.TabB base mg cS tS := hB (cS, tS) (List.mem_cons_of_mem _ List.mem_cons_self)
  have F__law_source := fun_mk (st := s__law_source) l__law_source c__law_source k__law_source
  have b__law_source := F__law_source.binds (ps := ["script"]) fun _ _ _ _ _ _ us hl => match us, hl with | [_], _ => rfl
  have cSrc := clb_mk (x := "_law_source") (ok_source (P := PP) (w := w) (base := base) F__law_source f_len f_int f_abs f_range) (gm g__law_source) k__law_source b__law_source
  have F_Bmeet := fun_mk (st := s_Scale_meet) l_Bmeet c_Bmeet k_Bmeet
  have b_Bmeet := F_Bmeet.binds (ps := ["self", "first", "second"]) fun _ _ _ _ _ _ us hl => match us, hl with | [_, _, _], _ => rfl
  have clscT : Cls K cT := ins_cT.cl
  have sF : ScF K cT := ⟨clscT, no_cT⟩
  have F__entry := fun_mk (st := s__entry) l__entry c__entry k__entry
  have b__entry := F__entry.binds (ps := ["table", "first", "second"]) fun _ _ _ _ _ _ us hl => match us, hl with | [_, _, _], _ => rfl
  have J_U := if_mk (P := PP) (st := (stOf topU)) i1U t1U l1U q1U c1U v1U f1U e1U s1U m1U f_super (by decide +kernel) (by decide +kernel) (by decide +kernel) (by decide +kernel) (by decide +kernel) (by decide +kernel)
  have B_U := bnd_of (K := K) (fd := PySem.W.ksFn "__init__" "UnknownGrade.__init__" (defArgs (stOf topU)) (defBody (stOf topU)) (defScope (stOf topU)) .none kV_U dc_U pm_U an_U (.ref cda_U) ct_U cc_U) (ps := ["self", "name"]) fun us hl => match us, hl with | [_, _], _ => rfl
  have T_U := ec_le ec_cU
  have e_U : ErC PP w K mg base cU gUnknownGrade ["self", "name"] := ⟨I_U, _, _, _, _, _, T_U, i1U, t1U, q_UnknownGrade (C := cU) T_U J_U na_cU_name, B_U⟩
  have cEn := clb_mk (x := "_entry") (ok__entry (P := PP) (w := w) (base := base) F__entry bi e_U (gm gc_UnknownGrade)) (gm g__entry) k__entry b__entry
  have o_mT_meet := ok_Scale_meet (P := PP) (w := w) (base := base) F_Bmeet bi sF cEn
  have mT_meet := mth_mk clscT (⟨f_cT_meet, i_Bmeet, k_Bmeet⟩ : Meth K cT "meet" a_Bmeet) o_mT_meet b_Bmeet
  have F_Bunder := fun_mk (st := s_Scale_under) l_Bunder c_Bunder k_Bunder
  have b_Bunder := F_Bunder.binds (ps := ["self", "first", "second"]) fun _ _ _ _ _ _ us hl => match us, hl with | [_, _, _], _ => rfl
  have o_mT_under := ok_Scale_under (P := PP) (w := w) (base := base) F_Bunder bi sF cEn
  have mT_under := mth_mk clscT (⟨f_cT_under, i_Bunder, k_Bunder⟩ : Meth K cT "under" a_Bunder) o_mT_under b_Bunder
  have F_Bover := fun_mk (st := s_Scale_over) l_Bover c_Bover k_Bover
  have b_Bover := F_Bover.binds (ps := ["self", "first", "second"]) fun _ _ _ _ _ _ us hl => match us, hl with | [_, _, _], _ => rfl
  have o_mT_over := ok_Scale_over (P := PP) (w := w) (base := base) F_Bover bi sF cEn
  have mT_over := mth_mk clscT (⟨f_cT_over, i_Bover, k_Bover⟩ : Meth K cT "over" a_Bover) o_mT_over b_Bover
  have F_Bwithin := fun_mk (st := s_Scale_within) l_Bwithin c_Bwithin k_Bwithin
  have b_Bwithin := F_Bwithin.binds (ps := ["self", "first", "second"]) fun _ _ _ _ _ _ us hl => match us, hl with | [_, _, _], _ => rfl
  have F_Bjoin := fun_mk (st := s_Scale_join) l_Bjoin c_Bjoin k_Bjoin
  have b_Bjoin := F_Bjoin.binds (ps := ["self", "first", "second"]) fun _ _ _ _ _ _ us hl => match us, hl with | [_, _, _], _ => rfl
  have o_mT_join := ok_Scale_join (P := PP) (w := w) (base := base) F_Bjoin bi sF cEn
  have mT_join := mth_mk clscT (⟨f_cT_join, i_Bjoin, k_Bjoin⟩ : Meth K cT "join" a_Bjoin) o_mT_join b_Bjoin
  have o_mT_within := ok_Scale_within (P := PP) (w := w) (base := base) F_Bwithin bi sF mT_join
  have mT_within := mth_mk clscT (⟨f_cT_within, i_Bwithin, k_Bwithin⟩ : Meth K cT "within" a_Bwithin) o_mT_within b_Bwithin
  have F_Bgrades := fun_mk (st := s_Scale_grades) l_Bgrades c_Bgrades k_Bgrades
  have b_Bgrades := F_Bgrades.binds (ps := ["self"]) fun _ _ _ _ _ _ us hl => match us, hl with | [_], _ => rfl
  have o_mT_grades := ok_Scale_grades (P := PP) (w := w) (base := base) F_Bgrades bi sF
  have mT_grades := mth_mk clscT (⟨f_cT_grades, i_Bgrades, k_Bgrades⟩ : Meth K cT "grades" a_Bgrades) o_mT_grades b_Bgrades
  have F__law_scale := fun_mk (st := s__law_scale) l__law_scale c__law_scale k__law_scale
  have b__law_scale := F__law_scale.binds (ps := ["source", "most"]) fun _ _ _ _ _ _ us hl => match us, hl with | [_, _], _ => rfl
  have F__law_pick := fun_mk (st := s__law_pick) l__law_pick c__law_pick k__law_pick
  have b__law_pick := F__law_pick.binds (ps := ["source", "many"]) fun _ _ _ _ _ _ us hl => match us, hl with | [_, _], _ => rfl
  have cPick := clb_mk (x := "_law_pick") (ok_pickD (P := PP) (w := w) (base := base) F__law_pick bi) (gm g__law_pick) k__law_pick b__law_pick
  have F__law_names := fun_mk (st := s__law_names) l__law_names c__law_names k__law_names
  have b__law_names := F__law_names.binds (ps := ["source", "many"]) fun _ _ _ _ _ _ us hl => match us, hl with | [_, _], _ => rfl
  have cNames := clb_mk (x := "_law_names") (ok__law_names (P := PP) (w := w) (base := base) F__law_names bi cPick) (gm g__law_names) k__law_names b__law_names
  have F__law_relations := fun_mk (st := s__law_relations) l__law_relations c__law_relations k__law_relations
  have b__law_relations := F__law_relations.binds (ps := ["source", "most"]) fun _ _ _ _ _ _ us hl => match us, hl with | [_, _], _ => rfl
  have F__law_union := fun_mk (st := s__law_union) l__law_union c__law_union k__law_union
  have b__law_union := F__law_union.binds (ps := ["first", "second"]) fun _ _ _ _ _ _ us hl => match us, hl with | [_, _], _ => rfl
  have cUni := fun B : Heap => clb_mk (x := "_law_union") (ok__law_union (P := PP) (w := w) (base := B) F__law_union bi) (gm g__law_union) k__law_union b__law_union
  have F__law_relation := fun_mk (st := s__law_relation) l__law_relation c__law_relation k__law_relation
  have b__law_relation := F__law_relation.binds (ps := ["states", "first", "second"]) fun _ _ _ _ _ _ us hl => match us, hl with | [_, _, _], _ => rfl
  have cRel := fun B : Heap => clb_mk (x := "_law_relation") (ok__law_relation (P := PP) (w := w) (base := B) F__law_relation bi) (gm g__law_relation) k__law_relation b__law_relation
  have F__law_tables := fun_mk (st := s__law_tables) l__law_tables c__law_tables k__law_tables
  have b__law_tables := F__law_tables.binds (ps := ["found", "joined", "product", "low", "still"]) fun _ _ _ _ _ _ us hl => match us, hl with | [_, _, _, _, _], _ => rfl
  have cTab := fun B : Heap => clb_mk (x := "_law_tables") (ok__law_tables (P := PP) (w := w) (base := B) F__law_tables bi) (gm g__law_tables) k__law_tables b__law_tables
  have cRels := clb_mk (x := "_law_relations") (ok__law_relations (P := PP) (w := w) (base := base) F__law_relations bi cPick cUni cRel cTab (gm g__law_union) ⟨_, _, _, _, l__law_union⟩ tbR rfl hmR huR) (gm g__law_relations) k__law_relations b__law_relations
  have cSc := clb_mk (x := "_law_scale") (ok__law_scale (P := PP) (w := w) (base := base) F__law_scale bi cPick cNames cRels cTab tbS rfl hmS huS) (gm g__law_scale) k__law_scale b__law_scale
  have F__law_made_scale := fun_mk (st := s__law_made_scale) l__law_made_scale c__law_made_scale k__law_made_scale
  have b__law_made_scale := F__law_made_scale.binds (ps := ["scale"]) fun _ _ _ _ _ _ us hl => match us, hl with | [_], _ => rfl
  have F__law_words := fun_mk (st := s__law_words) l__law_words c__law_words k__law_words
  have b__law_words := F__law_words.binds (ps := ["scale", "rows"]) fun _ _ _ _ _ _ us hl => match us, hl with | [_, _], _ => rfl
  have cWo := clb_mk (x := "_law_words") (ok__law_words (P := PP) (w := w) (base := base) F__law_words bi) (gm g__law_words) k__law_words b__law_words
  have F_IcT := fun_mk (st := s_TableScale___init__) l_IcT c_IcT k_IcT
  have kb_IcT := DW.Fun.kbn F_IcT (ps := ["self", "names", "joins", "products", "none", "unit"]) (ks := ["none", "unit"]) (n := 4) fun _ _ _ _ _ _ us ws hl hl2 => match us, ws, hl, hl2 with | [_, _, _, _], [_, _], _, _ => rfl
  have F_BcB := fun_mk (st := s_Scale___init__) l_BcB c_BcB k_BcB
  have b_BcB := F_BcB.binds (ps := ["self", "names", "joins", "products", "none", "unit"]) fun _ _ _ _ _ _ us hl => match us, hl with | [_, _, _, _, _, _], _ => rfl
  have F__by_name := fun_mk (st := s__by_name) l__by_name c__by_name k__by_name
  have b__by_name := F__by_name.binds (ps := ["names", "rows"]) fun _ _ _ _ _ _ us hl => match us, hl with | [_, _], _ => rfl
  have cBy := clb_mk (x := "_by_name") (ok__by_name (P := PP) (w := w) (base := base) F__by_name bi) (gm g__by_name) k__by_name b__by_name
  have F_B_meet := fun_mk (st := s_Scale__meet) l_B_meet c_B_meet k_B_meet
  have b_B_meet := F_B_meet.binds (ps := ["self", "below", "a", "b"]) fun _ _ _ _ _ _ us hl => match us, hl with | [_, _, _, _], _ => rfl
  have F_Bjoined := fun_mk (st := s_Scale_joined) l_Bjoined c_Bjoined k_Bjoined
  have b_Bjoined := F_Bjoined.binds (ps := ["self", "grades"]) fun _ _ _ _ _ _ us hl => match us, hl with | [_, _], _ => rfl
  have o_mT_joined := ok_Scale_joined (P := PP) (w := w) (base := base) F_Bjoined bi sF mT_join
  have mT_joined := mth_mk clscT (⟨f_cT_joined, i_Bjoined, k_Bjoined⟩ : Meth K cT "joined" a_Bjoined) o_mT_joined b_Bjoined
  have o_mT__meet := ok_Scale__meet (P := PP) (w := w) (base := base) F_B_meet bi sF mT_joined
  have mT__meet := mth_mk clscT (⟨f_cT__meet, i_B_meet, k_B_meet⟩ : Meth K cT "_meet" a_B_meet) o_mT__meet b_B_meet
  have F_B_under := fun_mk (st := s_Scale__under) l_B_under c_B_under k_B_under
  have b_B_under := F_B_under.binds (ps := ["self", "below", "a", "b"]) fun _ _ _ _ _ _ us hl => match us, hl with | [_, _, _, _], _ => rfl
  have o_mT__under := ok_Scale__under (P := PP) (w := w) (base := base) F_B_under bi sF mT_joined
  have mT__under := mth_mk clscT (⟨f_cT__under, i_B_under, k_B_under⟩ : Meth K cT "_under" a_B_under) o_mT__under b_B_under
  have F_B_over := fun_mk (st := s_Scale__over) l_B_over c_B_over k_B_over
  have b_B_over := F_B_over.binds (ps := ["self", "below", "b", "a"]) fun _ _ _ _ _ _ us hl => match us, hl with | [_, _, _, _], _ => rfl
  have o_mT__over := ok_Scale__over (P := PP) (w := w) (base := base) F_B_over bi sF mT_joined
  have mT__over := mth_mk clscT (⟨f_cT__over, i_B_over, k_B_over⟩ : Meth K cT "_over" a_B_over) o_mT__over b_B_over
  have o_BcB := ok_Scale_init (P := PP) (w := w) (base := base) F_BcB bi sF cBy mT__meet mT__under mT__over
  have F__check_names := fun_mk (st := s__check_names) l__check_names c__check_names k__check_names
  have b__check_names := F__check_names.binds (ps := ["names"]) fun _ _ _ _ _ _ us hl => match us, hl with | [_], _ => rfl
  have F_check_count := fun_mk (st := s_check_count) l_check_count c_check_count k_check_count
  have b_check_count := F_check_count.binds (ps := ["count"]) fun _ _ _ _ _ _ us hl => match us, hl with | [_], _ => rfl
  have cCount := clb_mk (x := "check_count") (ok_check_count (P := PP) (w := w) (base := base) F_check_count bi (gm gM)) (gm g_check_count) k_check_count b_check_count
  have F_is_plain_name := fun_mk (st := s_is_plain_name) l_is_plain_name c_is_plain_name k_is_plain_name
  have b_is_plain_name := F_is_plain_name.binds (ps := ["name"]) fun _ _ _ _ _ _ us hl => match us, hl with | [_], _ => rfl
  have cPlain := clb_mk (x := "is_plain_name") (ok_is_plain_name (P := PP) (w := w) (base := base) F_is_plain_name bi (gm gL) (gm gN)) (gm g_is_plain_name) k_is_plain_name b_is_plain_name
  have cCn := clb_mk (x := "_check_names") (ok__check_names (P := PP) (w := w) (base := base) F__check_names bi cCount cPlain) (gm g__check_names) k__check_names b__check_names
  have F__check_rows := fun_mk (st := s__check_rows) l__check_rows c__check_rows k__check_rows
  have b__check_rows := F__check_rows.binds (ps := ["names", "rows"]) fun _ _ _ _ _ _ us hl => match us, hl with | [_, _], _ => rfl
  have cCr := clb_mk (x := "_check_rows") (ok__check_rows (P := PP) (w := w) (base := base) F__check_rows bi) (gm g__check_rows) k__check_rows b__check_rows
  have o_IcT := ok_TableScale_init (P := PP) (w := w) (base := base) F_IcT bi cCn cCr (gm gc_Scale) ⟨rd_cB, ga_cB⟩ ⟨cv_cB, rfl⟩ k_BcB o_BcB b_BcB
  have mk_T := MkI.mk (s := spInitT cT) (C := cT) ⟨mk_cT, in_cT, i_IcT, kp_cT⟩ o_IcT
  have cMS := clb_mk (x := "_law_made_scale") (ok__law_made_scale (P := PP) (w := w) (base := base) F__law_made_scale bi cWo mk_T kb_IcT (gm gc_TableScale)) (gm g__law_made_scale) k__law_made_scale b__law_made_scale
  have F__law_every := fun_mk (st := s__law_every) l__law_every c__law_every k__law_every
  have b__law_every := F__law_every.binds (ps := ["scale"]) fun _ _ _ _ _ _ us hl => match us, hl with | [_], _ => rfl
  have cEv := clb_mk (x := "_law_every") (ok__law_every (P := PP) (w := w) (base := base) F__law_every bi) (gm g__law_every) k__law_every b__law_every
  have F__law_within := fun_mk (st := s__law_within) l__law_within c__law_within k__law_within
  have b__law_within := F__law_within.binds (ps := ["scale", "a", "b"]) fun _ _ _ _ _ _ us hl => match us, hl with | [_, _, _], _ => rfl
  have cWi := clb_mk (x := "_law_within") (ok__law_within (P := PP) (w := w) (base := base) F__law_within bi) (gm g__law_within) k__law_within b__law_within
  have F__law_greatest := fun_mk (st := s__law_greatest) l__law_greatest c__law_greatest k__law_greatest
  have b__law_greatest := F__law_greatest.binds (ps := ["scale", "found", "good"]) fun _ _ _ _ _ _ us hl => match us, hl with | [_, _, _], _ => rfl
  have cGr := clb_mk (x := "_law_greatest") (ok__law_greatest (P := PP) (w := w) (base := base) F__law_greatest bi cWi) (gm g__law_greatest) k__law_greatest b__law_greatest
  have F__law_said := fun_mk (st := s__law_said) l__law_said c__law_said k__law_said
  have b__law_said := F__law_said.binds (ps := ["made", "way", "a", "b"]) fun _ _ _ _ _ _ us hl => match us, hl with | [_, _, _, _], _ => rfl
  have cSd := clb_mk (x := "_law_said") (ok__law_said (P := PP) (w := w) (base := base) F__law_said bi mT_meet mT_under mT_over (gm gc_UnknownGrade) xf_cU na_cU_name em_cU_cU) (gm g__law_said) k__law_said b__law_said
  have tabB : TabT K fun e t b => e = .ref cB ∧ t = .ref cT ∧ b = true := fun e t b hh => ⟨fun C hC => by rw [hh.2.1] at hC; cases hC; exact ins_cT, fun z => (by rw [hh.2.1] at z; cases z), .inl ⟨cB, hh.1, by rw [hh.2.1, hh.2.2]; exact isa_cT_cB⟩⟩
  exact ok_law (T := T) F_law bi cSrc mT_meet mT_under mT_over mT_within mT_grades cSc cMS cEv cWi cGr cSd (gm gc_Scale) tabB
end DW


namespace DW
namespace ZZ
open L2 PyProof.Rows PySem.Spec PySem
/-! ### the head's facts as data -/
abbrev FnZ : Type := Option (Str × Str × Arguments × FuncBody × Scope)
/-- the function at a, if there is one -/
def fdZ (K : PySem.W.Frag) (a : Addr) : Option FuncData := match K.lookup a with
  | some ⟨_, _, .func fd, _⟩ => some fd
  | _ => none
def fnZ (K : PySem.W.Frag) (a : Addr) : FnZ := (fdZ K a).map fun fd => (fd.name, fd.qualname, fd.params, fd.body, fd.scope)
def nonZ : Value → Bool
  | .none => true
  | _ => false
/-- a function without defaults, without a closure -/
def fnbZ (K : PySem.W.Frag) (a : Addr) : Bool := (fdZ K a).any fun fd => nonZ fd.defaults && (decide (fd.globals = mainGlobals) && (fd.closure.isEmpty && decide (fd.builtins = builtinsNs)))
def cloA : List (Str × Addr) → Addr
  | [(_, c)] => c
  | _ => 0
def cloB : List (Str × Addr) → Bool
  | [(x, _)] => decide (x = PySem.Str.ofString "__class__")
  | _ => false
def cloZ (K : PySem.W.Frag) (a : Addr) : Addr := (fdZ K a).elim 0 fun fd => cloA fd.closure
/-- .. with the one cell of its class -/
def fncZ (K : PySem.W.Frag) (a : Addr) : Bool := (fdZ K a).any fun fd => nonZ fd.defaults && (decide (fd.globals = mainGlobals) && (cloB fd.closure && decide (fd.builtins = builtinsNs)))
def refA : Value → Addr
  | .ref c => c
  | _ => 0
def isRef : Value → Bool
  | .ref _ => true
  | _ => false
def codeZ (K : PySem.W.Frag) (a : Addr) : Addr := (fdZ K a).elim 0 fun fd => refA fd.code
def refZ (K : PySem.W.Frag) (a : Addr) : Bool := (fdZ K a).any fun fd => isRef fd.code
def codeB (K : PySem.W.Frag) (a : Addr) (q : Str) : Bool := (fdZ K a).any fun fd => PySem.W.codeIn K fd.code q
theorem nonZ_eq : ∀ {v : Value}, nonZ v = true → v = .none
  | .none, _ => rfl
theorem cloB_eq : ∀ {l : List (Str × Addr)}, cloB l = true → l = [(PySem.Str.ofString "__class__", cloA l)]
  | [(_, _)], h => by rw [show _ = _ from of_decide_eq_true h]; rfl
section
variable {K : PySem.W.Frag} {a : Addr} {x q : Str} {ps : Arguments} {b : List Stmt} {sc : Scope}
theorem fdZ_at {fd : FuncData} (h : fdZ K a = some fd) : ∃ (oc : Value) (od : Option Addr) (osl : Array (Option Value)), K.lookup a = some ⟨oc, od, .func fd, osl⟩ := by
  unfold fdZ at h
  split at h
  · rename_i e
    cases h
    exact ⟨_, _, _, e⟩
  · cases h
theorem fn_at (e : fnZ K a = some (x, q, ps, .stmts b, sc)) (c : fnbZ K a = true) : ∃ (oc : Value) (od : Option Addr) (osl : Array (Option Value)) (kV doc pm : Value) (an : Option Addr) (cdv ct : Value), K.lookup a = some ⟨oc, od, .func (PySem.W.fnOf x q ps b sc .none kV doc pm an cdv ct), osl⟩ := by
  obtain ⟨fd, l, e⟩ := Option.map_eq_some_iff.mp e
  unfold fnbZ at c
  rw [l] at c
  simp only [Option.any_some, Bool.and_eq_true, decide_eq_true_eq, List.isEmpty_iff] at c
  obtain ⟨oc, od, osl, at_⟩ := fdZ_at l
  cases fd
  cases e
  obtain ⟨c3, rfl, rfl, rfl⟩ := c
  cases nonZ_eq c3
  exact ⟨oc, od, osl, _, _, _, _, _, _, at_⟩
theorem fnc_at (e : fnZ K a = some (x, q, ps, .stmts b, sc)) (c : fncZ K a = true) : ∃ (oc : Value) (od : Option Addr) (osl : Array (Option Value)) (kV doc pm : Value) (an : Option Addr) (cdv ct : Value), K.lookup a = some ⟨oc, od, .func (PySem.W.ksFn x q ps b sc .none kV doc pm an cdv ct (cloZ K a)), osl⟩ := by
  obtain ⟨fd, l, e⟩ := Option.map_eq_some_iff.mp e
  unfold fncZ at c
  unfold cloZ
  rw [l] at c ⊢
  simp only [Option.any_some, Bool.and_eq_true, decide_eq_true_eq] at c
  obtain ⟨oc, od, osl, at_⟩ := fdZ_at l
  cases fd
  cases e
  obtain ⟨c3, rfl, c5, rfl⟩ := c
  cases nonZ_eq c3
  replace c5 := cloB_eq c5
  dsimp only at c5
  rw [c5] at at_
  exact ⟨oc, od, osl, _, _, _, _, _, _, at_⟩
theorem codeAt_of {oc : Value} {od : Option Addr} {osl : Array (Option Value)} {fd : FuncData} (l : K.lookup a = some ⟨oc, od, .func fd, osl⟩) (c : codeB K a q = true) : PySem.W.codeIn K fd.code q = true := by
  unfold codeB fdZ at c
  rwa [l] at c
theorem codeZ_eq {oc : Value} {od : Option Addr} {osl : Array (Option Value)} {fd : FuncData} (l : K.lookup a = some ⟨oc, od, .func fd, osl⟩) (c : refZ K a = true) : fd.code = .ref (codeZ K a) := by
  unfold refZ fdZ at c
  unfold codeZ fdZ
  rw [l] at c ⊢
  show fd.code = .ref (refA fd.code)
  match fd.code, (show isRef fd.code = true from c) with
  | .ref z, _ => rfl
theorem int_at {i : Int} (c : (He.Fa.int x i).ok K = true) : ∃ t, PySem.W.nsIn K mainGlobals x = some (some (.int i t)) := by
  replace c : (match PySem.W.nsIn K mainGlobals x with | some (some (.int j _)) => decide (j = i) | _ => false) = true := c
  split at c
  · rename_i j t e
    exact ⟨t, of_decide_eq_true c ▸ e⟩
  · cases c
theorem str_at {z : Str} (c : (He.Fa.str x z).ok K = true) : ∃ t, PySem.W.nsIn K mainGlobals x = some (some (.str z t)) := by
  replace c : (match PySem.W.nsIn K mainGlobals x with | some (some (.str j _)) => decide (j = z) | _ => false) = true := c
  split at c
  · rename_i j t e
    exact ⟨t, of_decide_eq_true c ▸ e⟩
  · cases c
end
def clsvB (K : PySem.W.Frag) (C : Addr) (mc : Value) (m : Str) (a : Addr) : Bool := match PySem.W.findCls K (.ref C) mc m with
  | some (.val (.ref b)) => b == a
  | _ => false
theorem clsv_at {K : PySem.W.Frag} {C a : Addr} {mc : Value} {m : Str} (c : clsvB K C mc m a = true) : PySem.W.findCls K (.ref C) mc m = some (.val (.ref a)) := by
  unfold clsvB at c
  split at c
  · rename_i b e
    rw [e, beq_iff_eq.mp c]
  · cases c
def fileB (p : Program) (K : PySem.W.Frag) (a : Addr) : Bool := match K.lookup a with
  | some ⟨_, _, .fields vs, _⟩ => (match (vs[2]? : Option Value) with
    | some (.str f _) => (p.main.file : Str) == f
    | _ => false)
  | _ => false
theorem file_at {p : Program} {K : PySem.W.Frag} {a : Addr} (c : fileB p K a = true) : ∃ (oc : Value) (od : Option Addr) (vs : Array Value) (sl : Array (Option Value)) (f : Str) (t : Tok), K.lookup a = some ⟨oc, od, .fields vs, sl⟩ ∧ vs[2]? = some (.str f t) ∧ ((p.main.file : Str) == f) = true := by
  unfold fileB at c
  cases l : K.lookup a with
  | none => rw [l] at c; cases c
  | some o =>
    obtain ⟨oc, od, dt, osl⟩ := o
    rw [l] at c
    cases dt with
    | fields vs =>
      have c2 : (match (vs[2]? : Option Value) with | some (.str f _) => (p.main.file : Str) == f | _ => false) = true := c
      cases e : vs[2]? with
      | none => rw [e] at c2; cases c2
      | some v =>
        rw [e] at c2
        cases v with
        | str f t => exact ⟨oc, od, vs, osl, f, t, rfl, e, c2⟩
        | _ => cases c2
    | _ => cases c
def cellB (K : PySem.W.Frag) (a C : Addr) : Bool := match K.lookup a with
  | some ⟨_, _, .cell (some (.ref c)), _⟩ => c == C
  | _ => false
theorem cell_at {K : PySem.W.Frag} {a C : Addr} (c : cellB K a C = true) : ∃ (oc : Value) (od : Option Addr) (sl : Array (Option Value)), K.lookup a = some ⟨oc, od, .cell (some (.ref C)), sl⟩ := by
  unfold cellB at c
  split at c
  · rename_i oc od cc sl e
    rw [beq_iff_eq.mp c] at e
    exact ⟨oc, od, sl, e⟩
  · cases c
theorem tab_at {K : PySem.W.Frag} {c t : Addr} (h : PySem.W.codeHdIn K c t = true) : ∃ (oc : Value) (od : Option Addr) (vs : Array Value) (sl : Array (Option Value)), K.lookup c = some ⟨oc, od, .fields vs, sl⟩ ∧ vs[11]? = some (.ref t) := by
  unfold PySem.W.codeHdIn at h
  split at h
  · rename_i od vs sl e
    simp only [Bool.and_eq_true, and_assoc] at h
    have h1 := h.1
    split at h1
    · rename_i p e2
      rw [beq_iff_eq.mp h1] at e2
      exact ⟨_, od, vs, sl, e, e2⟩
    · cases h1
  · cases h
theorem allAt {l : List Bool} (h : l.all id = true) {i : Nat} {b : Bool} (e : l[i]? = some b) : b = true := List.all_eq_true.mp h b (List.mem_of_getElem? e)
theorem mapAt {α : Type} {l m : List α} (h : l = m) {i : Nat} {a b : α} (e : l[i]? = some a) (f : m[i]? = some b) : a = b := by
  rw [h, f] at e
  exact (Option.some.inj e).symm
def z_a_law (K : PySem.W.Frag) : Addr := He.ga K (PySem.Str.ofString "law")
def z_a__law_source (K : PySem.W.Frag) : Addr := He.ga K (PySem.Str.ofString "_law_source")
def z_cT (K : PySem.W.Frag) : Addr := He.ga K (PySem.Str.ofString "TableScale")
def z_a__entry (K : PySem.W.Frag) : Addr := He.ga K (PySem.Str.ofString "_entry")
def z_cU (K : PySem.W.Frag) : Addr := He.ga K (PySem.Str.ofString "UnknownGrade")
def z_a__law_scale (K : PySem.W.Frag) : Addr := He.ga K (PySem.Str.ofString "_law_scale")
def z_a__law_pick (K : PySem.W.Frag) : Addr := He.ga K (PySem.Str.ofString "_law_pick")
def z_a__law_names (K : PySem.W.Frag) : Addr := He.ga K (PySem.Str.ofString "_law_names")
def z_a__law_relations (K : PySem.W.Frag) : Addr := He.ga K (PySem.Str.ofString "_law_relations")
def z_a__law_union (K : PySem.W.Frag) : Addr := He.ga K (PySem.Str.ofString "_law_union")
def z_a__law_relation (K : PySem.W.Frag) : Addr := He.ga K (PySem.Str.ofString "_law_relation")
def z_a__law_tables (K : PySem.W.Frag) : Addr := He.ga K (PySem.Str.ofString "_law_tables")
def z_a__law_made_scale (K : PySem.W.Frag) : Addr := He.ga K (PySem.Str.ofString "_law_made_scale")
def z_a__law_words (K : PySem.W.Frag) : Addr := He.ga K (PySem.Str.ofString "_law_words")
def z_cB (K : PySem.W.Frag) : Addr := He.ga K (PySem.Str.ofString "Scale")
def z_a__by_name (K : PySem.W.Frag) : Addr := He.ga K (PySem.Str.ofString "_by_name")
def z_a__check_names (K : PySem.W.Frag) : Addr := He.ga K (PySem.Str.ofString "_check_names")
def z_a_check_count (K : PySem.W.Frag) : Addr := He.ga K (PySem.Str.ofString "check_count")
def z_a_is_plain_name (K : PySem.W.Frag) : Addr := He.ga K (PySem.Str.ofString "is_plain_name")
def z_a__check_rows (K : PySem.W.Frag) : Addr := He.ga K (PySem.Str.ofString "_check_rows")
def z_a__law_every (K : PySem.W.Frag) : Addr := He.ga K (PySem.Str.ofString "_law_every")
def z_a__law_within (K : PySem.W.Frag) : Addr := He.ga K (PySem.Str.ofString "_law_within")
def z_a__law_greatest (K : PySem.W.Frag) : Addr := He.ga K (PySem.Str.ofString "_law_greatest")
def z_a__law_said (K : PySem.W.Frag) : Addr := He.ga K (PySem.Str.ofString "_law_said")
def z_a_Bmeet (K : PySem.W.Frag) : Addr := He.ma K (z_cT K) (PySem.Str.ofString "meet")
def z_I_U (K : PySem.W.Frag) : Addr := He.ma K (z_cU K) (PySem.Str.ofString "__init__")
def z_a_Bunder (K : PySem.W.Frag) : Addr := He.ma K (z_cT K) (PySem.Str.ofString "under")
def z_a_Bover (K : PySem.W.Frag) : Addr := He.ma K (z_cT K) (PySem.Str.ofString "over")
def z_a_Bwithin (K : PySem.W.Frag) : Addr := He.ma K (z_cT K) (PySem.Str.ofString "within")
def z_a_Bjoin (K : PySem.W.Frag) : Addr := He.ma K (z_cT K) (PySem.Str.ofString "join")
def z_a_Bgrades (K : PySem.W.Frag) : Addr := He.ma K (z_cT K) (PySem.Str.ofString "grades")
def z_a_IcT (K : PySem.W.Frag) : Addr := He.ma K (z_cT K) (PySem.Str.ofString "__init__")
def z_a_BcB (K : PySem.W.Frag) : Addr := He.ma K (z_cB K) (PySem.Str.ofString "__init__")
def z_a_B_meet (K : PySem.W.Frag) : Addr := He.ma K (z_cT K) (PySem.Str.ofString "_meet")
def z_a_Bjoined (K : PySem.W.Frag) : Addr := He.ma K (z_cT K) (PySem.Str.ofString "joined")
def z_a_B_under (K : PySem.W.Frag) : Addr := He.ma K (z_cT K) (PySem.Str.ofString "_under")
def z_a_B_over (K : PySem.W.Frag) : Addr := He.ma K (z_cT K) (PySem.Str.ofString "_over")
def z_cda_U (K : PySem.W.Frag) : Addr := codeZ K (z_I_U K)
def z_cc_U (K : PySem.W.Frag) : Addr := cloZ K (z_I_U K)
def z_cS (K : PySem.W.Frag) : Addr := codeZ K (z_a__law_scale K)
def z_cR (K : PySem.W.Frag) : Addr := codeZ K (z_a__law_relations K)
def z_tS (K : PySem.W.Frag) : Addr := He.tabOf K (z_cS K)
def z_tR (K : PySem.W.Frag) : Addr := He.tabOf K (z_cR K)
def z_mc_cB (K : PySem.W.Frag) : Value := (PySem.W.typeIn K (.ref (z_cB K))).getD .none
def fnl (K : PySem.W.Frag) : List FnZ := [fnZ K (z_a_law K), fnZ K (z_a__law_source K), fnZ K (z_a_Bmeet K), fnZ K (z_a__entry K), fnZ K (z_I_U K), fnZ K (z_a_Bunder K), fnZ K (z_a_Bover K), fnZ K (z_a_Bwithin K), fnZ K (z_a_Bjoin K), fnZ K (z_a_Bgrades K), fnZ K (z_a__law_scale K), fnZ K (z_a__law_pick K), fnZ K (z_a__law_names K), fnZ K (z_a__law_relations K), fnZ K (z_a__law_union K), fnZ K (z_a__law_relation K), fnZ K (z_a__law_tables K), fnZ K (z_a__law_made_scale K), fnZ K (z_a__law_words K), fnZ K (z_a_IcT K), fnZ K (z_a_BcB K), fnZ K (z_a__by_name K), fnZ K (z_a_B_meet K), fnZ K (z_a_Bjoined K), fnZ K (z_a_B_under K), fnZ K (z_a_B_over K), fnZ K (z_a__check_names K), fnZ K (z_a_check_count K), fnZ K (z_a_is_plain_name K), fnZ K (z_a__check_rows K), fnZ K (z_a__law_every K), fnZ K (z_a__law_within K), fnZ K (z_a__law_greatest K), fnZ K (z_a__law_said K)]
def fvl : List FnZ := [some ((PySem.Str.ofString "law"), (PySem.Str.ofString "law"), defArgs s_law, .stmts (defBody s_law), defScope s_law), some ((PySem.Str.ofString "_law_source"), (PySem.Str.ofString "_law_source"), defArgs s__law_source, .stmts (defBody s__law_source), defScope s__law_source), some ((PySem.Str.ofString "meet"), (PySem.Str.ofString "Scale.meet"), defArgs s_Scale_meet, .stmts (defBody s_Scale_meet), defScope s_Scale_meet), some ((PySem.Str.ofString "_entry"), (PySem.Str.ofString "_entry"), defArgs s__entry, .stmts (defBody s__entry), defScope s__entry), some ((PySem.Str.ofString "__init__"), (PySem.Str.ofString "UnknownGrade.__init__"), defArgs (stOf topU), .stmts (defBody (stOf topU)), defScope (stOf topU)), some ((PySem.Str.ofString "under"), (PySem.Str.ofString "Scale.under"), defArgs s_Scale_under, .stmts (defBody s_Scale_under), defScope s_Scale_under), some ((PySem.Str.ofString "over"), (PySem.Str.ofString "Scale.over"), defArgs s_Scale_over, .stmts (defBody s_Scale_over), defScope s_Scale_over), some ((PySem.Str.ofString "within"), (PySem.Str.ofString "Scale.within"), defArgs s_Scale_within, .stmts (defBody s_Scale_within), defScope s_Scale_within), some ((PySem.Str.ofString "join"), (PySem.Str.ofString "Scale.join"), defArgs s_Scale_join, .stmts (defBody s_Scale_join), defScope s_Scale_join), some ((PySem.Str.ofString "grades"), (PySem.Str.ofString "Scale.grades"), defArgs s_Scale_grades, .stmts (defBody s_Scale_grades), defScope s_Scale_grades), some ((PySem.Str.ofString "_law_scale"), (PySem.Str.ofString "_law_scale"), defArgs s__law_scale, .stmts (defBody s__law_scale), defScope s__law_scale), some ((PySem.Str.ofString "_law_pick"), (PySem.Str.ofString "_law_pick"), defArgs s__law_pick, .stmts (defBody s__law_pick), defScope s__law_pick), some ((PySem.Str.ofString "_law_names"), (PySem.Str.ofString "_law_names"), defArgs s__law_names, .stmts (defBody s__law_names), defScope s__law_names), some ((PySem.Str.ofString "_law_relations"), (PySem.Str.ofString "_law_relations"), defArgs s__law_relations, .stmts (defBody s__law_relations), defScope s__law_relations), some ((PySem.Str.ofString "_law_union"), (PySem.Str.ofString "_law_union"), defArgs s__law_union, .stmts (defBody s__law_union), defScope s__law_union), some ((PySem.Str.ofString "_law_relation"), (PySem.Str.ofString "_law_relation"), defArgs s__law_relation, .stmts (defBody s__law_relation), defScope s__law_relation), some ((PySem.Str.ofString "_law_tables"), (PySem.Str.ofString "_law_tables"), defArgs s__law_tables, .stmts (defBody s__law_tables), defScope s__law_tables), some ((PySem.Str.ofString "_law_made_scale"), (PySem.Str.ofString "_law_made_scale"), defArgs s__law_made_scale, .stmts (defBody s__law_made_scale), defScope s__law_made_scale), some ((PySem.Str.ofString "_law_words"), (PySem.Str.ofString "_law_words"), defArgs s__law_words, .stmts (defBody s__law_words), defScope s__law_words), some ((PySem.Str.ofString "__init__"), (PySem.Str.ofString "TableScale.__init__"), defArgs s_TableScale___init__, .stmts (defBody s_TableScale___init__), defScope s_TableScale___init__), some ((PySem.Str.ofString "__init__"), (PySem.Str.ofString "Scale.__init__"), defArgs s_Scale___init__, .stmts (defBody s_Scale___init__), defScope s_Scale___init__), some ((PySem.Str.ofString "_by_name"), (PySem.Str.ofString "_by_name"), defArgs s__by_name, .stmts (defBody s__by_name), defScope s__by_name), some ((PySem.Str.ofString "_meet"), (PySem.Str.ofString "Scale._meet"), defArgs s_Scale__meet, .stmts (defBody s_Scale__meet), defScope s_Scale__meet), some ((PySem.Str.ofString "joined"), (PySem.Str.ofString "Scale.joined"), defArgs s_Scale_joined, .stmts (defBody s_Scale_joined), defScope s_Scale_joined), some ((PySem.Str.ofString "_under"), (PySem.Str.ofString "Scale._under"), defArgs s_Scale__under, .stmts (defBody s_Scale__under), defScope s_Scale__under), some ((PySem.Str.ofString "_over"), (PySem.Str.ofString "Scale._over"), defArgs s_Scale__over, .stmts (defBody s_Scale__over), defScope s_Scale__over), some ((PySem.Str.ofString "_check_names"), (PySem.Str.ofString "_check_names"), defArgs s__check_names, .stmts (defBody s__check_names), defScope s__check_names), some ((PySem.Str.ofString "check_count"), (PySem.Str.ofString "check_count"), defArgs s_check_count, .stmts (defBody s_check_count), defScope s_check_count), some ((PySem.Str.ofString "is_plain_name"), (PySem.Str.ofString "is_plain_name"), defArgs s_is_plain_name, .stmts (defBody s_is_plain_name), defScope s_is_plain_name), some ((PySem.Str.ofString "_check_rows"), (PySem.Str.ofString "_check_rows"), defArgs s__check_rows, .stmts (defBody s__check_rows), defScope s__check_rows), some ((PySem.Str.ofString "_law_every"), (PySem.Str.ofString "_law_every"), defArgs s__law_every, .stmts (defBody s__law_every), defScope s__law_every), some ((PySem.Str.ofString "_law_within"), (PySem.Str.ofString "_law_within"), defArgs s__law_within, .stmts (defBody s__law_within), defScope s__law_within), some ((PySem.Str.ofString "_law_greatest"), (PySem.Str.ofString "_law_greatest"), defArgs s__law_greatest, .stmts (defBody s__law_greatest), defScope s__law_greatest), some ((PySem.Str.ofString "_law_said"), (PySem.Str.ofString "_law_said"), defArgs s__law_said, .stmts (defBody s__law_said), defScope s__law_said)]
def bs0 (K : PySem.W.Frag) : List Bool := [fnbZ K (z_a_law K),
  fnbZ K (z_a__law_source K),
  fnbZ K (z_a_Bmeet K),
  fnbZ K (z_a__entry K),
  fncZ K (z_I_U K),
  refZ K (z_I_U K),
  fnbZ K (z_a_Bunder K),
  fnbZ K (z_a_Bover K),
  fnbZ K (z_a_Bwithin K),
  fnbZ K (z_a_Bjoin K),
  fnbZ K (z_a_Bgrades K),
  fnbZ K (z_a__law_scale K),
  refZ K (z_a__law_scale K),
  fnbZ K (z_a__law_pick K),
  fnbZ K (z_a__law_names K),
  fnbZ K (z_a__law_relations K),
  refZ K (z_a__law_relations K),
  fnbZ K (z_a__law_union K),
  fnbZ K (z_a__law_relation K),
  fnbZ K (z_a__law_tables K),
  fnbZ K (z_a__law_made_scale K),
  fnbZ K (z_a__law_words K),
  fnbZ K (z_a_IcT K),
  fnbZ K (z_a_BcB K),
  fnbZ K (z_a__by_name K),
  fnbZ K (z_a_B_meet K),
  fnbZ K (z_a_Bjoined K),
  fnbZ K (z_a_B_under K),
  fnbZ K (z_a_B_over K),
  fnbZ K (z_a__check_names K)]
def bs1 (K : PySem.W.Frag) : List Bool := [fnbZ K (z_a_check_count K),
  fnbZ K (z_a_is_plain_name K),
  fnbZ K (z_a__check_rows K),
  fnbZ K (z_a__law_every K),
  fnbZ K (z_a__law_within K),
  fnbZ K (z_a__law_greatest K),
  fnbZ K (z_a__law_said K),
  decide (PySem.W.nsIn K mainGlobals "len" = some none),
  decide (PySem.W.nsIn K mainGlobals "int" = some none),
  decide (PySem.W.nsIn K mainGlobals "abs" = some none),
  decide (PySem.W.nsIn K mainGlobals "range" = some none),
  decide (PySem.W.nsIn K mainGlobals "min" = some none),
  decide (PySem.W.nsIn K mainGlobals "max" = some none),
  decide (PySem.W.nsIn K mainGlobals "tuple" = some none),
  decide (PySem.W.nsIn K mainGlobals "list" = some none),
  decide (PySem.W.nsIn K mainGlobals "all" = some none),
  decide (PySem.W.nsIn K mainGlobals "zip" = some none),
  decide (PySem.W.nsIn K mainGlobals "enumerate" = some none),
  decide (PySem.W.nsIn K mainGlobals "dict" = some none),
  decide (PySem.W.nsIn K mainGlobals "isinstance" = some none),
  decide (PySem.W.nsIn K mainGlobals "super" = some none),
  decide (PySem.W.nsIn K mainGlobals "law" = some (some (.ref (z_a_law K)))),
  codeB K (z_a_law K) (PySem.Str.ofString "law"),
  PySem.W.keepIn K (.ref (z_a_law K)),
  decide (PySem.W.nsIn K mainGlobals "_law_source" = some (some (.ref (z_a__law_source K)))),
  codeB K (z_a__law_source K) (PySem.Str.ofString "_law_source"),
  PySem.W.keepIn K (.ref (z_a__law_source K)),
  decide (PySem.W.nsIn K mainGlobals "TableScale" = some (some (.ref (z_cT K)))),
  codeB K (z_a_Bmeet K) (PySem.Str.ofString "Scale.meet"),
  PySem.W.keepIn K (.ref (z_a_Bmeet K))]
def bs2 (K : PySem.W.Frag) : List Bool := [PySem.W.isFn K (.ref (z_a_Bmeet K)),
  decide (PySem.W.findIn K (.ref (z_cT K)) "meet" = some (some (.ref (z_a_Bmeet K)))),
  decide (PySem.W.nsIn K mainGlobals "_entry" = some (some (.ref (z_a__entry K)))),
  codeB K (z_a__entry K) (PySem.Str.ofString "_entry"),
  PySem.W.keepIn K (.ref (z_a__entry K)),
  decide (PySem.W.nsIn K mainGlobals "UnknownGrade" = some (some (.ref (z_cU K)))),
  decide (PySem.W.findIn K (.ref (z_cU K)) "__init__" = some (some (.ref (z_I_U K)))),
  decide (PySem.W.typeIn K (.ref (z_I_U K)) = some (.type "function")),
  PySem.W.codeIn K (.ref (z_cda_U K)) "UnknownGrade.__init__",
  fileB PP K (z_cda_U K),
  cellB K (z_cc_U K) (z_cU K),
  decide (PySem.W.ks_superIn K (z_cU K) (z_cU K) "__init__" = some (some (.builtin "LookupError.__init__"))),
  decide (PySem.W.mroIn K (z_cU K) (.ref (z_cU K)) = some true),
  codeB K (z_a_Bunder K) (PySem.Str.ofString "Scale.under"),
  PySem.W.keepIn K (.ref (z_a_Bunder K)),
  PySem.W.isFn K (.ref (z_a_Bunder K)),
  decide (PySem.W.findIn K (.ref (z_cT K)) "under" = some (some (.ref (z_a_Bunder K)))),
  codeB K (z_a_Bover K) (PySem.Str.ofString "Scale.over"),
  PySem.W.keepIn K (.ref (z_a_Bover K)),
  PySem.W.isFn K (.ref (z_a_Bover K)),
  decide (PySem.W.findIn K (.ref (z_cT K)) "over" = some (some (.ref (z_a_Bover K)))),
  codeB K (z_a_Bwithin K) (PySem.Str.ofString "Scale.within"),
  PySem.W.keepIn K (.ref (z_a_Bwithin K)),
  PySem.W.isFn K (.ref (z_a_Bwithin K)),
  decide (PySem.W.findIn K (.ref (z_cT K)) "within" = some (some (.ref (z_a_Bwithin K)))),
  codeB K (z_a_Bjoin K) (PySem.Str.ofString "Scale.join"),
  PySem.W.keepIn K (.ref (z_a_Bjoin K)),
  PySem.W.isFn K (.ref (z_a_Bjoin K)),
  decide (PySem.W.findIn K (.ref (z_cT K)) "join" = some (some (.ref (z_a_Bjoin K)))),
  codeB K (z_a_Bgrades K) (PySem.Str.ofString "Scale.grades")]
def bs3 (K : PySem.W.Frag) : List Bool := [PySem.W.keepIn K (.ref (z_a_Bgrades K)),
  PySem.W.isFn K (.ref (z_a_Bgrades K)),
  decide (PySem.W.findIn K (.ref (z_cT K)) "grades" = some (some (.ref (z_a_Bgrades K)))),
  decide (PySem.W.nsIn K mainGlobals "_law_scale" = some (some (.ref (z_a__law_scale K)))),
  PySem.W.codeIn K (.ref (z_cS K)) "_law_scale",
  PySem.W.keepIn K (.ref (z_a__law_scale K)),
  PySem.W.codeHdIn K (z_cS K) (z_tS K),
  PySem.W.codeHdIn K (z_cS K) (z_tS K),
  decide (PySem.W.nsIn K mainGlobals "_law_pick" = some (some (.ref (z_a__law_pick K)))),
  codeB K (z_a__law_pick K) (PySem.Str.ofString "_law_pick"),
  PySem.W.keepIn K (.ref (z_a__law_pick K)),
  decide (PySem.W.nsIn K mainGlobals "_law_names" = some (some (.ref (z_a__law_names K)))),
  codeB K (z_a__law_names K) (PySem.Str.ofString "_law_names"),
  PySem.W.keepIn K (.ref (z_a__law_names K)),
  decide (PySem.W.nsIn K mainGlobals "_law_relations" = some (some (.ref (z_a__law_relations K)))),
  PySem.W.codeIn K (.ref (z_cR K)) "_law_relations",
  PySem.W.keepIn K (.ref (z_a__law_relations K)),
  PySem.W.codeHdIn K (z_cR K) (z_tR K),
  PySem.W.codeHdIn K (z_cR K) (z_tR K),
  decide (PySem.W.nsIn K mainGlobals "_law_union" = some (some (.ref (z_a__law_union K)))),
  codeB K (z_a__law_union K) (PySem.Str.ofString "_law_union"),
  PySem.W.keepIn K (.ref (z_a__law_union K)),
  decide (PySem.W.nsIn K mainGlobals "_law_relation" = some (some (.ref (z_a__law_relation K)))),
  codeB K (z_a__law_relation K) (PySem.Str.ofString "_law_relation"),
  PySem.W.keepIn K (.ref (z_a__law_relation K)),
  decide (PySem.W.nsIn K mainGlobals "_law_tables" = some (some (.ref (z_a__law_tables K)))),
  codeB K (z_a__law_tables K) (PySem.Str.ofString "_law_tables"),
  PySem.W.keepIn K (.ref (z_a__law_tables K)),
  decide (PySem.W.nsIn K mainGlobals "_law_made_scale" = some (some (.ref (z_a__law_made_scale K)))),
  codeB K (z_a__law_made_scale K) (PySem.Str.ofString "_law_made_scale")]
def bs4 (K : PySem.W.Frag) : List Bool := [PySem.W.keepIn K (.ref (z_a__law_made_scale K)),
  decide (PySem.W.nsIn K mainGlobals "_law_words" = some (some (.ref (z_a__law_words K)))),
  codeB K (z_a__law_words K) (PySem.Str.ofString "_law_words"),
  PySem.W.keepIn K (.ref (z_a__law_words K)),
  PySem.W.makesIn K (z_cT K),
  decide (PySem.W.findIn K (.ref (z_cT K)) "__init__" = some (some (.ref (z_a_IcT K)))),
  codeB K (z_a_IcT K) (PySem.Str.ofString "TableScale.__init__"),
  PySem.W.keepIn K (.ref (z_a_IcT K)),
  PySem.W.isFn K (.ref (z_a_IcT K)),
  PySem.W.keepIn K (.ref (z_cT K)),
  decide (PySem.W.nsIn K mainGlobals "Scale" = some (some (.ref (z_cB K)))),
  decide (PySem.W.typeIn K (.ref (z_cB K)) = some (z_mc_cB K)),
  PySem.W.readsIn K (z_cB K) (z_mc_cB K),
  decide (PySem.W.specialIn K (.ref (z_cB K)) "__getattribute__" = some (some (.builtin "type.__getattribute__"))),
  clsvB K (z_cB K) (z_mc_cB K) (PySem.Str.ofString "__init__") (z_a_BcB K),
  codeB K (z_a_BcB K) (PySem.Str.ofString "Scale.__init__"),
  PySem.W.keepIn K (.ref (z_a_BcB K)),
  decide (PySem.W.nsIn K mainGlobals "_by_name" = some (some (.ref (z_a__by_name K)))),
  codeB K (z_a__by_name K) (PySem.Str.ofString "_by_name"),
  PySem.W.keepIn K (.ref (z_a__by_name K)),
  codeB K (z_a_B_meet K) (PySem.Str.ofString "Scale._meet"),
  PySem.W.keepIn K (.ref (z_a_B_meet K)),
  PySem.W.isFn K (.ref (z_a_B_meet K)),
  decide (PySem.W.findIn K (.ref (z_cT K)) "_meet" = some (some (.ref (z_a_B_meet K)))),
  codeB K (z_a_Bjoined K) (PySem.Str.ofString "Scale.joined"),
  PySem.W.keepIn K (.ref (z_a_Bjoined K)),
  PySem.W.isFn K (.ref (z_a_Bjoined K)),
  decide (PySem.W.findIn K (.ref (z_cT K)) "joined" = some (some (.ref (z_a_Bjoined K)))),
  codeB K (z_a_B_under K) (PySem.Str.ofString "Scale._under"),
  PySem.W.keepIn K (.ref (z_a_B_under K))]
def bs5 (K : PySem.W.Frag) : List Bool := [PySem.W.isFn K (.ref (z_a_B_under K)),
  decide (PySem.W.findIn K (.ref (z_cT K)) "_under" = some (some (.ref (z_a_B_under K)))),
  codeB K (z_a_B_over K) (PySem.Str.ofString "Scale._over"),
  PySem.W.keepIn K (.ref (z_a_B_over K)),
  PySem.W.isFn K (.ref (z_a_B_over K)),
  decide (PySem.W.findIn K (.ref (z_cT K)) "_over" = some (some (.ref (z_a_B_over K)))),
  decide (PySem.W.nsIn K mainGlobals "_check_names" = some (some (.ref (z_a__check_names K)))),
  codeB K (z_a__check_names K) (PySem.Str.ofString "_check_names"),
  PySem.W.keepIn K (.ref (z_a__check_names K)),
  decide (PySem.W.nsIn K mainGlobals "check_count" = some (some (.ref (z_a_check_count K)))),
  codeB K (z_a_check_count K) (PySem.Str.ofString "check_count"),
  PySem.W.keepIn K (.ref (z_a_check_count K)),
  (He.Fa.int (PySem.Str.ofString "MOST_GRADES") 16).ok K,
  decide (PySem.W.nsIn K mainGlobals "is_plain_name" = some (some (.ref (z_a_is_plain_name K)))),
  codeB K (z_a_is_plain_name K) (PySem.Str.ofString "is_plain_name"),
  PySem.W.keepIn K (.ref (z_a_is_plain_name K)),
  (He.Fa.int (PySem.Str.ofString "LONGEST_NAME") 12).ok K,
  (He.Fa.str (PySem.Str.ofString "NAME_MARKS") sgn).ok K,
  decide (PySem.W.nsIn K mainGlobals "_check_rows" = some (some (.ref (z_a__check_rows K)))),
  codeB K (z_a__check_rows K) (PySem.Str.ofString "_check_rows"),
  PySem.W.keepIn K (.ref (z_a__check_rows K)),
  decide (PySem.W.nsIn K mainGlobals "_law_every" = some (some (.ref (z_a__law_every K)))),
  codeB K (z_a__law_every K) (PySem.Str.ofString "_law_every"),
  PySem.W.keepIn K (.ref (z_a__law_every K)),
  decide (PySem.W.nsIn K mainGlobals "_law_within" = some (some (.ref (z_a__law_within K)))),
  codeB K (z_a__law_within K) (PySem.Str.ofString "_law_within"),
  PySem.W.keepIn K (.ref (z_a__law_within K)),
  decide (PySem.W.nsIn K mainGlobals "_law_greatest" = some (some (.ref (z_a__law_greatest K)))),
  codeB K (z_a__law_greatest K) (PySem.Str.ofString "_law_greatest"),
  PySem.W.keepIn K (.ref (z_a__law_greatest K))]
def bs6 (K : PySem.W.Frag) : List Bool := [decide (PySem.W.nsIn K mainGlobals "_law_said" = some (some (.ref (z_a__law_said K)))),
  codeB K (z_a__law_said K) (PySem.Str.ofString "_law_said"),
  PySem.W.keepIn K (.ref (z_a__law_said K)),
  decide ((z_tR K) ≠ (z_tS K)),
  kB K (z_cB K) (z_cT K) (z_cU K)]
def bsl (K : PySem.W.Frag) : List Bool := bs0 K ++ (bs1 K ++ (bs2 K ++ (bs3 K ++ (bs4 K ++ (bs5 K ++ (bs6 K))))))
def tsl (K : PySem.W.Frag) : List Addr := [z_tS K, z_tR K]
def ad0 : List Addr := [2, 3, 15, 17, 18, 20, 21, 22, 29, 30, 31, 32, 35, 42, 43, 44, 45, 48, 55, 56, 57, 60, 63, 68, 69, 71, 72, 74, 75, 76, 77, 78, 81, 84, 85, 86, 88, 89, 91, 92, 93, 95, 96, 98, 99, 100, 103, 104, 105, 108, 109, 110, 112, 113, 115, 116, 124, 127, 128, 129]
def ad1 : List Addr := [132, 133, 134, 137, 138, 139, 142, 143, 144, 146, 147, 149, 150, 151, 153, 154, 156, 157, 158, 160, 161, 163, 164, 165, 167, 168, 170, 171, 172, 174, 175, 177, 178, 179, 181, 182, 184, 185, 186, 188, 189, 191, 192, 193, 195, 196, 198, 199, 200, 202, 203, 205, 206, 207, 209, 210, 212, 213, 214, 216]
def ad2 : List Addr := [217, 219, 220, 221, 223, 224, 226, 227, 228, 229, 230, 231, 232, 235, 242, 244, 245, 247, 248, 249, 250, 251, 254, 257, 258, 259, 261, 262, 264, 265, 266, 268, 269, 271, 272, 273, 276, 277, 278, 281, 282, 283, 286, 287, 288, 291, 292, 293, 296, 297, 298, 301, 302, 303, 305, 306, 308, 309, 310, 312]
def ad3 : List Addr := [313, 315, 316, 324, 326, 327, 329, 330, 346, 349, 350, 351, 353, 354, 356, 357, 358, 361, 362]
def adl : List Addr := ad0 ++ (ad1 ++ (ad2 ++ (ad3)))
def nm0 : List PySem.Str := [PySem.Str.ofString "_wall", PySem.Str.ofString "FarscaleError", PySem.Str.ofString "NameMissing", PySem.Str.ofString "BadScale", PySem.Str.ofString "UnknownGrade", PySem.Str.ofString "MOST_GRADES", PySem.Str.ofString "LONGEST_NAME", PySem.Str.ofString "NAME_MARKS", PySem.Str.ofString "is_plain_name", PySem.Str.ofString "check_count", PySem.Str.ofString "_check_names", PySem.Str.ofString "_check_rows", PySem.Str.ofString "_by_name", PySem.Str.ofString "_entry", PySem.Str.ofString "Scale", PySem.Str.ofString "TableScale", PySem.Str.ofString "_law_source", PySem.Str.ofString "_law_pick", PySem.Str.ofString "_law_names", PySem.Str.ofString "_law_relation", PySem.Str.ofString "_law_union", PySem.Str.ofString "_law_tables", PySem.Str.ofString "_law_relations", PySem.Str.ofString "_law_scale", PySem.Str.ofString "_law_words", PySem.Str.ofString "_law_made_scale", PySem.Str.ofString "_law_within", PySem.Str.ofString "_law_joined", PySem.Str.ofString "_law_every", PySem.Str.ofString "_law_met", PySem.Str.ofString "_law_under", PySem.Str.ofString "_law_over", PySem.Str.ofString "_law_greatest", PySem.Str.ofString "_law_said"]
def nml : List PySem.Str := nm0
structure SaysZ (h : Heap) (K : PySem.W.Frag) : Prop where
  fn : fnl K = fvl
  bs : (bsl K).all id = true
  ts : ∀ (i : Nat) {t : Addr}, (tsl K)[i]? = some t → K.lookup t = none ∧ h.get? t = some (PySem.W.tabObj #[])
def obsZ (g : Addr → Option Obj) : List FnZ × Bool := (fnl (He.frT g adl), (bsl (He.frT g adl)).all id && (tsl (He.frT g adl)).all fun t => match g t with
  | some o => He.emptyTab o
  | none => false)
theorem says_of {h : Heap} (e : obsZ h.get? = (fvl, true)) : SaysZ h (He.frT h.get? adl) := by
  have e1 : fnl (He.frT h.get? adl) = fvl := congrArg (fun z : List FnZ × Bool => z.1) e
  have e2 := Bool.and_eq_true_iff.mp (congrArg (fun z : List FnZ × Bool => z.2) e)
  refine ⟨e1, e2.1, fun i t ht => ?_⟩
  have q := List.all_eq_true.mp e2.2 t (List.mem_of_getElem? ht)
  cases l : h.get? t with
  | none => rw [l] at q; cases q
  | some o =>
    rw [l] at q
    exact ⟨He.frT_none l q, congrArg some (He.emptyTab_eq q)⟩
def hk : PySem.W.Hook where
  α := List FnZ × Bool
  obs := fun s => obsZ s.heap.get?
  val := fun _ => (fvl, true)
  says := fun _ h => ∃ K : PySem.W.Frag, K.In h ∧ SaysZ h K
  of := fun _ _ e => ⟨_, He.frT_in, says_of e⟩
  keeps := fun _ _ _ ⟨K, hK, c⟩ k => ⟨K, PySem.W.Frag.In.keeps hK k, ⟨c.fn, c.bs, fun i t ht => ⟨(c.ts i ht).1, k _ _ (c.ts i ht).2⟩⟩⟩
abbrev RR : PySem.W.OpenRow := PySem.W.OpenLaw.row PySem.Challenge.rw_farscale_k04_whole_quotients_of_grades
abbrev qv : Program := PySem.W.view RR.prog [37]
def ob (s : PySem.W.SharedT) : List FnZ × Bool := obsZ (HandSHeadRun.getT s)
theorem ob_eq (s : PySem.W.SharedT) : ob s = hk.obs s.abs := by
  have e : HandSHeadRun.getT s = s.abs.heap.get? := funext (HandSHeadRun.getT_eq s)
  show obsZ (HandSHeadRun.getT s) = obsZ s.abs.heap.get?
  rw [e]
theorem run (w : World) : HandSHeadRun.RunEq RR qv hk ob 5716 nml w := by
  intro os
  kernel_rfl
theorem fin {w : World} {K : PySem.W.Frag} {h : Heap} {mg : Str → Option Value} {fl : Addr} (X : K.In h) (G : h.Ns mainGlobals mg) (hfa : mg "law" = some (.ref fl)) (c : SaysZ h K) : LamX.LawAtS PySem.Challenge.rw_farscale_k04_whole_quotients_of_grades w K (L2.CX PP w) 13 63 "script" mg fl h := by
  obtain ⟨hl, hb, ht⟩ := c
  obtain ⟨oc_law, od_law, sl_law, kV_law, dc_law, pm_law, an_law, cdx_l_law, ct_law, l_law0⟩ := fn_at (mapAt hl (i := 0) rfl rfl) (allAt hb (i := 0) rfl)
  have l_law := l_law0
  obtain ⟨oc__law_source, od__law_source, sl__law_source, kV__law_source, dc__law_source, pm__law_source, an__law_source, cdx_l__law_source, ct__law_source, l__law_source0⟩ := fn_at (mapAt hl (i := 1) rfl rfl) (allAt hb (i := 1) rfl)
  have l__law_source := l__law_source0
  obtain ⟨oc_Bmeet, od_Bmeet, sl_Bmeet, kV_Bmeet, dc_Bmeet, pm_Bmeet, an_Bmeet, cdx_l_Bmeet, ct_Bmeet, l_Bmeet0⟩ := fn_at (mapAt hl (i := 2) rfl rfl) (allAt hb (i := 2) rfl)
  have l_Bmeet := l_Bmeet0
  obtain ⟨oc__entry, od__entry, sl__entry, kV__entry, dc__entry, pm__entry, an__entry, cdx_l__entry, ct__entry, l__entry0⟩ := fn_at (mapAt hl (i := 3) rfl rfl) (allAt hb (i := 3) rfl)
  have l__entry := l__entry0
  obtain ⟨oc_U, od_U, sl_U, kV_U, dc_U, pm_U, an_U, cdx_l1U, ct_U, l1U0⟩ := fnc_at (mapAt hl (i := 4) rfl rfl) (allAt hb (i := 4) rfl)
  have l1U : K.lookup (z_I_U K) = some ⟨oc_U, od_U, .func (PySem.W.ksFn "__init__" "UnknownGrade.__init__" (defArgs (stOf topU)) (defBody (stOf topU)) (defScope (stOf topU)) .none kV_U dc_U pm_U an_U (.ref (z_cda_U K)) ct_U (z_cc_U K)), sl_U⟩ := by have e : cdx_l1U = .ref (codeZ K (z_I_U K)) := codeZ_eq l1U0 (allAt hb (i := 5) rfl); rw [e] at l1U0; exact l1U0
  obtain ⟨oc_Bunder, od_Bunder, sl_Bunder, kV_Bunder, dc_Bunder, pm_Bunder, an_Bunder, cdx_l_Bunder, ct_Bunder, l_Bunder0⟩ := fn_at (mapAt hl (i := 5) rfl rfl) (allAt hb (i := 6) rfl)
  have l_Bunder := l_Bunder0
  obtain ⟨oc_Bover, od_Bover, sl_Bover, kV_Bover, dc_Bover, pm_Bover, an_Bover, cdx_l_Bover, ct_Bover, l_Bover0⟩ := fn_at (mapAt hl (i := 6) rfl rfl) (allAt hb (i := 7) rfl)
  have l_Bover := l_Bover0
  obtain ⟨oc_Bwithin, od_Bwithin, sl_Bwithin, kV_Bwithin, dc_Bwithin, pm_Bwithin, an_Bwithin, cdx_l_Bwithin, ct_Bwithin, l_Bwithin0⟩ := fn_at (mapAt hl (i := 7) rfl rfl) (allAt hb (i := 8) rfl)
  have l_Bwithin := l_Bwithin0
  obtain ⟨oc_Bjoin, od_Bjoin, sl_Bjoin, kV_Bjoin, dc_Bjoin, pm_Bjoin, an_Bjoin, cdx_l_Bjoin, ct_Bjoin, l_Bjoin0⟩ := fn_at (mapAt hl (i := 8) rfl rfl) (allAt hb (i := 9) rfl)
  have l_Bjoin := l_Bjoin0
  obtain ⟨oc_Bgrades, od_Bgrades, sl_Bgrades, kV_Bgrades, dc_Bgrades, pm_Bgrades, an_Bgrades, cdx_l_Bgrades, ct_Bgrades, l_Bgrades0⟩ := fn_at (mapAt hl (i := 9) rfl rfl) (allAt hb (i := 10) rfl)
  have l_Bgrades := l_Bgrades0
  obtain ⟨oc__law_scale, od__law_scale, sl__law_scale, kV__law_scale, dc__law_scale, pm__law_scale, an__law_scale, cdx_l__law_scale, ct__law_scale, l__law_scale0⟩ := fn_at (mapAt hl (i := 10) rfl rfl) (allAt hb (i := 11) rfl)
  have l__law_scale : K.lookup (z_a__law_scale K) = some ⟨oc__law_scale, od__law_scale, .func (PySem.W.fnOf "_law_scale" "_law_scale" (defArgs s__law_scale) (defBody s__law_scale) (defScope s__law_scale) .none kV__law_scale dc__law_scale pm__law_scale an__law_scale (.ref (z_cS K)) ct__law_scale), sl__law_scale⟩ := by have e : cdx_l__law_scale = .ref (codeZ K (z_a__law_scale K)) := codeZ_eq l__law_scale0 (allAt hb (i := 12) rfl); rw [e] at l__law_scale0; exact l__law_scale0
  obtain ⟨oc__law_pick, od__law_pick, sl__law_pick, kV__law_pick, dc__law_pick, pm__law_pick, an__law_pick, cdx_l__law_pick, ct__law_pick, l__law_pick0⟩ := fn_at (mapAt hl (i := 11) rfl rfl) (allAt hb (i := 13) rfl)
  have l__law_pick := l__law_pick0
  obtain ⟨oc__law_names, od__law_names, sl__law_names, kV__law_names, dc__law_names, pm__law_names, an__law_names, cdx_l__law_names, ct__law_names, l__law_names0⟩ := fn_at (mapAt hl (i := 12) rfl rfl) (allAt hb (i := 14) rfl)
  have l__law_names := l__law_names0
  obtain ⟨oc__law_relations, od__law_relations, sl__law_relations, kV__law_relations, dc__law_relations, pm__law_relations, an__law_relations, cdx_l__law_relations, ct__law_relations, l__law_relations0⟩ := fn_at (mapAt hl (i := 13) rfl rfl) (allAt hb (i := 15) rfl)
  have l__law_relations : K.lookup (z_a__law_relations K) = some ⟨oc__law_relations, od__law_relations, .func (PySem.W.fnOf "_law_relations" "_law_relations" (defArgs s__law_relations) (defBody s__law_relations) (defScope s__law_relations) .none kV__law_relations dc__law_relations pm__law_relations an__law_relations (.ref (z_cR K)) ct__law_relations), sl__law_relations⟩ := by have e : cdx_l__law_relations = .ref (codeZ K (z_a__law_relations K)) := codeZ_eq l__law_relations0 (allAt hb (i := 16) rfl); rw [e] at l__law_relations0; exact l__law_relations0
  obtain ⟨oc__law_union, od__law_union, sl__law_union, kV__law_union, dc__law_union, pm__law_union, an__law_union, cdx_l__law_union, ct__law_union, l__law_union0⟩ := fn_at (mapAt hl (i := 14) rfl rfl) (allAt hb (i := 17) rfl)
  have l__law_union := l__law_union0
  obtain ⟨oc__law_relation, od__law_relation, sl__law_relation, kV__law_relation, dc__law_relation, pm__law_relation, an__law_relation, cdx_l__law_relation, ct__law_relation, l__law_relation0⟩ := fn_at (mapAt hl (i := 15) rfl rfl) (allAt hb (i := 18) rfl)
  have l__law_relation := l__law_relation0
  obtain ⟨oc__law_tables, od__law_tables, sl__law_tables, kV__law_tables, dc__law_tables, pm__law_tables, an__law_tables, cdx_l__law_tables, ct__law_tables, l__law_tables0⟩ := fn_at (mapAt hl (i := 16) rfl rfl) (allAt hb (i := 19) rfl)
  have l__law_tables := l__law_tables0
  obtain ⟨oc__law_made_scale, od__law_made_scale, sl__law_made_scale, kV__law_made_scale, dc__law_made_scale, pm__law_made_scale, an__law_made_scale, cdx_l__law_made_scale, ct__law_made_scale, l__law_made_scale0⟩ := fn_at (mapAt hl (i := 17) rfl rfl) (allAt hb (i := 20) rfl)
  have l__law_made_scale := l__law_made_scale0
  obtain ⟨oc__law_words, od__law_words, sl__law_words, kV__law_words, dc__law_words, pm__law_words, an__law_words, cdx_l__law_words, ct__law_words, l__law_words0⟩ := fn_at (mapAt hl (i := 18) rfl rfl) (allAt hb (i := 21) rfl)
  have l__law_words := l__law_words0
  obtain ⟨oc_IcT, od_IcT, sl_IcT, kV_IcT, dc_IcT, pm_IcT, an_IcT, cdx_l_IcT, ct_IcT, l_IcT0⟩ := fn_at (mapAt hl (i := 19) rfl rfl) (allAt hb (i := 22) rfl)
  have l_IcT := l_IcT0
  obtain ⟨oc_BcB, od_BcB, sl_BcB, kV_BcB, dc_BcB, pm_BcB, an_BcB, cdx_l_BcB, ct_BcB, l_BcB0⟩ := fn_at (mapAt hl (i := 20) rfl rfl) (allAt hb (i := 23) rfl)
  have l_BcB := l_BcB0
  obtain ⟨oc__by_name, od__by_name, sl__by_name, kV__by_name, dc__by_name, pm__by_name, an__by_name, cdx_l__by_name, ct__by_name, l__by_name0⟩ := fn_at (mapAt hl (i := 21) rfl rfl) (allAt hb (i := 24) rfl)
  have l__by_name := l__by_name0
  obtain ⟨oc_B_meet, od_B_meet, sl_B_meet, kV_B_meet, dc_B_meet, pm_B_meet, an_B_meet, cdx_l_B_meet, ct_B_meet, l_B_meet0⟩ := fn_at (mapAt hl (i := 22) rfl rfl) (allAt hb (i := 25) rfl)
  have l_B_meet := l_B_meet0
  obtain ⟨oc_Bjoined, od_Bjoined, sl_Bjoined, kV_Bjoined, dc_Bjoined, pm_Bjoined, an_Bjoined, cdx_l_Bjoined, ct_Bjoined, l_Bjoined0⟩ := fn_at (mapAt hl (i := 23) rfl rfl) (allAt hb (i := 26) rfl)
  have l_Bjoined := l_Bjoined0
  obtain ⟨oc_B_under, od_B_under, sl_B_under, kV_B_under, dc_B_under, pm_B_under, an_B_under, cdx_l_B_under, ct_B_under, l_B_under0⟩ := fn_at (mapAt hl (i := 24) rfl rfl) (allAt hb (i := 27) rfl)
  have l_B_under := l_B_under0
  obtain ⟨oc_B_over, od_B_over, sl_B_over, kV_B_over, dc_B_over, pm_B_over, an_B_over, cdx_l_B_over, ct_B_over, l_B_over0⟩ := fn_at (mapAt hl (i := 25) rfl rfl) (allAt hb (i := 28) rfl)
  have l_B_over := l_B_over0
  obtain ⟨oc__check_names, od__check_names, sl__check_names, kV__check_names, dc__check_names, pm__check_names, an__check_names, cdx_l__check_names, ct__check_names, l__check_names0⟩ := fn_at (mapAt hl (i := 26) rfl rfl) (allAt hb (i := 29) rfl)
  have l__check_names := l__check_names0
  obtain ⟨oc_check_count, od_check_count, sl_check_count, kV_check_count, dc_check_count, pm_check_count, an_check_count, cdx_l_check_count, ct_check_count, l_check_count0⟩ := fn_at (mapAt hl (i := 27) rfl rfl) (allAt hb (i := 30) rfl)
  have l_check_count := l_check_count0
  obtain ⟨oc_is_plain_name, od_is_plain_name, sl_is_plain_name, kV_is_plain_name, dc_is_plain_name, pm_is_plain_name, an_is_plain_name, cdx_l_is_plain_name, ct_is_plain_name, l_is_plain_name0⟩ := fn_at (mapAt hl (i := 28) rfl rfl) (allAt hb (i := 31) rfl)
  have l_is_plain_name := l_is_plain_name0
  obtain ⟨oc__check_rows, od__check_rows, sl__check_rows, kV__check_rows, dc__check_rows, pm__check_rows, an__check_rows, cdx_l__check_rows, ct__check_rows, l__check_rows0⟩ := fn_at (mapAt hl (i := 29) rfl rfl) (allAt hb (i := 32) rfl)
  have l__check_rows := l__check_rows0
  obtain ⟨oc__law_every, od__law_every, sl__law_every, kV__law_every, dc__law_every, pm__law_every, an__law_every, cdx_l__law_every, ct__law_every, l__law_every0⟩ := fn_at (mapAt hl (i := 30) rfl rfl) (allAt hb (i := 33) rfl)
  have l__law_every := l__law_every0
  obtain ⟨oc__law_within, od__law_within, sl__law_within, kV__law_within, dc__law_within, pm__law_within, an__law_within, cdx_l__law_within, ct__law_within, l__law_within0⟩ := fn_at (mapAt hl (i := 31) rfl rfl) (allAt hb (i := 34) rfl)
  have l__law_within := l__law_within0
  obtain ⟨oc__law_greatest, od__law_greatest, sl__law_greatest, kV__law_greatest, dc__law_greatest, pm__law_greatest, an__law_greatest, cdx_l__law_greatest, ct__law_greatest, l__law_greatest0⟩ := fn_at (mapAt hl (i := 32) rfl rfl) (allAt hb (i := 35) rfl)
  have l__law_greatest := l__law_greatest0
  obtain ⟨oc__law_said, od__law_said, sl__law_said, kV__law_said, dc__law_said, pm__law_said, an__law_said, cdx_l__law_said, ct__law_said, l__law_said0⟩ := fn_at (mapAt hl (i := 33) rfl rfl) (allAt hb (i := 36) rfl)
  have l__law_said := l__law_said0
  have no_len : PySem.W.nsIn K mainGlobals "len" = some none := of_decide_eq_true (allAt hb (i := 37) rfl)
  have no_int : PySem.W.nsIn K mainGlobals "int" = some none := of_decide_eq_true (allAt hb (i := 38) rfl)
  have no_abs : PySem.W.nsIn K mainGlobals "abs" = some none := of_decide_eq_true (allAt hb (i := 39) rfl)
  have no_range : PySem.W.nsIn K mainGlobals "range" = some none := of_decide_eq_true (allAt hb (i := 40) rfl)
  have no_min : PySem.W.nsIn K mainGlobals "min" = some none := of_decide_eq_true (allAt hb (i := 41) rfl)
  have no_max : PySem.W.nsIn K mainGlobals "max" = some none := of_decide_eq_true (allAt hb (i := 42) rfl)
  have no_tuple : PySem.W.nsIn K mainGlobals "tuple" = some none := of_decide_eq_true (allAt hb (i := 43) rfl)
  have no_list : PySem.W.nsIn K mainGlobals "list" = some none := of_decide_eq_true (allAt hb (i := 44) rfl)
  have no_all : PySem.W.nsIn K mainGlobals "all" = some none := of_decide_eq_true (allAt hb (i := 45) rfl)
  have no_zip : PySem.W.nsIn K mainGlobals "zip" = some none := of_decide_eq_true (allAt hb (i := 46) rfl)
  have no_enumerate : PySem.W.nsIn K mainGlobals "enumerate" = some none := of_decide_eq_true (allAt hb (i := 47) rfl)
  have no_dict : PySem.W.nsIn K mainGlobals "dict" = some none := of_decide_eq_true (allAt hb (i := 48) rfl)
  have no_isinstance : PySem.W.nsIn K mainGlobals "isinstance" = some none := of_decide_eq_true (allAt hb (i := 49) rfl)
  have no_super : PySem.W.nsIn K mainGlobals "super" = some none := of_decide_eq_true (allAt hb (i := 50) rfl)
  have g_law : PySem.W.nsIn K mainGlobals "law" = some (some (.ref (z_a_law K))) := of_decide_eq_true (allAt hb (i := 51) rfl)
  have c_law := codeAt_of l_law0 (allAt hb (i := 52) rfl)
  have k_law : PySem.W.keepIn K (.ref (z_a_law K)) = true := allAt hb (i := 53) rfl
  have g__law_source : PySem.W.nsIn K mainGlobals "_law_source" = some (some (.ref (z_a__law_source K))) := of_decide_eq_true (allAt hb (i := 54) rfl)
  have c__law_source := codeAt_of l__law_source0 (allAt hb (i := 55) rfl)
  have k__law_source : PySem.W.keepIn K (.ref (z_a__law_source K)) = true := allAt hb (i := 56) rfl
  have gc_TableScale : PySem.W.nsIn K mainGlobals "TableScale" = some (some (.ref (z_cT K))) := of_decide_eq_true (allAt hb (i := 57) rfl)
  have c_Bmeet := codeAt_of l_Bmeet0 (allAt hb (i := 58) rfl)
  have k_Bmeet : PySem.W.keepIn K (.ref (z_a_Bmeet K)) = true := allAt hb (i := 59) rfl
  have i_Bmeet : PySem.W.isFn K (.ref (z_a_Bmeet K)) = true := allAt hb (i := 60) rfl
  have f_cT_meet : PySem.W.findIn K (.ref (z_cT K)) "meet" = some (some (.ref (z_a_Bmeet K))) := of_decide_eq_true (allAt hb (i := 61) rfl)
  have g__entry : PySem.W.nsIn K mainGlobals "_entry" = some (some (.ref (z_a__entry K))) := of_decide_eq_true (allAt hb (i := 62) rfl)
  have c__entry := codeAt_of l__entry0 (allAt hb (i := 63) rfl)
  have k__entry : PySem.W.keepIn K (.ref (z_a__entry K)) = true := allAt hb (i := 64) rfl
  have gc_UnknownGrade : PySem.W.nsIn K mainGlobals "UnknownGrade" = some (some (.ref (z_cU K))) := of_decide_eq_true (allAt hb (i := 65) rfl)
  have i1U : PySem.W.findIn K (.ref (z_cU K)) "__init__" = some (some (.ref (z_I_U K))) := of_decide_eq_true (allAt hb (i := 66) rfl)
  have t1U : PySem.W.typeIn K (.ref (z_I_U K)) = some (.type "function") := of_decide_eq_true (allAt hb (i := 67) rfl)
  have q1U : PySem.W.codeIn K (.ref (z_cda_U K)) "UnknownGrade.__init__" = true := allAt hb (i := 68) rfl
  obtain ⟨ccl_U, cdd_U, vs_U, ccs_U, file_U, tf_U, c1U, v1U, f1U⟩ := file_at (p := PP) (allAt hb (i := 69) rfl)
  obtain ⟨cl_U, cld_U, csl_U, e1U⟩ := cell_at (allAt hb (i := 70) rfl)
  have s1U : PySem.W.ks_superIn K (z_cU K) (z_cU K) "__init__" = some (some (.builtin "LookupError.__init__")) := of_decide_eq_true (allAt hb (i := 71) rfl)
  have m1U : PySem.W.mroIn K (z_cU K) (.ref (z_cU K)) = some true := of_decide_eq_true (allAt hb (i := 72) rfl)
  have c_Bunder := codeAt_of l_Bunder0 (allAt hb (i := 73) rfl)
  have k_Bunder : PySem.W.keepIn K (.ref (z_a_Bunder K)) = true := allAt hb (i := 74) rfl
  have i_Bunder : PySem.W.isFn K (.ref (z_a_Bunder K)) = true := allAt hb (i := 75) rfl
  have f_cT_under : PySem.W.findIn K (.ref (z_cT K)) "under" = some (some (.ref (z_a_Bunder K))) := of_decide_eq_true (allAt hb (i := 76) rfl)
  have c_Bover := codeAt_of l_Bover0 (allAt hb (i := 77) rfl)
  have k_Bover : PySem.W.keepIn K (.ref (z_a_Bover K)) = true := allAt hb (i := 78) rfl
  have i_Bover : PySem.W.isFn K (.ref (z_a_Bover K)) = true := allAt hb (i := 79) rfl
  have f_cT_over : PySem.W.findIn K (.ref (z_cT K)) "over" = some (some (.ref (z_a_Bover K))) := of_decide_eq_true (allAt hb (i := 80) rfl)
  have c_Bwithin := codeAt_of l_Bwithin0 (allAt hb (i := 81) rfl)
  have k_Bwithin : PySem.W.keepIn K (.ref (z_a_Bwithin K)) = true := allAt hb (i := 82) rfl
  have i_Bwithin : PySem.W.isFn K (.ref (z_a_Bwithin K)) = true := allAt hb (i := 83) rfl
  have f_cT_within : PySem.W.findIn K (.ref (z_cT K)) "within" = some (some (.ref (z_a_Bwithin K))) := of_decide_eq_true (allAt hb (i := 84) rfl)
  have c_Bjoin := codeAt_of l_Bjoin0 (allAt hb (i := 85) rfl)
  have k_Bjoin : PySem.W.keepIn K (.ref (z_a_Bjoin K)) = true := allAt hb (i := 86) rfl
  have i_Bjoin : PySem.W.isFn K (.ref (z_a_Bjoin K)) = true := allAt hb (i := 87) rfl
  have f_cT_join : PySem.W.findIn K (.ref (z_cT K)) "join" = some (some (.ref (z_a_Bjoin K))) := of_decide_eq_true (allAt hb (i := 88) rfl)
  have c_Bgrades := codeAt_of l_Bgrades0 (allAt hb (i := 89) rfl)
  have k_Bgrades : PySem.W.keepIn K (.ref (z_a_Bgrades K)) = true := allAt hb (i := 90) rfl
  have i_Bgrades : PySem.W.isFn K (.ref (z_a_Bgrades K)) = true := allAt hb (i := 91) rfl
  have f_cT_grades : PySem.W.findIn K (.ref (z_cT K)) "grades" = some (some (.ref (z_a_Bgrades K))) := of_decide_eq_true (allAt hb (i := 92) rfl)
  have g__law_scale : PySem.W.nsIn K mainGlobals "_law_scale" = some (some (.ref (z_a__law_scale K))) := of_decide_eq_true (allAt hb (i := 93) rfl)
  have c__law_scale : PySem.W.codeIn K (.ref (z_cS K)) "_law_scale" = true := allAt hb (i := 94) rfl
  have k__law_scale : PySem.W.keepIn K (.ref (z_a__law_scale K)) = true := allAt hb (i := 95) rfl
  obtain ⟨xcS, xdS, vsS, xsS, x_S, y_S⟩ := tab_at (allAt hb (i := 96) rfl)
  have h_S : PySem.W.codeHdIn K (z_cS K) (z_tS K) = true := allAt hb (i := 97) rfl
  have n_S := (ht 0 (t := z_tS K) rfl).1
  have t_S := (ht 0 (t := z_tS K) rfl).2
  have g__law_pick : PySem.W.nsIn K mainGlobals "_law_pick" = some (some (.ref (z_a__law_pick K))) := of_decide_eq_true (allAt hb (i := 98) rfl)
  have c__law_pick := codeAt_of l__law_pick0 (allAt hb (i := 99) rfl)
  have k__law_pick : PySem.W.keepIn K (.ref (z_a__law_pick K)) = true := allAt hb (i := 100) rfl
  have g__law_names : PySem.W.nsIn K mainGlobals "_law_names" = some (some (.ref (z_a__law_names K))) := of_decide_eq_true (allAt hb (i := 101) rfl)
  have c__law_names := codeAt_of l__law_names0 (allAt hb (i := 102) rfl)
  have k__law_names : PySem.W.keepIn K (.ref (z_a__law_names K)) = true := allAt hb (i := 103) rfl
  have g__law_relations : PySem.W.nsIn K mainGlobals "_law_relations" = some (some (.ref (z_a__law_relations K))) := of_decide_eq_true (allAt hb (i := 104) rfl)
  have c__law_relations : PySem.W.codeIn K (.ref (z_cR K)) "_law_relations" = true := allAt hb (i := 105) rfl
  have k__law_relations : PySem.W.keepIn K (.ref (z_a__law_relations K)) = true := allAt hb (i := 106) rfl
  obtain ⟨xcR, xdR, vsR, xsR, x_R, y_R⟩ := tab_at (allAt hb (i := 107) rfl)
  have h_R : PySem.W.codeHdIn K (z_cR K) (z_tR K) = true := allAt hb (i := 108) rfl
  have n_R := (ht 1 (t := z_tR K) rfl).1
  have t_R := (ht 1 (t := z_tR K) rfl).2
  have g__law_union : PySem.W.nsIn K mainGlobals "_law_union" = some (some (.ref (z_a__law_union K))) := of_decide_eq_true (allAt hb (i := 109) rfl)
  have c__law_union := codeAt_of l__law_union0 (allAt hb (i := 110) rfl)
  have k__law_union : PySem.W.keepIn K (.ref (z_a__law_union K)) = true := allAt hb (i := 111) rfl
  have g__law_relation : PySem.W.nsIn K mainGlobals "_law_relation" = some (some (.ref (z_a__law_relation K))) := of_decide_eq_true (allAt hb (i := 112) rfl)
  have c__law_relation := codeAt_of l__law_relation0 (allAt hb (i := 113) rfl)
  have k__law_relation : PySem.W.keepIn K (.ref (z_a__law_relation K)) = true := allAt hb (i := 114) rfl
  have g__law_tables : PySem.W.nsIn K mainGlobals "_law_tables" = some (some (.ref (z_a__law_tables K))) := of_decide_eq_true (allAt hb (i := 115) rfl)
  have c__law_tables := codeAt_of l__law_tables0 (allAt hb (i := 116) rfl)
  have k__law_tables : PySem.W.keepIn K (.ref (z_a__law_tables K)) = true := allAt hb (i := 117) rfl
  have g__law_made_scale : PySem.W.nsIn K mainGlobals "_law_made_scale" = some (some (.ref (z_a__law_made_scale K))) := of_decide_eq_true (allAt hb (i := 118) rfl)
  have c__law_made_scale := codeAt_of l__law_made_scale0 (allAt hb (i := 119) rfl)
  have k__law_made_scale : PySem.W.keepIn K (.ref (z_a__law_made_scale K)) = true := allAt hb (i := 120) rfl
  have g__law_words : PySem.W.nsIn K mainGlobals "_law_words" = some (some (.ref (z_a__law_words K))) := of_decide_eq_true (allAt hb (i := 121) rfl)
  have c__law_words := codeAt_of l__law_words0 (allAt hb (i := 122) rfl)
  have k__law_words : PySem.W.keepIn K (.ref (z_a__law_words K)) = true := allAt hb (i := 123) rfl
  have mk_cT : PySem.W.makesIn K (z_cT K) = true := allAt hb (i := 124) rfl
  have in_cT : PySem.W.findIn K (.ref (z_cT K)) "__init__" = some (some (.ref (z_a_IcT K))) := of_decide_eq_true (allAt hb (i := 125) rfl)
  have c_IcT := codeAt_of l_IcT0 (allAt hb (i := 126) rfl)
  have k_IcT : PySem.W.keepIn K (.ref (z_a_IcT K)) = true := allAt hb (i := 127) rfl
  have i_IcT : PySem.W.isFn K (.ref (z_a_IcT K)) = true := allAt hb (i := 128) rfl
  have kp_cT : PySem.W.keepIn K (.ref (z_cT K)) = true := allAt hb (i := 129) rfl
  have gc_Scale : PySem.W.nsIn K mainGlobals "Scale" = some (some (.ref (z_cB K))) := of_decide_eq_true (allAt hb (i := 130) rfl)
  have ty_cB : PySem.W.typeIn K (.ref (z_cB K)) = some (z_mc_cB K) := of_decide_eq_true (allAt hb (i := 131) rfl)
  have rd_cB : PySem.W.readsIn K (z_cB K) (z_mc_cB K) = true := allAt hb (i := 132) rfl
  have ga_cB : PySem.W.specialIn K (.ref (z_cB K)) "__getattribute__" = some (some (.builtin "type.__getattribute__")) := of_decide_eq_true (allAt hb (i := 133) rfl)
  have cv_cB := clsv_at (allAt hb (i := 134) rfl)
  have c_BcB := codeAt_of l_BcB0 (allAt hb (i := 135) rfl)
  have k_BcB : PySem.W.keepIn K (.ref (z_a_BcB K)) = true := allAt hb (i := 136) rfl
  have g__by_name : PySem.W.nsIn K mainGlobals "_by_name" = some (some (.ref (z_a__by_name K))) := of_decide_eq_true (allAt hb (i := 137) rfl)
  have c__by_name := codeAt_of l__by_name0 (allAt hb (i := 138) rfl)
  have k__by_name : PySem.W.keepIn K (.ref (z_a__by_name K)) = true := allAt hb (i := 139) rfl
  have c_B_meet := codeAt_of l_B_meet0 (allAt hb (i := 140) rfl)
  have k_B_meet : PySem.W.keepIn K (.ref (z_a_B_meet K)) = true := allAt hb (i := 141) rfl
  have i_B_meet : PySem.W.isFn K (.ref (z_a_B_meet K)) = true := allAt hb (i := 142) rfl
  have f_cT__meet : PySem.W.findIn K (.ref (z_cT K)) "_meet" = some (some (.ref (z_a_B_meet K))) := of_decide_eq_true (allAt hb (i := 143) rfl)
  have c_Bjoined := codeAt_of l_Bjoined0 (allAt hb (i := 144) rfl)
  have k_Bjoined : PySem.W.keepIn K (.ref (z_a_Bjoined K)) = true := allAt hb (i := 145) rfl
  have i_Bjoined : PySem.W.isFn K (.ref (z_a_Bjoined K)) = true := allAt hb (i := 146) rfl
  have f_cT_joined : PySem.W.findIn K (.ref (z_cT K)) "joined" = some (some (.ref (z_a_Bjoined K))) := of_decide_eq_true (allAt hb (i := 147) rfl)
  have c_B_under := codeAt_of l_B_under0 (allAt hb (i := 148) rfl)
  have k_B_under : PySem.W.keepIn K (.ref (z_a_B_under K)) = true := allAt hb (i := 149) rfl
  have i_B_under : PySem.W.isFn K (.ref (z_a_B_under K)) = true := allAt hb (i := 150) rfl
  have f_cT__under : PySem.W.findIn K (.ref (z_cT K)) "_under" = some (some (.ref (z_a_B_under K))) := of_decide_eq_true (allAt hb (i := 151) rfl)
  have c_B_over := codeAt_of l_B_over0 (allAt hb (i := 152) rfl)
  have k_B_over : PySem.W.keepIn K (.ref (z_a_B_over K)) = true := allAt hb (i := 153) rfl
  have i_B_over : PySem.W.isFn K (.ref (z_a_B_over K)) = true := allAt hb (i := 154) rfl
  have f_cT__over : PySem.W.findIn K (.ref (z_cT K)) "_over" = some (some (.ref (z_a_B_over K))) := of_decide_eq_true (allAt hb (i := 155) rfl)
  have g__check_names : PySem.W.nsIn K mainGlobals "_check_names" = some (some (.ref (z_a__check_names K))) := of_decide_eq_true (allAt hb (i := 156) rfl)
  have c__check_names := codeAt_of l__check_names0 (allAt hb (i := 157) rfl)
  have k__check_names : PySem.W.keepIn K (.ref (z_a__check_names K)) = true := allAt hb (i := 158) rfl
  have g_check_count : PySem.W.nsIn K mainGlobals "check_count" = some (some (.ref (z_a_check_count K))) := of_decide_eq_true (allAt hb (i := 159) rfl)
  have c_check_count := codeAt_of l_check_count0 (allAt hb (i := 160) rfl)
  have k_check_count : PySem.W.keepIn K (.ref (z_a_check_count K)) = true := allAt hb (i := 161) rfl
  obtain ⟨tk3, gM⟩ := int_at (allAt hb (i := 162) rfl)
  have g_is_plain_name : PySem.W.nsIn K mainGlobals "is_plain_name" = some (some (.ref (z_a_is_plain_name K))) := of_decide_eq_true (allAt hb (i := 163) rfl)
  have c_is_plain_name := codeAt_of l_is_plain_name0 (allAt hb (i := 164) rfl)
  have k_is_plain_name : PySem.W.keepIn K (.ref (z_a_is_plain_name K)) = true := allAt hb (i := 165) rfl
  obtain ⟨tk1, gL⟩ := int_at (allAt hb (i := 166) rfl)
  obtain ⟨tk2, gN⟩ := str_at (allAt hb (i := 167) rfl)
  have g__check_rows : PySem.W.nsIn K mainGlobals "_check_rows" = some (some (.ref (z_a__check_rows K))) := of_decide_eq_true (allAt hb (i := 168) rfl)
  have c__check_rows := codeAt_of l__check_rows0 (allAt hb (i := 169) rfl)
  have k__check_rows : PySem.W.keepIn K (.ref (z_a__check_rows K)) = true := allAt hb (i := 170) rfl
  have g__law_every : PySem.W.nsIn K mainGlobals "_law_every" = some (some (.ref (z_a__law_every K))) := of_decide_eq_true (allAt hb (i := 171) rfl)
  have c__law_every := codeAt_of l__law_every0 (allAt hb (i := 172) rfl)
  have k__law_every : PySem.W.keepIn K (.ref (z_a__law_every K)) = true := allAt hb (i := 173) rfl
  have g__law_within : PySem.W.nsIn K mainGlobals "_law_within" = some (some (.ref (z_a__law_within K))) := of_decide_eq_true (allAt hb (i := 174) rfl)
  have c__law_within := codeAt_of l__law_within0 (allAt hb (i := 175) rfl)
  have k__law_within : PySem.W.keepIn K (.ref (z_a__law_within K)) = true := allAt hb (i := 176) rfl
  have g__law_greatest : PySem.W.nsIn K mainGlobals "_law_greatest" = some (some (.ref (z_a__law_greatest K))) := of_decide_eq_true (allAt hb (i := 177) rfl)
  have c__law_greatest := codeAt_of l__law_greatest0 (allAt hb (i := 178) rfl)
  have k__law_greatest : PySem.W.keepIn K (.ref (z_a__law_greatest K)) = true := allAt hb (i := 179) rfl
  have g__law_said : PySem.W.nsIn K mainGlobals "_law_said" = some (some (.ref (z_a__law_said K))) := of_decide_eq_true (allAt hb (i := 180) rfl)
  have c__law_said := codeAt_of l__law_said0 (allAt hb (i := 181) rfl)
  have k__law_said : PySem.W.keepIn K (.ref (z_a__law_said K)) = true := allAt hb (i := 182) rfl
  have tne : (z_tR K) ≠ (z_tS K) := of_decide_eq_true (allAt hb (i := 183) rfl)
  have fb : kB K (z_cB K) (z_cT K) (z_cU K) = true := allAt hb (i := 184) rfl
  exact DW.all_mk X G hfa no_len no_int no_abs no_range no_min no_max no_tuple no_list no_all no_zip no_enumerate no_dict no_isinstance no_super g_law l_law c_law k_law g__law_source l__law_source c__law_source k__law_source gc_TableScale l_Bmeet c_Bmeet k_Bmeet i_Bmeet f_cT_meet g__entry l__entry c__entry k__entry gc_UnknownGrade i1U t1U l1U q1U c1U v1U f1U e1U s1U m1U l_Bunder c_Bunder k_Bunder i_Bunder f_cT_under l_Bover c_Bover k_Bover i_Bover f_cT_over l_Bwithin c_Bwithin k_Bwithin i_Bwithin f_cT_within l_Bjoin c_Bjoin k_Bjoin i_Bjoin f_cT_join l_Bgrades c_Bgrades k_Bgrades i_Bgrades f_cT_grades g__law_scale l__law_scale c__law_scale k__law_scale x_S y_S h_S n_S t_S g__law_pick l__law_pick c__law_pick k__law_pick g__law_names l__law_names c__law_names k__law_names g__law_relations l__law_relations c__law_relations k__law_relations x_R y_R h_R n_R t_R g__law_union l__law_union c__law_union k__law_union g__law_relation l__law_relation c__law_relation k__law_relation g__law_tables l__law_tables c__law_tables k__law_tables g__law_made_scale l__law_made_scale c__law_made_scale k__law_made_scale g__law_words l__law_words c__law_words k__law_words mk_cT in_cT l_IcT c_IcT k_IcT i_IcT kp_cT gc_Scale ty_cB rd_cB ga_cB cv_cB l_BcB c_BcB k_BcB g__by_name l__by_name c__by_name k__by_name l_B_meet c_B_meet k_B_meet i_B_meet f_cT__meet l_Bjoined c_Bjoined k_Bjoined i_Bjoined f_cT_joined l_B_under c_B_under k_B_under i_B_under f_cT__under l_B_over c_B_over k_B_over i_B_over f_cT__over g__check_names l__check_names c__check_names k__check_names g_check_count l_check_count c_check_count k_check_count gM g_is_plain_name l_is_plain_name c_is_plain_name k_is_plain_name gL gN g__check_rows l__check_rows c__check_rows k__check_rows g__law_every l__law_every c__law_every k__law_every g__law_within l__law_within c__law_within k__law_within g__law_greatest l__law_greatest c__law_greatest k__law_greatest g__law_said l__law_said c__law_said k__law_said tne fb
end ZZ
end DW
open PyProof.Rows PySem PySem.W PySem.Calls
set_option maxRecDepth 99999 in
set_option maxHeartbeats 0 in
theorem PySem.Challenge.cw_farscale_k04_whole_quotients_of_grades_holds : PySem.Challenge.rw_farscale_k04_whole_quotients_of_grades.Holds := by
  w_on; o_law
  refine HandSHeadRun.head_any (r := OpenLaw.row PySem.Challenge.rw_farscale_k04_whole_quotients_of_grades) (q := DW.ZZ.qv) (H := DW.ZZ.hk) (ob := DW.ZZ.ob) (M := 5716) (loose := DW.ZZ.nml) (d := HandSHeadRun.topDef (OpenLaw.row PySem.Challenge.rw_farscale_k04_whole_quotients_of_grades).prog 37) (kwd := []) DW.ZZ.ob_eq
    (by kernel_rfl) (fun s => by kernel_rfl) DW.ZZ.run (by kernel_rfl) (by kernel_rfl) (by kernel_rfl) (by rfl) (by first | assumption | decide +kernel) (by decide +kernel) ⟨rfl, rfl, rfl, rfl, rfl, by decide +kernel⟩ ?hw ?hc
  case hw => w_witness2
  case hc =>
    refine LamX.walk_ofTsE (l := PySem.Challenge.rw_farscale_k04_whole_quotients_of_grades) (n := 63) (k := 13) (CX := fun w => L2.CX DW.PP w) (x := "script") rfl (by decide) (by kernel_rfl) ⟨rfl, by decide, by decide⟩ ?F ?hCX
    case hCX =>
      intro w H s e s' hc
      obtain ⟨_, _, _, _, _, _, _, _, _, _, _, _, z⟩ := hc
      exact z.elim
    case F =>
      intro w mg fa h Y G hmg0
      obtain ⟨K, KX, c⟩ := Y
      have named : mg ("law" : PySem.Str) = some (.ref fa) := by
        have e : (HandSHeadRun.topDef (OpenLaw.row PySem.Challenge.rw_farscale_k04_whole_quotients_of_grades).prog 37).name = ("law" : PySem.Str) := by kernel_rfl
        rw [← e]
        exact hmg0
      exact ⟨K, KX, DW.ZZ.fin KX G named c⟩


